/- All gold is with figures, or on the floor: of every two codes that come in. -/
import Derived.Test.YtkganikclbeplaaMB
import Derived.Test.YtkganikclbeplaaNI
import Derived.Test.YtkganikclbeplaaMM
import Derived.Test.YtkganikclbeplaaSGc
namespace Go.Proofs.Ytkganikclbeplaa
open Go.ChangeShapes Go.WideShapes Go.ChangeAt Go.RowKit Go.Deep

theorem pSeeGold_k1 : (Rows.fnSeeGoldRow.wf (OpenSpec.ofChange Rows.fnSeeGoldSpec)) = true := by kernel_rfl
theorem pSeeGold_k4 : (Try.f5.params.all (Try.prog.readableRec ·)) = true := by kernel_rfl
theorem pSeeGold_k5 : (namedTie Try.prog Rows.fnSeeGoldRow.named Rows.fnSeeGoldSpec.vars) = true := by kernel_rfl
theorem pSeeGold_k6 : ((Rows.fnSeeGoldRow.stops == [])) = true := by kernel_rfl
theorem pSeeGold_k8 : ((Rows.fnSeeGoldRow.knobs == [])) = true := by kernel_rfl
theorem pSeeGold_k10 : ((Rows.fnSeeGoldRow.inPlace == Try.prog.inPlace 5)) = true := by kernel_rfl
theorem pSeeGold_k11 : ((Rows.fnSeeGoldRow.unfollowed == Try.prog.unfollowed 5)) = true := by kernel_rfl
theorem pSeeGold_k12 : ((Rows.fnSeeGoldRow.recurses == Try.prog.recurses 5)) = true := by kernel_rfl
theorem pSeeGold_k13 : ((Rows.fnSeeGoldRow.named == Try.prog.varsNamed 5)) = true := by kernel_rfl
theorem pSeeGold_k14 : ((Rows.fnSeeGoldRow.maps == (Try.f5.params.toList ++ Rows.fnSeeGoldSpec.plain.varTypes Try.prog).any (Try.prog.mapsRec ·))) = true := by kernel_rfl
theorem pSeeGold_k15 : ((Rows.fnSeeGoldRow.ifaces == (Try.f5.params.toList ++ Rows.fnSeeGoldSpec.plain.varTypes Try.prog).any (Try.prog.ifacesRec ·))) = true := by kernel_rfl
theorem pSeeGold_k16 : ((Rows.fnSeeGoldRow.mapsOut == Try.prog.mapsAmong Try.f5.resultTypes.toList)) = true := by kernel_rfl
theorem pSeeGold_k17 : ((Rows.fnSeeGoldRow.loops == (Try.f5.params.toList ++ Rows.fnSeeGoldSpec.plain.varTypes Try.prog).any (Try.prog.loopsFrom ·))) = true := by kernel_rfl
theorem pSeeGold_k18 : ((Rows.fnSeeGoldRow.wideKeys == (Try.f5.params.toList ++ Rows.fnSeeGoldSpec.plain.varTypes Try.prog ++ Try.f5.resultTypes.toList).any (Try.prog.wideKeysFrom ·))) = true := by kernel_rfl
theorem pSeeGold_k19 : (Rows.fnSeeGoldSpec.vars.all (Try.prog.varReadable ·)) = true := by kernel_rfl
theorem pSeeGold_k20 : (Try.f5.resultTypes.all (fun t => Try.prog.readableRec t && decide (t < Try.prog.types.size))) = true := by kernel_rfl
theorem pSeeGold_k21 : ((Rows.fnSeeGoldRow.ifacesOut == Try.f5.resultTypes.toList.any (Try.prog.ifacesRec ·))) = true := by kernel_rfl
theorem pSeeGold_k22 : ((Rows.fnSeeGoldRow.loopsOut == Try.f5.resultTypes.toList.any (Try.prog.loopsFrom ·))) = true := by kernel_rfl
theorem pSeeGold_k24 : (Rows.fnSeeGoldRow.shortTexts.isNone) = true := by kernel_rfl
theorem pSeeGold_k30 : ((Rows.fnSeeGoldRow.pinned == Rows.fnSeeGoldRow.pinnedBy)) = true := by kernel_rfl
theorem pSeeGold_k31 : ((Rows.fnSeeGoldRow.veiled == (Try.f5.params.toList ++ Rows.fnSeeGoldSpec.plain.varTypes Try.prog ++ Try.f5.resultTypes.toList).any (Try.prog.veiledRec ·))) = true := by kernel_rfl
theorem pSeeGold_k32 : (Rows.fnSeeGoldRow.veiledFits Try.prog Try.f5.params.toList (Try.f5.params.toList ++ Rows.fnSeeGoldSpec.plain.varTypes Try.prog ++ Try.f5.resultTypes.toList)) = true := by kernel_rfl
theorem pSeeGold_closed : joinedFacts Try.prog 5 Try.f5 Rows.fnSeeGoldSpec Rows.fnSeeGoldRow = true :=
 facts_of pSeeGold_k1 Try.f_laid Try.f_maps pSeeGold_k4 pSeeGold_k5 pSeeGold_k6 Try.f_stops pSeeGold_k8 Try.f_knobs pSeeGold_k10 pSeeGold_k11 pSeeGold_k12 pSeeGold_k13 pSeeGold_k14 pSeeGold_k15 pSeeGold_k16 pSeeGold_k17 pSeeGold_k18 pSeeGold_k19 pSeeGold_k20 pSeeGold_k21 pSeeGold_k22 (by kernel_rfl) pSeeGold_k24 Try.f_heard Try.f_enter Try.f_lifts Try.f_make rfl rfl pSeeGold_k30 pSeeGold_k31 pSeeGold_k32

set_option maxRecDepth 100000 in
theorem pSeeGold_lifted (os : Os) (started : os.Started) (H : Type) (enc : TypeId × Value → H) :
 ReturnsInHanded {} Try.checked os 5 .any (Rows.fnSeeGoldSpec.pre6 enc Try.prog Try.f5 Rows.fnSeeGoldRow.domain false) (Rows.fnSeeGoldSpec.post enc Try.prog Try.f5 false true false false) := by
 refine returnsInHanded_of_change (C := Try.checked) Try.own started (by kernel_rfl) Try.func5
  (ChangeSpec.witness6 (enc := enc) (C := Try.checked) false ⟨#[], #[.slice none 0 0, .slice none 0 0], []⟩ 8 (by kernel_rfl) (by kernel_rfl) (by kernel_rfl) (by kernel_rfl)) ?_
 intro W base args ds gs before hval0 hW _ _
 have hval : ∀ (j : Nat) t v, Try.f5.params[j]? = some t → args[j]? = some v → Value.okWide Try.prog W .any base t v := hval0
 have hW' := hW
 obtain ⟨p, q, hA0, hV, rfl, _, _⟩ := hW
 have hA : DataW.TrodAll enc Try.prog W 0 (fun _ => true) true Try.f5.params.toList args.toList ds p := hA0
 rw [Try.params5] at hA hval
 obtain ⟨v0, v1, d0, d1, p0, p1, rfl, rfl, rfl, h0, h1⟩ := trodAll_two hA
 obtain ⟨rfl, rfl⟩ := trodVars_none hV
 obtain ⟨A, n, c, rfl, m0, l0, b0⟩ := in_bytes Try.underlying36 Try.underlying5 (by kernel_rfl) (hval 0 _ v0 rfl rfl) h0
 obtain ⟨B, m, d, rfl, m1, l1, b1⟩ := in_bytes Try.underlying36 Try.underlying5 (by kernel_rfl) (hval 1 _ v1 rfl rfl) h1
 refine (lawSeeGold m0 m1 l0 l1 b0 b1).mono fun e W' ⟨he, hb⟩ => ⟨_, he, ?_⟩
 exact law_post (tb := 4) Try.laidOut (by kernel_rfl) rfl Try.underlying4 rfl hW' rfl hb

theorem pSeeGold_holds : Rows.FnSeeGoldSaid :=
 OpenClaim.holds_of_wide 5 Try.f5 rfl rfl rfl rfl rfl rfl rfl ⟨rfl, rfl, rfl, rfl, rfl⟩ rfl rfl rfl rfl rfl (by kernel_rfl) Try.func5 pSeeGold_closed
  (of_decide_eq_true (by kernel_rfl)) (by unfold Func.isWrapper; first | (rw [if_pos (by decide +kernel)]; kernel_rfl) | (rw [if_neg (by decide +kernel)]; exact ⟨rfl, rfl⟩))
  (fun os started H enc _ => pSeeGold_lifted os started H enc)
#print axioms pSeeGold_holds
end Go.Proofs.Ytkganikclbeplaa
