/- Requests are done one by one: of every two codes that come in. -/
import Derived.Test.YtagjkngiijmokaaMB
import Derived.Test.YtagjkngiijmokaaNI
import Derived.Test.YtagjkngiijmokaaMM
import Derived.Test.YtagjkngiijmokaaMR
namespace Go.Proofs.Ytagjkngiijmokaa
open Go.ChangeShapes Go.WideShapes Go.ChangeAt Go.RowKit Go.Deep

theorem pGameFold_k1 : (Rows.fnGameFoldRow.wf (OpenSpec.ofChange Rows.fnGameFoldSpec)) = true := by kernel_rfl
theorem pGameFold_k4 : (Try.f3.params.all (Try.prog.readableRec ·)) = true := by kernel_rfl
theorem pGameFold_k5 : (namedTie Try.prog Rows.fnGameFoldRow.named Rows.fnGameFoldSpec.vars) = true := by kernel_rfl
theorem pGameFold_k6 : ((Rows.fnGameFoldRow.stops == [])) = true := by kernel_rfl
theorem pGameFold_k8 : ((Rows.fnGameFoldRow.knobs == [])) = true := by kernel_rfl
theorem pGameFold_k10 : ((Rows.fnGameFoldRow.inPlace == Try.prog.inPlace 3)) = true := by kernel_rfl
theorem pGameFold_k11 : ((Rows.fnGameFoldRow.unfollowed == Try.prog.unfollowed 3)) = true := by kernel_rfl
theorem pGameFold_k12 : ((Rows.fnGameFoldRow.recurses == Try.prog.recurses 3)) = true := by kernel_rfl
theorem pGameFold_k13 : ((Rows.fnGameFoldRow.named == Try.prog.varsNamed 3)) = true := by kernel_rfl
theorem pGameFold_k14 : ((Rows.fnGameFoldRow.maps == (Try.f3.params.toList ++ Rows.fnGameFoldSpec.plain.varTypes Try.prog).any (Try.prog.mapsRec ·))) = true := by kernel_rfl
theorem pGameFold_k15 : ((Rows.fnGameFoldRow.ifaces == (Try.f3.params.toList ++ Rows.fnGameFoldSpec.plain.varTypes Try.prog).any (Try.prog.ifacesRec ·))) = true := by kernel_rfl
theorem pGameFold_k16 : ((Rows.fnGameFoldRow.mapsOut == Try.prog.mapsAmong Try.f3.resultTypes.toList)) = true := by kernel_rfl
theorem pGameFold_k17 : ((Rows.fnGameFoldRow.loops == (Try.f3.params.toList ++ Rows.fnGameFoldSpec.plain.varTypes Try.prog).any (Try.prog.loopsFrom ·))) = true := by kernel_rfl
theorem pGameFold_k18 : ((Rows.fnGameFoldRow.wideKeys == (Try.f3.params.toList ++ Rows.fnGameFoldSpec.plain.varTypes Try.prog ++ Try.f3.resultTypes.toList).any (Try.prog.wideKeysFrom ·))) = true := by kernel_rfl
theorem pGameFold_k19 : (Rows.fnGameFoldSpec.vars.all (Try.prog.varReadable ·)) = true := by kernel_rfl
theorem pGameFold_k20 : (Try.f3.resultTypes.all (fun t => Try.prog.readableRec t && decide (t < Try.prog.types.size))) = true := by kernel_rfl
theorem pGameFold_k21 : ((Rows.fnGameFoldRow.ifacesOut == Try.f3.resultTypes.toList.any (Try.prog.ifacesRec ·))) = true := by kernel_rfl
theorem pGameFold_k22 : ((Rows.fnGameFoldRow.loopsOut == Try.f3.resultTypes.toList.any (Try.prog.loopsFrom ·))) = true := by kernel_rfl
theorem pGameFold_k24 : (Rows.fnGameFoldRow.shortTexts.isNone) = true := by kernel_rfl
theorem pGameFold_k30 : ((Rows.fnGameFoldRow.pinned == Rows.fnGameFoldRow.pinnedBy)) = true := by kernel_rfl
theorem pGameFold_k31 : ((Rows.fnGameFoldRow.veiled == (Try.f3.params.toList ++ Rows.fnGameFoldSpec.plain.varTypes Try.prog ++ Try.f3.resultTypes.toList).any (Try.prog.veiledRec ·))) = true := by kernel_rfl
theorem pGameFold_k32 : (Rows.fnGameFoldRow.veiledFits Try.prog Try.f3.params.toList (Try.f3.params.toList ++ Rows.fnGameFoldSpec.plain.varTypes Try.prog ++ Try.f3.resultTypes.toList)) = true := by kernel_rfl
theorem pGameFold_closed : joinedFacts Try.prog 3 Try.f3 Rows.fnGameFoldSpec Rows.fnGameFoldRow = true :=
 facts_of pGameFold_k1 Try.f_laid Try.f_maps pGameFold_k4 pGameFold_k5 pGameFold_k6 Try.f_stops pGameFold_k8 Try.f_knobs pGameFold_k10 pGameFold_k11 pGameFold_k12 pGameFold_k13 pGameFold_k14 pGameFold_k15 pGameFold_k16 pGameFold_k17 pGameFold_k18 pGameFold_k19 pGameFold_k20 pGameFold_k21 pGameFold_k22 (by kernel_rfl) pGameFold_k24 Try.f_heard Try.f_enter Try.f_lifts Try.f_make rfl rfl pGameFold_k30 pGameFold_k31 pGameFold_k32

set_option maxRecDepth 100000 in
theorem pGameFold_lifted (os : Os) (started : os.Started) (H : Type) (enc : TypeId × Value → H) :
 ReturnsInHanded {} Try.checked os 3 .any (Rows.fnGameFoldSpec.pre6 enc Try.prog Try.f3 Rows.fnGameFoldRow.domain false) (Rows.fnGameFoldSpec.post enc Try.prog Try.f3 false true false false) := by
 refine returnsInHanded_of_change (C := Try.checked) Try.own started (by kernel_rfl) Try.func3
  (ChangeSpec.witness6 (enc := enc) (C := Try.checked) false ⟨#[], #[.slice none 0 0, .slice none 0 0], []⟩ 8 (by kernel_rfl) (by kernel_rfl) (by kernel_rfl) (by kernel_rfl)) ?_
 intro W base args ds gs before hval0 hW _ _
 have hval : ∀ (j : Nat) t v, Try.f3.params[j]? = some t → args[j]? = some v → Value.okWide Try.prog W .any base t v := hval0
 have hW' := hW
 obtain ⟨p, q, hA0, hV, rfl, _, _⟩ := hW
 have hA : DataW.TrodAll enc Try.prog W 0 (fun _ => true) true Try.f3.params.toList args.toList ds p := hA0
 rw [Try.params3] at hA hval
 obtain ⟨v0, v1, d0, d1, p0, p1, rfl, rfl, rfl, h0, h1⟩ := trodAll_two hA
 obtain ⟨rfl, rfl⟩ := trodVars_none hV
 obtain ⟨A, n, c, rfl, m0, l0, b0⟩ := in_bytes Try.underlying22 Try.underlying5 (by kernel_rfl) (hval 0 _ v0 rfl rfl) h0
 obtain ⟨B, m, d, rfl, m1, l1, b1⟩ := in_bytes Try.underlying22 Try.underlying5 (by kernel_rfl) (hval 1 _ v1 rfl rfl) h1
 refine (lawGameFold m0 m1 l0 l1 b0).mono fun e W' ⟨he, hb⟩ => ⟨_, he, ?_⟩
 exact law_post (tb := 4) Try.laidOut (by kernel_rfl) rfl Try.underlying4 rfl hW' rfl hb

theorem pGameFold_holds : Rows.FnGameFoldSaid :=
 OpenClaim.holds_of_wide 3 Try.f3 rfl rfl rfl rfl rfl rfl rfl ⟨rfl, rfl, rfl, rfl, rfl⟩ rfl rfl rfl rfl rfl (by kernel_rfl) Try.func3 pGameFold_closed
  (of_decide_eq_true (by kernel_rfl)) (by unfold Func.isWrapper; first | (rw [if_pos (by decide +kernel)]; kernel_rfl) | (rw [if_neg (by decide +kernel)]; exact ⟨rfl, rfl⟩))
  (fun os started H enc _ => pGameFold_lifted os started H enc)
#print axioms pGameFold_holds
end Go.Proofs.Ytagjkngiijmokaa
