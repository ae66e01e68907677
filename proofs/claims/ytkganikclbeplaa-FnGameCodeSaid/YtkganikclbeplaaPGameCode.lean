/- What does not go changes nothing but the number: of every code that comes in. -/
import Derived.Test.YtkganikclbeplaaMB
import Derived.Test.YtkganikclbeplaaNI
import Derived.Test.YtkganikclbeplaaMM
import Derived.Test.YtkganikclbeplaaQf
namespace Go.Proofs.Ytkganikclbeplaa
open Go.ChangeShapes Go.WideShapes Go.ChangeAt Go.RowKit Go.Deep

theorem pGameCode_k1 : (Rows.fnGameCodeRow.wf (OpenSpec.ofChange Rows.fnGameCodeSpec)) = true := by kernel_rfl
theorem pGameCode_k4 : (Try.f7.params.all (Try.prog.readableRec ·)) = true := by kernel_rfl
theorem pGameCode_k5 : (namedTie Try.prog Rows.fnGameCodeRow.named Rows.fnGameCodeSpec.vars) = true := by kernel_rfl
theorem pGameCode_k6 : ((Rows.fnGameCodeRow.stops == [])) = true := by kernel_rfl
theorem pGameCode_k8 : ((Rows.fnGameCodeRow.knobs == [])) = true := by kernel_rfl
theorem pGameCode_k10 : ((Rows.fnGameCodeRow.inPlace == Try.prog.inPlace 7)) = true := by kernel_rfl
theorem pGameCode_k11 : ((Rows.fnGameCodeRow.unfollowed == Try.prog.unfollowed 7)) = true := by kernel_rfl
theorem pGameCode_k12 : ((Rows.fnGameCodeRow.recurses == Try.prog.recurses 7)) = true := by kernel_rfl
theorem pGameCode_k13 : ((Rows.fnGameCodeRow.named == Try.prog.varsNamed 7)) = true := by kernel_rfl
theorem pGameCode_k14 : ((Rows.fnGameCodeRow.maps == (Try.f7.params.toList ++ Rows.fnGameCodeSpec.plain.varTypes Try.prog).any (Try.prog.mapsRec ·))) = true := by kernel_rfl
theorem pGameCode_k15 : ((Rows.fnGameCodeRow.ifaces == (Try.f7.params.toList ++ Rows.fnGameCodeSpec.plain.varTypes Try.prog).any (Try.prog.ifacesRec ·))) = true := by kernel_rfl
theorem pGameCode_k16 : ((Rows.fnGameCodeRow.mapsOut == Try.prog.mapsAmong Try.f7.resultTypes.toList)) = true := by kernel_rfl
theorem pGameCode_k17 : ((Rows.fnGameCodeRow.loops == (Try.f7.params.toList ++ Rows.fnGameCodeSpec.plain.varTypes Try.prog).any (Try.prog.loopsFrom ·))) = true := by kernel_rfl
theorem pGameCode_k18 : ((Rows.fnGameCodeRow.wideKeys == (Try.f7.params.toList ++ Rows.fnGameCodeSpec.plain.varTypes Try.prog ++ Try.f7.resultTypes.toList).any (Try.prog.wideKeysFrom ·))) = true := by kernel_rfl
theorem pGameCode_k19 : (Rows.fnGameCodeSpec.vars.all (Try.prog.varReadable ·)) = true := by kernel_rfl
theorem pGameCode_k20 : (Try.f7.resultTypes.all (fun t => Try.prog.readableRec t && decide (t < Try.prog.types.size))) = true := by kernel_rfl
theorem pGameCode_k21 : ((Rows.fnGameCodeRow.ifacesOut == Try.f7.resultTypes.toList.any (Try.prog.ifacesRec ·))) = true := by kernel_rfl
theorem pGameCode_k22 : ((Rows.fnGameCodeRow.loopsOut == Try.f7.resultTypes.toList.any (Try.prog.loopsFrom ·))) = true := by kernel_rfl
theorem pGameCode_k24 : (Rows.fnGameCodeRow.shortTexts.isNone) = true := by kernel_rfl
theorem pGameCode_k30 : ((Rows.fnGameCodeRow.pinned == Rows.fnGameCodeRow.pinnedBy)) = true := by kernel_rfl
theorem pGameCode_k31 : ((Rows.fnGameCodeRow.veiled == (Try.f7.params.toList ++ Rows.fnGameCodeSpec.plain.varTypes Try.prog ++ Try.f7.resultTypes.toList).any (Try.prog.veiledRec ·))) = true := by kernel_rfl
theorem pGameCode_k32 : (Rows.fnGameCodeRow.veiledFits Try.prog Try.f7.params.toList (Try.f7.params.toList ++ Rows.fnGameCodeSpec.plain.varTypes Try.prog ++ Try.f7.resultTypes.toList)) = true := by kernel_rfl
theorem pGameCode_closed : joinedFacts Try.prog 7 Try.f7 Rows.fnGameCodeSpec Rows.fnGameCodeRow = true :=
 facts_of pGameCode_k1 Try.f_laid Try.f_maps pGameCode_k4 pGameCode_k5 pGameCode_k6 Try.f_stops pGameCode_k8 Try.f_knobs pGameCode_k10 pGameCode_k11 pGameCode_k12 pGameCode_k13 pGameCode_k14 pGameCode_k15 pGameCode_k16 pGameCode_k17 pGameCode_k18 pGameCode_k19 pGameCode_k20 pGameCode_k21 pGameCode_k22 (by kernel_rfl) pGameCode_k24 Try.f_heard Try.f_enter Try.f_lifts Try.f_make rfl rfl pGameCode_k30 pGameCode_k31 pGameCode_k32

set_option maxRecDepth 100000 in
theorem pGameCode_lifted (os : Os) (started : os.Started) (H : Type) (enc : TypeId × Value → H) :
 ReturnsInHanded {} Try.checked os 7 .any (Rows.fnGameCodeSpec.pre6 enc Try.prog Try.f7 Rows.fnGameCodeRow.domain false) (Rows.fnGameCodeSpec.post enc Try.prog Try.f7 false true false false) := by
 refine returnsInHanded_of_change (C := Try.checked) Try.own started (by kernel_rfl) Try.func7
  (ChangeSpec.witness6 (enc := enc) (C := Try.checked) false ⟨#[], #[.slice none 0 0], []⟩ 8 (by kernel_rfl) (by kernel_rfl) (by kernel_rfl) (by kernel_rfl)) ?_
 intro W base args ds gs before hval0 hW _ _
 have hval : ∀ (j : Nat) t v, Try.f7.params[j]? = some t → args[j]? = some v → Value.okWide Try.prog W .any base t v := hval0
 have hW' := hW
 obtain ⟨p, q, hA0, hV, rfl, _, _⟩ := hW
 have hA : DataW.TrodAll enc Try.prog W 0 (fun _ => true) true Try.f7.params.toList args.toList ds p := hA0
 rw [Try.params7] at hA hval
 obtain ⟨v0, d0, rfl, rfl, h0⟩ := trodAll_one hA
 obtain ⟨rfl, rfl⟩ := trodVars_none hV
 obtain ⟨A, n, c, rfl, m0, l0, b0⟩ := in_bytes Try.underlying36 Try.underlying5 (by kernel_rfl) (hval 0 _ v0 rfl rfl) h0
 refine (lawGameCode m0 l0 b0).mono fun e W' ⟨he, hb⟩ => ⟨_, he, ?_⟩
 exact law_post (tb := 4) Try.laidOut (by kernel_rfl) rfl Try.underlying4 rfl hW' rfl hb

theorem pGameCode_holds : Rows.FnGameCodeSaid :=
 OpenClaim.holds_of_wide 7 Try.f7 rfl rfl rfl rfl rfl rfl rfl ⟨rfl, rfl, rfl, rfl, rfl⟩ rfl rfl rfl rfl rfl (by kernel_rfl) Try.func7 pGameCode_closed
  (of_decide_eq_true (by kernel_rfl)) (by unfold Func.isWrapper; first | (rw [if_pos (by decide +kernel)]; kernel_rfl) | (rw [if_neg (by decide +kernel)]; exact ⟨rfl, rfl⟩))
  (fun os started H enc _ => pGameCode_lifted os started H enc)
#print axioms pGameCode_holds
end Go.Proofs.Ytkganikclbeplaa
