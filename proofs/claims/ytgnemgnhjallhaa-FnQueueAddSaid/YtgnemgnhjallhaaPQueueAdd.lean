/- What is added is there, once: of every code that comes in. -/
import Derived.Test.YtgnemgnhjallhaaMB
import Derived.Test.YtgnemgnhjallhaaFx
import Derived.Test.YtgnemgnhjallhaaFy
import Derived.Test.YtgnemgnhjallhaaFz
import Derived.Test.YtgnemgnhjallhaaFw
import Derived.Test.YtgnemgnhjallhaaMM
import Derived.Test.YtgnemgnhjallhaaVv
namespace Go.Proofs.Ytgnemgnhjallhaa
open Go.ChangeShapes Go.WideShapes Go.ChangeAt Go.RowKit Go.Deep

theorem pQueueAdd_k1 : (Rows.fnQueueAddRow.wf (OpenSpec.ofChange Rows.fnQueueAddSpec)) = true := by kernel_rfl
theorem pQueueAdd_k4 : (Try.f3.params.all (Try.prog.readableRec ·)) = true := by kernel_rfl
theorem pQueueAdd_k5 : (namedTie Try.prog Rows.fnQueueAddRow.named Rows.fnQueueAddSpec.vars) = true := by kernel_rfl
theorem pQueueAdd_k6 : ((Rows.fnQueueAddRow.stops == [])) = true := by kernel_rfl
theorem pQueueAdd_k8 : ((Rows.fnQueueAddRow.knobs == [])) = true := by kernel_rfl
theorem pQueueAdd_k10 : ((Rows.fnQueueAddRow.inPlace == Try.prog.inPlace 3)) = true := by kernel_rfl
theorem pQueueAdd_k11 : ((Rows.fnQueueAddRow.unfollowed == Try.prog.unfollowed 3)) = true := by kernel_rfl
theorem pQueueAdd_k12 : ((Rows.fnQueueAddRow.recurses == Try.prog.recurses 3)) = true := by kernel_rfl
theorem pQueueAdd_k13 : ((Rows.fnQueueAddRow.named == Try.prog.varsNamed 3)) = true := by kernel_rfl
theorem pQueueAdd_k14 : ((Rows.fnQueueAddRow.maps == (Try.f3.params.toList ++ Rows.fnQueueAddSpec.plain.varTypes Try.prog).any (Try.prog.mapsRec ·))) = true := by kernel_rfl
theorem pQueueAdd_k15 : ((Rows.fnQueueAddRow.ifaces == (Try.f3.params.toList ++ Rows.fnQueueAddSpec.plain.varTypes Try.prog).any (Try.prog.ifacesRec ·))) = true := by kernel_rfl
theorem pQueueAdd_k16 : ((Rows.fnQueueAddRow.mapsOut == Try.prog.mapsAmong Try.f3.resultTypes.toList)) = true := by kernel_rfl
theorem pQueueAdd_k17 : ((Rows.fnQueueAddRow.loops == (Try.f3.params.toList ++ Rows.fnQueueAddSpec.plain.varTypes Try.prog).any (Try.prog.loopsFrom ·))) = true := by kernel_rfl
theorem pQueueAdd_k18 : ((Rows.fnQueueAddRow.wideKeys == (Try.f3.params.toList ++ Rows.fnQueueAddSpec.plain.varTypes Try.prog ++ Try.f3.resultTypes.toList).any (Try.prog.wideKeysFrom ·))) = true := by kernel_rfl
theorem pQueueAdd_k19 : (Rows.fnQueueAddSpec.vars.all (Try.prog.varReadable ·)) = true := by kernel_rfl
theorem pQueueAdd_k20 : (Try.f3.resultTypes.all (fun t => Try.prog.readableRec t && decide (t < Try.prog.types.size))) = true := by kernel_rfl
theorem pQueueAdd_k21 : ((Rows.fnQueueAddRow.ifacesOut == Try.f3.resultTypes.toList.any (Try.prog.ifacesRec ·))) = true := by kernel_rfl
theorem pQueueAdd_k22 : ((Rows.fnQueueAddRow.loopsOut == Try.f3.resultTypes.toList.any (Try.prog.loopsFrom ·))) = true := by kernel_rfl
theorem pQueueAdd_k24 : (Rows.fnQueueAddRow.shortTexts.isNone) = true := by kernel_rfl
theorem pQueueAdd_k30 : ((Rows.fnQueueAddRow.pinned == Rows.fnQueueAddRow.pinnedBy)) = true := by kernel_rfl
theorem pQueueAdd_k31 : ((Rows.fnQueueAddRow.veiled == (Try.f3.params.toList ++ Rows.fnQueueAddSpec.plain.varTypes Try.prog ++ Try.f3.resultTypes.toList).any (Try.prog.veiledRec ·))) = true := by kernel_rfl
theorem pQueueAdd_k32 : (Rows.fnQueueAddRow.veiledFits Try.prog Try.f3.params.toList (Try.f3.params.toList ++ Rows.fnQueueAddSpec.plain.varTypes Try.prog ++ Try.f3.resultTypes.toList)) = true := by kernel_rfl
theorem pQueueAdd_closed : joinedFacts Try.prog 3 Try.f3 Rows.fnQueueAddSpec Rows.fnQueueAddRow = true :=
  facts_of pQueueAdd_k1 Try.f_laid Try.f_maps pQueueAdd_k4 pQueueAdd_k5 pQueueAdd_k6 Try.f_stops pQueueAdd_k8 Try.f_knobs pQueueAdd_k10 pQueueAdd_k11 pQueueAdd_k12 pQueueAdd_k13 pQueueAdd_k14 pQueueAdd_k15 pQueueAdd_k16 pQueueAdd_k17 pQueueAdd_k18 pQueueAdd_k19 pQueueAdd_k20 pQueueAdd_k21 pQueueAdd_k22 (by kernel_rfl) pQueueAdd_k24 Try.f_heard Try.f_enter Try.f_lifts Try.f_make rfl rfl pQueueAdd_k30 pQueueAdd_k31 pQueueAdd_k32

set_option maxRecDepth 100000 in
theorem pQueueAdd_lifted (os : Os) (started : os.Started) (H : Type) (enc : TypeId × Value → H) :
    ReturnsInHanded {} Try.checked os 3 .any (Rows.fnQueueAddSpec.pre6 enc Try.prog Try.f3 Rows.fnQueueAddRow.domain false) (Rows.fnQueueAddSpec.post enc Try.prog Try.f3 false true false false) := by
  refine returnsInHanded_of_change (C := Try.checked) Try.own started (by kernel_rfl) Try.func3
    (ChangeSpec.witness6 (enc := enc) (C := Try.checked) false ⟨#[], #[.slice none 0 0], []⟩ 8 (by kernel_rfl) (by kernel_rfl) (by kernel_rfl) (by kernel_rfl)) ?_
  intro W base args ds gs before hval0 hW _ _
  have hval : ∀ (j : Nat) t v, Try.f3.params[j]? = some t → args[j]? = some v → Value.okWide Try.prog W .any base t v := hval0
  have hW' := hW
  obtain ⟨p, q, hA0, hV, rfl, _, _⟩ := hW
  have hA : DataW.TrodAll enc Try.prog W 0 (fun _ => true) true Try.f3.params.toList args.toList ds p := hA0
  rw [Try.params3] at hA hval
  obtain ⟨v0, d0, rfl, rfl, h0⟩ := trodAll_one hA
  obtain ⟨rfl, rfl⟩ := trodVars_none hV
  obtain ⟨A, n, c, rfl, m0, l0, b0⟩ := in_bytes Try.underlying22 Try.underlying5 (by kernel_rfl) (hval 0 _ v0 rfl rfl) h0
  refine (lawQueueAdd A c n _ m0 l0 b0).mono fun e W' ⟨he, hb⟩ => ⟨_, he, ?_⟩
  exact law_post (tb := 4) Try.laidOut (by kernel_rfl) rfl Try.underlying4 rfl hW' rfl hb

theorem pQueueAdd_holds : Rows.FnQueueAddSaid :=
  OpenClaim.holds_of_wide 3 Try.f3 rfl rfl rfl rfl rfl rfl rfl ⟨rfl, rfl, rfl, rfl, rfl⟩ rfl rfl rfl rfl rfl (by kernel_rfl) Try.func3 pQueueAdd_closed
    (of_decide_eq_true (by kernel_rfl)) (by unfold Func.isWrapper; first | (rw [if_pos (by decide +kernel)]; kernel_rfl) | (rw [if_neg (by decide +kernel)]; exact ⟨rfl, rfl⟩))
    (fun os started H enc _ => pQueueAdd_lifted os started H enc)
#print axioms pQueueAdd_holds
end Go.Proofs.Ytgnemgnhjallhaa
