/- One checksum more: the law holds of every code that comes in. -/
import Derived.Test.YtgbnoemoangofaaMB
import Derived.Test.YtgbnoemoangofaaFx
import Derived.Test.YtgbnoemoangofaaFy
import Derived.Test.YtgbnoemoangofaaFz
import Derived.Test.YtgbnoemoangofaaFw
import Derived.Test.YtgbnoemoangofaaMM
import Derived.Test.YtgbnoemoangofaaYq
namespace Go.Proofs.Ytgbnoemoangofaa
open Go.ChangeShapes Go.WideShapes Go.ChangeAt Go.RowKit Go.Deep

theorem pCheckAdd_k1 : (Rows.fnCheckAddRow.wf (OpenSpec.ofChange Rows.fnCheckAddSpec)) = true := by kernel_rfl
theorem pCheckAdd_k4 : (Try.f3.params.all (Try.prog.readableRec ·)) = true := by kernel_rfl
theorem pCheckAdd_k5 : (namedTie Try.prog Rows.fnCheckAddRow.named Rows.fnCheckAddSpec.vars) = true := by kernel_rfl
theorem pCheckAdd_k6 : ((Rows.fnCheckAddRow.stops == [])) = true := by kernel_rfl
theorem pCheckAdd_k8 : ((Rows.fnCheckAddRow.knobs == [])) = true := by kernel_rfl
theorem pCheckAdd_k10 : ((Rows.fnCheckAddRow.inPlace == Try.prog.inPlace 3)) = true := by kernel_rfl
theorem pCheckAdd_k11 : ((Rows.fnCheckAddRow.unfollowed == Try.prog.unfollowed 3)) = true := by kernel_rfl
theorem pCheckAdd_k12 : ((Rows.fnCheckAddRow.recurses == Try.prog.recurses 3)) = true := by kernel_rfl
theorem pCheckAdd_k13 : ((Rows.fnCheckAddRow.named == Try.prog.varsNamed 3)) = true := by kernel_rfl
theorem pCheckAdd_k14 : ((Rows.fnCheckAddRow.maps == (Try.f3.params.toList ++ Rows.fnCheckAddSpec.plain.varTypes Try.prog).any (Try.prog.mapsRec ·))) = true := by kernel_rfl
theorem pCheckAdd_k15 : ((Rows.fnCheckAddRow.ifaces == (Try.f3.params.toList ++ Rows.fnCheckAddSpec.plain.varTypes Try.prog).any (Try.prog.ifacesRec ·))) = true := by kernel_rfl
theorem pCheckAdd_k16 : ((Rows.fnCheckAddRow.mapsOut == Try.prog.mapsAmong Try.f3.resultTypes.toList)) = true := by kernel_rfl
theorem pCheckAdd_k17 : ((Rows.fnCheckAddRow.loops == (Try.f3.params.toList ++ Rows.fnCheckAddSpec.plain.varTypes Try.prog).any (Try.prog.loopsFrom ·))) = true := by kernel_rfl
theorem pCheckAdd_k18 : ((Rows.fnCheckAddRow.wideKeys == (Try.f3.params.toList ++ Rows.fnCheckAddSpec.plain.varTypes Try.prog ++ Try.f3.resultTypes.toList).any (Try.prog.wideKeysFrom ·))) = true := by kernel_rfl
theorem pCheckAdd_k19 : (Rows.fnCheckAddSpec.vars.all (Try.prog.varReadable ·)) = true := by kernel_rfl
theorem pCheckAdd_k20 : (Try.f3.resultTypes.all (fun t => Try.prog.readableRec t && decide (t < Try.prog.types.size))) = true := by kernel_rfl
theorem pCheckAdd_k21 : ((Rows.fnCheckAddRow.ifacesOut == Try.f3.resultTypes.toList.any (Try.prog.ifacesRec ·))) = true := by kernel_rfl
theorem pCheckAdd_k22 : ((Rows.fnCheckAddRow.loopsOut == Try.f3.resultTypes.toList.any (Try.prog.loopsFrom ·))) = true := by kernel_rfl
theorem pCheckAdd_k24 : (Rows.fnCheckAddRow.shortTexts.isNone) = true := by kernel_rfl
theorem pCheckAdd_k30 : ((Rows.fnCheckAddRow.pinned == Rows.fnCheckAddRow.pinnedBy)) = true := by kernel_rfl
theorem pCheckAdd_k31 : ((Rows.fnCheckAddRow.veiled == (Try.f3.params.toList ++ Rows.fnCheckAddSpec.plain.varTypes Try.prog ++ Try.f3.resultTypes.toList).any (Try.prog.veiledRec ·))) = true := by kernel_rfl
theorem pCheckAdd_k32 : (Rows.fnCheckAddRow.veiledFits Try.prog Try.f3.params.toList (Try.f3.params.toList ++ Rows.fnCheckAddSpec.plain.varTypes Try.prog ++ Try.f3.resultTypes.toList)) = true := by kernel_rfl
theorem pCheckAdd_closed : joinedFacts Try.prog 3 Try.f3 Rows.fnCheckAddSpec Rows.fnCheckAddRow = true :=
  facts_of pCheckAdd_k1 Try.f_laid Try.f_maps pCheckAdd_k4 pCheckAdd_k5 pCheckAdd_k6 Try.f_stops pCheckAdd_k8 Try.f_knobs pCheckAdd_k10 pCheckAdd_k11 pCheckAdd_k12 pCheckAdd_k13 pCheckAdd_k14 pCheckAdd_k15 pCheckAdd_k16 pCheckAdd_k17 pCheckAdd_k18 pCheckAdd_k19 pCheckAdd_k20 pCheckAdd_k21 pCheckAdd_k22 (by kernel_rfl) pCheckAdd_k24 Try.f_heard Try.f_enter Try.f_lifts Try.f_make rfl rfl pCheckAdd_k30 pCheckAdd_k31 pCheckAdd_k32

set_option maxRecDepth 100000 in
theorem pCheckAdd_lifted (os : Os) (started : os.Started) (H : Type) (enc : TypeId × Value → H) :
    ReturnsInHanded {} Try.checked os 3 .any (Rows.fnCheckAddSpec.pre6 enc Try.prog Try.f3 Rows.fnCheckAddRow.domain false) (Rows.fnCheckAddSpec.post enc Try.prog Try.f3 false true false false) := by
  refine returnsInHanded_of_change (C := Try.checked) Try.own started (by kernel_rfl) Try.func3
    (ChangeSpec.witness6 (enc := enc) (C := Try.checked) false ⟨#[], #[.slice none 0 0], []⟩ 8 (by kernel_rfl) (by kernel_rfl) (by kernel_rfl) (by kernel_rfl)) ?_
  intro W base args ds gs before hval0 hW _ _
  have hval : ∀ (j : Nat) t v, Try.f3.params[j]? = some t → args[j]? = some v → Value.okWide Try.prog W .any base t v := hval0
  have hW' := hW
  obtain ⟨p, q, hA0, hV, rfl, _, _⟩ := hW
  have hA : DataW.TrodAll enc Try.prog W 0 (fun _ => true) true Try.f3.params.toList args.toList ds p := hA0
  rw [Try.params3] at hA hval
  obtain ⟨v0, d0, rfl, rfl, h0⟩ := trodAll_one hA
  obtain ⟨rfl, rfl⟩ := trodVars_none hV
  obtain ⟨A, n, c, rfl, m0, l0, b0⟩ := in_bytes Try.underlying22 Try.underlying5 (by kernel_rfl) (hval 0 _ v0 rfl rfl) h0
  refine (lawCheckAdd A c n _ m0 l0 b0).mono fun e W' ⟨he, hb⟩ => ⟨_, he, ?_⟩
  exact law_post (tb := 4) Try.laidOut (by kernel_rfl) rfl Try.underlying4 rfl hW' rfl hb

theorem pCheckAdd_holds : Rows.FnCheckAddSaid :=
  OpenClaim.holds_of_wide 3 Try.f3 rfl rfl rfl rfl rfl rfl rfl ⟨rfl, rfl, rfl, rfl, rfl⟩ rfl rfl rfl rfl rfl (by kernel_rfl) Try.func3 pCheckAdd_closed
    (of_decide_eq_true (by kernel_rfl)) (by unfold Func.isWrapper; first | (rw [if_pos (by decide +kernel)]; kernel_rfl) | (rw [if_neg (by decide +kernel)]; exact ⟨rfl, rfl⟩))
    (fun os started H enc _ => pCheckAdd_lifted os started H enc)
#print axioms pCheckAdd_holds
end Go.Proofs.Ytgbnoemoangofaa
