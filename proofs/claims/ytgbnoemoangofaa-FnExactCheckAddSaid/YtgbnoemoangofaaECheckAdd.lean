/- The exact law of CheckAdd holds of all checksums that come in, and every one more. -/
import Derived.Test.YtgbnoemoangofaaMB
import Derived.Test.YtgbnoemoangofaaFx
import Derived.Test.YtgbnoemoangofaaFy
import Derived.Test.YtgbnoemoangofaaFz
import Derived.Test.YtgbnoemoangofaaFw
import Derived.Test.YtgbnoemoangofaaYl
namespace Go.Proofs.Ytgbnoemoangofaa
open Go.ChangeShapes Go.WideShapes Go.ChangeAt Go.RowKit Go.Deep

theorem xCheckAdd_k1 : (Rows.fnExactCheckAddRow.wf (OpenSpec.ofChange Rows.fnExactCheckAddSpec)) = true := by kernel_rfl
theorem xCheckAdd_k4 : (Try.f7.params.all (Try.prog.readableRec ·)) = true := by kernel_rfl
theorem xCheckAdd_k5 : (namedTie Try.prog Rows.fnExactCheckAddRow.named Rows.fnExactCheckAddSpec.vars) = true := by kernel_rfl
theorem xCheckAdd_k6 : ((Rows.fnExactCheckAddRow.stops == [])) = true := by kernel_rfl
theorem xCheckAdd_k8 : ((Rows.fnExactCheckAddRow.knobs == [])) = true := by kernel_rfl
theorem xCheckAdd_k10 : ((Rows.fnExactCheckAddRow.inPlace == Try.prog.inPlace 7)) = true := by kernel_rfl
theorem xCheckAdd_k11 : ((Rows.fnExactCheckAddRow.unfollowed == Try.prog.unfollowed 7)) = true := by kernel_rfl
theorem xCheckAdd_k12 : ((Rows.fnExactCheckAddRow.recurses == Try.prog.recurses 7)) = true := by kernel_rfl
theorem xCheckAdd_k13 : ((Rows.fnExactCheckAddRow.named == Try.prog.varsNamed 7)) = true := by kernel_rfl
theorem xCheckAdd_k14 : ((Rows.fnExactCheckAddRow.maps == (Try.f7.params.toList ++ Rows.fnExactCheckAddSpec.plain.varTypes Try.prog).any (Try.prog.mapsRec ·))) = true := by kernel_rfl
theorem xCheckAdd_k15 : ((Rows.fnExactCheckAddRow.ifaces == (Try.f7.params.toList ++ Rows.fnExactCheckAddSpec.plain.varTypes Try.prog).any (Try.prog.ifacesRec ·))) = true := by kernel_rfl
theorem xCheckAdd_k16 : ((Rows.fnExactCheckAddRow.mapsOut == Try.prog.mapsAmong Try.f7.resultTypes.toList)) = true := by kernel_rfl
theorem xCheckAdd_k17 : ((Rows.fnExactCheckAddRow.loops == (Try.f7.params.toList ++ Rows.fnExactCheckAddSpec.plain.varTypes Try.prog).any (Try.prog.loopsFrom ·))) = true := by kernel_rfl
theorem xCheckAdd_k18 : ((Rows.fnExactCheckAddRow.wideKeys == (Try.f7.params.toList ++ Rows.fnExactCheckAddSpec.plain.varTypes Try.prog ++ Try.f7.resultTypes.toList).any (Try.prog.wideKeysFrom ·))) = true := by kernel_rfl
theorem xCheckAdd_k19 : (Rows.fnExactCheckAddSpec.vars.all (Try.prog.varReadable ·)) = true := by kernel_rfl
theorem xCheckAdd_k20 : (Try.f7.resultTypes.all (fun t => Try.prog.readableRec t && decide (t < Try.prog.types.size))) = true := by kernel_rfl
theorem xCheckAdd_k21 : ((Rows.fnExactCheckAddRow.ifacesOut == Try.f7.resultTypes.toList.any (Try.prog.ifacesRec ·))) = true := by kernel_rfl
theorem xCheckAdd_k22 : ((Rows.fnExactCheckAddRow.loopsOut == Try.f7.resultTypes.toList.any (Try.prog.loopsFrom ·))) = true := by kernel_rfl
theorem xCheckAdd_k24 : (Rows.fnExactCheckAddRow.shortTexts.isNone) = true := by kernel_rfl
theorem xCheckAdd_k30 : ((Rows.fnExactCheckAddRow.pinned == Rows.fnExactCheckAddRow.pinnedBy)) = true := by kernel_rfl
theorem xCheckAdd_k31 : ((Rows.fnExactCheckAddRow.veiled == (Try.f7.params.toList ++ Rows.fnExactCheckAddSpec.plain.varTypes Try.prog ++ Try.f7.resultTypes.toList).any (Try.prog.veiledRec ·))) = true := by kernel_rfl
theorem xCheckAdd_k32 : (Rows.fnExactCheckAddRow.veiledFits Try.prog Try.f7.params.toList (Try.f7.params.toList ++ Rows.fnExactCheckAddSpec.plain.varTypes Try.prog ++ Try.f7.resultTypes.toList)) = true := by kernel_rfl
theorem xCheckAdd_closed : joinedFacts Try.prog 7 Try.f7 Rows.fnExactCheckAddSpec Rows.fnExactCheckAddRow = true :=
  facts_of xCheckAdd_k1 Try.f_laid Try.f_maps xCheckAdd_k4 xCheckAdd_k5 xCheckAdd_k6 Try.f_stops xCheckAdd_k8 Try.f_knobs xCheckAdd_k10 xCheckAdd_k11 xCheckAdd_k12 xCheckAdd_k13 xCheckAdd_k14 xCheckAdd_k15 xCheckAdd_k16 xCheckAdd_k17 xCheckAdd_k18 xCheckAdd_k19 xCheckAdd_k20 xCheckAdd_k21 xCheckAdd_k22 (by kernel_rfl) xCheckAdd_k24 Try.f_heard Try.f_enter Try.f_lifts Try.f_make rfl rfl xCheckAdd_k30 xCheckAdd_k31 xCheckAdd_k32

set_option maxRecDepth 100000 in
theorem xCheckAdd_lifted (os : Os) (started : os.Started) (H : Type) (enc : TypeId × Value → H) :
    ReturnsInHanded {} Try.checked os 7 .any (Rows.fnExactCheckAddSpec.pre6 enc Try.prog Try.f7 Rows.fnExactCheckAddRow.domain false) (Rows.fnExactCheckAddSpec.post enc Try.prog Try.f7 false true false false) := by
  refine returnsInHanded_of_change (C := Try.checked) Try.own started (by kernel_rfl) Try.func7
    (ChangeSpec.witness6 (enc := enc) (C := Try.checked) false ⟨#[], #[.slice none 0 0, .agg #[.int .i64 0, .int .i64 0, .int .i64 0]], []⟩ 8 (by kernel_rfl) (by kernel_rfl) (by kernel_rfl) (by kernel_rfl)) ?_
  intro W base args ds gs before hval0 hW _ _
  have hval : ∀ (j : Nat) t v, Try.f7.params[j]? = some t → args[j]? = some v → Value.okWide Try.prog W .any base t v := hval0
  have hW' := hW
  obtain ⟨p, q, hA0, hV, rfl, _, _⟩ := hW
  have hA : DataW.TrodAll enc Try.prog W 0 (fun _ => true) true Try.f7.params.toList args.toList ds p := hA0
  rw [Try.params7] at hA hval
  obtain ⟨v0, v1, d0, d1, p0, p1, rfl, rfl, rfl, h0, h1⟩ := trodAll_two hA
  obtain ⟨rfl, rfl⟩ := trodVars_none hV
  obtain ⟨A, a, L, rfl, m0, r0⟩ := in_checks (hval 0 _ v0 rfl rfl) h0
  obtain ⟨x, rfl⟩ := in_check (hval 1 _ v1 rfl rfl) h1
  refine (exactCheckAdd A a L x _ m0 r0).mono fun e W' ⟨he, hb⟩ => ⟨_, he, ?_⟩
  exact law_post (tb := 4) Try.laidOut (by kernel_rfl) rfl Try.underlying4 rfl hW' rfl hb

theorem xCheckAdd_holds : Rows.FnExactCheckAddSaid :=
  OpenClaim.holds_of_wide 7 Try.f7 rfl rfl rfl rfl rfl rfl rfl ⟨rfl, rfl, rfl, rfl, rfl⟩ rfl rfl rfl rfl rfl (by kernel_rfl) Try.func7 xCheckAdd_closed
    (of_decide_eq_true (by kernel_rfl)) (by unfold Func.isWrapper; first | (rw [if_pos (by decide +kernel)]; kernel_rfl) | (rw [if_neg (by decide +kernel)]; exact ⟨rfl, rfl⟩))
    (fun os started H enc _ => xCheckAdd_lifted os started H enc)
#print axioms xCheckAdd_holds
end Go.Proofs.Ytgbnoemoangofaa
