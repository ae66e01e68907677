/- The exact law of AheadOk holds of all that comes in. -/
import Derived.Test.YtjhppehifenijaaMB
import Derived.Test.YtjhppehifenijaaFx
import Derived.Test.YtjhppehifenijaaFy
import Derived.Test.YtjhppehifenijaaFz
import Derived.Test.YtjhppehifenijaaFw
import Derived.Test.YtjhppehifenijaaHd
namespace Go.Proofs.Ytjhppehifenijaa
open Go.ChangeShapes Go.WideShapes Go.ChangeAt Go.RowKit Go.Deep

theorem xAheadOk_k1 : (Rows.fnExactAheadOkRow.wf (OpenSpec.ofChange Rows.fnExactAheadOkSpec)) = true := by kernel_rfl
theorem xAheadOk_k4 : (Try.f7.params.all (Try.prog.readableRec ·)) = true := by kernel_rfl
theorem xAheadOk_k5 : (namedTie Try.prog Rows.fnExactAheadOkRow.named Rows.fnExactAheadOkSpec.vars) = true := by kernel_rfl
theorem xAheadOk_k6 : ((Rows.fnExactAheadOkRow.stops == [])) = true := by kernel_rfl
theorem xAheadOk_k8 : ((Rows.fnExactAheadOkRow.knobs == [])) = true := by kernel_rfl
theorem xAheadOk_k10 : ((Rows.fnExactAheadOkRow.inPlace == Try.prog.inPlace 7)) = true := by kernel_rfl
theorem xAheadOk_k11 : ((Rows.fnExactAheadOkRow.unfollowed == Try.prog.unfollowed 7)) = true := by kernel_rfl
theorem xAheadOk_k12 : ((Rows.fnExactAheadOkRow.recurses == Try.prog.recurses 7)) = true := by kernel_rfl
theorem xAheadOk_k13 : ((Rows.fnExactAheadOkRow.named == Try.prog.varsNamed 7)) = true := by kernel_rfl
theorem xAheadOk_k14 : ((Rows.fnExactAheadOkRow.maps == (Try.f7.params.toList ++ Rows.fnExactAheadOkSpec.plain.varTypes Try.prog).any (Try.prog.mapsRec ·))) = true := by kernel_rfl
theorem xAheadOk_k15 : ((Rows.fnExactAheadOkRow.ifaces == (Try.f7.params.toList ++ Rows.fnExactAheadOkSpec.plain.varTypes Try.prog).any (Try.prog.ifacesRec ·))) = true := by kernel_rfl
theorem xAheadOk_k16 : ((Rows.fnExactAheadOkRow.mapsOut == Try.prog.mapsAmong Try.f7.resultTypes.toList)) = true := by kernel_rfl
theorem xAheadOk_k17 : ((Rows.fnExactAheadOkRow.loops == (Try.f7.params.toList ++ Rows.fnExactAheadOkSpec.plain.varTypes Try.prog).any (Try.prog.loopsFrom ·))) = true := by kernel_rfl
theorem xAheadOk_k18 : ((Rows.fnExactAheadOkRow.wideKeys == (Try.f7.params.toList ++ Rows.fnExactAheadOkSpec.plain.varTypes Try.prog ++ Try.f7.resultTypes.toList).any (Try.prog.wideKeysFrom ·))) = true := by kernel_rfl
theorem xAheadOk_k19 : (Rows.fnExactAheadOkSpec.vars.all (Try.prog.varReadable ·)) = true := by kernel_rfl
theorem xAheadOk_k20 : (Try.f7.resultTypes.all (fun t => Try.prog.readableRec t && decide (t < Try.prog.types.size))) = true := by kernel_rfl
theorem xAheadOk_k21 : ((Rows.fnExactAheadOkRow.ifacesOut == Try.f7.resultTypes.toList.any (Try.prog.ifacesRec ·))) = true := by kernel_rfl
theorem xAheadOk_k22 : ((Rows.fnExactAheadOkRow.loopsOut == Try.f7.resultTypes.toList.any (Try.prog.loopsFrom ·))) = true := by kernel_rfl
theorem xAheadOk_k24 : (Rows.fnExactAheadOkRow.shortTexts.isNone) = true := by kernel_rfl
theorem xAheadOk_k30 : ((Rows.fnExactAheadOkRow.pinned == Rows.fnExactAheadOkRow.pinnedBy)) = true := by kernel_rfl
theorem xAheadOk_k31 : ((Rows.fnExactAheadOkRow.veiled == (Try.f7.params.toList ++ Rows.fnExactAheadOkSpec.plain.varTypes Try.prog ++ Try.f7.resultTypes.toList).any (Try.prog.veiledRec ·))) = true := by kernel_rfl
theorem xAheadOk_k32 : (Rows.fnExactAheadOkRow.veiledFits Try.prog Try.f7.params.toList (Try.f7.params.toList ++ Rows.fnExactAheadOkSpec.plain.varTypes Try.prog ++ Try.f7.resultTypes.toList)) = true := by kernel_rfl
theorem xAheadOk_closed : joinedFacts Try.prog 7 Try.f7 Rows.fnExactAheadOkSpec Rows.fnExactAheadOkRow = true :=
  facts_of xAheadOk_k1 Try.f_laid Try.f_maps xAheadOk_k4 xAheadOk_k5 xAheadOk_k6 Try.f_stops xAheadOk_k8 Try.f_knobs xAheadOk_k10 xAheadOk_k11 xAheadOk_k12 xAheadOk_k13 xAheadOk_k14 xAheadOk_k15 xAheadOk_k16 xAheadOk_k17 xAheadOk_k18 xAheadOk_k19 xAheadOk_k20 xAheadOk_k21 xAheadOk_k22 (by kernel_rfl) xAheadOk_k24 Try.f_heard Try.f_enter Try.f_lifts Try.f_make rfl rfl xAheadOk_k30 xAheadOk_k31 xAheadOk_k32

set_option maxRecDepth 100000 in
theorem xAheadOk_lifted (os : Os) (started : os.Started) (H : Type) (enc : TypeId × Value → H) :
    ReturnsInHanded {} Try.checked os 7 .any (Rows.fnExactAheadOkSpec.pre6 enc Try.prog Try.f7 Rows.fnExactAheadOkRow.domain false) (Rows.fnExactAheadOkSpec.post enc Try.prog Try.f7 false true false false) := by
  refine returnsInHanded_of_change (C := Try.checked) Try.own started (by kernel_rfl) Try.func7
    (ChangeSpec.witness6 (enc := enc) (C := Try.checked) false ⟨#[], #[.agg #[.slice none 0 0, .slice none 0 0, .int .i64 0]], []⟩ 8 (by kernel_rfl) (by kernel_rfl) (by kernel_rfl) (by kernel_rfl)) ?_
  intro W base args ds gs before hval0 hW _ _
  have hval : ∀ (j : Nat) t v, Try.f7.params[j]? = some t → args[j]? = some v → Value.okWide Try.prog W .any base t v := hval0
  have hW' := hW
  obtain ⟨p, q, hA0, hV, rfl, _, _⟩ := hW
  have hA : DataW.TrodAll enc Try.prog W 0 (fun _ => true) true Try.f7.params.toList args.toList ds p := hA0
  rw [Try.params7] at hA hval
  obtain ⟨v0, d0, rfl, rfl, h0⟩ := trodAll_one hA
  obtain ⟨rfl, rfl⟩ := trodVars_none hV
  obtain ⟨A, a, B, b, D, W, k, rfl, mD0, mW0, rD0, rW0⟩ := in_ahead (hval 0 _ v0 rfl rfl) h0
  refine (exactAheadOk A a B b D W k _ mD0 mW0 rD0 rW0).mono fun e W' ⟨he, hb⟩ => ⟨_, he, ?_⟩
  exact law_post (tb := 4) Try.laidOut (by kernel_rfl) rfl Try.underlying4 rfl hW' rfl hb

theorem xAheadOk_holds : Rows.FnExactAheadOkSaid :=
  OpenClaim.holds_of_wide 7 Try.f7 rfl rfl rfl rfl rfl rfl rfl ⟨rfl, rfl, rfl, rfl, rfl⟩ rfl rfl rfl rfl rfl (by kernel_rfl) Try.func7 xAheadOk_closed
    (of_decide_eq_true (by kernel_rfl)) (by unfold Func.isWrapper; first | (rw [if_pos (by decide +kernel)]; kernel_rfl) | (rw [if_neg (by decide +kernel)]; exact ⟨rfl, rfl⟩))
    (fun os started H enc _ => xAheadOk_lifted os started H enc)
#print axioms xAheadOk_holds
end Go.Proofs.Ytjhppehifenijaa
