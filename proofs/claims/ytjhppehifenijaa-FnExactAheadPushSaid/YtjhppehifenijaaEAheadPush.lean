/- The exact law of AheadPush holds of all that comes in. -/
import Derived.Test.YtjhppehifenijaaMB
import Derived.Test.YtjhppehifenijaaFx
import Derived.Test.YtjhppehifenijaaFy
import Derived.Test.YtjhppehifenijaaFz
import Derived.Test.YtjhppehifenijaaFw
import Derived.Test.YtjhppehifenijaaHh
namespace Go.Proofs.Ytjhppehifenijaa
open Go.ChangeShapes Go.WideShapes Go.ChangeAt Go.RowKit Go.Deep

theorem xAheadPush_k1 : (Rows.fnExactAheadPushRow.wf (OpenSpec.ofChange Rows.fnExactAheadPushSpec)) = true := by kernel_rfl
theorem xAheadPush_k4 : (Try.f8.params.all (Try.prog.readableRec ·)) = true := by kernel_rfl
theorem xAheadPush_k5 : (namedTie Try.prog Rows.fnExactAheadPushRow.named Rows.fnExactAheadPushSpec.vars) = true := by kernel_rfl
theorem xAheadPush_k6 : ((Rows.fnExactAheadPushRow.stops == [])) = true := by kernel_rfl
theorem xAheadPush_k8 : ((Rows.fnExactAheadPushRow.knobs == [])) = true := by kernel_rfl
theorem xAheadPush_k10 : ((Rows.fnExactAheadPushRow.inPlace == Try.prog.inPlace 8)) = true := by kernel_rfl
theorem xAheadPush_k11 : ((Rows.fnExactAheadPushRow.unfollowed == Try.prog.unfollowed 8)) = true := by kernel_rfl
theorem xAheadPush_k12 : ((Rows.fnExactAheadPushRow.recurses == Try.prog.recurses 8)) = true := by kernel_rfl
theorem xAheadPush_k13 : ((Rows.fnExactAheadPushRow.named == Try.prog.varsNamed 8)) = true := by kernel_rfl
theorem xAheadPush_k14 : ((Rows.fnExactAheadPushRow.maps == (Try.f8.params.toList ++ Rows.fnExactAheadPushSpec.plain.varTypes Try.prog).any (Try.prog.mapsRec ·))) = true := by kernel_rfl
theorem xAheadPush_k15 : ((Rows.fnExactAheadPushRow.ifaces == (Try.f8.params.toList ++ Rows.fnExactAheadPushSpec.plain.varTypes Try.prog).any (Try.prog.ifacesRec ·))) = true := by kernel_rfl
theorem xAheadPush_k16 : ((Rows.fnExactAheadPushRow.mapsOut == Try.prog.mapsAmong Try.f8.resultTypes.toList)) = true := by kernel_rfl
theorem xAheadPush_k17 : ((Rows.fnExactAheadPushRow.loops == (Try.f8.params.toList ++ Rows.fnExactAheadPushSpec.plain.varTypes Try.prog).any (Try.prog.loopsFrom ·))) = true := by kernel_rfl
theorem xAheadPush_k18 : ((Rows.fnExactAheadPushRow.wideKeys == (Try.f8.params.toList ++ Rows.fnExactAheadPushSpec.plain.varTypes Try.prog ++ Try.f8.resultTypes.toList).any (Try.prog.wideKeysFrom ·))) = true := by kernel_rfl
theorem xAheadPush_k19 : (Rows.fnExactAheadPushSpec.vars.all (Try.prog.varReadable ·)) = true := by kernel_rfl
theorem xAheadPush_k20 : (Try.f8.resultTypes.all (fun t => Try.prog.readableRec t && decide (t < Try.prog.types.size))) = true := by kernel_rfl
theorem xAheadPush_k21 : ((Rows.fnExactAheadPushRow.ifacesOut == Try.f8.resultTypes.toList.any (Try.prog.ifacesRec ·))) = true := by kernel_rfl
theorem xAheadPush_k22 : ((Rows.fnExactAheadPushRow.loopsOut == Try.f8.resultTypes.toList.any (Try.prog.loopsFrom ·))) = true := by kernel_rfl
theorem xAheadPush_k24 : (Rows.fnExactAheadPushRow.shortTexts.isNone) = true := by kernel_rfl
theorem xAheadPush_k30 : ((Rows.fnExactAheadPushRow.pinned == Rows.fnExactAheadPushRow.pinnedBy)) = true := by kernel_rfl
theorem xAheadPush_k31 : ((Rows.fnExactAheadPushRow.veiled == (Try.f8.params.toList ++ Rows.fnExactAheadPushSpec.plain.varTypes Try.prog ++ Try.f8.resultTypes.toList).any (Try.prog.veiledRec ·))) = true := by kernel_rfl
theorem xAheadPush_k32 : (Rows.fnExactAheadPushRow.veiledFits Try.prog Try.f8.params.toList (Try.f8.params.toList ++ Rows.fnExactAheadPushSpec.plain.varTypes Try.prog ++ Try.f8.resultTypes.toList)) = true := by kernel_rfl
theorem xAheadPush_closed : joinedFacts Try.prog 8 Try.f8 Rows.fnExactAheadPushSpec Rows.fnExactAheadPushRow = true :=
  facts_of xAheadPush_k1 Try.f_laid Try.f_maps xAheadPush_k4 xAheadPush_k5 xAheadPush_k6 Try.f_stops xAheadPush_k8 Try.f_knobs xAheadPush_k10 xAheadPush_k11 xAheadPush_k12 xAheadPush_k13 xAheadPush_k14 xAheadPush_k15 xAheadPush_k16 xAheadPush_k17 xAheadPush_k18 xAheadPush_k19 xAheadPush_k20 xAheadPush_k21 xAheadPush_k22 (by kernel_rfl) xAheadPush_k24 Try.f_heard Try.f_enter Try.f_lifts Try.f_make rfl rfl xAheadPush_k30 xAheadPush_k31 xAheadPush_k32

set_option maxRecDepth 100000 in
theorem xAheadPush_lifted (os : Os) (started : os.Started) (H : Type) (enc : TypeId × Value → H) :
    ReturnsInHanded {} Try.checked os 8 .any (Rows.fnExactAheadPushSpec.pre6 enc Try.prog Try.f8 Rows.fnExactAheadPushRow.domain false) (Rows.fnExactAheadPushSpec.post enc Try.prog Try.f8 false true false false) := by
  refine returnsInHanded_of_change (C := Try.checked) Try.own started (by kernel_rfl) Try.func8
    (ChangeSpec.witness6 (enc := enc) (C := Try.checked) false ⟨#[], #[.agg #[.slice none 0 0, .slice none 0 0, .int .i64 0], .agg #[.int .i64 0, .int .i64 0, .int .i64 0, .int .i64 0, .int .i64 0]], []⟩ 8 (by kernel_rfl) (by kernel_rfl) (by kernel_rfl) (by kernel_rfl)) ?_
  intro W base args ds gs before hval0 hW _ _
  have hval : ∀ (j : Nat) t v, Try.f8.params[j]? = some t → args[j]? = some v → Value.okWide Try.prog W .any base t v := hval0
  have hW' := hW
  obtain ⟨p, q, hA0, hV, rfl, _, _⟩ := hW
  have hA : DataW.TrodAll enc Try.prog W 0 (fun _ => true) true Try.f8.params.toList args.toList ds p := hA0
  rw [Try.params8] at hA hval
  obtain ⟨v0, v1, d0, d1, p0, p1, rfl, rfl, rfl, h0, h1⟩ := trodAll_two hA
  obtain ⟨rfl, rfl⟩ := trodVars_none hV
  obtain ⟨A, a, B, b, D, W, k, rfl, mD0, mW0, rD0, rW0⟩ := in_ahead (hval 0 _ v0 rfl rfl) h0
  obtain ⟨rc, rn, ro, rx, ry, rfl⟩ := req_of_trod (hval 1 _ v1 rfl rfl) h1
  refine (exactAheadPush A a B b D W k rc rn ro rx ry _ mD0 mW0 rD0 rW0).mono fun e W' ⟨he, hb⟩ => ⟨_, he, ?_⟩
  exact law_post (tb := 4) Try.laidOut (by kernel_rfl) rfl Try.underlying4 rfl hW' rfl hb

theorem xAheadPush_holds : Rows.FnExactAheadPushSaid :=
  OpenClaim.holds_of_wide 8 Try.f8 rfl rfl rfl rfl rfl rfl rfl ⟨rfl, rfl, rfl, rfl, rfl⟩ rfl rfl rfl rfl rfl (by kernel_rfl) Try.func8 xAheadPush_closed
    (of_decide_eq_true (by kernel_rfl)) (by unfold Func.isWrapper; first | (rw [if_pos (by decide +kernel)]; kernel_rfl) | (rw [if_neg (by decide +kernel)]; exact ⟨rfl, rfl⟩))
    (fun os started H enc _ => xAheadPush_lifted os started H enc)
#print axioms xAheadPush_holds
end Go.Proofs.Ytjhppehifenijaa
