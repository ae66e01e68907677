/- The exact law of AheadKeep holds of all that comes in. -/
import Derived.Test.YtjhppehifenijaaMB
import Derived.Test.YtjhppehifenijaaFx
import Derived.Test.YtjhppehifenijaaFy
import Derived.Test.YtjhppehifenijaaFz
import Derived.Test.YtjhppehifenijaaFw
import Derived.Test.YtjhppehifenijaaHn
namespace Go.Proofs.Ytjhppehifenijaa
open Go.ChangeShapes Go.WideShapes Go.ChangeAt Go.RowKit Go.Deep

theorem xAheadKeep_k1 : (Rows.fnExactAheadKeepRow.wf (OpenSpec.ofChange Rows.fnExactAheadKeepSpec)) = true := by kernel_rfl
theorem xAheadKeep_k4 : (Try.f9.params.all (Try.prog.readableRec ·)) = true := by kernel_rfl
theorem xAheadKeep_k5 : (namedTie Try.prog Rows.fnExactAheadKeepRow.named Rows.fnExactAheadKeepSpec.vars) = true := by kernel_rfl
theorem xAheadKeep_k6 : ((Rows.fnExactAheadKeepRow.stops == [])) = true := by kernel_rfl
theorem xAheadKeep_k8 : ((Rows.fnExactAheadKeepRow.knobs == [])) = true := by kernel_rfl
theorem xAheadKeep_k10 : ((Rows.fnExactAheadKeepRow.inPlace == Try.prog.inPlace 9)) = true := by kernel_rfl
theorem xAheadKeep_k11 : ((Rows.fnExactAheadKeepRow.unfollowed == Try.prog.unfollowed 9)) = true := by kernel_rfl
theorem xAheadKeep_k12 : ((Rows.fnExactAheadKeepRow.recurses == Try.prog.recurses 9)) = true := by kernel_rfl
theorem xAheadKeep_k13 : ((Rows.fnExactAheadKeepRow.named == Try.prog.varsNamed 9)) = true := by kernel_rfl
theorem xAheadKeep_k14 : ((Rows.fnExactAheadKeepRow.maps == (Try.f9.params.toList ++ Rows.fnExactAheadKeepSpec.plain.varTypes Try.prog).any (Try.prog.mapsRec ·))) = true := by kernel_rfl
theorem xAheadKeep_k15 : ((Rows.fnExactAheadKeepRow.ifaces == (Try.f9.params.toList ++ Rows.fnExactAheadKeepSpec.plain.varTypes Try.prog).any (Try.prog.ifacesRec ·))) = true := by kernel_rfl
theorem xAheadKeep_k16 : ((Rows.fnExactAheadKeepRow.mapsOut == Try.prog.mapsAmong Try.f9.resultTypes.toList)) = true := by kernel_rfl
theorem xAheadKeep_k17 : ((Rows.fnExactAheadKeepRow.loops == (Try.f9.params.toList ++ Rows.fnExactAheadKeepSpec.plain.varTypes Try.prog).any (Try.prog.loopsFrom ·))) = true := by kernel_rfl
theorem xAheadKeep_k18 : ((Rows.fnExactAheadKeepRow.wideKeys == (Try.f9.params.toList ++ Rows.fnExactAheadKeepSpec.plain.varTypes Try.prog ++ Try.f9.resultTypes.toList).any (Try.prog.wideKeysFrom ·))) = true := by kernel_rfl
theorem xAheadKeep_k19 : (Rows.fnExactAheadKeepSpec.vars.all (Try.prog.varReadable ·)) = true := by kernel_rfl
theorem xAheadKeep_k20 : (Try.f9.resultTypes.all (fun t => Try.prog.readableRec t && decide (t < Try.prog.types.size))) = true := by kernel_rfl
theorem xAheadKeep_k21 : ((Rows.fnExactAheadKeepRow.ifacesOut == Try.f9.resultTypes.toList.any (Try.prog.ifacesRec ·))) = true := by kernel_rfl
theorem xAheadKeep_k22 : ((Rows.fnExactAheadKeepRow.loopsOut == Try.f9.resultTypes.toList.any (Try.prog.loopsFrom ·))) = true := by kernel_rfl
theorem xAheadKeep_k24 : (Rows.fnExactAheadKeepRow.shortTexts.isNone) = true := by kernel_rfl
theorem xAheadKeep_k30 : ((Rows.fnExactAheadKeepRow.pinned == Rows.fnExactAheadKeepRow.pinnedBy)) = true := by kernel_rfl
theorem xAheadKeep_k31 : ((Rows.fnExactAheadKeepRow.veiled == (Try.f9.params.toList ++ Rows.fnExactAheadKeepSpec.plain.varTypes Try.prog ++ Try.f9.resultTypes.toList).any (Try.prog.veiledRec ·))) = true := by kernel_rfl
theorem xAheadKeep_k32 : (Rows.fnExactAheadKeepRow.veiledFits Try.prog Try.f9.params.toList (Try.f9.params.toList ++ Rows.fnExactAheadKeepSpec.plain.varTypes Try.prog ++ Try.f9.resultTypes.toList)) = true := by kernel_rfl
theorem xAheadKeep_closed : joinedFacts Try.prog 9 Try.f9 Rows.fnExactAheadKeepSpec Rows.fnExactAheadKeepRow = true :=
  facts_of xAheadKeep_k1 Try.f_laid Try.f_maps xAheadKeep_k4 xAheadKeep_k5 xAheadKeep_k6 Try.f_stops xAheadKeep_k8 Try.f_knobs xAheadKeep_k10 xAheadKeep_k11 xAheadKeep_k12 xAheadKeep_k13 xAheadKeep_k14 xAheadKeep_k15 xAheadKeep_k16 xAheadKeep_k17 xAheadKeep_k18 xAheadKeep_k19 xAheadKeep_k20 xAheadKeep_k21 xAheadKeep_k22 (by kernel_rfl) xAheadKeep_k24 Try.f_heard Try.f_enter Try.f_lifts Try.f_make rfl rfl xAheadKeep_k30 xAheadKeep_k31 xAheadKeep_k32

set_option maxRecDepth 100000 in
theorem xAheadKeep_lifted (os : Os) (started : os.Started) (H : Type) (enc : TypeId × Value → H) :
    ReturnsInHanded {} Try.checked os 9 .any (Rows.fnExactAheadKeepSpec.pre6 enc Try.prog Try.f9 Rows.fnExactAheadKeepRow.domain false) (Rows.fnExactAheadKeepSpec.post enc Try.prog Try.f9 false true false false) := by
  refine returnsInHanded_of_change (C := Try.checked) Try.own started (by kernel_rfl) Try.func9
    (ChangeSpec.witness6 (enc := enc) (C := Try.checked) false ⟨#[], #[.agg #[.slice none 0 0, .slice none 0 0, .int .i64 0], .agg #[.int .i64 0, .int .i64 0, .int .i64 0, .int .i64 0, .int .i64 0]], []⟩ 8 (by kernel_rfl) (by kernel_rfl) (by kernel_rfl) (by kernel_rfl)) ?_
  intro W base args ds gs before hval0 hW _ _
  have hval : ∀ (j : Nat) t v, Try.f9.params[j]? = some t → args[j]? = some v → Value.okWide Try.prog W .any base t v := hval0
  have hW' := hW
  obtain ⟨p, q, hA0, hV, rfl, _, _⟩ := hW
  have hA : DataW.TrodAll enc Try.prog W 0 (fun _ => true) true Try.f9.params.toList args.toList ds p := hA0
  rw [Try.params9] at hA hval
  obtain ⟨v0, v1, d0, d1, p0, p1, rfl, rfl, rfl, h0, h1⟩ := trodAll_two hA
  obtain ⟨rfl, rfl⟩ := trodVars_none hV
  obtain ⟨A, a, B, b, D, W, k, rfl, mD0, mW0, rD0, rW0⟩ := in_ahead (hval 0 _ v0 rfl rfl) h0
  obtain ⟨rc, rn, ro, rx, ry, rfl⟩ := req_of_trod (hval 1 _ v1 rfl rfl) h1
  refine (exactAheadKeep A a B b D W k rc rn ro rx ry _ mD0 mW0 rD0 rW0).mono fun e W' ⟨he, hb⟩ => ⟨_, he, ?_⟩
  exact law_post (tb := 4) Try.laidOut (by kernel_rfl) rfl Try.underlying4 rfl hW' rfl hb

theorem xAheadKeep_holds : Rows.FnExactAheadKeepSaid :=
  OpenClaim.holds_of_wide 9 Try.f9 rfl rfl rfl rfl rfl rfl rfl ⟨rfl, rfl, rfl, rfl, rfl⟩ rfl rfl rfl rfl rfl (by kernel_rfl) Try.func9 xAheadKeep_closed
    (of_decide_eq_true (by kernel_rfl)) (by unfold Func.isWrapper; first | (rw [if_pos (by decide +kernel)]; kernel_rfl) | (rw [if_neg (by decide +kernel)]; exact ⟨rfl, rfl⟩))
    (fun os started H enc _ => xAheadKeep_lifted os started H enc)
#print axioms xAheadKeep_holds
end Go.Proofs.Ytjhppehifenijaa
