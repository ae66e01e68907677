/- The exact law of ClaimReady holds of all letters and every claim that come in. -/
import Derived.Test.YtlokhgnbcbnmpaaMB
import Derived.Test.YtlokhgnbcbnmpaaFx
import Derived.Test.YtlokhgnbcbnmpaaFy
import Derived.Test.YtlokhgnbcbnmpaaFz
import Derived.Test.YtlokhgnbcbnmpaaFw
import Derived.Test.YtlokhgnbcbnmpaaUq
import Derived.Test.YtlokhgnbcbnmpaaKh
namespace Go.Proofs.Ytlokhgnbcbnmpaa
open Go.ChangeShapes Go.WideShapes Go.ChangeAt Go.RowKit Go.Deep

theorem xClaimReady_k1 : (Rows.fnExactClaimReadyRow.wf (OpenSpec.ofChange Rows.fnExactClaimReadySpec)) = true := by kernel_rfl
theorem xClaimReady_k4 : (Try.f5.params.all (Try.prog.readableRec ·)) = true := by kernel_rfl
theorem xClaimReady_k5 : (namedTie Try.prog Rows.fnExactClaimReadyRow.named Rows.fnExactClaimReadySpec.vars) = true := by kernel_rfl
theorem xClaimReady_k6 : ((Rows.fnExactClaimReadyRow.stops == [])) = true := by kernel_rfl
theorem xClaimReady_k8 : ((Rows.fnExactClaimReadyRow.knobs == [])) = true := by kernel_rfl
theorem xClaimReady_k10 : ((Rows.fnExactClaimReadyRow.inPlace == Try.prog.inPlace 5)) = true := by kernel_rfl
theorem xClaimReady_k11 : ((Rows.fnExactClaimReadyRow.unfollowed == Try.prog.unfollowed 5)) = true := by kernel_rfl
theorem xClaimReady_k12 : ((Rows.fnExactClaimReadyRow.recurses == Try.prog.recurses 5)) = true := by kernel_rfl
theorem xClaimReady_k13 : ((Rows.fnExactClaimReadyRow.named == Try.prog.varsNamed 5)) = true := by kernel_rfl
theorem xClaimReady_k14 : ((Rows.fnExactClaimReadyRow.maps == (Try.f5.params.toList ++ Rows.fnExactClaimReadySpec.plain.varTypes Try.prog).any (Try.prog.mapsRec ·))) = true := by kernel_rfl
theorem xClaimReady_k15 : ((Rows.fnExactClaimReadyRow.ifaces == (Try.f5.params.toList ++ Rows.fnExactClaimReadySpec.plain.varTypes Try.prog).any (Try.prog.ifacesRec ·))) = true := by kernel_rfl
theorem xClaimReady_k16 : ((Rows.fnExactClaimReadyRow.mapsOut == Try.prog.mapsAmong Try.f5.resultTypes.toList)) = true := by kernel_rfl
theorem xClaimReady_k17 : ((Rows.fnExactClaimReadyRow.loops == (Try.f5.params.toList ++ Rows.fnExactClaimReadySpec.plain.varTypes Try.prog).any (Try.prog.loopsFrom ·))) = true := by kernel_rfl
theorem xClaimReady_k18 : ((Rows.fnExactClaimReadyRow.wideKeys == (Try.f5.params.toList ++ Rows.fnExactClaimReadySpec.plain.varTypes Try.prog ++ Try.f5.resultTypes.toList).any (Try.prog.wideKeysFrom ·))) = true := by kernel_rfl
theorem xClaimReady_k19 : (Rows.fnExactClaimReadySpec.vars.all (Try.prog.varReadable ·)) = true := by kernel_rfl
theorem xClaimReady_k20 : (Try.f5.resultTypes.all (fun t => Try.prog.readableRec t && decide (t < Try.prog.types.size))) = true := by kernel_rfl
theorem xClaimReady_k21 : ((Rows.fnExactClaimReadyRow.ifacesOut == Try.f5.resultTypes.toList.any (Try.prog.ifacesRec ·))) = true := by kernel_rfl
theorem xClaimReady_k22 : ((Rows.fnExactClaimReadyRow.loopsOut == Try.f5.resultTypes.toList.any (Try.prog.loopsFrom ·))) = true := by kernel_rfl
theorem xClaimReady_k24 : (Rows.fnExactClaimReadyRow.shortTexts.isNone) = true := by kernel_rfl
theorem xClaimReady_k30 : ((Rows.fnExactClaimReadyRow.pinned == Rows.fnExactClaimReadyRow.pinnedBy)) = true := by kernel_rfl
theorem xClaimReady_k31 : ((Rows.fnExactClaimReadyRow.veiled == (Try.f5.params.toList ++ Rows.fnExactClaimReadySpec.plain.varTypes Try.prog ++ Try.f5.resultTypes.toList).any (Try.prog.veiledRec ·))) = true := by kernel_rfl
theorem xClaimReady_k32 : (Rows.fnExactClaimReadyRow.veiledFits Try.prog Try.f5.params.toList (Try.f5.params.toList ++ Rows.fnExactClaimReadySpec.plain.varTypes Try.prog ++ Try.f5.resultTypes.toList)) = true := by kernel_rfl
theorem xClaimReady_closed : joinedFacts Try.prog 5 Try.f5 Rows.fnExactClaimReadySpec Rows.fnExactClaimReadyRow = true :=
  facts_of xClaimReady_k1 Try.f_laid Try.f_maps xClaimReady_k4 xClaimReady_k5 xClaimReady_k6 Try.f_stops xClaimReady_k8 Try.f_knobs xClaimReady_k10 xClaimReady_k11 xClaimReady_k12 xClaimReady_k13 xClaimReady_k14 xClaimReady_k15 xClaimReady_k16 xClaimReady_k17 xClaimReady_k18 xClaimReady_k19 xClaimReady_k20 xClaimReady_k21 xClaimReady_k22 Try.f_keys xClaimReady_k24 Try.f_heard Try.f_enter Try.f_lifts Try.f_make rfl rfl xClaimReady_k30 xClaimReady_k31 xClaimReady_k32

set_option maxRecDepth 100000 in
theorem xClaimReady_lifted (os : Os) (started : os.Started) (H : Type) (enc : TypeId × Value → H) :
    ReturnsInHanded {} Try.checked os 5 .any (Rows.fnExactClaimReadySpec.pre6 enc Try.prog Try.f5 Rows.fnExactClaimReadyRow.domain false) (Rows.fnExactClaimReadySpec.post enc Try.prog Try.f5 false true false false) := by
  refine returnsInHanded_of_change (C := Try.checked) Try.own started (by kernel_rfl) Try.func5
    (ChangeSpec.witness6 (enc := enc) (C := Try.checked) false ⟨#[], #[.slice none 0 0, .agg #[.int .i64 0, .int .i64 0, .int .i64 0, .int .i64 0, .int .i64 0, .int .i64 0, .int .i64 0]], []⟩ 8 (by kernel_rfl) (by kernel_rfl) (by kernel_rfl) (by kernel_rfl)) ?_
  intro W base args ds gs before hval0 hW _ _
  have hval : ∀ (j : Nat) t v, Try.f5.params[j]? = some t → args[j]? = some v → Value.okWide Try.prog W .any base t v := hval0
  have hW' := hW
  obtain ⟨p, q, hA0, hV, rfl, _, _⟩ := hW
  have hA : DataW.TrodAll enc Try.prog W 0 (fun _ => true) true Try.f5.params.toList args.toList ds p := hA0
  rw [Try.params5] at hA hval
  obtain ⟨v0, v1, d0, d1, p0, p1, rfl, rfl, rfl, h0, h1⟩ := trodAll_two hA
  obtain ⟨rfl, rfl⟩ := trodVars_none hV
  obtain ⟨A, c, P, rfl, m0, r0⟩ := in_msgs (hval 0 _ v0 rfl rfl) h0
  obtain ⟨q, rfl⟩ := claim_in (hval 1 _ v1 rfl rfl) h1
  refine (exactClaimReady A c P q _ m0 r0).mono fun e W' ⟨he, hb⟩ => ⟨_, he, ?_⟩
  exact law_post (tb := 4) Try.laidOut (by kernel_rfl) rfl Try.underlying4 rfl hW' rfl hb

theorem xClaimReady_holds : Rows.FnExactClaimReadySaid :=
  OpenClaim.holds_of_wide 5 Try.f5 rfl rfl rfl rfl rfl rfl rfl ⟨rfl, rfl, rfl, rfl, rfl⟩ rfl rfl rfl rfl rfl (by kernel_rfl) Try.func5 xClaimReady_closed
    (of_decide_eq_true (by kernel_rfl)) (by unfold Func.isWrapper; first | (rw [if_pos (by decide +kernel)]; kernel_rfl) | (rw [if_neg (by decide +kernel)]; exact ⟨rfl, rfl⟩))
    (fun os started H enc _ => xClaimReady_lifted os started H enc)
#print axioms xClaimReady_holds
end Go.Proofs.Ytlokhgnbcbnmpaa
