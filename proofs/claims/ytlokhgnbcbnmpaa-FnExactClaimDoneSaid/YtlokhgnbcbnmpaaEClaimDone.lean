/- The exact law of ClaimDone holds of all letters and every claim that come in. -/
import Derived.Test.YtlokhgnbcbnmpaaMB
import Derived.Test.YtlokhgnbcbnmpaaFx
import Derived.Test.YtlokhgnbcbnmpaaFy
import Derived.Test.YtlokhgnbcbnmpaaFz
import Derived.Test.YtlokhgnbcbnmpaaFw
import Derived.Test.YtlokhgnbcbnmpaaUq
import Derived.Test.YtlokhgnbcbnmpaaKh
namespace Go.Proofs.Ytlokhgnbcbnmpaa
open Go.ChangeShapes Go.WideShapes Go.ChangeAt Go.RowKit Go.Deep

theorem xClaimDone_k1 : (Rows.fnExactClaimDoneRow.wf (OpenSpec.ofChange Rows.fnExactClaimDoneSpec)) = true := by kernel_rfl
theorem xClaimDone_k4 : (Try.f6.params.all (Try.prog.readableRec ·)) = true := by kernel_rfl
theorem xClaimDone_k5 : (namedTie Try.prog Rows.fnExactClaimDoneRow.named Rows.fnExactClaimDoneSpec.vars) = true := by kernel_rfl
theorem xClaimDone_k6 : ((Rows.fnExactClaimDoneRow.stops == [])) = true := by kernel_rfl
theorem xClaimDone_k8 : ((Rows.fnExactClaimDoneRow.knobs == [])) = true := by kernel_rfl
theorem xClaimDone_k10 : ((Rows.fnExactClaimDoneRow.inPlace == Try.prog.inPlace 6)) = true := by kernel_rfl
theorem xClaimDone_k11 : ((Rows.fnExactClaimDoneRow.unfollowed == Try.prog.unfollowed 6)) = true := by kernel_rfl
theorem xClaimDone_k12 : ((Rows.fnExactClaimDoneRow.recurses == Try.prog.recurses 6)) = true := by kernel_rfl
theorem xClaimDone_k13 : ((Rows.fnExactClaimDoneRow.named == Try.prog.varsNamed 6)) = true := by kernel_rfl
theorem xClaimDone_k14 : ((Rows.fnExactClaimDoneRow.maps == (Try.f6.params.toList ++ Rows.fnExactClaimDoneSpec.plain.varTypes Try.prog).any (Try.prog.mapsRec ·))) = true := by kernel_rfl
theorem xClaimDone_k15 : ((Rows.fnExactClaimDoneRow.ifaces == (Try.f6.params.toList ++ Rows.fnExactClaimDoneSpec.plain.varTypes Try.prog).any (Try.prog.ifacesRec ·))) = true := by kernel_rfl
theorem xClaimDone_k16 : ((Rows.fnExactClaimDoneRow.mapsOut == Try.prog.mapsAmong Try.f6.resultTypes.toList)) = true := by kernel_rfl
theorem xClaimDone_k17 : ((Rows.fnExactClaimDoneRow.loops == (Try.f6.params.toList ++ Rows.fnExactClaimDoneSpec.plain.varTypes Try.prog).any (Try.prog.loopsFrom ·))) = true := by kernel_rfl
theorem xClaimDone_k18 : ((Rows.fnExactClaimDoneRow.wideKeys == (Try.f6.params.toList ++ Rows.fnExactClaimDoneSpec.plain.varTypes Try.prog ++ Try.f6.resultTypes.toList).any (Try.prog.wideKeysFrom ·))) = true := by kernel_rfl
theorem xClaimDone_k19 : (Rows.fnExactClaimDoneSpec.vars.all (Try.prog.varReadable ·)) = true := by kernel_rfl
theorem xClaimDone_k20 : (Try.f6.resultTypes.all (fun t => Try.prog.readableRec t && decide (t < Try.prog.types.size))) = true := by kernel_rfl
theorem xClaimDone_k21 : ((Rows.fnExactClaimDoneRow.ifacesOut == Try.f6.resultTypes.toList.any (Try.prog.ifacesRec ·))) = true := by kernel_rfl
theorem xClaimDone_k22 : ((Rows.fnExactClaimDoneRow.loopsOut == Try.f6.resultTypes.toList.any (Try.prog.loopsFrom ·))) = true := by kernel_rfl
theorem xClaimDone_k24 : (Rows.fnExactClaimDoneRow.shortTexts.isNone) = true := by kernel_rfl
theorem xClaimDone_k30 : ((Rows.fnExactClaimDoneRow.pinned == Rows.fnExactClaimDoneRow.pinnedBy)) = true := by kernel_rfl
theorem xClaimDone_k31 : ((Rows.fnExactClaimDoneRow.veiled == (Try.f6.params.toList ++ Rows.fnExactClaimDoneSpec.plain.varTypes Try.prog ++ Try.f6.resultTypes.toList).any (Try.prog.veiledRec ·))) = true := by kernel_rfl
theorem xClaimDone_k32 : (Rows.fnExactClaimDoneRow.veiledFits Try.prog Try.f6.params.toList (Try.f6.params.toList ++ Rows.fnExactClaimDoneSpec.plain.varTypes Try.prog ++ Try.f6.resultTypes.toList)) = true := by kernel_rfl
theorem xClaimDone_closed : joinedFacts Try.prog 6 Try.f6 Rows.fnExactClaimDoneSpec Rows.fnExactClaimDoneRow = true :=
  facts_of xClaimDone_k1 Try.f_laid Try.f_maps xClaimDone_k4 xClaimDone_k5 xClaimDone_k6 Try.f_stops xClaimDone_k8 Try.f_knobs xClaimDone_k10 xClaimDone_k11 xClaimDone_k12 xClaimDone_k13 xClaimDone_k14 xClaimDone_k15 xClaimDone_k16 xClaimDone_k17 xClaimDone_k18 xClaimDone_k19 xClaimDone_k20 xClaimDone_k21 xClaimDone_k22 Try.f_keys xClaimDone_k24 Try.f_heard Try.f_enter Try.f_lifts Try.f_make rfl rfl xClaimDone_k30 xClaimDone_k31 xClaimDone_k32

set_option maxRecDepth 100000 in
theorem xClaimDone_lifted (os : Os) (started : os.Started) (H : Type) (enc : TypeId × Value → H) :
    ReturnsInHanded {} Try.checked os 6 .any (Rows.fnExactClaimDoneSpec.pre6 enc Try.prog Try.f6 Rows.fnExactClaimDoneRow.domain false) (Rows.fnExactClaimDoneSpec.post enc Try.prog Try.f6 false true false false) := by
  refine returnsInHanded_of_change (C := Try.checked) Try.own started (by kernel_rfl) Try.func6
    (ChangeSpec.witness6 (enc := enc) (C := Try.checked) false ⟨#[], #[.slice none 0 0, .agg #[.int .i64 0, .int .i64 0, .int .i64 0, .int .i64 0, .int .i64 0, .int .i64 0, .int .i64 0]], []⟩ 8 (by kernel_rfl) (by kernel_rfl) (by kernel_rfl) (by kernel_rfl)) ?_
  intro W base args ds gs before hval0 hW _ _
  have hval : ∀ (j : Nat) t v, Try.f6.params[j]? = some t → args[j]? = some v → Value.okWide Try.prog W .any base t v := hval0
  have hW' := hW
  obtain ⟨p, q, hA0, hV, rfl, _, _⟩ := hW
  have hA : DataW.TrodAll enc Try.prog W 0 (fun _ => true) true Try.f6.params.toList args.toList ds p := hA0
  rw [Try.params6] at hA hval
  obtain ⟨v0, v1, d0, d1, p0, p1, rfl, rfl, rfl, h0, h1⟩ := trodAll_two hA
  obtain ⟨rfl, rfl⟩ := trodVars_none hV
  obtain ⟨A, c, P, rfl, m0, r0⟩ := in_msgs (hval 0 _ v0 rfl rfl) h0
  obtain ⟨q, rfl⟩ := claim_in (hval 1 _ v1 rfl rfl) h1
  refine (exactClaimDone A c P q _ m0 r0).mono fun e W' ⟨he, hb⟩ => ⟨_, he, ?_⟩
  exact law_post (tb := 4) Try.laidOut (by kernel_rfl) rfl Try.underlying4 rfl hW' rfl hb

theorem xClaimDone_holds : Rows.FnExactClaimDoneSaid :=
  OpenClaim.holds_of_wide 6 Try.f6 rfl rfl rfl rfl rfl rfl rfl ⟨rfl, rfl, rfl, rfl, rfl⟩ rfl rfl rfl rfl rfl (by kernel_rfl) Try.func6 xClaimDone_closed
    (of_decide_eq_true (by kernel_rfl)) (by unfold Func.isWrapper; first | (rw [if_pos (by decide +kernel)]; kernel_rfl) | (rw [if_neg (by decide +kernel)]; exact ⟨rfl, rfl⟩))
    (fun os started H enc _ => xClaimDone_lifted os started H enc)
#print axioms xClaimDone_holds
end Go.Proofs.Ytlokhgnbcbnmpaa
