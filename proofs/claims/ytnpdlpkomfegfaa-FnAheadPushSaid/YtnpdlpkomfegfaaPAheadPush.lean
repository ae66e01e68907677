/- What is done ahead looks done: of every code that comes in. -/
import Derived.Test.YtnpdlpkomfegfaaMB
import Derived.Test.YtnpdlpkomfegfaaNI
import Derived.Test.YtnpdlpkomfegfaaMM
import Derived.Test.YtnpdlpkomfegfaaLg
namespace Go.Proofs.Ytnpdlpkomfegfaa
open Go.ChangeShapes Go.WideShapes Go.ChangeAt Go.RowKit Go.Deep

theorem pAheadPush_k1 : (Rows.fnAheadPushRow.wf (OpenSpec.ofChange Rows.fnAheadPushSpec)) = true := by kernel_rfl
theorem pAheadPush_k4 : (Try.f4.params.all (Try.prog.readableRec ·)) = true := by kernel_rfl
theorem pAheadPush_k5 : (namedTie Try.prog Rows.fnAheadPushRow.named Rows.fnAheadPushSpec.vars) = true := by kernel_rfl
theorem pAheadPush_k6 : ((Rows.fnAheadPushRow.stops == [])) = true := by kernel_rfl
theorem pAheadPush_k8 : ((Rows.fnAheadPushRow.knobs == [])) = true := by kernel_rfl
theorem pAheadPush_k10 : ((Rows.fnAheadPushRow.inPlace == Try.prog.inPlace 4)) = true := by kernel_rfl
theorem pAheadPush_k11 : ((Rows.fnAheadPushRow.unfollowed == Try.prog.unfollowed 4)) = true := by kernel_rfl
theorem pAheadPush_k12 : ((Rows.fnAheadPushRow.recurses == Try.prog.recurses 4)) = true := by kernel_rfl
theorem pAheadPush_k13 : ((Rows.fnAheadPushRow.named == Try.prog.varsNamed 4)) = true := by kernel_rfl
theorem pAheadPush_k14 : ((Rows.fnAheadPushRow.maps == (Try.f4.params.toList ++ Rows.fnAheadPushSpec.plain.varTypes Try.prog).any (Try.prog.mapsRec ·))) = true := by kernel_rfl
theorem pAheadPush_k15 : ((Rows.fnAheadPushRow.ifaces == (Try.f4.params.toList ++ Rows.fnAheadPushSpec.plain.varTypes Try.prog).any (Try.prog.ifacesRec ·))) = true := by kernel_rfl
theorem pAheadPush_k16 : ((Rows.fnAheadPushRow.mapsOut == Try.prog.mapsAmong Try.f4.resultTypes.toList)) = true := by kernel_rfl
theorem pAheadPush_k17 : ((Rows.fnAheadPushRow.loops == (Try.f4.params.toList ++ Rows.fnAheadPushSpec.plain.varTypes Try.prog).any (Try.prog.loopsFrom ·))) = true := by kernel_rfl
theorem pAheadPush_k18 : ((Rows.fnAheadPushRow.wideKeys == (Try.f4.params.toList ++ Rows.fnAheadPushSpec.plain.varTypes Try.prog ++ Try.f4.resultTypes.toList).any (Try.prog.wideKeysFrom ·))) = true := by kernel_rfl
theorem pAheadPush_k19 : (Rows.fnAheadPushSpec.vars.all (Try.prog.varReadable ·)) = true := by kernel_rfl
theorem pAheadPush_k20 : (Try.f4.resultTypes.all (fun t => Try.prog.readableRec t && decide (t < Try.prog.types.size))) = true := by kernel_rfl
theorem pAheadPush_k21 : ((Rows.fnAheadPushRow.ifacesOut == Try.f4.resultTypes.toList.any (Try.prog.ifacesRec ·))) = true := by kernel_rfl
theorem pAheadPush_k22 : ((Rows.fnAheadPushRow.loopsOut == Try.f4.resultTypes.toList.any (Try.prog.loopsFrom ·))) = true := by kernel_rfl
theorem pAheadPush_k24 : (Rows.fnAheadPushRow.shortTexts.isNone) = true := by kernel_rfl
theorem pAheadPush_k30 : ((Rows.fnAheadPushRow.pinned == Rows.fnAheadPushRow.pinnedBy)) = true := by kernel_rfl
theorem pAheadPush_k31 : ((Rows.fnAheadPushRow.veiled == (Try.f4.params.toList ++ Rows.fnAheadPushSpec.plain.varTypes Try.prog ++ Try.f4.resultTypes.toList).any (Try.prog.veiledRec ·))) = true := by kernel_rfl
theorem pAheadPush_k32 : (Rows.fnAheadPushRow.veiledFits Try.prog Try.f4.params.toList (Try.f4.params.toList ++ Rows.fnAheadPushSpec.plain.varTypes Try.prog ++ Try.f4.resultTypes.toList)) = true := by kernel_rfl
theorem pAheadPush_closed : joinedFacts Try.prog 4 Try.f4 Rows.fnAheadPushSpec Rows.fnAheadPushRow = true :=
 facts_of pAheadPush_k1 Try.f_laid Try.f_maps pAheadPush_k4 pAheadPush_k5 pAheadPush_k6 Try.f_stops pAheadPush_k8 Try.f_knobs pAheadPush_k10 pAheadPush_k11 pAheadPush_k12 pAheadPush_k13 pAheadPush_k14 pAheadPush_k15 pAheadPush_k16 pAheadPush_k17 pAheadPush_k18 pAheadPush_k19 pAheadPush_k20 pAheadPush_k21 pAheadPush_k22 (by kernel_rfl) pAheadPush_k24 Try.f_heard Try.f_enter Try.f_lifts Try.f_make rfl rfl pAheadPush_k30 pAheadPush_k31 pAheadPush_k32

set_option maxRecDepth 100000 in
theorem pAheadPush_lifted (os : Os) (started : os.Started) (H : Type) (enc : TypeId × Value → H) :
 ReturnsInHanded {} Try.checked os 4 .any (Rows.fnAheadPushSpec.pre6 enc Try.prog Try.f4 Rows.fnAheadPushRow.domain false) (Rows.fnAheadPushSpec.post enc Try.prog Try.f4 false true false false) := by
 refine returnsInHanded_of_change (C := Try.checked) Try.own started (by kernel_rfl) Try.func4
  (ChangeSpec.witness6 (enc := enc) (C := Try.checked) false ⟨#[], #[.slice none 0 0], []⟩ 8 (by kernel_rfl) (by kernel_rfl) (by kernel_rfl) (by kernel_rfl)) ?_
 intro W base args ds gs before hval0 hW _ _
 have hval : ∀ (j : Nat) t v, Try.f4.params[j]? = some t → args[j]? = some v → Value.okWide Try.prog W .any base t v := hval0
 have hW' := hW
 obtain ⟨p, q, hA0, hV, rfl, _, _⟩ := hW
 have hA : DataW.TrodAll enc Try.prog W 0 (fun _ => true) true Try.f4.params.toList args.toList ds p := hA0
 rw [Try.params4] at hA hval
 obtain ⟨v0, d0, rfl, rfl, h0⟩ := trodAll_one hA
 obtain ⟨rfl, rfl⟩ := trodVars_none hV
 obtain ⟨A, n, c, rfl, m0, l0, b0⟩ := in_bytes Try.underlying22 Try.underlying5 (by kernel_rfl) (hval 0 _ v0 rfl rfl) h0
 refine (lawAheadPush m0 l0 b0).mono fun e W' ⟨he, hb⟩ => ⟨_, he, ?_⟩
 exact law_post (tb := 4) Try.laidOut (by kernel_rfl) rfl Try.underlying4 rfl hW' rfl hb

theorem pAheadPush_holds : Rows.FnAheadPushSaid :=
 OpenClaim.holds_of_wide 4 Try.f4 rfl rfl rfl rfl rfl rfl rfl ⟨rfl, rfl, rfl, rfl, rfl⟩ rfl rfl rfl rfl rfl (by kernel_rfl) Try.func4 pAheadPush_closed
  (of_decide_eq_true (by kernel_rfl)) (by unfold Func.isWrapper; first | (rw [if_pos (by decide +kernel)]; kernel_rfl) | (rw [if_neg (by decide +kernel)]; exact ⟨rfl, rfl⟩))
  (fun os started H enc _ => pAheadPush_lifted os started H enc)
#print axioms pAheadPush_holds
end Go.Proofs.Ytnpdlpkomfegfaa
