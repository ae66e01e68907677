/- What is done for good is done, in order, whatever was done ahead: of every code that comes in. -/
import Derived.Test.YtnpdlpkomfegfaaMB
import Derived.Test.YtnpdlpkomfegfaaNI
import Derived.Test.YtnpdlpkomfegfaaMM
import Derived.Test.YtnpdlpkomfegfaaLi
namespace Go.Proofs.Ytnpdlpkomfegfaa
open Go.ChangeShapes Go.WideShapes Go.ChangeAt Go.RowKit Go.Deep

theorem pAheadKeep_k1 : (Rows.fnAheadKeepRow.wf (OpenSpec.ofChange Rows.fnAheadKeepSpec)) = true := by kernel_rfl
theorem pAheadKeep_k4 : (Try.f5.params.all (Try.prog.readableRec ·)) = true := by kernel_rfl
theorem pAheadKeep_k5 : (namedTie Try.prog Rows.fnAheadKeepRow.named Rows.fnAheadKeepSpec.vars) = true := by kernel_rfl
theorem pAheadKeep_k6 : ((Rows.fnAheadKeepRow.stops == [])) = true := by kernel_rfl
theorem pAheadKeep_k8 : ((Rows.fnAheadKeepRow.knobs == [])) = true := by kernel_rfl
theorem pAheadKeep_k10 : ((Rows.fnAheadKeepRow.inPlace == Try.prog.inPlace 5)) = true := by kernel_rfl
theorem pAheadKeep_k11 : ((Rows.fnAheadKeepRow.unfollowed == Try.prog.unfollowed 5)) = true := by kernel_rfl
theorem pAheadKeep_k12 : ((Rows.fnAheadKeepRow.recurses == Try.prog.recurses 5)) = true := by kernel_rfl
theorem pAheadKeep_k13 : ((Rows.fnAheadKeepRow.named == Try.prog.varsNamed 5)) = true := by kernel_rfl
theorem pAheadKeep_k14 : ((Rows.fnAheadKeepRow.maps == (Try.f5.params.toList ++ Rows.fnAheadKeepSpec.plain.varTypes Try.prog).any (Try.prog.mapsRec ·))) = true := by kernel_rfl
theorem pAheadKeep_k15 : ((Rows.fnAheadKeepRow.ifaces == (Try.f5.params.toList ++ Rows.fnAheadKeepSpec.plain.varTypes Try.prog).any (Try.prog.ifacesRec ·))) = true := by kernel_rfl
theorem pAheadKeep_k16 : ((Rows.fnAheadKeepRow.mapsOut == Try.prog.mapsAmong Try.f5.resultTypes.toList)) = true := by kernel_rfl
theorem pAheadKeep_k17 : ((Rows.fnAheadKeepRow.loops == (Try.f5.params.toList ++ Rows.fnAheadKeepSpec.plain.varTypes Try.prog).any (Try.prog.loopsFrom ·))) = true := by kernel_rfl
theorem pAheadKeep_k18 : ((Rows.fnAheadKeepRow.wideKeys == (Try.f5.params.toList ++ Rows.fnAheadKeepSpec.plain.varTypes Try.prog ++ Try.f5.resultTypes.toList).any (Try.prog.wideKeysFrom ·))) = true := by kernel_rfl
theorem pAheadKeep_k19 : (Rows.fnAheadKeepSpec.vars.all (Try.prog.varReadable ·)) = true := by kernel_rfl
theorem pAheadKeep_k20 : (Try.f5.resultTypes.all (fun t => Try.prog.readableRec t && decide (t < Try.prog.types.size))) = true := by kernel_rfl
theorem pAheadKeep_k21 : ((Rows.fnAheadKeepRow.ifacesOut == Try.f5.resultTypes.toList.any (Try.prog.ifacesRec ·))) = true := by kernel_rfl
theorem pAheadKeep_k22 : ((Rows.fnAheadKeepRow.loopsOut == Try.f5.resultTypes.toList.any (Try.prog.loopsFrom ·))) = true := by kernel_rfl
theorem pAheadKeep_k24 : (Rows.fnAheadKeepRow.shortTexts.isNone) = true := by kernel_rfl
theorem pAheadKeep_k30 : ((Rows.fnAheadKeepRow.pinned == Rows.fnAheadKeepRow.pinnedBy)) = true := by kernel_rfl
theorem pAheadKeep_k31 : ((Rows.fnAheadKeepRow.veiled == (Try.f5.params.toList ++ Rows.fnAheadKeepSpec.plain.varTypes Try.prog ++ Try.f5.resultTypes.toList).any (Try.prog.veiledRec ·))) = true := by kernel_rfl
theorem pAheadKeep_k32 : (Rows.fnAheadKeepRow.veiledFits Try.prog Try.f5.params.toList (Try.f5.params.toList ++ Rows.fnAheadKeepSpec.plain.varTypes Try.prog ++ Try.f5.resultTypes.toList)) = true := by kernel_rfl
theorem pAheadKeep_closed : joinedFacts Try.prog 5 Try.f5 Rows.fnAheadKeepSpec Rows.fnAheadKeepRow = true :=
 facts_of pAheadKeep_k1 Try.f_laid Try.f_maps pAheadKeep_k4 pAheadKeep_k5 pAheadKeep_k6 Try.f_stops pAheadKeep_k8 Try.f_knobs pAheadKeep_k10 pAheadKeep_k11 pAheadKeep_k12 pAheadKeep_k13 pAheadKeep_k14 pAheadKeep_k15 pAheadKeep_k16 pAheadKeep_k17 pAheadKeep_k18 pAheadKeep_k19 pAheadKeep_k20 pAheadKeep_k21 pAheadKeep_k22 (by kernel_rfl) pAheadKeep_k24 Try.f_heard Try.f_enter Try.f_lifts Try.f_make rfl rfl pAheadKeep_k30 pAheadKeep_k31 pAheadKeep_k32

set_option maxRecDepth 100000 in
theorem pAheadKeep_lifted (os : Os) (started : os.Started) (H : Type) (enc : TypeId × Value → H) :
 ReturnsInHanded {} Try.checked os 5 .any (Rows.fnAheadKeepSpec.pre6 enc Try.prog Try.f5 Rows.fnAheadKeepRow.domain false) (Rows.fnAheadKeepSpec.post enc Try.prog Try.f5 false true false false) := by
 refine returnsInHanded_of_change (C := Try.checked) Try.own started (by kernel_rfl) Try.func5
  (ChangeSpec.witness6 (enc := enc) (C := Try.checked) false ⟨#[], #[.slice none 0 0], []⟩ 8 (by kernel_rfl) (by kernel_rfl) (by kernel_rfl) (by kernel_rfl)) ?_
 intro W base args ds gs before hval0 hW _ _
 have hval : ∀ (j : Nat) t v, Try.f5.params[j]? = some t → args[j]? = some v → Value.okWide Try.prog W .any base t v := hval0
 have hW' := hW
 obtain ⟨p, q, hA0, hV, rfl, _, _⟩ := hW
 have hA : DataW.TrodAll enc Try.prog W 0 (fun _ => true) true Try.f5.params.toList args.toList ds p := hA0
 rw [Try.params5] at hA hval
 obtain ⟨v0, d0, rfl, rfl, h0⟩ := trodAll_one hA
 obtain ⟨rfl, rfl⟩ := trodVars_none hV
 obtain ⟨A, n, c, rfl, m0, l0, b0⟩ := in_bytes Try.underlying22 Try.underlying5 (by kernel_rfl) (hval 0 _ v0 rfl rfl) h0
 refine (lawAheadKeep m0 l0 b0).mono fun e W' ⟨he, hb⟩ => ⟨_, he, ?_⟩
 exact law_post (tb := 4) Try.laidOut (by kernel_rfl) rfl Try.underlying4 rfl hW' rfl hb

theorem pAheadKeep_holds : Rows.FnAheadKeepSaid :=
 OpenClaim.holds_of_wide 5 Try.f5 rfl rfl rfl rfl rfl rfl rfl ⟨rfl, rfl, rfl, rfl, rfl⟩ rfl rfl rfl rfl rfl (by kernel_rfl) Try.func5 pAheadKeep_closed
  (of_decide_eq_true (by kernel_rfl)) (by unfold Func.isWrapper; first | (rw [if_pos (by decide +kernel)]; kernel_rfl) | (rw [if_neg (by decide +kernel)]; exact ⟨rfl, rfl⟩))
  (fun os started H enc _ => pAheadKeep_lifted os started H enc)
#print axioms pAheadKeep_holds
end Go.Proofs.Ytnpdlpkomfegfaa
