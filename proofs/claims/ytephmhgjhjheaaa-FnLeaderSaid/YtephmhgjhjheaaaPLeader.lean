/- Each leads in turn, at every code. No condition. -/
import Derived.Test.YtephmhgjhjheaaaLaw
import Derived.Test.YtephmhgjhjheaaaRq
import Derived.Test.YtephmhgjhjheaaaFx
import Derived.Test.YtephmhgjhjheaaaFy
import Derived.Test.YtephmhgjhjheaaaFz
import Derived.Test.YtephmhgjhjheaaaFw
import Derived.Test.YtephmhgjhjheaaaLt
import Derived.Test.YtephmhgjhjheaaaBy
namespace Go.Proofs.Ytephmhgjhjheaaa
open Go.ChangeShapes Go.WideShapes Go.ChangeAt Go.RowKit Go.Deep

theorem pLeader_k1 : (Rows.fnLeaderRow.wf (OpenSpec.ofChange Rows.fnLeaderSpec)) = true := by kernel_rfl
theorem pLeader_k4 : (Try.f7.params.all (Try.prog.readableRec ·)) = true := by kernel_rfl
theorem pLeader_k5 : (namedTie Try.prog Rows.fnLeaderRow.named Rows.fnLeaderSpec.vars) = true := by kernel_rfl
theorem pLeader_k6 : ((Rows.fnLeaderRow.stops == [])) = true := by kernel_rfl
theorem pLeader_k8 : ((Rows.fnLeaderRow.knobs == [])) = true := by kernel_rfl
theorem pLeader_k10 : ((Rows.fnLeaderRow.inPlace == Try.prog.inPlace 7)) = true := by kernel_rfl
theorem pLeader_k11 : ((Rows.fnLeaderRow.unfollowed == Try.prog.unfollowed 7)) = true := by kernel_rfl
theorem pLeader_k12 : ((Rows.fnLeaderRow.recurses == Try.prog.recurses 7)) = true := by kernel_rfl
theorem pLeader_k13 : ((Rows.fnLeaderRow.named == Try.prog.varsNamed 7)) = true := by kernel_rfl
theorem pLeader_k14 : ((Rows.fnLeaderRow.maps == (Try.f7.params.toList ++ Rows.fnLeaderSpec.plain.varTypes Try.prog).any (Try.prog.mapsRec ·))) = true := by kernel_rfl
theorem pLeader_k15 : ((Rows.fnLeaderRow.ifaces == (Try.f7.params.toList ++ Rows.fnLeaderSpec.plain.varTypes Try.prog).any (Try.prog.ifacesRec ·))) = true := by kernel_rfl
theorem pLeader_k16 : ((Rows.fnLeaderRow.mapsOut == Try.prog.mapsAmong Try.f7.resultTypes.toList)) = true := by kernel_rfl
theorem pLeader_k17 : ((Rows.fnLeaderRow.loops == (Try.f7.params.toList ++ Rows.fnLeaderSpec.plain.varTypes Try.prog).any (Try.prog.loopsFrom ·))) = true := by kernel_rfl
theorem pLeader_k18 : ((Rows.fnLeaderRow.wideKeys == (Try.f7.params.toList ++ Rows.fnLeaderSpec.plain.varTypes Try.prog ++ Try.f7.resultTypes.toList).any (Try.prog.wideKeysFrom ·))) = true := by kernel_rfl
theorem pLeader_k19 : (Rows.fnLeaderSpec.vars.all (Try.prog.varReadable ·)) = true := by kernel_rfl
theorem pLeader_k20 : (Try.f7.resultTypes.all (fun t => Try.prog.readableRec t && decide (t < Try.prog.types.size))) = true := by kernel_rfl
theorem pLeader_k21 : ((Rows.fnLeaderRow.ifacesOut == Try.f7.resultTypes.toList.any (Try.prog.ifacesRec ·))) = true := by kernel_rfl
theorem pLeader_k22 : ((Rows.fnLeaderRow.loopsOut == Try.f7.resultTypes.toList.any (Try.prog.loopsFrom ·))) = true := by kernel_rfl
theorem pLeader_k24 : (Rows.fnLeaderRow.shortTexts.isNone) = true := by kernel_rfl
theorem pLeader_k30 : ((Rows.fnLeaderRow.pinned == Rows.fnLeaderRow.pinnedBy)) = true := by kernel_rfl
theorem pLeader_k31 : ((Rows.fnLeaderRow.veiled == (Try.f7.params.toList ++ Rows.fnLeaderSpec.plain.varTypes Try.prog ++ Try.f7.resultTypes.toList).any (Try.prog.veiledRec ·))) = true := by kernel_rfl
theorem pLeader_k32 : (Rows.fnLeaderRow.veiledFits Try.prog Try.f7.params.toList (Try.f7.params.toList ++ Rows.fnLeaderSpec.plain.varTypes Try.prog ++ Try.f7.resultTypes.toList)) = true := by kernel_rfl
theorem pLeader_closed : joinedFacts Try.prog 7 Try.f7 Rows.fnLeaderSpec Rows.fnLeaderRow = true :=
  facts_of pLeader_k1 Try.f_laid Try.f_maps pLeader_k4 pLeader_k5 pLeader_k6 Try.f_stops pLeader_k8 Try.f_knobs pLeader_k10 pLeader_k11 pLeader_k12 pLeader_k13 pLeader_k14 pLeader_k15 pLeader_k16 pLeader_k17 pLeader_k18 pLeader_k19 pLeader_k20 pLeader_k21 pLeader_k22 Try.f_keys pLeader_k24 Try.f_heard Try.f_enter Try.f_lifts Try.f_make rfl rfl pLeader_k30 pLeader_k31 pLeader_k32

set_option maxRecDepth 100000 in
theorem pLeader_lifted (os : Os) (started : os.Started) (H : Type) (enc : TypeId × Value → H) :
    ReturnsInHanded {} Try.checked os 7 .any (Rows.fnLeaderSpec.pre6 enc Try.prog Try.f7 Rows.fnLeaderRow.domain false) (Rows.fnLeaderSpec.post enc Try.prog Try.f7 false true false false) := by
  refine returnsInHanded_of_change (C := Try.checked) Try.own started (by kernel_rfl) Try.func7
    (ChangeSpec.witness6 (enc := enc) (C := Try.checked) false ⟨#[], #[.slice none 0 0], []⟩ 8 (by kernel_rfl) (by kernel_rfl) (by kernel_rfl) (by kernel_rfl)) ?_
  intro W base args ds gs before hval0 hW _ _
  have hval : ∀ (j : Nat) t v, Try.f7.params[j]? = some t → args[j]? = some v → Value.okWide Try.prog W .any base t v := hval0
  have hW' := hW
  obtain ⟨p, q, hA0, hV, rfl, _, _⟩ := hW
  have hA : DataW.TrodAll enc Try.prog W 0 (fun _ => true) true Try.f7.params.toList args.toList ds p := hA0
  rw [Try.params7] at hA hval
  obtain ⟨v0, d0, rfl, rfl, h0⟩ := trodAll_one hA
  obtain ⟨rfl, rfl⟩ := trodVars_none hV
  obtain ⟨A, n, c, rfl, m0, l0, b0⟩ := in_bytes Try.underlying22 Try.underlying5 (by kernel_rfl) (hval 0 _ v0 rfl rfl) h0
  refine (lawLeader m0 l0 b0).mono fun e W' ⟨he, hb⟩ => ⟨_, he, ?_⟩
  exact law_post (tb := 4) Try.laidOut (by kernel_rfl) rfl Try.underlying4 rfl hW' rfl hb

theorem pLeader_holds : Rows.FnLeaderSaid :=
  OpenClaim.holds_of_wide 7 Try.f7 rfl rfl rfl rfl rfl rfl rfl ⟨rfl, rfl, rfl, rfl, rfl⟩ rfl rfl rfl rfl rfl (by kernel_rfl) Try.func7 pLeader_closed
    (of_decide_eq_true (by kernel_rfl)) (by unfold Func.isWrapper; first | (rw [if_pos (by decide +kernel)]; kernel_rfl) | (rw [if_neg (by decide +kernel)]; exact ⟨rfl, rfl⟩))
    (fun os started H enc _ => pLeader_lifted os started H enc)
#print axioms pLeader_holds
end Go.Proofs.Ytephmhgjhjheaaa
