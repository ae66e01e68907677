/- Leader, at every number: the program's answer is the model's. No condition. -/
import Derived.Test.YtephmhgjhjheaaaLaw
import Derived.Test.YtephmhgjhjheaaaRq
import Derived.Test.YtephmhgjhjheaaaFx
import Derived.Test.YtephmhgjhjheaaaFy
import Derived.Test.YtephmhgjhjheaaaFz
import Derived.Test.YtephmhgjhjheaaaFw
import Derived.Test.YtephmhgjhjheaaaLd
namespace Go.Proofs.Ytephmhgjhjheaaa
open Go.ChangeShapes Go.WideShapes Go.ChangeAt Go.RowKit Go.Deep

theorem xLeader_k1 : (Rows.fnExactLeaderRow.wf (OpenSpec.ofChange Rows.fnExactLeaderSpec)) = true := by kernel_rfl
theorem xLeader_k4 : (Try.f12.params.all (Try.prog.readableRec ·)) = true := by kernel_rfl
theorem xLeader_k5 : (namedTie Try.prog Rows.fnExactLeaderRow.named Rows.fnExactLeaderSpec.vars) = true := by kernel_rfl
theorem xLeader_k6 : ((Rows.fnExactLeaderRow.stops == [])) = true := by kernel_rfl
theorem xLeader_k8 : ((Rows.fnExactLeaderRow.knobs == [])) = true := by kernel_rfl
theorem xLeader_k10 : ((Rows.fnExactLeaderRow.inPlace == Try.prog.inPlace 12)) = true := by kernel_rfl
theorem xLeader_k11 : ((Rows.fnExactLeaderRow.unfollowed == Try.prog.unfollowed 12)) = true := by kernel_rfl
theorem xLeader_k12 : ((Rows.fnExactLeaderRow.recurses == Try.prog.recurses 12)) = true := by kernel_rfl
theorem xLeader_k13 : ((Rows.fnExactLeaderRow.named == Try.prog.varsNamed 12)) = true := by kernel_rfl
theorem xLeader_k14 : ((Rows.fnExactLeaderRow.maps == (Try.f12.params.toList ++ Rows.fnExactLeaderSpec.plain.varTypes Try.prog).any (Try.prog.mapsRec ·))) = true := by kernel_rfl
theorem xLeader_k15 : ((Rows.fnExactLeaderRow.ifaces == (Try.f12.params.toList ++ Rows.fnExactLeaderSpec.plain.varTypes Try.prog).any (Try.prog.ifacesRec ·))) = true := by kernel_rfl
theorem xLeader_k16 : ((Rows.fnExactLeaderRow.mapsOut == Try.prog.mapsAmong Try.f12.resultTypes.toList)) = true := by kernel_rfl
theorem xLeader_k17 : ((Rows.fnExactLeaderRow.loops == (Try.f12.params.toList ++ Rows.fnExactLeaderSpec.plain.varTypes Try.prog).any (Try.prog.loopsFrom ·))) = true := by kernel_rfl
theorem xLeader_k18 : ((Rows.fnExactLeaderRow.wideKeys == (Try.f12.params.toList ++ Rows.fnExactLeaderSpec.plain.varTypes Try.prog ++ Try.f12.resultTypes.toList).any (Try.prog.wideKeysFrom ·))) = true := by kernel_rfl
theorem xLeader_k19 : (Rows.fnExactLeaderSpec.vars.all (Try.prog.varReadable ·)) = true := by kernel_rfl
theorem xLeader_k20 : (Try.f12.resultTypes.all (fun t => Try.prog.readableRec t && decide (t < Try.prog.types.size))) = true := by kernel_rfl
theorem xLeader_k21 : ((Rows.fnExactLeaderRow.ifacesOut == Try.f12.resultTypes.toList.any (Try.prog.ifacesRec ·))) = true := by kernel_rfl
theorem xLeader_k22 : ((Rows.fnExactLeaderRow.loopsOut == Try.f12.resultTypes.toList.any (Try.prog.loopsFrom ·))) = true := by kernel_rfl
theorem xLeader_k24 : (Rows.fnExactLeaderRow.shortTexts.isNone) = true := by kernel_rfl
theorem xLeader_k30 : ((Rows.fnExactLeaderRow.pinned == Rows.fnExactLeaderRow.pinnedBy)) = true := by kernel_rfl
theorem xLeader_k31 : ((Rows.fnExactLeaderRow.veiled == (Try.f12.params.toList ++ Rows.fnExactLeaderSpec.plain.varTypes Try.prog ++ Try.f12.resultTypes.toList).any (Try.prog.veiledRec ·))) = true := by kernel_rfl
theorem xLeader_k32 : (Rows.fnExactLeaderRow.veiledFits Try.prog Try.f12.params.toList (Try.f12.params.toList ++ Rows.fnExactLeaderSpec.plain.varTypes Try.prog ++ Try.f12.resultTypes.toList)) = true := by kernel_rfl
theorem xLeader_closed : joinedFacts Try.prog 12 Try.f12 Rows.fnExactLeaderSpec Rows.fnExactLeaderRow = true :=
  facts_of xLeader_k1 Try.f_laid Try.f_maps xLeader_k4 xLeader_k5 xLeader_k6 Try.f_stops xLeader_k8 Try.f_knobs xLeader_k10 xLeader_k11 xLeader_k12 xLeader_k13 xLeader_k14 xLeader_k15 xLeader_k16 xLeader_k17 xLeader_k18 xLeader_k19 xLeader_k20 xLeader_k21 xLeader_k22 Try.f_keys xLeader_k24 Try.f_heard Try.f_enter Try.f_lifts Try.f_make rfl rfl xLeader_k30 xLeader_k31 xLeader_k32

set_option maxRecDepth 100000 in
theorem xLeader_lifted (os : Os) (started : os.Started) (H : Type) (enc : TypeId × Value → H) :
    ReturnsInHanded {} Try.checked os 12 .any (Rows.fnExactLeaderSpec.pre6 enc Try.prog Try.f12 Rows.fnExactLeaderRow.domain false) (Rows.fnExactLeaderSpec.post enc Try.prog Try.f12 false true false false) := by
  refine returnsInHanded_of_change (C := Try.checked) Try.own started (by kernel_rfl) Try.func12
    (ChangeSpec.witness6 (enc := enc) (C := Try.checked) false ⟨#[], #[.int .i64 0], []⟩ 8 (by kernel_rfl) (by kernel_rfl) (by kernel_rfl) (by kernel_rfl)) ?_
  intro W base args ds gs before hval0 hW _ _
  have hval : ∀ (j : Nat) t v, Try.f12.params[j]? = some t → args[j]? = some v → Value.okWide Try.prog W .any base t v := hval0
  have hW' := hW
  obtain ⟨p, q, hA0, hV, rfl, _, _⟩ := hW
  have hA : DataW.TrodAll enc Try.prog W 0 (fun _ => true) true Try.f12.params.toList args.toList ds p := hA0
  rw [Try.params12] at hA hval
  obtain ⟨v0, d0, rfl, rfl, h0⟩ := trodAll_one hA
  obtain ⟨rfl, rfl⟩ := trodVars_none hV
  obtain ⟨n, rfl, _⟩ := open_int Try.underlying3 (hval 0 _ v0 rfl rfl) h0
  refine (exactLeader n W).mono fun e W' ⟨he, hb⟩ => ⟨_, he, ?_⟩
  exact law_post (tb := 4) Try.laidOut (by kernel_rfl) rfl Try.underlying4 rfl hW' rfl hb

theorem xLeader_holds : Rows.FnExactLeaderSaid :=
  OpenClaim.holds_of_wide 12 Try.f12 rfl rfl rfl rfl rfl rfl rfl ⟨rfl, rfl, rfl, rfl, rfl⟩ rfl rfl rfl rfl rfl (by kernel_rfl) Try.func12 xLeader_closed
    (of_decide_eq_true (by kernel_rfl)) (by unfold Func.isWrapper; first | (rw [if_pos (by decide +kernel)]; kernel_rfl) | (rw [if_neg (by decide +kernel)]; exact ⟨rfl, rfl⟩))
    (fun os started H enc _ => xLeader_lifted os started H enc)
#print axioms xLeader_holds
end Go.Proofs.Ytephmhgjhjheaaa
