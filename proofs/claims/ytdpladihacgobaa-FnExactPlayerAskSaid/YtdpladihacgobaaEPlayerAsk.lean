/- The exact law of PlayerAsk holds of all that comes in. -/
import Derived.Test.YtdpladihacgobaaMB
import Derived.Test.YtdpladihacgobaaFx
import Derived.Test.YtdpladihacgobaaFy
import Derived.Test.YtdpladihacgobaaFz
import Derived.Test.YtdpladihacgobaaFw
import Derived.Test.YtdpladihacgobaaNm
namespace Go.Proofs.Ytdpladihacgobaa
open Go.ChangeShapes Go.WideShapes Go.ChangeAt Go.RowKit Go.Deep

theorem xPlayerAsk_k1 : (Rows.fnExactPlayerAskRow.wf (OpenSpec.ofChange Rows.fnExactPlayerAskSpec)) = true := by kernel_rfl
theorem xPlayerAsk_k4 : (Try.f9.params.all (Try.prog.readableRec ·)) = true := by kernel_rfl
theorem xPlayerAsk_k5 : (namedTie Try.prog Rows.fnExactPlayerAskRow.named Rows.fnExactPlayerAskSpec.vars) = true := by kernel_rfl
theorem xPlayerAsk_k6 : ((Rows.fnExactPlayerAskRow.stops == [])) = true := by kernel_rfl
theorem xPlayerAsk_k8 : ((Rows.fnExactPlayerAskRow.knobs == [])) = true := by kernel_rfl
theorem xPlayerAsk_k10 : ((Rows.fnExactPlayerAskRow.inPlace == Try.prog.inPlace 9)) = true := by kernel_rfl
theorem xPlayerAsk_k11 : ((Rows.fnExactPlayerAskRow.unfollowed == Try.prog.unfollowed 9)) = true := by kernel_rfl
theorem xPlayerAsk_k12 : ((Rows.fnExactPlayerAskRow.recurses == Try.prog.recurses 9)) = true := by kernel_rfl
theorem xPlayerAsk_k13 : ((Rows.fnExactPlayerAskRow.named == Try.prog.varsNamed 9)) = true := by kernel_rfl
theorem xPlayerAsk_k14 : ((Rows.fnExactPlayerAskRow.maps == (Try.f9.params.toList ++ Rows.fnExactPlayerAskSpec.plain.varTypes Try.prog).any (Try.prog.mapsRec ·))) = true := by kernel_rfl
theorem xPlayerAsk_k15 : ((Rows.fnExactPlayerAskRow.ifaces == (Try.f9.params.toList ++ Rows.fnExactPlayerAskSpec.plain.varTypes Try.prog).any (Try.prog.ifacesRec ·))) = true := by kernel_rfl
theorem xPlayerAsk_k16 : ((Rows.fnExactPlayerAskRow.mapsOut == Try.prog.mapsAmong Try.f9.resultTypes.toList)) = true := by kernel_rfl
theorem xPlayerAsk_k17 : ((Rows.fnExactPlayerAskRow.loops == (Try.f9.params.toList ++ Rows.fnExactPlayerAskSpec.plain.varTypes Try.prog).any (Try.prog.loopsFrom ·))) = true := by kernel_rfl
theorem xPlayerAsk_k18 : ((Rows.fnExactPlayerAskRow.wideKeys == (Try.f9.params.toList ++ Rows.fnExactPlayerAskSpec.plain.varTypes Try.prog ++ Try.f9.resultTypes.toList).any (Try.prog.wideKeysFrom ·))) = true := by kernel_rfl
theorem xPlayerAsk_k19 : (Rows.fnExactPlayerAskSpec.vars.all (Try.prog.varReadable ·)) = true := by kernel_rfl
theorem xPlayerAsk_k20 : (Try.f9.resultTypes.all (fun t => Try.prog.readableRec t && decide (t < Try.prog.types.size))) = true := by kernel_rfl
theorem xPlayerAsk_k21 : ((Rows.fnExactPlayerAskRow.ifacesOut == Try.f9.resultTypes.toList.any (Try.prog.ifacesRec ·))) = true := by kernel_rfl
theorem xPlayerAsk_k22 : ((Rows.fnExactPlayerAskRow.loopsOut == Try.f9.resultTypes.toList.any (Try.prog.loopsFrom ·))) = true := by kernel_rfl
theorem xPlayerAsk_k24 : (Rows.fnExactPlayerAskRow.shortTexts.isNone) = true := by kernel_rfl
theorem xPlayerAsk_k30 : ((Rows.fnExactPlayerAskRow.pinned == Rows.fnExactPlayerAskRow.pinnedBy)) = true := by kernel_rfl
theorem xPlayerAsk_k31 : ((Rows.fnExactPlayerAskRow.veiled == (Try.f9.params.toList ++ Rows.fnExactPlayerAskSpec.plain.varTypes Try.prog ++ Try.f9.resultTypes.toList).any (Try.prog.veiledRec ·))) = true := by kernel_rfl
theorem xPlayerAsk_k32 : (Rows.fnExactPlayerAskRow.veiledFits Try.prog Try.f9.params.toList (Try.f9.params.toList ++ Rows.fnExactPlayerAskSpec.plain.varTypes Try.prog ++ Try.f9.resultTypes.toList)) = true := by kernel_rfl
theorem xPlayerAsk_closed : joinedFacts Try.prog 9 Try.f9 Rows.fnExactPlayerAskSpec Rows.fnExactPlayerAskRow = true :=
  facts_of xPlayerAsk_k1 Try.f_laid Try.f_maps xPlayerAsk_k4 xPlayerAsk_k5 xPlayerAsk_k6 Try.f_stops xPlayerAsk_k8 Try.f_knobs xPlayerAsk_k10 xPlayerAsk_k11 xPlayerAsk_k12 xPlayerAsk_k13 xPlayerAsk_k14 xPlayerAsk_k15 xPlayerAsk_k16 xPlayerAsk_k17 xPlayerAsk_k18 xPlayerAsk_k19 xPlayerAsk_k20 xPlayerAsk_k21 xPlayerAsk_k22 (by kernel_rfl) xPlayerAsk_k24 Try.f_heard Try.f_enter Try.f_lifts Try.f_make rfl rfl xPlayerAsk_k30 xPlayerAsk_k31 xPlayerAsk_k32

set_option maxRecDepth 100000 in
theorem xPlayerAsk_lifted (os : Os) (started : os.Started) (H : Type) (enc : TypeId × Value → H) :
    ReturnsInHanded {} Try.checked os 9 .any (Rows.fnExactPlayerAskSpec.pre6 enc Try.prog Try.f9 Rows.fnExactPlayerAskRow.domain false) (Rows.fnExactPlayerAskSpec.post enc Try.prog Try.f9 false true false false) := by
  refine returnsInHanded_of_change (C := Try.checked) Try.own started (by kernel_rfl) Try.func9
    (ChangeSpec.witness6 (enc := enc) (C := Try.checked) false ⟨#[], #[.agg #[.int .i64 0, .int .i64 0, .int .i64 0, .int .i64 0, .int .i64 0, .slice none 0 0], .agg #[.int .i64 0, .int .i64 0, .int .i64 0, .int .i64 0, .int .i64 0]], []⟩ 8 (by kernel_rfl) (by kernel_rfl) (by kernel_rfl) (by kernel_rfl)) ?_
  intro W base args ds gs before hval0 hW _ _
  have hval : ∀ (j : Nat) t v, Try.f9.params[j]? = some t → args[j]? = some v → Value.okWide Try.prog W .any base t v := hval0
  have hW' := hW
  obtain ⟨p, q, hA0, hV, rfl, _, _⟩ := hW
  have hA : DataW.TrodAll enc Try.prog W 0 (fun _ => true) true Try.f9.params.toList args.toList ds p := hA0
  rw [Try.params9] at hA hval
  obtain ⟨v0, v1, d0, d1, p0, p1, rfl, rfl, rfl, h0, h1⟩ := trodAll_two hA
  obtain ⟨rfl, rfl⟩ := trodVars_none hV
  obtain ⟨q, A, a, L, rfl, m0, r0⟩ := in_player (hval 0 _ v0 rfl rfl) h0
  obtain ⟨rc, rn, ro, rx, ry, rfl⟩ := req_of_trod (hval 1 _ v1 rfl rfl) h1
  refine (exactPlayerAsk q A a L ⟨rc, rn, ro, rx, ry⟩ _ m0 r0).mono fun e W' ⟨he, hb⟩ => ⟨_, he, ?_⟩
  exact law_post (tb := 4) Try.laidOut (by kernel_rfl) rfl Try.underlying4 rfl hW' rfl hb

theorem xPlayerAsk_holds : Rows.FnExactPlayerAskSaid :=
  OpenClaim.holds_of_wide 9 Try.f9 rfl rfl rfl rfl rfl rfl rfl ⟨rfl, rfl, rfl, rfl, rfl⟩ rfl rfl rfl rfl rfl (by kernel_rfl) Try.func9 xPlayerAsk_closed
    (of_decide_eq_true (by kernel_rfl)) (by unfold Func.isWrapper; first | (rw [if_pos (by decide +kernel)]; kernel_rfl) | (rw [if_neg (by decide +kernel)]; exact ⟨rfl, rfl⟩))
    (fun os started H enc _ => xPlayerAsk_lifted os started H enc)
#print axioms xPlayerAsk_holds
end Go.Proofs.Ytdpladihacgobaa
