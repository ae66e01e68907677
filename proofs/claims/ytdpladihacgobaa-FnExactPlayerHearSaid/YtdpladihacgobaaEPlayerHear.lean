/- The exact law of PlayerHear holds of all that comes in. -/
import Derived.Test.YtdpladihacgobaaMB
import Derived.Test.YtdpladihacgobaaFx
import Derived.Test.YtdpladihacgobaaFy
import Derived.Test.YtdpladihacgobaaFz
import Derived.Test.YtdpladihacgobaaFw
import Derived.Test.YtdpladihacgobaaNl
namespace Go.Proofs.Ytdpladihacgobaa
open Go.ChangeShapes Go.WideShapes Go.ChangeAt Go.RowKit Go.Deep

theorem xPlayerHear_k1 : (Rows.fnExactPlayerHearRow.wf (OpenSpec.ofChange Rows.fnExactPlayerHearSpec)) = true := by kernel_rfl
theorem xPlayerHear_k4 : (Try.f7.params.all (Try.prog.readableRec ·)) = true := by kernel_rfl
theorem xPlayerHear_k5 : (namedTie Try.prog Rows.fnExactPlayerHearRow.named Rows.fnExactPlayerHearSpec.vars) = true := by kernel_rfl
theorem xPlayerHear_k6 : ((Rows.fnExactPlayerHearRow.stops == [])) = true := by kernel_rfl
theorem xPlayerHear_k8 : ((Rows.fnExactPlayerHearRow.knobs == [])) = true := by kernel_rfl
theorem xPlayerHear_k10 : ((Rows.fnExactPlayerHearRow.inPlace == Try.prog.inPlace 7)) = true := by kernel_rfl
theorem xPlayerHear_k11 : ((Rows.fnExactPlayerHearRow.unfollowed == Try.prog.unfollowed 7)) = true := by kernel_rfl
theorem xPlayerHear_k12 : ((Rows.fnExactPlayerHearRow.recurses == Try.prog.recurses 7)) = true := by kernel_rfl
theorem xPlayerHear_k13 : ((Rows.fnExactPlayerHearRow.named == Try.prog.varsNamed 7)) = true := by kernel_rfl
theorem xPlayerHear_k14 : ((Rows.fnExactPlayerHearRow.maps == (Try.f7.params.toList ++ Rows.fnExactPlayerHearSpec.plain.varTypes Try.prog).any (Try.prog.mapsRec ·))) = true := by kernel_rfl
theorem xPlayerHear_k15 : ((Rows.fnExactPlayerHearRow.ifaces == (Try.f7.params.toList ++ Rows.fnExactPlayerHearSpec.plain.varTypes Try.prog).any (Try.prog.ifacesRec ·))) = true := by kernel_rfl
theorem xPlayerHear_k16 : ((Rows.fnExactPlayerHearRow.mapsOut == Try.prog.mapsAmong Try.f7.resultTypes.toList)) = true := by kernel_rfl
theorem xPlayerHear_k17 : ((Rows.fnExactPlayerHearRow.loops == (Try.f7.params.toList ++ Rows.fnExactPlayerHearSpec.plain.varTypes Try.prog).any (Try.prog.loopsFrom ·))) = true := by kernel_rfl
theorem xPlayerHear_k18 : ((Rows.fnExactPlayerHearRow.wideKeys == (Try.f7.params.toList ++ Rows.fnExactPlayerHearSpec.plain.varTypes Try.prog ++ Try.f7.resultTypes.toList).any (Try.prog.wideKeysFrom ·))) = true := by kernel_rfl
theorem xPlayerHear_k19 : (Rows.fnExactPlayerHearSpec.vars.all (Try.prog.varReadable ·)) = true := by kernel_rfl
theorem xPlayerHear_k20 : (Try.f7.resultTypes.all (fun t => Try.prog.readableRec t && decide (t < Try.prog.types.size))) = true := by kernel_rfl
theorem xPlayerHear_k21 : ((Rows.fnExactPlayerHearRow.ifacesOut == Try.f7.resultTypes.toList.any (Try.prog.ifacesRec ·))) = true := by kernel_rfl
theorem xPlayerHear_k22 : ((Rows.fnExactPlayerHearRow.loopsOut == Try.f7.resultTypes.toList.any (Try.prog.loopsFrom ·))) = true := by kernel_rfl
theorem xPlayerHear_k24 : (Rows.fnExactPlayerHearRow.shortTexts.isNone) = true := by kernel_rfl
theorem xPlayerHear_k30 : ((Rows.fnExactPlayerHearRow.pinned == Rows.fnExactPlayerHearRow.pinnedBy)) = true := by kernel_rfl
theorem xPlayerHear_k31 : ((Rows.fnExactPlayerHearRow.veiled == (Try.f7.params.toList ++ Rows.fnExactPlayerHearSpec.plain.varTypes Try.prog ++ Try.f7.resultTypes.toList).any (Try.prog.veiledRec ·))) = true := by kernel_rfl
theorem xPlayerHear_k32 : (Rows.fnExactPlayerHearRow.veiledFits Try.prog Try.f7.params.toList (Try.f7.params.toList ++ Rows.fnExactPlayerHearSpec.plain.varTypes Try.prog ++ Try.f7.resultTypes.toList)) = true := by kernel_rfl
theorem xPlayerHear_closed : joinedFacts Try.prog 7 Try.f7 Rows.fnExactPlayerHearSpec Rows.fnExactPlayerHearRow = true :=
  facts_of xPlayerHear_k1 Try.f_laid Try.f_maps xPlayerHear_k4 xPlayerHear_k5 xPlayerHear_k6 Try.f_stops xPlayerHear_k8 Try.f_knobs xPlayerHear_k10 xPlayerHear_k11 xPlayerHear_k12 xPlayerHear_k13 xPlayerHear_k14 xPlayerHear_k15 xPlayerHear_k16 xPlayerHear_k17 xPlayerHear_k18 xPlayerHear_k19 xPlayerHear_k20 xPlayerHear_k21 xPlayerHear_k22 (by kernel_rfl) xPlayerHear_k24 Try.f_heard Try.f_enter Try.f_lifts Try.f_make rfl rfl xPlayerHear_k30 xPlayerHear_k31 xPlayerHear_k32

set_option maxRecDepth 100000 in
theorem xPlayerHear_lifted (os : Os) (started : os.Started) (H : Type) (enc : TypeId × Value → H) :
    ReturnsInHanded {} Try.checked os 7 .any (Rows.fnExactPlayerHearSpec.pre6 enc Try.prog Try.f7 Rows.fnExactPlayerHearRow.domain false) (Rows.fnExactPlayerHearSpec.post enc Try.prog Try.f7 false true false false) := by
  refine returnsInHanded_of_change (C := Try.checked) Try.own started (by kernel_rfl) Try.func7
    (ChangeSpec.witness6 (enc := enc) (C := Try.checked) false ⟨#[], #[.agg #[.int .i64 0, .int .i64 0, .int .i64 0, .int .i64 0, .int .i64 0, .slice none 0 0], .agg #[.int .i64 0, .int .i64 0, .int .i64 0, .int .i64 0]], []⟩ 8 (by kernel_rfl) (by kernel_rfl) (by kernel_rfl) (by kernel_rfl)) ?_
  intro W base args ds gs before hval0 hW _ _
  have hval : ∀ (j : Nat) t v, Try.f7.params[j]? = some t → args[j]? = some v → Value.okWide Try.prog W .any base t v := hval0
  have hW' := hW
  obtain ⟨p, q, hA0, hV, rfl, _, _⟩ := hW
  have hA : DataW.TrodAll enc Try.prog W 0 (fun _ => true) true Try.f7.params.toList args.toList ds p := hA0
  rw [Try.params7] at hA hval
  obtain ⟨v0, v1, d0, d1, p0, p1, rfl, rfl, rfl, h0, h1⟩ := trodAll_two hA
  obtain ⟨rfl, rfl⟩ := trodVars_none hV
  obtain ⟨q, A, a, L, rfl, m0, r0⟩ := in_player (hval 0 _ v0 rfl rfl) h0
  obtain ⟨r, rfl⟩ := in_reply (hval 1 _ v1 rfl rfl) h1
  refine (exactPlayerHear q A a L r _ m0 r0).mono fun e W' ⟨he, hb⟩ => ⟨_, he, ?_⟩
  exact law_post (tb := 4) Try.laidOut (by kernel_rfl) rfl Try.underlying4 rfl hW' rfl hb

theorem xPlayerHear_holds : Rows.FnExactPlayerHearSaid :=
  OpenClaim.holds_of_wide 7 Try.f7 rfl rfl rfl rfl rfl rfl rfl ⟨rfl, rfl, rfl, rfl, rfl⟩ rfl rfl rfl rfl rfl (by kernel_rfl) Try.func7 xPlayerHear_closed
    (of_decide_eq_true (by kernel_rfl)) (by unfold Func.isWrapper; first | (rw [if_pos (by decide +kernel)]; kernel_rfl) | (rw [if_neg (by decide +kernel)]; exact ⟨rfl, rfl⟩))
    (fun os started H enc _ => xPlayerHear_lifted os started H enc)
#print axioms xPlayerHear_holds
end Go.Proofs.Ytdpladihacgobaa
