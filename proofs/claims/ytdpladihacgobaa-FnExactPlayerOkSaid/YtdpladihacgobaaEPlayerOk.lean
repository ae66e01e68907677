/- The exact law of PlayerOk holds of all that comes in. -/
import Derived.Test.YtdpladihacgobaaMB
import Derived.Test.YtdpladihacgobaaFx
import Derived.Test.YtdpladihacgobaaFy
import Derived.Test.YtdpladihacgobaaFz
import Derived.Test.YtdpladihacgobaaFw
import Derived.Test.YtdpladihacgobaaNe
namespace Go.Proofs.Ytdpladihacgobaa
open Go.ChangeShapes Go.WideShapes Go.ChangeAt Go.RowKit Go.Deep

theorem xPlayerOk_k1 : (Rows.fnExactPlayerOkRow.wf (OpenSpec.ofChange Rows.fnExactPlayerOkSpec)) = true := by kernel_rfl
theorem xPlayerOk_k4 : (Try.f6.params.all (Try.prog.readableRec ·)) = true := by kernel_rfl
theorem xPlayerOk_k5 : (namedTie Try.prog Rows.fnExactPlayerOkRow.named Rows.fnExactPlayerOkSpec.vars) = true := by kernel_rfl
theorem xPlayerOk_k6 : ((Rows.fnExactPlayerOkRow.stops == [])) = true := by kernel_rfl
theorem xPlayerOk_k8 : ((Rows.fnExactPlayerOkRow.knobs == [])) = true := by kernel_rfl
theorem xPlayerOk_k10 : ((Rows.fnExactPlayerOkRow.inPlace == Try.prog.inPlace 6)) = true := by kernel_rfl
theorem xPlayerOk_k11 : ((Rows.fnExactPlayerOkRow.unfollowed == Try.prog.unfollowed 6)) = true := by kernel_rfl
theorem xPlayerOk_k12 : ((Rows.fnExactPlayerOkRow.recurses == Try.prog.recurses 6)) = true := by kernel_rfl
theorem xPlayerOk_k13 : ((Rows.fnExactPlayerOkRow.named == Try.prog.varsNamed 6)) = true := by kernel_rfl
theorem xPlayerOk_k14 : ((Rows.fnExactPlayerOkRow.maps == (Try.f6.params.toList ++ Rows.fnExactPlayerOkSpec.plain.varTypes Try.prog).any (Try.prog.mapsRec ·))) = true := by kernel_rfl
theorem xPlayerOk_k15 : ((Rows.fnExactPlayerOkRow.ifaces == (Try.f6.params.toList ++ Rows.fnExactPlayerOkSpec.plain.varTypes Try.prog).any (Try.prog.ifacesRec ·))) = true := by kernel_rfl
theorem xPlayerOk_k16 : ((Rows.fnExactPlayerOkRow.mapsOut == Try.prog.mapsAmong Try.f6.resultTypes.toList)) = true := by kernel_rfl
theorem xPlayerOk_k17 : ((Rows.fnExactPlayerOkRow.loops == (Try.f6.params.toList ++ Rows.fnExactPlayerOkSpec.plain.varTypes Try.prog).any (Try.prog.loopsFrom ·))) = true := by kernel_rfl
theorem xPlayerOk_k18 : ((Rows.fnExactPlayerOkRow.wideKeys == (Try.f6.params.toList ++ Rows.fnExactPlayerOkSpec.plain.varTypes Try.prog ++ Try.f6.resultTypes.toList).any (Try.prog.wideKeysFrom ·))) = true := by kernel_rfl
theorem xPlayerOk_k19 : (Rows.fnExactPlayerOkSpec.vars.all (Try.prog.varReadable ·)) = true := by kernel_rfl
theorem xPlayerOk_k20 : (Try.f6.resultTypes.all (fun t => Try.prog.readableRec t && decide (t < Try.prog.types.size))) = true := by kernel_rfl
theorem xPlayerOk_k21 : ((Rows.fnExactPlayerOkRow.ifacesOut == Try.f6.resultTypes.toList.any (Try.prog.ifacesRec ·))) = true := by kernel_rfl
theorem xPlayerOk_k22 : ((Rows.fnExactPlayerOkRow.loopsOut == Try.f6.resultTypes.toList.any (Try.prog.loopsFrom ·))) = true := by kernel_rfl
theorem xPlayerOk_k24 : (Rows.fnExactPlayerOkRow.shortTexts.isNone) = true := by kernel_rfl
theorem xPlayerOk_k30 : ((Rows.fnExactPlayerOkRow.pinned == Rows.fnExactPlayerOkRow.pinnedBy)) = true := by kernel_rfl
theorem xPlayerOk_k31 : ((Rows.fnExactPlayerOkRow.veiled == (Try.f6.params.toList ++ Rows.fnExactPlayerOkSpec.plain.varTypes Try.prog ++ Try.f6.resultTypes.toList).any (Try.prog.veiledRec ·))) = true := by kernel_rfl
theorem xPlayerOk_k32 : (Rows.fnExactPlayerOkRow.veiledFits Try.prog Try.f6.params.toList (Try.f6.params.toList ++ Rows.fnExactPlayerOkSpec.plain.varTypes Try.prog ++ Try.f6.resultTypes.toList)) = true := by kernel_rfl
theorem xPlayerOk_closed : joinedFacts Try.prog 6 Try.f6 Rows.fnExactPlayerOkSpec Rows.fnExactPlayerOkRow = true :=
  facts_of xPlayerOk_k1 Try.f_laid Try.f_maps xPlayerOk_k4 xPlayerOk_k5 xPlayerOk_k6 Try.f_stops xPlayerOk_k8 Try.f_knobs xPlayerOk_k10 xPlayerOk_k11 xPlayerOk_k12 xPlayerOk_k13 xPlayerOk_k14 xPlayerOk_k15 xPlayerOk_k16 xPlayerOk_k17 xPlayerOk_k18 xPlayerOk_k19 xPlayerOk_k20 xPlayerOk_k21 xPlayerOk_k22 (by kernel_rfl) xPlayerOk_k24 Try.f_heard Try.f_enter Try.f_lifts Try.f_make rfl rfl xPlayerOk_k30 xPlayerOk_k31 xPlayerOk_k32

set_option maxRecDepth 100000 in
theorem xPlayerOk_lifted (os : Os) (started : os.Started) (H : Type) (enc : TypeId × Value → H) :
    ReturnsInHanded {} Try.checked os 6 .any (Rows.fnExactPlayerOkSpec.pre6 enc Try.prog Try.f6 Rows.fnExactPlayerOkRow.domain false) (Rows.fnExactPlayerOkSpec.post enc Try.prog Try.f6 false true false false) := by
  refine returnsInHanded_of_change (C := Try.checked) Try.own started (by kernel_rfl) Try.func6
    (ChangeSpec.witness6 (enc := enc) (C := Try.checked) false ⟨#[], #[.agg #[.int .i64 0, .int .i64 0, .int .i64 0, .int .i64 0, .int .i64 0, .slice none 0 0]], []⟩ 8 (by kernel_rfl) (by kernel_rfl) (by kernel_rfl) (by kernel_rfl)) ?_
  intro W base args ds gs before hval0 hW _ _
  have hval : ∀ (j : Nat) t v, Try.f6.params[j]? = some t → args[j]? = some v → Value.okWide Try.prog W .any base t v := hval0
  have hW' := hW
  obtain ⟨p, q, hA0, hV, rfl, _, _⟩ := hW
  have hA : DataW.TrodAll enc Try.prog W 0 (fun _ => true) true Try.f6.params.toList args.toList ds p := hA0
  rw [Try.params6] at hA hval
  obtain ⟨v0, d0, rfl, rfl, h0⟩ := trodAll_one hA
  obtain ⟨rfl, rfl⟩ := trodVars_none hV
  obtain ⟨q, A, a, L, rfl, m0, r0⟩ := in_player (hval 0 _ v0 rfl rfl) h0
  refine (exactPlayerOk q A a L _ m0 r0).mono fun e W' ⟨he, hb⟩ => ⟨_, he, ?_⟩
  exact law_post (tb := 4) Try.laidOut (by kernel_rfl) rfl Try.underlying4 rfl hW' rfl hb

theorem xPlayerOk_holds : Rows.FnExactPlayerOkSaid :=
  OpenClaim.holds_of_wide 6 Try.f6 rfl rfl rfl rfl rfl rfl rfl ⟨rfl, rfl, rfl, rfl, rfl⟩ rfl rfl rfl rfl rfl (by kernel_rfl) Try.func6 xPlayerOk_closed
    (of_decide_eq_true (by kernel_rfl)) (by unfold Func.isWrapper; first | (rw [if_pos (by decide +kernel)]; kernel_rfl) | (rw [if_neg (by decide +kernel)]; exact ⟨rfl, rfl⟩))
    (fun os started H enc _ => xPlayerOk_lifted os started H enc)
#print axioms xPlayerOk_holds
end Go.Proofs.Ytdpladihacgobaa
