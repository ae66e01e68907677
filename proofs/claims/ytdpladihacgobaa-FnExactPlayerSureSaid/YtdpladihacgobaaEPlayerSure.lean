/- The exact law of PlayerSure holds of all that comes in. -/
import Derived.Test.YtdpladihacgobaaMB
import Derived.Test.YtdpladihacgobaaFx
import Derived.Test.YtdpladihacgobaaFy
import Derived.Test.YtdpladihacgobaaFz
import Derived.Test.YtdpladihacgobaaFw
import Derived.Test.YtdpladihacgobaaNg
namespace Go.Proofs.Ytdpladihacgobaa
open Go.ChangeShapes Go.WideShapes Go.ChangeAt Go.RowKit Go.Deep

theorem xPlayerSure_k1 : (Rows.fnExactPlayerSureRow.wf (OpenSpec.ofChange Rows.fnExactPlayerSureSpec)) = true := by kernel_rfl
theorem xPlayerSure_k4 : (Try.f8.params.all (Try.prog.readableRec ·)) = true := by kernel_rfl
theorem xPlayerSure_k5 : (namedTie Try.prog Rows.fnExactPlayerSureRow.named Rows.fnExactPlayerSureSpec.vars) = true := by kernel_rfl
theorem xPlayerSure_k6 : ((Rows.fnExactPlayerSureRow.stops == [])) = true := by kernel_rfl
theorem xPlayerSure_k8 : ((Rows.fnExactPlayerSureRow.knobs == [])) = true := by kernel_rfl
theorem xPlayerSure_k10 : ((Rows.fnExactPlayerSureRow.inPlace == Try.prog.inPlace 8)) = true := by kernel_rfl
theorem xPlayerSure_k11 : ((Rows.fnExactPlayerSureRow.unfollowed == Try.prog.unfollowed 8)) = true := by kernel_rfl
theorem xPlayerSure_k12 : ((Rows.fnExactPlayerSureRow.recurses == Try.prog.recurses 8)) = true := by kernel_rfl
theorem xPlayerSure_k13 : ((Rows.fnExactPlayerSureRow.named == Try.prog.varsNamed 8)) = true := by kernel_rfl
theorem xPlayerSure_k14 : ((Rows.fnExactPlayerSureRow.maps == (Try.f8.params.toList ++ Rows.fnExactPlayerSureSpec.plain.varTypes Try.prog).any (Try.prog.mapsRec ·))) = true := by kernel_rfl
theorem xPlayerSure_k15 : ((Rows.fnExactPlayerSureRow.ifaces == (Try.f8.params.toList ++ Rows.fnExactPlayerSureSpec.plain.varTypes Try.prog).any (Try.prog.ifacesRec ·))) = true := by kernel_rfl
theorem xPlayerSure_k16 : ((Rows.fnExactPlayerSureRow.mapsOut == Try.prog.mapsAmong Try.f8.resultTypes.toList)) = true := by kernel_rfl
theorem xPlayerSure_k17 : ((Rows.fnExactPlayerSureRow.loops == (Try.f8.params.toList ++ Rows.fnExactPlayerSureSpec.plain.varTypes Try.prog).any (Try.prog.loopsFrom ·))) = true := by kernel_rfl
theorem xPlayerSure_k18 : ((Rows.fnExactPlayerSureRow.wideKeys == (Try.f8.params.toList ++ Rows.fnExactPlayerSureSpec.plain.varTypes Try.prog ++ Try.f8.resultTypes.toList).any (Try.prog.wideKeysFrom ·))) = true := by kernel_rfl
theorem xPlayerSure_k19 : (Rows.fnExactPlayerSureSpec.vars.all (Try.prog.varReadable ·)) = true := by kernel_rfl
theorem xPlayerSure_k20 : (Try.f8.resultTypes.all (fun t => Try.prog.readableRec t && decide (t < Try.prog.types.size))) = true := by kernel_rfl
theorem xPlayerSure_k21 : ((Rows.fnExactPlayerSureRow.ifacesOut == Try.f8.resultTypes.toList.any (Try.prog.ifacesRec ·))) = true := by kernel_rfl
theorem xPlayerSure_k22 : ((Rows.fnExactPlayerSureRow.loopsOut == Try.f8.resultTypes.toList.any (Try.prog.loopsFrom ·))) = true := by kernel_rfl
theorem xPlayerSure_k24 : (Rows.fnExactPlayerSureRow.shortTexts.isNone) = true := by kernel_rfl
theorem xPlayerSure_k30 : ((Rows.fnExactPlayerSureRow.pinned == Rows.fnExactPlayerSureRow.pinnedBy)) = true := by kernel_rfl
theorem xPlayerSure_k31 : ((Rows.fnExactPlayerSureRow.veiled == (Try.f8.params.toList ++ Rows.fnExactPlayerSureSpec.plain.varTypes Try.prog ++ Try.f8.resultTypes.toList).any (Try.prog.veiledRec ·))) = true := by kernel_rfl
theorem xPlayerSure_k32 : (Rows.fnExactPlayerSureRow.veiledFits Try.prog Try.f8.params.toList (Try.f8.params.toList ++ Rows.fnExactPlayerSureSpec.plain.varTypes Try.prog ++ Try.f8.resultTypes.toList)) = true := by kernel_rfl
theorem xPlayerSure_closed : joinedFacts Try.prog 8 Try.f8 Rows.fnExactPlayerSureSpec Rows.fnExactPlayerSureRow = true :=
  facts_of xPlayerSure_k1 Try.f_laid Try.f_maps xPlayerSure_k4 xPlayerSure_k5 xPlayerSure_k6 Try.f_stops xPlayerSure_k8 Try.f_knobs xPlayerSure_k10 xPlayerSure_k11 xPlayerSure_k12 xPlayerSure_k13 xPlayerSure_k14 xPlayerSure_k15 xPlayerSure_k16 xPlayerSure_k17 xPlayerSure_k18 xPlayerSure_k19 xPlayerSure_k20 xPlayerSure_k21 xPlayerSure_k22 (by kernel_rfl) xPlayerSure_k24 Try.f_heard Try.f_enter Try.f_lifts Try.f_make rfl rfl xPlayerSure_k30 xPlayerSure_k31 xPlayerSure_k32

set_option maxRecDepth 100000 in
theorem xPlayerSure_lifted (os : Os) (started : os.Started) (H : Type) (enc : TypeId × Value → H) :
    ReturnsInHanded {} Try.checked os 8 .any (Rows.fnExactPlayerSureSpec.pre6 enc Try.prog Try.f8 Rows.fnExactPlayerSureRow.domain false) (Rows.fnExactPlayerSureSpec.post enc Try.prog Try.f8 false true false false) := by
  refine returnsInHanded_of_change (C := Try.checked) Try.own started (by kernel_rfl) Try.func8
    (ChangeSpec.witness6 (enc := enc) (C := Try.checked) false ⟨#[], #[.agg #[.int .i64 0, .int .i64 0, .int .i64 0, .int .i64 0, .int .i64 0, .slice none 0 0]], []⟩ 8 (by kernel_rfl) (by kernel_rfl) (by kernel_rfl) (by kernel_rfl)) ?_
  intro W base args ds gs before hval0 hW _ _
  have hval : ∀ (j : Nat) t v, Try.f8.params[j]? = some t → args[j]? = some v → Value.okWide Try.prog W .any base t v := hval0
  have hW' := hW
  obtain ⟨p, q, hA0, hV, rfl, _, _⟩ := hW
  have hA : DataW.TrodAll enc Try.prog W 0 (fun _ => true) true Try.f8.params.toList args.toList ds p := hA0
  rw [Try.params8] at hA hval
  obtain ⟨v0, d0, rfl, rfl, h0⟩ := trodAll_one hA
  obtain ⟨rfl, rfl⟩ := trodVars_none hV
  obtain ⟨q, A, a, L, rfl, m0, r0⟩ := in_player (hval 0 _ v0 rfl rfl) h0
  refine (exactPlayerSure q A a L _ m0 r0).mono fun e W' ⟨he, hb⟩ => ⟨_, he, ?_⟩
  exact law_post (tb := 4) Try.laidOut (by kernel_rfl) rfl Try.underlying4 rfl hW' rfl hb

theorem xPlayerSure_holds : Rows.FnExactPlayerSureSaid :=
  OpenClaim.holds_of_wide 8 Try.f8 rfl rfl rfl rfl rfl rfl rfl ⟨rfl, rfl, rfl, rfl, rfl⟩ rfl rfl rfl rfl rfl (by kernel_rfl) Try.func8 xPlayerSure_closed
    (of_decide_eq_true (by kernel_rfl)) (by unfold Func.isWrapper; first | (rw [if_pos (by decide +kernel)]; kernel_rfl) | (rw [if_neg (by decide +kernel)]; exact ⟨rfl, rfl⟩))
    (fun os started H enc _ => xPlayerSure_lifted os started H enc)
#print axioms xPlayerSure_holds
end Go.Proofs.Ytdpladihacgobaa
