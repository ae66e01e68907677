/- What a player is sure of an honest keeper answered: of every code that comes in. -/
import Derived.Test.YtdpladihacgobaaMB
import Derived.Test.YtdpladihacgobaaFx
import Derived.Test.YtdpladihacgobaaFy
import Derived.Test.YtdpladihacgobaaFz
import Derived.Test.YtdpladihacgobaaFw
import Derived.Test.YtdpladihacgobaaMM
import Derived.Test.YtdpladihacgobaaNt
namespace Go.Proofs.Ytdpladihacgobaa
open Go.ChangeShapes Go.WideShapes Go.ChangeAt Go.RowKit Go.Deep

theorem pPlayerSure_k1 : (Rows.fnPlayerSureRow.wf (OpenSpec.ofChange Rows.fnPlayerSureSpec)) = true := by kernel_rfl
theorem pPlayerSure_k4 : (Try.f4.params.all (Try.prog.readableRec ·)) = true := by kernel_rfl
theorem pPlayerSure_k5 : (namedTie Try.prog Rows.fnPlayerSureRow.named Rows.fnPlayerSureSpec.vars) = true := by kernel_rfl
theorem pPlayerSure_k6 : ((Rows.fnPlayerSureRow.stops == [])) = true := by kernel_rfl
theorem pPlayerSure_k8 : ((Rows.fnPlayerSureRow.knobs == [])) = true := by kernel_rfl
theorem pPlayerSure_k10 : ((Rows.fnPlayerSureRow.inPlace == Try.prog.inPlace 4)) = true := by kernel_rfl
theorem pPlayerSure_k11 : ((Rows.fnPlayerSureRow.unfollowed == Try.prog.unfollowed 4)) = true := by kernel_rfl
theorem pPlayerSure_k12 : ((Rows.fnPlayerSureRow.recurses == Try.prog.recurses 4)) = true := by kernel_rfl
theorem pPlayerSure_k13 : ((Rows.fnPlayerSureRow.named == Try.prog.varsNamed 4)) = true := by kernel_rfl
theorem pPlayerSure_k14 : ((Rows.fnPlayerSureRow.maps == (Try.f4.params.toList ++ Rows.fnPlayerSureSpec.plain.varTypes Try.prog).any (Try.prog.mapsRec ·))) = true := by kernel_rfl
theorem pPlayerSure_k15 : ((Rows.fnPlayerSureRow.ifaces == (Try.f4.params.toList ++ Rows.fnPlayerSureSpec.plain.varTypes Try.prog).any (Try.prog.ifacesRec ·))) = true := by kernel_rfl
theorem pPlayerSure_k16 : ((Rows.fnPlayerSureRow.mapsOut == Try.prog.mapsAmong Try.f4.resultTypes.toList)) = true := by kernel_rfl
theorem pPlayerSure_k17 : ((Rows.fnPlayerSureRow.loops == (Try.f4.params.toList ++ Rows.fnPlayerSureSpec.plain.varTypes Try.prog).any (Try.prog.loopsFrom ·))) = true := by kernel_rfl
theorem pPlayerSure_k18 : ((Rows.fnPlayerSureRow.wideKeys == (Try.f4.params.toList ++ Rows.fnPlayerSureSpec.plain.varTypes Try.prog ++ Try.f4.resultTypes.toList).any (Try.prog.wideKeysFrom ·))) = true := by kernel_rfl
theorem pPlayerSure_k19 : (Rows.fnPlayerSureSpec.vars.all (Try.prog.varReadable ·)) = true := by kernel_rfl
theorem pPlayerSure_k20 : (Try.f4.resultTypes.all (fun t => Try.prog.readableRec t && decide (t < Try.prog.types.size))) = true := by kernel_rfl
theorem pPlayerSure_k21 : ((Rows.fnPlayerSureRow.ifacesOut == Try.f4.resultTypes.toList.any (Try.prog.ifacesRec ·))) = true := by kernel_rfl
theorem pPlayerSure_k22 : ((Rows.fnPlayerSureRow.loopsOut == Try.f4.resultTypes.toList.any (Try.prog.loopsFrom ·))) = true := by kernel_rfl
theorem pPlayerSure_k24 : (Rows.fnPlayerSureRow.shortTexts.isNone) = true := by kernel_rfl
theorem pPlayerSure_k30 : ((Rows.fnPlayerSureRow.pinned == Rows.fnPlayerSureRow.pinnedBy)) = true := by kernel_rfl
theorem pPlayerSure_k31 : ((Rows.fnPlayerSureRow.veiled == (Try.f4.params.toList ++ Rows.fnPlayerSureSpec.plain.varTypes Try.prog ++ Try.f4.resultTypes.toList).any (Try.prog.veiledRec ·))) = true := by kernel_rfl
theorem pPlayerSure_k32 : (Rows.fnPlayerSureRow.veiledFits Try.prog Try.f4.params.toList (Try.f4.params.toList ++ Rows.fnPlayerSureSpec.plain.varTypes Try.prog ++ Try.f4.resultTypes.toList)) = true := by kernel_rfl
theorem pPlayerSure_closed : joinedFacts Try.prog 4 Try.f4 Rows.fnPlayerSureSpec Rows.fnPlayerSureRow = true :=
  facts_of pPlayerSure_k1 Try.f_laid Try.f_maps pPlayerSure_k4 pPlayerSure_k5 pPlayerSure_k6 Try.f_stops pPlayerSure_k8 Try.f_knobs pPlayerSure_k10 pPlayerSure_k11 pPlayerSure_k12 pPlayerSure_k13 pPlayerSure_k14 pPlayerSure_k15 pPlayerSure_k16 pPlayerSure_k17 pPlayerSure_k18 pPlayerSure_k19 pPlayerSure_k20 pPlayerSure_k21 pPlayerSure_k22 (by kernel_rfl) pPlayerSure_k24 Try.f_heard Try.f_enter Try.f_lifts Try.f_make rfl rfl pPlayerSure_k30 pPlayerSure_k31 pPlayerSure_k32

set_option maxRecDepth 100000 in
theorem pPlayerSure_lifted (os : Os) (started : os.Started) (H : Type) (enc : TypeId × Value → H) :
    ReturnsInHanded {} Try.checked os 4 .any (Rows.fnPlayerSureSpec.pre6 enc Try.prog Try.f4 Rows.fnPlayerSureRow.domain false) (Rows.fnPlayerSureSpec.post enc Try.prog Try.f4 false true false false) := by
  refine returnsInHanded_of_change (C := Try.checked) Try.own started (by kernel_rfl) Try.func4
    (ChangeSpec.witness6 (enc := enc) (C := Try.checked) false ⟨#[], #[.slice none 0 0], []⟩ 8 (by kernel_rfl) (by kernel_rfl) (by kernel_rfl) (by kernel_rfl)) ?_
  intro W base args ds gs before hval0 hW _ _
  have hval : ∀ (j : Nat) t v, Try.f4.params[j]? = some t → args[j]? = some v → Value.okWide Try.prog W .any base t v := hval0
  have hW' := hW
  obtain ⟨p, q, hA0, hV, rfl, _, _⟩ := hW
  have hA : DataW.TrodAll enc Try.prog W 0 (fun _ => true) true Try.f4.params.toList args.toList ds p := hA0
  rw [Try.params4] at hA hval
  obtain ⟨v0, d0, rfl, rfl, h0⟩ := trodAll_one hA
  obtain ⟨rfl, rfl⟩ := trodVars_none hV
  obtain ⟨A, n, c, rfl, m0, l0, b0⟩ := in_bytes Try.underlying22 Try.underlying5 (by kernel_rfl) (hval 0 _ v0 rfl rfl) h0
  refine (lawPlayerSure A c n _ m0 l0 b0).mono fun e W' ⟨he, hb⟩ => ⟨_, he, ?_⟩
  exact law_post (tb := 4) Try.laidOut (by kernel_rfl) rfl Try.underlying4 rfl hW' rfl hb

theorem pPlayerSure_holds : Rows.FnPlayerSureSaid :=
  OpenClaim.holds_of_wide 4 Try.f4 rfl rfl rfl rfl rfl rfl rfl ⟨rfl, rfl, rfl, rfl, rfl⟩ rfl rfl rfl rfl rfl (by kernel_rfl) Try.func4 pPlayerSure_closed
    (of_decide_eq_true (by kernel_rfl)) (by unfold Func.isWrapper; first | (rw [if_pos (by decide +kernel)]; kernel_rfl) | (rw [if_neg (by decide +kernel)]; exact ⟨rfl, rfl⟩))
    (fun os started H enc _ => pPlayerSure_lifted os started H enc)
#print axioms pPlayerSure_holds
end Go.Proofs.Ytdpladihacgobaa
