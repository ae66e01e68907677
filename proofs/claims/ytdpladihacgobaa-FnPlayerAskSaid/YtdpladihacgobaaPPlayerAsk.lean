/- Who asks anew has no answers: of every code that comes in. -/
import Derived.Test.YtdpladihacgobaaMB
import Derived.Test.YtdpladihacgobaaFx
import Derived.Test.YtdpladihacgobaaFy
import Derived.Test.YtdpladihacgobaaFz
import Derived.Test.YtdpladihacgobaaFw
import Derived.Test.YtdpladihacgobaaMM
import Derived.Test.YtdpladihacgobaaNs
namespace Go.Proofs.Ytdpladihacgobaa
open Go.ChangeShapes Go.WideShapes Go.ChangeAt Go.RowKit Go.Deep

theorem pPlayerAsk_k1 : (Rows.fnPlayerAskRow.wf (OpenSpec.ofChange Rows.fnPlayerAskSpec)) = true := by kernel_rfl
theorem pPlayerAsk_k4 : (Try.f5.params.all (Try.prog.readableRec ·)) = true := by kernel_rfl
theorem pPlayerAsk_k5 : (namedTie Try.prog Rows.fnPlayerAskRow.named Rows.fnPlayerAskSpec.vars) = true := by kernel_rfl
theorem pPlayerAsk_k6 : ((Rows.fnPlayerAskRow.stops == [])) = true := by kernel_rfl
theorem pPlayerAsk_k8 : ((Rows.fnPlayerAskRow.knobs == [])) = true := by kernel_rfl
theorem pPlayerAsk_k10 : ((Rows.fnPlayerAskRow.inPlace == Try.prog.inPlace 5)) = true := by kernel_rfl
theorem pPlayerAsk_k11 : ((Rows.fnPlayerAskRow.unfollowed == Try.prog.unfollowed 5)) = true := by kernel_rfl
theorem pPlayerAsk_k12 : ((Rows.fnPlayerAskRow.recurses == Try.prog.recurses 5)) = true := by kernel_rfl
theorem pPlayerAsk_k13 : ((Rows.fnPlayerAskRow.named == Try.prog.varsNamed 5)) = true := by kernel_rfl
theorem pPlayerAsk_k14 : ((Rows.fnPlayerAskRow.maps == (Try.f5.params.toList ++ Rows.fnPlayerAskSpec.plain.varTypes Try.prog).any (Try.prog.mapsRec ·))) = true := by kernel_rfl
theorem pPlayerAsk_k15 : ((Rows.fnPlayerAskRow.ifaces == (Try.f5.params.toList ++ Rows.fnPlayerAskSpec.plain.varTypes Try.prog).any (Try.prog.ifacesRec ·))) = true := by kernel_rfl
theorem pPlayerAsk_k16 : ((Rows.fnPlayerAskRow.mapsOut == Try.prog.mapsAmong Try.f5.resultTypes.toList)) = true := by kernel_rfl
theorem pPlayerAsk_k17 : ((Rows.fnPlayerAskRow.loops == (Try.f5.params.toList ++ Rows.fnPlayerAskSpec.plain.varTypes Try.prog).any (Try.prog.loopsFrom ·))) = true := by kernel_rfl
theorem pPlayerAsk_k18 : ((Rows.fnPlayerAskRow.wideKeys == (Try.f5.params.toList ++ Rows.fnPlayerAskSpec.plain.varTypes Try.prog ++ Try.f5.resultTypes.toList).any (Try.prog.wideKeysFrom ·))) = true := by kernel_rfl
theorem pPlayerAsk_k19 : (Rows.fnPlayerAskSpec.vars.all (Try.prog.varReadable ·)) = true := by kernel_rfl
theorem pPlayerAsk_k20 : (Try.f5.resultTypes.all (fun t => Try.prog.readableRec t && decide (t < Try.prog.types.size))) = true := by kernel_rfl
theorem pPlayerAsk_k21 : ((Rows.fnPlayerAskRow.ifacesOut == Try.f5.resultTypes.toList.any (Try.prog.ifacesRec ·))) = true := by kernel_rfl
theorem pPlayerAsk_k22 : ((Rows.fnPlayerAskRow.loopsOut == Try.f5.resultTypes.toList.any (Try.prog.loopsFrom ·))) = true := by kernel_rfl
theorem pPlayerAsk_k24 : (Rows.fnPlayerAskRow.shortTexts.isNone) = true := by kernel_rfl
theorem pPlayerAsk_k30 : ((Rows.fnPlayerAskRow.pinned == Rows.fnPlayerAskRow.pinnedBy)) = true := by kernel_rfl
theorem pPlayerAsk_k31 : ((Rows.fnPlayerAskRow.veiled == (Try.f5.params.toList ++ Rows.fnPlayerAskSpec.plain.varTypes Try.prog ++ Try.f5.resultTypes.toList).any (Try.prog.veiledRec ·))) = true := by kernel_rfl
theorem pPlayerAsk_k32 : (Rows.fnPlayerAskRow.veiledFits Try.prog Try.f5.params.toList (Try.f5.params.toList ++ Rows.fnPlayerAskSpec.plain.varTypes Try.prog ++ Try.f5.resultTypes.toList)) = true := by kernel_rfl
theorem pPlayerAsk_closed : joinedFacts Try.prog 5 Try.f5 Rows.fnPlayerAskSpec Rows.fnPlayerAskRow = true :=
  facts_of pPlayerAsk_k1 Try.f_laid Try.f_maps pPlayerAsk_k4 pPlayerAsk_k5 pPlayerAsk_k6 Try.f_stops pPlayerAsk_k8 Try.f_knobs pPlayerAsk_k10 pPlayerAsk_k11 pPlayerAsk_k12 pPlayerAsk_k13 pPlayerAsk_k14 pPlayerAsk_k15 pPlayerAsk_k16 pPlayerAsk_k17 pPlayerAsk_k18 pPlayerAsk_k19 pPlayerAsk_k20 pPlayerAsk_k21 pPlayerAsk_k22 (by kernel_rfl) pPlayerAsk_k24 Try.f_heard Try.f_enter Try.f_lifts Try.f_make rfl rfl pPlayerAsk_k30 pPlayerAsk_k31 pPlayerAsk_k32

set_option maxRecDepth 100000 in
theorem pPlayerAsk_lifted (os : Os) (started : os.Started) (H : Type) (enc : TypeId × Value → H) :
    ReturnsInHanded {} Try.checked os 5 .any (Rows.fnPlayerAskSpec.pre6 enc Try.prog Try.f5 Rows.fnPlayerAskRow.domain false) (Rows.fnPlayerAskSpec.post enc Try.prog Try.f5 false true false false) := by
  refine returnsInHanded_of_change (C := Try.checked) Try.own started (by kernel_rfl) Try.func5
    (ChangeSpec.witness6 (enc := enc) (C := Try.checked) false ⟨#[], #[.slice none 0 0], []⟩ 8 (by kernel_rfl) (by kernel_rfl) (by kernel_rfl) (by kernel_rfl)) ?_
  intro W base args ds gs before hval0 hW _ _
  have hval : ∀ (j : Nat) t v, Try.f5.params[j]? = some t → args[j]? = some v → Value.okWide Try.prog W .any base t v := hval0
  have hW' := hW
  obtain ⟨p, q, hA0, hV, rfl, _, _⟩ := hW
  have hA : DataW.TrodAll enc Try.prog W 0 (fun _ => true) true Try.f5.params.toList args.toList ds p := hA0
  rw [Try.params5] at hA hval
  obtain ⟨v0, d0, rfl, rfl, h0⟩ := trodAll_one hA
  obtain ⟨rfl, rfl⟩ := trodVars_none hV
  obtain ⟨A, n, c, rfl, m0, l0, b0⟩ := in_bytes Try.underlying22 Try.underlying5 (by kernel_rfl) (hval 0 _ v0 rfl rfl) h0
  refine (lawPlayerAsk A c n _ m0 l0 b0).mono fun e W' ⟨he, hb⟩ => ⟨_, he, ?_⟩
  exact law_post (tb := 4) Try.laidOut (by kernel_rfl) rfl Try.underlying4 rfl hW' rfl hb

theorem pPlayerAsk_holds : Rows.FnPlayerAskSaid :=
  OpenClaim.holds_of_wide 5 Try.f5 rfl rfl rfl rfl rfl rfl rfl ⟨rfl, rfl, rfl, rfl, rfl⟩ rfl rfl rfl rfl rfl (by kernel_rfl) Try.func5 pPlayerAsk_closed
    (of_decide_eq_true (by kernel_rfl)) (by unfold Func.isWrapper; first | (rw [if_pos (by decide +kernel)]; kernel_rfl) | (rw [if_neg (by decide +kernel)]; exact ⟨rfl, rfl⟩))
    (fun os started H enc _ => pPlayerAsk_lifted os started H enc)
#print axioms pPlayerAsk_holds
end Go.Proofs.Ytdpladihacgobaa
