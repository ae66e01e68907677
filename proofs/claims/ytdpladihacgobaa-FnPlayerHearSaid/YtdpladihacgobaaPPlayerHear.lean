/- Each keeper is heard once: of every code that comes in. -/
import Derived.Test.YtdpladihacgobaaMB
import Derived.Test.YtdpladihacgobaaFx
import Derived.Test.YtdpladihacgobaaFy
import Derived.Test.YtdpladihacgobaaFz
import Derived.Test.YtdpladihacgobaaFw
import Derived.Test.YtdpladihacgobaaMM
import Derived.Test.YtdpladihacgobaaNu
namespace Go.Proofs.Ytdpladihacgobaa
open Go.ChangeShapes Go.WideShapes Go.ChangeAt Go.RowKit Go.Deep

theorem pPlayerHear_k1 : (Rows.fnPlayerHearRow.wf (OpenSpec.ofChange Rows.fnPlayerHearSpec)) = true := by kernel_rfl
theorem pPlayerHear_k4 : (Try.f3.params.all (Try.prog.readableRec ·)) = true := by kernel_rfl
theorem pPlayerHear_k5 : (namedTie Try.prog Rows.fnPlayerHearRow.named Rows.fnPlayerHearSpec.vars) = true := by kernel_rfl
theorem pPlayerHear_k6 : ((Rows.fnPlayerHearRow.stops == [])) = true := by kernel_rfl
theorem pPlayerHear_k8 : ((Rows.fnPlayerHearRow.knobs == [])) = true := by kernel_rfl
theorem pPlayerHear_k10 : ((Rows.fnPlayerHearRow.inPlace == Try.prog.inPlace 3)) = true := by kernel_rfl
theorem pPlayerHear_k11 : ((Rows.fnPlayerHearRow.unfollowed == Try.prog.unfollowed 3)) = true := by kernel_rfl
theorem pPlayerHear_k12 : ((Rows.fnPlayerHearRow.recurses == Try.prog.recurses 3)) = true := by kernel_rfl
theorem pPlayerHear_k13 : ((Rows.fnPlayerHearRow.named == Try.prog.varsNamed 3)) = true := by kernel_rfl
theorem pPlayerHear_k14 : ((Rows.fnPlayerHearRow.maps == (Try.f3.params.toList ++ Rows.fnPlayerHearSpec.plain.varTypes Try.prog).any (Try.prog.mapsRec ·))) = true := by kernel_rfl
theorem pPlayerHear_k15 : ((Rows.fnPlayerHearRow.ifaces == (Try.f3.params.toList ++ Rows.fnPlayerHearSpec.plain.varTypes Try.prog).any (Try.prog.ifacesRec ·))) = true := by kernel_rfl
theorem pPlayerHear_k16 : ((Rows.fnPlayerHearRow.mapsOut == Try.prog.mapsAmong Try.f3.resultTypes.toList)) = true := by kernel_rfl
theorem pPlayerHear_k17 : ((Rows.fnPlayerHearRow.loops == (Try.f3.params.toList ++ Rows.fnPlayerHearSpec.plain.varTypes Try.prog).any (Try.prog.loopsFrom ·))) = true := by kernel_rfl
theorem pPlayerHear_k18 : ((Rows.fnPlayerHearRow.wideKeys == (Try.f3.params.toList ++ Rows.fnPlayerHearSpec.plain.varTypes Try.prog ++ Try.f3.resultTypes.toList).any (Try.prog.wideKeysFrom ·))) = true := by kernel_rfl
theorem pPlayerHear_k19 : (Rows.fnPlayerHearSpec.vars.all (Try.prog.varReadable ·)) = true := by kernel_rfl
theorem pPlayerHear_k20 : (Try.f3.resultTypes.all (fun t => Try.prog.readableRec t && decide (t < Try.prog.types.size))) = true := by kernel_rfl
theorem pPlayerHear_k21 : ((Rows.fnPlayerHearRow.ifacesOut == Try.f3.resultTypes.toList.any (Try.prog.ifacesRec ·))) = true := by kernel_rfl
theorem pPlayerHear_k22 : ((Rows.fnPlayerHearRow.loopsOut == Try.f3.resultTypes.toList.any (Try.prog.loopsFrom ·))) = true := by kernel_rfl
theorem pPlayerHear_k24 : (Rows.fnPlayerHearRow.shortTexts.isNone) = true := by kernel_rfl
theorem pPlayerHear_k30 : ((Rows.fnPlayerHearRow.pinned == Rows.fnPlayerHearRow.pinnedBy)) = true := by kernel_rfl
theorem pPlayerHear_k31 : ((Rows.fnPlayerHearRow.veiled == (Try.f3.params.toList ++ Rows.fnPlayerHearSpec.plain.varTypes Try.prog ++ Try.f3.resultTypes.toList).any (Try.prog.veiledRec ·))) = true := by kernel_rfl
theorem pPlayerHear_k32 : (Rows.fnPlayerHearRow.veiledFits Try.prog Try.f3.params.toList (Try.f3.params.toList ++ Rows.fnPlayerHearSpec.plain.varTypes Try.prog ++ Try.f3.resultTypes.toList)) = true := by kernel_rfl
theorem pPlayerHear_closed : joinedFacts Try.prog 3 Try.f3 Rows.fnPlayerHearSpec Rows.fnPlayerHearRow = true :=
  facts_of pPlayerHear_k1 Try.f_laid Try.f_maps pPlayerHear_k4 pPlayerHear_k5 pPlayerHear_k6 Try.f_stops pPlayerHear_k8 Try.f_knobs pPlayerHear_k10 pPlayerHear_k11 pPlayerHear_k12 pPlayerHear_k13 pPlayerHear_k14 pPlayerHear_k15 pPlayerHear_k16 pPlayerHear_k17 pPlayerHear_k18 pPlayerHear_k19 pPlayerHear_k20 pPlayerHear_k21 pPlayerHear_k22 (by kernel_rfl) pPlayerHear_k24 Try.f_heard Try.f_enter Try.f_lifts Try.f_make rfl rfl pPlayerHear_k30 pPlayerHear_k31 pPlayerHear_k32

set_option maxRecDepth 100000 in
theorem pPlayerHear_lifted (os : Os) (started : os.Started) (H : Type) (enc : TypeId × Value → H) :
    ReturnsInHanded {} Try.checked os 3 .any (Rows.fnPlayerHearSpec.pre6 enc Try.prog Try.f3 Rows.fnPlayerHearRow.domain false) (Rows.fnPlayerHearSpec.post enc Try.prog Try.f3 false true false false) := by
  refine returnsInHanded_of_change (C := Try.checked) Try.own started (by kernel_rfl) Try.func3
    (ChangeSpec.witness6 (enc := enc) (C := Try.checked) false ⟨#[], #[.slice none 0 0], []⟩ 8 (by kernel_rfl) (by kernel_rfl) (by kernel_rfl) (by kernel_rfl)) ?_
  intro W base args ds gs before hval0 hW _ _
  have hval : ∀ (j : Nat) t v, Try.f3.params[j]? = some t → args[j]? = some v → Value.okWide Try.prog W .any base t v := hval0
  have hW' := hW
  obtain ⟨p, q, hA0, hV, rfl, _, _⟩ := hW
  have hA : DataW.TrodAll enc Try.prog W 0 (fun _ => true) true Try.f3.params.toList args.toList ds p := hA0
  rw [Try.params3] at hA hval
  obtain ⟨v0, d0, rfl, rfl, h0⟩ := trodAll_one hA
  obtain ⟨rfl, rfl⟩ := trodVars_none hV
  obtain ⟨A, n, c, rfl, m0, l0, b0⟩ := in_bytes Try.underlying22 Try.underlying5 (by kernel_rfl) (hval 0 _ v0 rfl rfl) h0
  refine (lawPlayerHear A c n _ m0 l0 b0).mono fun e W' ⟨he, hb⟩ => ⟨_, he, ?_⟩
  exact law_post (tb := 4) Try.laidOut (by kernel_rfl) rfl Try.underlying4 rfl hW' rfl hb

theorem pPlayerHear_holds : Rows.FnPlayerHearSaid :=
  OpenClaim.holds_of_wide 3 Try.f3 rfl rfl rfl rfl rfl rfl rfl ⟨rfl, rfl, rfl, rfl, rfl⟩ rfl rfl rfl rfl rfl (by kernel_rfl) Try.func3 pPlayerHear_closed
    (of_decide_eq_true (by kernel_rfl)) (by unfold Func.isWrapper; first | (rw [if_pos (by decide +kernel)]; kernel_rfl) | (rw [if_neg (by decide +kernel)]; exact ⟨rfl, rfl⟩))
    (fun os started H enc _ => pPlayerHear_lifted os started H enc)
#print axioms pPlayerHear_holds
end Go.Proofs.Ytdpladihacgobaa
