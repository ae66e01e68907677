/- Whatever is asked, a game is ok, and no gold is lost: of every code that comes in. -/
import Derived.Test.YtkganikclbeplaaMB
import Derived.Test.YtkganikclbeplaaNI
import Derived.Test.YtkganikclbeplaaMM
import Derived.Test.YtkganikclbeplaaQe
namespace Go.Proofs.Ytkganikclbeplaa
open Go.ChangeShapes Go.WideShapes Go.ChangeAt Go.RowKit Go.Deep

theorem pGameDo_k1 : (Rows.fnGameDoRow.wf (OpenSpec.ofChange Rows.fnGameDoSpec)) = true := by kernel_rfl
theorem pGameDo_k4 : (Try.f6.params.all (Try.prog.readableRec ·)) = true := by kernel_rfl
theorem pGameDo_k5 : (namedTie Try.prog Rows.fnGameDoRow.named Rows.fnGameDoSpec.vars) = true := by kernel_rfl
theorem pGameDo_k6 : ((Rows.fnGameDoRow.stops == [])) = true := by kernel_rfl
theorem pGameDo_k8 : ((Rows.fnGameDoRow.knobs == [])) = true := by kernel_rfl
theorem pGameDo_k10 : ((Rows.fnGameDoRow.inPlace == Try.prog.inPlace 6)) = true := by kernel_rfl
theorem pGameDo_k11 : ((Rows.fnGameDoRow.unfollowed == Try.prog.unfollowed 6)) = true := by kernel_rfl
theorem pGameDo_k12 : ((Rows.fnGameDoRow.recurses == Try.prog.recurses 6)) = true := by kernel_rfl
theorem pGameDo_k13 : ((Rows.fnGameDoRow.named == Try.prog.varsNamed 6)) = true := by kernel_rfl
theorem pGameDo_k14 : ((Rows.fnGameDoRow.maps == (Try.f6.params.toList ++ Rows.fnGameDoSpec.plain.varTypes Try.prog).any (Try.prog.mapsRec ·))) = true := by kernel_rfl
theorem pGameDo_k15 : ((Rows.fnGameDoRow.ifaces == (Try.f6.params.toList ++ Rows.fnGameDoSpec.plain.varTypes Try.prog).any (Try.prog.ifacesRec ·))) = true := by kernel_rfl
theorem pGameDo_k16 : ((Rows.fnGameDoRow.mapsOut == Try.prog.mapsAmong Try.f6.resultTypes.toList)) = true := by kernel_rfl
theorem pGameDo_k17 : ((Rows.fnGameDoRow.loops == (Try.f6.params.toList ++ Rows.fnGameDoSpec.plain.varTypes Try.prog).any (Try.prog.loopsFrom ·))) = true := by kernel_rfl
theorem pGameDo_k18 : ((Rows.fnGameDoRow.wideKeys == (Try.f6.params.toList ++ Rows.fnGameDoSpec.plain.varTypes Try.prog ++ Try.f6.resultTypes.toList).any (Try.prog.wideKeysFrom ·))) = true := by kernel_rfl
theorem pGameDo_k19 : (Rows.fnGameDoSpec.vars.all (Try.prog.varReadable ·)) = true := by kernel_rfl
theorem pGameDo_k20 : (Try.f6.resultTypes.all (fun t => Try.prog.readableRec t && decide (t < Try.prog.types.size))) = true := by kernel_rfl
theorem pGameDo_k21 : ((Rows.fnGameDoRow.ifacesOut == Try.f6.resultTypes.toList.any (Try.prog.ifacesRec ·))) = true := by kernel_rfl
theorem pGameDo_k22 : ((Rows.fnGameDoRow.loopsOut == Try.f6.resultTypes.toList.any (Try.prog.loopsFrom ·))) = true := by kernel_rfl
theorem pGameDo_k24 : (Rows.fnGameDoRow.shortTexts.isNone) = true := by kernel_rfl
theorem pGameDo_k30 : ((Rows.fnGameDoRow.pinned == Rows.fnGameDoRow.pinnedBy)) = true := by kernel_rfl
theorem pGameDo_k31 : ((Rows.fnGameDoRow.veiled == (Try.f6.params.toList ++ Rows.fnGameDoSpec.plain.varTypes Try.prog ++ Try.f6.resultTypes.toList).any (Try.prog.veiledRec ·))) = true := by kernel_rfl
theorem pGameDo_k32 : (Rows.fnGameDoRow.veiledFits Try.prog Try.f6.params.toList (Try.f6.params.toList ++ Rows.fnGameDoSpec.plain.varTypes Try.prog ++ Try.f6.resultTypes.toList)) = true := by kernel_rfl
theorem pGameDo_closed : joinedFacts Try.prog 6 Try.f6 Rows.fnGameDoSpec Rows.fnGameDoRow = true :=
 facts_of pGameDo_k1 Try.f_laid Try.f_maps pGameDo_k4 pGameDo_k5 pGameDo_k6 Try.f_stops pGameDo_k8 Try.f_knobs pGameDo_k10 pGameDo_k11 pGameDo_k12 pGameDo_k13 pGameDo_k14 pGameDo_k15 pGameDo_k16 pGameDo_k17 pGameDo_k18 pGameDo_k19 pGameDo_k20 pGameDo_k21 pGameDo_k22 (by kernel_rfl) pGameDo_k24 Try.f_heard Try.f_enter Try.f_lifts Try.f_make rfl rfl pGameDo_k30 pGameDo_k31 pGameDo_k32

set_option maxRecDepth 100000 in
theorem pGameDo_lifted (os : Os) (started : os.Started) (H : Type) (enc : TypeId × Value → H) :
 ReturnsInHanded {} Try.checked os 6 .any (Rows.fnGameDoSpec.pre6 enc Try.prog Try.f6 Rows.fnGameDoRow.domain false) (Rows.fnGameDoSpec.post enc Try.prog Try.f6 false true false false) := by
 refine returnsInHanded_of_change (C := Try.checked) Try.own started (by kernel_rfl) Try.func6
  (ChangeSpec.witness6 (enc := enc) (C := Try.checked) false ⟨#[], #[.slice none 0 0], []⟩ 8 (by kernel_rfl) (by kernel_rfl) (by kernel_rfl) (by kernel_rfl)) ?_
 intro W base args ds gs before hval0 hW _ _
 have hval : ∀ (j : Nat) t v, Try.f6.params[j]? = some t → args[j]? = some v → Value.okWide Try.prog W .any base t v := hval0
 have hW' := hW
 obtain ⟨p, q, hA0, hV, rfl, _, _⟩ := hW
 have hA : DataW.TrodAll enc Try.prog W 0 (fun _ => true) true Try.f6.params.toList args.toList ds p := hA0
 rw [Try.params6] at hA hval
 obtain ⟨v0, d0, rfl, rfl, h0⟩ := trodAll_one hA
 obtain ⟨rfl, rfl⟩ := trodVars_none hV
 obtain ⟨A, n, c, rfl, m0, l0, b0⟩ := in_bytes Try.underlying36 Try.underlying5 (by kernel_rfl) (hval 0 _ v0 rfl rfl) h0
 refine (lawGameDo m0 l0 b0).mono fun e W' ⟨he, hb⟩ => ⟨_, he, ?_⟩
 exact law_post (tb := 4) Try.laidOut (by kernel_rfl) rfl Try.underlying4 rfl hW' rfl hb

theorem pGameDo_holds : Rows.FnGameDoSaid :=
 OpenClaim.holds_of_wide 6 Try.f6 rfl rfl rfl rfl rfl rfl rfl ⟨rfl, rfl, rfl, rfl, rfl⟩ rfl rfl rfl rfl rfl (by kernel_rfl) Try.func6 pGameDo_closed
  (of_decide_eq_true (by kernel_rfl)) (by unfold Func.isWrapper; first | (rw [if_pos (by decide +kernel)]; kernel_rfl) | (rw [if_neg (by decide +kernel)]; exact ⟨rfl, rfl⟩))
  (fun os started H enc _ => pGameDo_lifted os started H enc)
#print axioms pGameDo_holds
end Go.Proofs.Ytkganikclbeplaa
