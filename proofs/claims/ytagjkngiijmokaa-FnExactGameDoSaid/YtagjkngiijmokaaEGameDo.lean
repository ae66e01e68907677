/- The exact law of GameDo holds of every game and every request that come in. -/
import Derived.Test.YtagjkngiijmokaaMB
import Derived.Test.YtagjkngiijmokaaNI
import Derived.Test.YtagjkngiijmokaaGzq
namespace Go.Proofs.Ytagjkngiijmokaa
open Go.ChangeShapes Go.WideShapes Go.ChangeAt Go.RowKit Go.Deep

theorem xGameDo_k1 : (Rows.fnExactGameDoRow.wf (OpenSpec.ofChange Rows.fnExactGameDoSpec)) = true := by kernel_rfl
theorem xGameDo_k4 : (Try.f4.params.all (Try.prog.readableRec ·)) = true := by kernel_rfl
theorem xGameDo_k5 : (namedTie Try.prog Rows.fnExactGameDoRow.named Rows.fnExactGameDoSpec.vars) = true := by kernel_rfl
theorem xGameDo_k6 : ((Rows.fnExactGameDoRow.stops == [])) = true := by kernel_rfl
theorem xGameDo_k8 : ((Rows.fnExactGameDoRow.knobs == [])) = true := by kernel_rfl
theorem xGameDo_k10 : ((Rows.fnExactGameDoRow.inPlace == Try.prog.inPlace 4)) = true := by kernel_rfl
theorem xGameDo_k11 : ((Rows.fnExactGameDoRow.unfollowed == Try.prog.unfollowed 4)) = true := by kernel_rfl
theorem xGameDo_k12 : ((Rows.fnExactGameDoRow.recurses == Try.prog.recurses 4)) = true := by kernel_rfl
theorem xGameDo_k13 : ((Rows.fnExactGameDoRow.named == Try.prog.varsNamed 4)) = true := by kernel_rfl
theorem xGameDo_k14 : ((Rows.fnExactGameDoRow.maps == (Try.f4.params.toList ++ Rows.fnExactGameDoSpec.plain.varTypes Try.prog).any (Try.prog.mapsRec ·))) = true := by kernel_rfl
theorem xGameDo_k15 : ((Rows.fnExactGameDoRow.ifaces == (Try.f4.params.toList ++ Rows.fnExactGameDoSpec.plain.varTypes Try.prog).any (Try.prog.ifacesRec ·))) = true := by kernel_rfl
theorem xGameDo_k16 : ((Rows.fnExactGameDoRow.mapsOut == Try.prog.mapsAmong Try.f4.resultTypes.toList)) = true := by kernel_rfl
theorem xGameDo_k17 : ((Rows.fnExactGameDoRow.loops == (Try.f4.params.toList ++ Rows.fnExactGameDoSpec.plain.varTypes Try.prog).any (Try.prog.loopsFrom ·))) = true := by kernel_rfl
theorem xGameDo_k18 : ((Rows.fnExactGameDoRow.wideKeys == (Try.f4.params.toList ++ Rows.fnExactGameDoSpec.plain.varTypes Try.prog ++ Try.f4.resultTypes.toList).any (Try.prog.wideKeysFrom ·))) = true := by kernel_rfl
theorem xGameDo_k19 : (Rows.fnExactGameDoSpec.vars.all (Try.prog.varReadable ·)) = true := by kernel_rfl
theorem xGameDo_k20 : (Try.f4.resultTypes.all (fun t => Try.prog.readableRec t && decide (t < Try.prog.types.size))) = true := by kernel_rfl
theorem xGameDo_k21 : ((Rows.fnExactGameDoRow.ifacesOut == Try.f4.resultTypes.toList.any (Try.prog.ifacesRec ·))) = true := by kernel_rfl
theorem xGameDo_k22 : ((Rows.fnExactGameDoRow.loopsOut == Try.f4.resultTypes.toList.any (Try.prog.loopsFrom ·))) = true := by kernel_rfl
theorem xGameDo_k24 : (Rows.fnExactGameDoRow.shortTexts.isNone) = true := by kernel_rfl
theorem xGameDo_k30 : ((Rows.fnExactGameDoRow.pinned == Rows.fnExactGameDoRow.pinnedBy)) = true := by kernel_rfl
theorem xGameDo_k31 : ((Rows.fnExactGameDoRow.veiled == (Try.f4.params.toList ++ Rows.fnExactGameDoSpec.plain.varTypes Try.prog ++ Try.f4.resultTypes.toList).any (Try.prog.veiledRec ·))) = true := by kernel_rfl
theorem xGameDo_k32 : (Rows.fnExactGameDoRow.veiledFits Try.prog Try.f4.params.toList (Try.f4.params.toList ++ Rows.fnExactGameDoSpec.plain.varTypes Try.prog ++ Try.f4.resultTypes.toList)) = true := by kernel_rfl
theorem xGameDo_closed : joinedFacts Try.prog 4 Try.f4 Rows.fnExactGameDoSpec Rows.fnExactGameDoRow = true :=
 facts_of xGameDo_k1 Try.f_laid Try.f_maps xGameDo_k4 xGameDo_k5 xGameDo_k6 Try.f_stops xGameDo_k8 Try.f_knobs xGameDo_k10 xGameDo_k11 xGameDo_k12 xGameDo_k13 xGameDo_k14 xGameDo_k15 xGameDo_k16 xGameDo_k17 xGameDo_k18 xGameDo_k19 xGameDo_k20 xGameDo_k21 xGameDo_k22 (by kernel_rfl) xGameDo_k24 Try.f_heard Try.f_enter Try.f_lifts Try.f_make rfl rfl xGameDo_k30 xGameDo_k31 xGameDo_k32

set_option maxRecDepth 100000 in
theorem xGameDo_lifted (os : Os) (started : os.Started) (H : Type) (enc : TypeId × Value → H) :
 ReturnsInHanded {} Try.checked os 4 .any (Rows.fnExactGameDoSpec.pre6 enc Try.prog Try.f4 Rows.fnExactGameDoRow.domain false) (Rows.fnExactGameDoSpec.post enc Try.prog Try.f4 false true false false) := by
 refine returnsInHanded_of_change (C := Try.checked) Try.own started (by kernel_rfl) Try.func4
  (ChangeSpec.witness6 (enc := enc) (C := Try.checked) false ⟨#[], #[.agg #[.slice none 0 0, .slice none 0 0, .slice none 0 0], .agg #[.int .i64 0, .int .i64 0, .int .i64 0, .int .i64 0, .int .i64 0]], []⟩ 8 (by kernel_rfl) (by kernel_rfl) (by kernel_rfl) (by kernel_rfl)) ?_
 intro W base args ds gs before hval0 hW _ _
 have hval : ∀ (j : Nat) t v, Try.f4.params[j]? = some t → args[j]? = some v → Value.okWide Try.prog W .any base t v := hval0
 have hW' := hW
 obtain ⟨p, q, hA0, hV, rfl, _, _⟩ := hW
 have hA : DataW.TrodAll enc Try.prog W 0 (fun _ => true) true Try.f4.params.toList args.toList ds p := hA0
 rw [Try.params4] at hA hval
 obtain ⟨v0, v1, d0, d1, p0, p1, rfl, rfl, rfl, h0, h1⟩ := trodAll_two hA
 obtain ⟨rfl, rfl⟩ := trodVars_none hV
 obtain ⟨A, a, B, b, C, c, E, F, L, rfl, mE0, mF0, mL0, rE0, rF0, rL0⟩ := in_game (hval 0 _ v0 rfl rfl) h0
 obtain ⟨rc, rn, ro, rx, ry, rfl⟩ := req_of_trod (hval 1 _ v1 rfl rfl) h1
 refine (exactGameDo A a B b C c E F L rc rn ro rx ry _ mE0 mF0 mL0 rE0 rF0 rL0).mono fun e W' ⟨he, hb⟩ => ⟨_, he, ?_⟩
 exact law_post (tb := 4) Try.laidOut (by kernel_rfl) rfl Try.underlying4 rfl hW' rfl hb

theorem xGameDo_holds : Rows.FnExactGameDoSaid :=
 OpenClaim.holds_of_wide 4 Try.f4 rfl rfl rfl rfl rfl rfl rfl ⟨rfl, rfl, rfl, rfl, rfl⟩ rfl rfl rfl rfl rfl (by kernel_rfl) Try.func4 xGameDo_closed
  (of_decide_eq_true (by kernel_rfl)) (by unfold Func.isWrapper; first | (rw [if_pos (by decide +kernel)]; kernel_rfl) | (rw [if_neg (by decide +kernel)]; exact ⟨rfl, rfl⟩))
  (fun os started H enc _ => xGameDo_lifted os started H enc)
#print axioms xGameDo_holds
end Go.Proofs.Ytagjkngiijmokaa
