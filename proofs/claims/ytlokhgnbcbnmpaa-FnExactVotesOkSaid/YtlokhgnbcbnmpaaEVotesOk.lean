/- The exact law of VotesOk holds of all letters, views and votes that come in. -/
import Derived.Test.YtlokhgnbcbnmpaaMB
import Derived.Test.YtlokhgnbcbnmpaaFx
import Derived.Test.YtlokhgnbcbnmpaaFy
import Derived.Test.YtlokhgnbcbnmpaaFz
import Derived.Test.YtlokhgnbcbnmpaaFw
import Derived.Test.YtlokhgnbcbnmpaaUq
import Derived.Test.YtlokhgnbcbnmpaaKl
namespace Go.Proofs.Ytlokhgnbcbnmpaa
open Go.ChangeShapes Go.WideShapes Go.ChangeAt Go.RowKit Go.Deep

theorem xVotesOk_k1 : (Rows.fnExactVotesOkRow.wf (OpenSpec.ofChange Rows.fnExactVotesOkSpec)) = true := by kernel_rfl
theorem xVotesOk_k4 : (Try.f7.params.all (Try.prog.readableRec ·)) = true := by kernel_rfl
theorem xVotesOk_k5 : (namedTie Try.prog Rows.fnExactVotesOkRow.named Rows.fnExactVotesOkSpec.vars) = true := by kernel_rfl
theorem xVotesOk_k6 : ((Rows.fnExactVotesOkRow.stops == [])) = true := by kernel_rfl
theorem xVotesOk_k8 : ((Rows.fnExactVotesOkRow.knobs == [])) = true := by kernel_rfl
theorem xVotesOk_k10 : ((Rows.fnExactVotesOkRow.inPlace == Try.prog.inPlace 7)) = true := by kernel_rfl
theorem xVotesOk_k11 : ((Rows.fnExactVotesOkRow.unfollowed == Try.prog.unfollowed 7)) = true := by kernel_rfl
theorem xVotesOk_k12 : ((Rows.fnExactVotesOkRow.recurses == Try.prog.recurses 7)) = true := by kernel_rfl
theorem xVotesOk_k13 : ((Rows.fnExactVotesOkRow.named == Try.prog.varsNamed 7)) = true := by kernel_rfl
theorem xVotesOk_k14 : ((Rows.fnExactVotesOkRow.maps == (Try.f7.params.toList ++ Rows.fnExactVotesOkSpec.plain.varTypes Try.prog).any (Try.prog.mapsRec ·))) = true := by kernel_rfl
theorem xVotesOk_k15 : ((Rows.fnExactVotesOkRow.ifaces == (Try.f7.params.toList ++ Rows.fnExactVotesOkSpec.plain.varTypes Try.prog).any (Try.prog.ifacesRec ·))) = true := by kernel_rfl
theorem xVotesOk_k16 : ((Rows.fnExactVotesOkRow.mapsOut == Try.prog.mapsAmong Try.f7.resultTypes.toList)) = true := by kernel_rfl
theorem xVotesOk_k17 : ((Rows.fnExactVotesOkRow.loops == (Try.f7.params.toList ++ Rows.fnExactVotesOkSpec.plain.varTypes Try.prog).any (Try.prog.loopsFrom ·))) = true := by kernel_rfl
theorem xVotesOk_k18 : ((Rows.fnExactVotesOkRow.wideKeys == (Try.f7.params.toList ++ Rows.fnExactVotesOkSpec.plain.varTypes Try.prog ++ Try.f7.resultTypes.toList).any (Try.prog.wideKeysFrom ·))) = true := by kernel_rfl
theorem xVotesOk_k19 : (Rows.fnExactVotesOkSpec.vars.all (Try.prog.varReadable ·)) = true := by kernel_rfl
theorem xVotesOk_k20 : (Try.f7.resultTypes.all (fun t => Try.prog.readableRec t && decide (t < Try.prog.types.size))) = true := by kernel_rfl
theorem xVotesOk_k21 : ((Rows.fnExactVotesOkRow.ifacesOut == Try.f7.resultTypes.toList.any (Try.prog.ifacesRec ·))) = true := by kernel_rfl
theorem xVotesOk_k22 : ((Rows.fnExactVotesOkRow.loopsOut == Try.f7.resultTypes.toList.any (Try.prog.loopsFrom ·))) = true := by kernel_rfl
theorem xVotesOk_k24 : (Rows.fnExactVotesOkRow.shortTexts.isNone) = true := by kernel_rfl
theorem xVotesOk_k30 : ((Rows.fnExactVotesOkRow.pinned == Rows.fnExactVotesOkRow.pinnedBy)) = true := by kernel_rfl
theorem xVotesOk_k31 : ((Rows.fnExactVotesOkRow.veiled == (Try.f7.params.toList ++ Rows.fnExactVotesOkSpec.plain.varTypes Try.prog ++ Try.f7.resultTypes.toList).any (Try.prog.veiledRec ·))) = true := by kernel_rfl
theorem xVotesOk_k32 : (Rows.fnExactVotesOkRow.veiledFits Try.prog Try.f7.params.toList (Try.f7.params.toList ++ Rows.fnExactVotesOkSpec.plain.varTypes Try.prog ++ Try.f7.resultTypes.toList)) = true := by kernel_rfl
theorem xVotesOk_closed : joinedFacts Try.prog 7 Try.f7 Rows.fnExactVotesOkSpec Rows.fnExactVotesOkRow = true :=
  facts_of xVotesOk_k1 Try.f_laid Try.f_maps xVotesOk_k4 xVotesOk_k5 xVotesOk_k6 Try.f_stops xVotesOk_k8 Try.f_knobs xVotesOk_k10 xVotesOk_k11 xVotesOk_k12 xVotesOk_k13 xVotesOk_k14 xVotesOk_k15 xVotesOk_k16 xVotesOk_k17 xVotesOk_k18 xVotesOk_k19 xVotesOk_k20 xVotesOk_k21 xVotesOk_k22 Try.f_keys xVotesOk_k24 Try.f_heard Try.f_enter Try.f_lifts Try.f_make rfl rfl xVotesOk_k30 xVotesOk_k31 xVotesOk_k32

set_option maxRecDepth 100000 in
theorem xVotesOk_lifted (os : Os) (started : os.Started) (H : Type) (enc : TypeId × Value → H) :
    ReturnsInHanded {} Try.checked os 7 .any (Rows.fnExactVotesOkSpec.pre6 enc Try.prog Try.f7 Rows.fnExactVotesOkRow.domain false) (Rows.fnExactVotesOkSpec.post enc Try.prog Try.f7 false true false false) := by
  refine returnsInHanded_of_change (C := Try.checked) Try.own started (by kernel_rfl) Try.func7
    (ChangeSpec.witness6 (enc := enc) (C := Try.checked) false ⟨#[], #[.slice none 0 0, .int .i64 0, .slice none 0 0], []⟩ 8 (by kernel_rfl) (by kernel_rfl) (by kernel_rfl) (by kernel_rfl)) ?_
  intro W base args ds gs before hval0 hW _ _
  have hval : ∀ (j : Nat) t v, Try.f7.params[j]? = some t → args[j]? = some v → Value.okWide Try.prog W .any base t v := hval0
  have hW' := hW
  obtain ⟨p, q, hA0, hV, rfl, _, _⟩ := hW
  have hA : DataW.TrodAll enc Try.prog W 0 (fun _ => true) true Try.f7.params.toList args.toList ds p := hA0
  rw [Try.params7] at hA hval
  obtain ⟨v0, v1, v2, d0, d1, d2, p0, p1, p2, rfl, rfl, rfl, h0, h1, h2⟩ := trodAll_three hA
  obtain ⟨rfl, rfl⟩ := trodVars_none hV
  obtain ⟨A, c, P, rfl, m0, r0⟩ := in_msgs (hval 0 _ v0 rfl rfl) h0
  obtain ⟨view, rfl, _⟩ := open_int Try.underlying3 (hval 1 _ v1 rfl rfl) h1
  obtain ⟨B, b, V, rfl, m2, r2⟩ := votes_in (hval 2 _ v2 rfl rfl) h2
  refine (exactVotesOk A c P view B b V _ m0 r0 m2 r2).mono fun e W' ⟨he, hb⟩ => ⟨_, he, ?_⟩
  exact law_post (tb := 4) Try.laidOut (by kernel_rfl) rfl Try.underlying4 rfl hW' rfl hb

theorem xVotesOk_holds : Rows.FnExactVotesOkSaid :=
  OpenClaim.holds_of_wide 7 Try.f7 rfl rfl rfl rfl rfl rfl rfl ⟨rfl, rfl, rfl, rfl, rfl⟩ rfl rfl rfl rfl rfl (by kernel_rfl) Try.func7 xVotesOk_closed
    (of_decide_eq_true (by kernel_rfl)) (by unfold Func.isWrapper; first | (rw [if_pos (by decide +kernel)]; kernel_rfl) | (rw [if_neg (by decide +kernel)]; exact ⟨rfl, rfl⟩))
    (fun os started H enc _ => xVotesOk_lifted os started H enc)
#print axioms xVotesOk_holds
end Go.Proofs.Ytlokhgnbcbnmpaa
