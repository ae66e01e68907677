/- The sum is the one that is used all over the world: of all codes that come in. -/
import Derived.Test.YtlcigfigblfpdaaMB
import Derived.Test.YtlcigfigblfpdaaFx
import Derived.Test.YtlcigfigblfpdaaFy
import Derived.Test.YtlcigfigblfpdaaFz
import Derived.Test.YtlcigfigblfpdaaFw
import Derived.Test.YtlcigfigblfpdaaMM
import Derived.Test.YtlcigfigblfpdaaCg
namespace Go.Proofs.Ytlcigfigblfpdaa
open Go.ChangeShapes Go.WideShapes Go.ChangeAt Go.RowKit Go.Deep

theorem pCrc_k1 : (Rows.fnCrcRow.wf (OpenSpec.ofChange Rows.fnCrcSpec)) = true := by kernel_rfl
theorem pCrc_k4 : (Try.f3.params.all (Try.prog.readableRec ·)) = true := by kernel_rfl
theorem pCrc_k5 : (namedTie Try.prog Rows.fnCrcRow.named Rows.fnCrcSpec.vars) = true := by kernel_rfl
theorem pCrc_k6 : ((Rows.fnCrcRow.stops == [])) = true := by kernel_rfl
theorem pCrc_k8 : ((Rows.fnCrcRow.knobs == [])) = true := by kernel_rfl
theorem pCrc_k10 : ((Rows.fnCrcRow.inPlace == Try.prog.inPlace 3)) = true := by kernel_rfl
theorem pCrc_k11 : ((Rows.fnCrcRow.unfollowed == Try.prog.unfollowed 3)) = true := by kernel_rfl
theorem pCrc_k12 : ((Rows.fnCrcRow.recurses == Try.prog.recurses 3)) = true := by kernel_rfl
theorem pCrc_k13 : ((Rows.fnCrcRow.named == Try.prog.varsNamed 3)) = true := by kernel_rfl
theorem pCrc_k14 : ((Rows.fnCrcRow.maps == (Try.f3.params.toList ++ Rows.fnCrcSpec.plain.varTypes Try.prog).any (Try.prog.mapsRec ·))) = true := by kernel_rfl
theorem pCrc_k15 : ((Rows.fnCrcRow.ifaces == (Try.f3.params.toList ++ Rows.fnCrcSpec.plain.varTypes Try.prog).any (Try.prog.ifacesRec ·))) = true := by kernel_rfl
theorem pCrc_k16 : ((Rows.fnCrcRow.mapsOut == Try.prog.mapsAmong Try.f3.resultTypes.toList)) = true := by kernel_rfl
theorem pCrc_k17 : ((Rows.fnCrcRow.loops == (Try.f3.params.toList ++ Rows.fnCrcSpec.plain.varTypes Try.prog).any (Try.prog.loopsFrom ·))) = true := by kernel_rfl
theorem pCrc_k18 : ((Rows.fnCrcRow.wideKeys == (Try.f3.params.toList ++ Rows.fnCrcSpec.plain.varTypes Try.prog ++ Try.f3.resultTypes.toList).any (Try.prog.wideKeysFrom ·))) = true := by kernel_rfl
theorem pCrc_k19 : (Rows.fnCrcSpec.vars.all (Try.prog.varReadable ·)) = true := by kernel_rfl
theorem pCrc_k20 : (Try.f3.resultTypes.all (fun t => Try.prog.readableRec t && decide (t < Try.prog.types.size))) = true := by kernel_rfl
theorem pCrc_k21 : ((Rows.fnCrcRow.ifacesOut == Try.f3.resultTypes.toList.any (Try.prog.ifacesRec ·))) = true := by kernel_rfl
theorem pCrc_k22 : ((Rows.fnCrcRow.loopsOut == Try.f3.resultTypes.toList.any (Try.prog.loopsFrom ·))) = true := by kernel_rfl
theorem pCrc_k24 : (Rows.fnCrcRow.shortTexts.isNone) = true := by kernel_rfl
theorem pCrc_k30 : ((Rows.fnCrcRow.pinned == Rows.fnCrcRow.pinnedBy)) = true := by kernel_rfl
theorem pCrc_k31 : ((Rows.fnCrcRow.veiled == (Try.f3.params.toList ++ Rows.fnCrcSpec.plain.varTypes Try.prog ++ Try.f3.resultTypes.toList).any (Try.prog.veiledRec ·))) = true := by kernel_rfl
theorem pCrc_k32 : (Rows.fnCrcRow.veiledFits Try.prog Try.f3.params.toList (Try.f3.params.toList ++ Rows.fnCrcSpec.plain.varTypes Try.prog ++ Try.f3.resultTypes.toList)) = true := by kernel_rfl
theorem pCrc_closed : joinedFacts Try.prog 3 Try.f3 Rows.fnCrcSpec Rows.fnCrcRow = true :=
  facts_of pCrc_k1 Try.f_laid Try.f_maps pCrc_k4 pCrc_k5 pCrc_k6 Try.f_stops pCrc_k8 Try.f_knobs pCrc_k10 pCrc_k11 pCrc_k12 pCrc_k13 pCrc_k14 pCrc_k15 pCrc_k16 pCrc_k17 pCrc_k18 pCrc_k19 pCrc_k20 pCrc_k21 pCrc_k22 (by kernel_rfl) pCrc_k24 Try.f_heard Try.f_enter Try.f_lifts Try.f_make rfl rfl pCrc_k30 pCrc_k31 pCrc_k32

set_option maxRecDepth 100000 in
theorem pCrc_lifted (os : Os) (started : os.Started) (H : Type) (enc : TypeId × Value → H) :
    ReturnsInHanded {} Try.checked os 3 .any (Rows.fnCrcSpec.pre6 enc Try.prog Try.f3 Rows.fnCrcRow.domain false) (Rows.fnCrcSpec.post enc Try.prog Try.f3 false true false false) := by
  refine returnsInHanded_of_change (C := Try.checked) Try.own started (by kernel_rfl) Try.func3
    (ChangeSpec.witness6 (enc := enc) (C := Try.checked) false ⟨#[], #[.slice none 0 0, .slice none 0 0], []⟩ 8 (by kernel_rfl) (by kernel_rfl) (by kernel_rfl) (by kernel_rfl)) ?_
  intro W base args ds gs before hval0 hW _ _
  have hval : ∀ (j : Nat) t v, Try.f3.params[j]? = some t → args[j]? = some v → Value.okWide Try.prog W .any base t v := hval0
  have hW' := hW
  obtain ⟨p, q, hA0, hV, rfl, _, _⟩ := hW
  have hA : DataW.TrodAll enc Try.prog W 0 (fun _ => true) true Try.f3.params.toList args.toList ds p := hA0
  rw [Try.params3] at hA hval
  obtain ⟨v0, v1, d0, d1, p0, p1, rfl, rfl, rfl, h0, h1⟩ := trodAll_two hA
  obtain ⟨rfl, rfl⟩ := trodVars_none hV
  obtain ⟨A, n, c, rfl, m0, l0, b0⟩ := in_bytes Try.underlying22 Try.underlying5 (by kernel_rfl) (hval 0 _ v0 rfl rfl) h0
  obtain ⟨B, m, d, rfl, m1, l1, b1⟩ := in_bytes Try.underlying22 Try.underlying5 (by kernel_rfl) (hval 1 _ v1 rfl rfl) h1
  refine (lawCrc m0 m1 l0 l1 b0).mono fun e W' ⟨he, hb⟩ => ⟨_, he, ?_⟩
  exact law_post (tb := 4) Try.laidOut (by kernel_rfl) rfl Try.underlying4 rfl hW' rfl hb

theorem pCrc_holds : Rows.FnCrcSaid :=
  OpenClaim.holds_of_wide 3 Try.f3 rfl rfl rfl rfl rfl rfl rfl ⟨rfl, rfl, rfl, rfl, rfl⟩ rfl rfl rfl rfl rfl (by kernel_rfl) Try.func3 pCrc_closed
    (of_decide_eq_true (by kernel_rfl)) (by unfold Func.isWrapper; first | (rw [if_pos (by decide +kernel)]; kernel_rfl) | (rw [if_neg (by decide +kernel)]; exact ⟨rfl, rfl⟩))
    (fun os started H enc _ => pCrc_lifted os started H enc)
#print axioms pCrc_holds
end Go.Proofs.Ytlcigfigblfpdaa
