/- What is picked at a place was claimed there, of the latest view: of every code that comes in. -/
import Derived.Test.YtlokhgnbcbnmpaaMB
import Derived.Test.YtlokhgnbcbnmpaaFx
import Derived.Test.YtlokhgnbcbnmpaaFy
import Derived.Test.YtlokhgnbcbnmpaaFz
import Derived.Test.YtlokhgnbcbnmpaaFw
import Derived.Test.YtlokhgnbcbnmpaaMD
import Derived.Test.YtlokhgnbcbnmpaaDd
namespace Go.Proofs.Ytlokhgnbcbnmpaa
open Go.ChangeShapes Go.WideShapes Go.ChangeAt Go.RowKit Go.Deep

theorem pPickAll_k1 : (Rows.fnPickAllRow.wf (OpenSpec.ofChange Rows.fnPickAllSpec)) = true := by kernel_rfl
theorem pPickAll_k4 : (Try.f9.params.all (Try.prog.readableRec ·)) = true := by kernel_rfl
theorem pPickAll_k5 : (namedTie Try.prog Rows.fnPickAllRow.named Rows.fnPickAllSpec.vars) = true := by kernel_rfl
theorem pPickAll_k6 : ((Rows.fnPickAllRow.stops == [])) = true := by kernel_rfl
theorem pPickAll_k8 : ((Rows.fnPickAllRow.knobs == [])) = true := by kernel_rfl
theorem pPickAll_k10 : ((Rows.fnPickAllRow.inPlace == Try.prog.inPlace 9)) = true := by kernel_rfl
theorem pPickAll_k11 : ((Rows.fnPickAllRow.unfollowed == Try.prog.unfollowed 9)) = true := by kernel_rfl
theorem pPickAll_k12 : ((Rows.fnPickAllRow.recurses == Try.prog.recurses 9)) = true := by kernel_rfl
theorem pPickAll_k13 : ((Rows.fnPickAllRow.named == Try.prog.varsNamed 9)) = true := by kernel_rfl
theorem pPickAll_k14 : ((Rows.fnPickAllRow.maps == (Try.f9.params.toList ++ Rows.fnPickAllSpec.plain.varTypes Try.prog).any (Try.prog.mapsRec ·))) = true := by kernel_rfl
theorem pPickAll_k15 : ((Rows.fnPickAllRow.ifaces == (Try.f9.params.toList ++ Rows.fnPickAllSpec.plain.varTypes Try.prog).any (Try.prog.ifacesRec ·))) = true := by kernel_rfl
theorem pPickAll_k16 : ((Rows.fnPickAllRow.mapsOut == Try.prog.mapsAmong Try.f9.resultTypes.toList)) = true := by kernel_rfl
theorem pPickAll_k17 : ((Rows.fnPickAllRow.loops == (Try.f9.params.toList ++ Rows.fnPickAllSpec.plain.varTypes Try.prog).any (Try.prog.loopsFrom ·))) = true := by kernel_rfl
theorem pPickAll_k18 : ((Rows.fnPickAllRow.wideKeys == (Try.f9.params.toList ++ Rows.fnPickAllSpec.plain.varTypes Try.prog ++ Try.f9.resultTypes.toList).any (Try.prog.wideKeysFrom ·))) = true := by kernel_rfl
theorem pPickAll_k19 : (Rows.fnPickAllSpec.vars.all (Try.prog.varReadable ·)) = true := by kernel_rfl
theorem pPickAll_k20 : (Try.f9.resultTypes.all (fun t => Try.prog.readableRec t && decide (t < Try.prog.types.size))) = true := by kernel_rfl
theorem pPickAll_k21 : ((Rows.fnPickAllRow.ifacesOut == Try.f9.resultTypes.toList.any (Try.prog.ifacesRec ·))) = true := by kernel_rfl
theorem pPickAll_k22 : ((Rows.fnPickAllRow.loopsOut == Try.f9.resultTypes.toList.any (Try.prog.loopsFrom ·))) = true := by kernel_rfl
theorem pPickAll_k24 : (Rows.fnPickAllRow.shortTexts.isNone) = true := by kernel_rfl
theorem pPickAll_k30 : ((Rows.fnPickAllRow.pinned == Rows.fnPickAllRow.pinnedBy)) = true := by kernel_rfl
theorem pPickAll_k31 : ((Rows.fnPickAllRow.veiled == (Try.f9.params.toList ++ Rows.fnPickAllSpec.plain.varTypes Try.prog ++ Try.f9.resultTypes.toList).any (Try.prog.veiledRec ·))) = true := by kernel_rfl
theorem pPickAll_k32 : (Rows.fnPickAllRow.veiledFits Try.prog Try.f9.params.toList (Try.f9.params.toList ++ Rows.fnPickAllSpec.plain.varTypes Try.prog ++ Try.f9.resultTypes.toList)) = true := by kernel_rfl
theorem pPickAll_closed : joinedFacts Try.prog 9 Try.f9 Rows.fnPickAllSpec Rows.fnPickAllRow = true :=
  facts_of pPickAll_k1 Try.f_laid Try.f_maps pPickAll_k4 pPickAll_k5 pPickAll_k6 Try.f_stops pPickAll_k8 Try.f_knobs pPickAll_k10 pPickAll_k11 pPickAll_k12 pPickAll_k13 pPickAll_k14 pPickAll_k15 pPickAll_k16 pPickAll_k17 pPickAll_k18 pPickAll_k19 pPickAll_k20 pPickAll_k21 pPickAll_k22 Try.f_keys pPickAll_k24 Try.f_heard Try.f_enter Try.f_lifts Try.f_make rfl rfl pPickAll_k30 pPickAll_k31 pPickAll_k32

set_option maxRecDepth 100000 in
theorem pPickAll_lifted (os : Os) (started : os.Started) (H : Type) (enc : TypeId × Value → H) :
    ReturnsInHanded {} Try.checked os 9 .any (Rows.fnPickAllSpec.pre6 enc Try.prog Try.f9 Rows.fnPickAllRow.domain false) (Rows.fnPickAllSpec.post enc Try.prog Try.f9 false true false false) := by
  refine returnsInHanded_of_change (C := Try.checked) Try.own started (by kernel_rfl) Try.func9
    (ChangeSpec.witness6 (enc := enc) (C := Try.checked) false ⟨#[], #[.slice none 0 0], []⟩ 8 (by kernel_rfl) (by kernel_rfl) (by kernel_rfl) (by kernel_rfl)) ?_
  intro W base args ds gs before hval0 hW _ _
  have hval : ∀ (j : Nat) t v, Try.f9.params[j]? = some t → args[j]? = some v → Value.okWide Try.prog W .any base t v := hval0
  have hW' := hW
  obtain ⟨p, q, hA0, hV, rfl, _, _⟩ := hW
  have hA : DataW.TrodAll enc Try.prog W 0 (fun _ => true) true Try.f9.params.toList args.toList ds p := hA0
  rw [Try.params9] at hA hval
  obtain ⟨v0, d0, rfl, rfl, h0⟩ := trodAll_one hA
  obtain ⟨rfl, rfl⟩ := trodVars_none hV
  obtain ⟨A, n, c, rfl, m0, l0, b0⟩ := in_bytes Try.underlying61 Try.underlying5 (by kernel_rfl) (hval 0 _ v0 rfl rfl) h0
  refine (lawPickAll m0 l0 b0).mono fun e W' ⟨he, hb⟩ => ⟨_, he, ?_⟩
  exact law_post (tb := 4) Try.laidOut (by kernel_rfl) rfl Try.underlying4 rfl hW' rfl hb

theorem pPickAll_holds : Rows.FnPickAllSaid :=
  OpenClaim.holds_of_wide 9 Try.f9 rfl rfl rfl rfl rfl rfl rfl ⟨rfl, rfl, rfl, rfl, rfl⟩ rfl rfl rfl rfl rfl (by kernel_rfl) Try.func9 pPickAll_closed
    (of_decide_eq_true (by kernel_rfl)) (by unfold Func.isWrapper; first | (rw [if_pos (by decide +kernel)]; kernel_rfl) | (rw [if_neg (by decide +kernel)]; exact ⟨rfl, rfl⟩))
    (fun os started H enc _ => pPickAll_lifted os started H enc)
#print axioms pPickAll_holds
end Go.Proofs.Ytlokhgnbcbnmpaa
