/- The exact law of PickAll holds of all votes that come in. -/
import Derived.Test.YtlokhgnbcbnmpaaMB
import Derived.Test.YtlokhgnbcbnmpaaFx
import Derived.Test.YtlokhgnbcbnmpaaFy
import Derived.Test.YtlokhgnbcbnmpaaFz
import Derived.Test.YtlokhgnbcbnmpaaFw
import Derived.Test.YtlokhgnbcbnmpaaUq
import Derived.Test.YtlokhgnbcbnmpaaJe
namespace Go.Proofs.Ytlokhgnbcbnmpaa
open Go.ChangeShapes Go.WideShapes Go.ChangeAt Go.RowKit Go.Deep

theorem xPickAll_k1 : (Rows.fnExactPickAllRow.wf (OpenSpec.ofChange Rows.fnExactPickAllSpec)) = true := by kernel_rfl
theorem xPickAll_k4 : (Try.f4.params.all (Try.prog.readableRec ·)) = true := by kernel_rfl
theorem xPickAll_k5 : (namedTie Try.prog Rows.fnExactPickAllRow.named Rows.fnExactPickAllSpec.vars) = true := by kernel_rfl
theorem xPickAll_k6 : ((Rows.fnExactPickAllRow.stops == [])) = true := by kernel_rfl
theorem xPickAll_k8 : ((Rows.fnExactPickAllRow.knobs == [])) = true := by kernel_rfl
theorem xPickAll_k10 : ((Rows.fnExactPickAllRow.inPlace == Try.prog.inPlace 4)) = true := by kernel_rfl
theorem xPickAll_k11 : ((Rows.fnExactPickAllRow.unfollowed == Try.prog.unfollowed 4)) = true := by kernel_rfl
theorem xPickAll_k12 : ((Rows.fnExactPickAllRow.recurses == Try.prog.recurses 4)) = true := by kernel_rfl
theorem xPickAll_k13 : ((Rows.fnExactPickAllRow.named == Try.prog.varsNamed 4)) = true := by kernel_rfl
theorem xPickAll_k14 : ((Rows.fnExactPickAllRow.maps == (Try.f4.params.toList ++ Rows.fnExactPickAllSpec.plain.varTypes Try.prog).any (Try.prog.mapsRec ·))) = true := by kernel_rfl
theorem xPickAll_k15 : ((Rows.fnExactPickAllRow.ifaces == (Try.f4.params.toList ++ Rows.fnExactPickAllSpec.plain.varTypes Try.prog).any (Try.prog.ifacesRec ·))) = true := by kernel_rfl
theorem xPickAll_k16 : ((Rows.fnExactPickAllRow.mapsOut == Try.prog.mapsAmong Try.f4.resultTypes.toList)) = true := by kernel_rfl
theorem xPickAll_k17 : ((Rows.fnExactPickAllRow.loops == (Try.f4.params.toList ++ Rows.fnExactPickAllSpec.plain.varTypes Try.prog).any (Try.prog.loopsFrom ·))) = true := by kernel_rfl
theorem xPickAll_k18 : ((Rows.fnExactPickAllRow.wideKeys == (Try.f4.params.toList ++ Rows.fnExactPickAllSpec.plain.varTypes Try.prog ++ Try.f4.resultTypes.toList).any (Try.prog.wideKeysFrom ·))) = true := by kernel_rfl
theorem xPickAll_k19 : (Rows.fnExactPickAllSpec.vars.all (Try.prog.varReadable ·)) = true := by kernel_rfl
theorem xPickAll_k20 : (Try.f4.resultTypes.all (fun t => Try.prog.readableRec t && decide (t < Try.prog.types.size))) = true := by kernel_rfl
theorem xPickAll_k21 : ((Rows.fnExactPickAllRow.ifacesOut == Try.f4.resultTypes.toList.any (Try.prog.ifacesRec ·))) = true := by kernel_rfl
theorem xPickAll_k22 : ((Rows.fnExactPickAllRow.loopsOut == Try.f4.resultTypes.toList.any (Try.prog.loopsFrom ·))) = true := by kernel_rfl
theorem xPickAll_k24 : (Rows.fnExactPickAllRow.shortTexts.isNone) = true := by kernel_rfl
theorem xPickAll_k30 : ((Rows.fnExactPickAllRow.pinned == Rows.fnExactPickAllRow.pinnedBy)) = true := by kernel_rfl
theorem xPickAll_k31 : ((Rows.fnExactPickAllRow.veiled == (Try.f4.params.toList ++ Rows.fnExactPickAllSpec.plain.varTypes Try.prog ++ Try.f4.resultTypes.toList).any (Try.prog.veiledRec ·))) = true := by kernel_rfl
theorem xPickAll_k32 : (Rows.fnExactPickAllRow.veiledFits Try.prog Try.f4.params.toList (Try.f4.params.toList ++ Rows.fnExactPickAllSpec.plain.varTypes Try.prog ++ Try.f4.resultTypes.toList)) = true := by kernel_rfl
theorem xPickAll_closed : joinedFacts Try.prog 4 Try.f4 Rows.fnExactPickAllSpec Rows.fnExactPickAllRow = true :=
  facts_of xPickAll_k1 Try.f_laid Try.f_maps xPickAll_k4 xPickAll_k5 xPickAll_k6 Try.f_stops xPickAll_k8 Try.f_knobs xPickAll_k10 xPickAll_k11 xPickAll_k12 xPickAll_k13 xPickAll_k14 xPickAll_k15 xPickAll_k16 xPickAll_k17 xPickAll_k18 xPickAll_k19 xPickAll_k20 xPickAll_k21 xPickAll_k22 Try.f_keys xPickAll_k24 Try.f_heard Try.f_enter Try.f_lifts Try.f_make rfl rfl xPickAll_k30 xPickAll_k31 xPickAll_k32

set_option maxRecDepth 100000 in
theorem xPickAll_lifted (os : Os) (started : os.Started) (H : Type) (enc : TypeId × Value → H) :
    ReturnsInHanded {} Try.checked os 4 .any (Rows.fnExactPickAllSpec.pre6 enc Try.prog Try.f4 Rows.fnExactPickAllRow.domain false) (Rows.fnExactPickAllSpec.post enc Try.prog Try.f4 false true false false) := by
  refine returnsInHanded_of_change (C := Try.checked) Try.own started (by kernel_rfl) Try.func4
    (ChangeSpec.witness6 (enc := enc) (C := Try.checked) false ⟨#[], #[.slice none 0 0], []⟩ 8 (by kernel_rfl) (by kernel_rfl) (by kernel_rfl) (by kernel_rfl)) ?_
  intro W base args ds gs before hval0 hW _ _
  have hval : ∀ (j : Nat) t v, Try.f4.params[j]? = some t → args[j]? = some v → Value.okWide Try.prog W .any base t v := hval0
  have hW' := hW
  obtain ⟨p, q, hA0, hV, rfl, _, _⟩ := hW
  have hA : DataW.TrodAll enc Try.prog W 0 (fun _ => true) true Try.f4.params.toList args.toList ds p := hA0
  rw [Try.params4] at hA hval
  obtain ⟨v0, d0, rfl, rfl, h0⟩ := trodAll_one hA
  obtain ⟨rfl, rfl⟩ := trodVars_none hV
  obtain ⟨A, c, P, rfl, m0, r0⟩ := votes_in (hval 0 _ v0 rfl rfl) h0
  refine (exactPickAll A c P _ m0 r0).mono fun e W' ⟨he, hb⟩ => ⟨_, he, ?_⟩
  exact law_post (tb := 4) Try.laidOut (by kernel_rfl) rfl Try.underlying4 rfl hW' rfl hb

theorem xPickAll_holds : Rows.FnExactPickAllSaid :=
  OpenClaim.holds_of_wide 4 Try.f4 rfl rfl rfl rfl rfl rfl rfl ⟨rfl, rfl, rfl, rfl, rfl⟩ rfl rfl rfl rfl rfl (by kernel_rfl) Try.func4 xPickAll_closed
    (of_decide_eq_true (by kernel_rfl)) (by unfold Func.isWrapper; first | (rw [if_pos (by decide +kernel)]; kernel_rfl) | (rw [if_neg (by decide +kernel)]; exact ⟨rfl, rfl⟩))
    (fun os started H enc _ => xPickAll_lifted os started H enc)
#print axioms xPickAll_holds
end Go.Proofs.Ytlokhgnbcbnmpaa
