/- The exact law of Crc holds of every text that comes in. -/
import Derived.Test.YtlcigfigblfpdaaMB
import Derived.Test.YtlcigfigblfpdaaFx
import Derived.Test.YtlcigfigblfpdaaFy
import Derived.Test.YtlcigfigblfpdaaFz
import Derived.Test.YtlcigfigblfpdaaFw
import Derived.Test.YtlcigfigblfpdaaCc
namespace Go.Proofs.Ytlcigfigblfpdaa
open Go.ChangeShapes Go.WideShapes Go.ChangeAt Go.RowKit Go.Deep

theorem xCrc_k1 : (Rows.fnExactCrcRow.wf (OpenSpec.ofChange Rows.fnExactCrcSpec)) = true := by kernel_rfl
theorem xCrc_k4 : (Try.f4.params.all (Try.prog.readableRec ·)) = true := by kernel_rfl
theorem xCrc_k5 : (namedTie Try.prog Rows.fnExactCrcRow.named Rows.fnExactCrcSpec.vars) = true := by kernel_rfl
theorem xCrc_k6 : ((Rows.fnExactCrcRow.stops == [])) = true := by kernel_rfl
theorem xCrc_k8 : ((Rows.fnExactCrcRow.knobs == [])) = true := by kernel_rfl
theorem xCrc_k10 : ((Rows.fnExactCrcRow.inPlace == Try.prog.inPlace 4)) = true := by kernel_rfl
theorem xCrc_k11 : ((Rows.fnExactCrcRow.unfollowed == Try.prog.unfollowed 4)) = true := by kernel_rfl
theorem xCrc_k12 : ((Rows.fnExactCrcRow.recurses == Try.prog.recurses 4)) = true := by kernel_rfl
theorem xCrc_k13 : ((Rows.fnExactCrcRow.named == Try.prog.varsNamed 4)) = true := by kernel_rfl
theorem xCrc_k14 : ((Rows.fnExactCrcRow.maps == (Try.f4.params.toList ++ Rows.fnExactCrcSpec.plain.varTypes Try.prog).any (Try.prog.mapsRec ·))) = true := by kernel_rfl
theorem xCrc_k15 : ((Rows.fnExactCrcRow.ifaces == (Try.f4.params.toList ++ Rows.fnExactCrcSpec.plain.varTypes Try.prog).any (Try.prog.ifacesRec ·))) = true := by kernel_rfl
theorem xCrc_k16 : ((Rows.fnExactCrcRow.mapsOut == Try.prog.mapsAmong Try.f4.resultTypes.toList)) = true := by kernel_rfl
theorem xCrc_k17 : ((Rows.fnExactCrcRow.loops == (Try.f4.params.toList ++ Rows.fnExactCrcSpec.plain.varTypes Try.prog).any (Try.prog.loopsFrom ·))) = true := by kernel_rfl
theorem xCrc_k18 : ((Rows.fnExactCrcRow.wideKeys == (Try.f4.params.toList ++ Rows.fnExactCrcSpec.plain.varTypes Try.prog ++ Try.f4.resultTypes.toList).any (Try.prog.wideKeysFrom ·))) = true := by kernel_rfl
theorem xCrc_k19 : (Rows.fnExactCrcSpec.vars.all (Try.prog.varReadable ·)) = true := by kernel_rfl
theorem xCrc_k20 : (Try.f4.resultTypes.all (fun t => Try.prog.readableRec t && decide (t < Try.prog.types.size))) = true := by kernel_rfl
theorem xCrc_k21 : ((Rows.fnExactCrcRow.ifacesOut == Try.f4.resultTypes.toList.any (Try.prog.ifacesRec ·))) = true := by kernel_rfl
theorem xCrc_k22 : ((Rows.fnExactCrcRow.loopsOut == Try.f4.resultTypes.toList.any (Try.prog.loopsFrom ·))) = true := by kernel_rfl
theorem xCrc_k24 : (Rows.fnExactCrcRow.shortTexts.isNone) = true := by kernel_rfl
theorem xCrc_k30 : ((Rows.fnExactCrcRow.pinned == Rows.fnExactCrcRow.pinnedBy)) = true := by kernel_rfl
theorem xCrc_k31 : ((Rows.fnExactCrcRow.veiled == (Try.f4.params.toList ++ Rows.fnExactCrcSpec.plain.varTypes Try.prog ++ Try.f4.resultTypes.toList).any (Try.prog.veiledRec ·))) = true := by kernel_rfl
theorem xCrc_k32 : (Rows.fnExactCrcRow.veiledFits Try.prog Try.f4.params.toList (Try.f4.params.toList ++ Rows.fnExactCrcSpec.plain.varTypes Try.prog ++ Try.f4.resultTypes.toList)) = true := by kernel_rfl
theorem xCrc_closed : joinedFacts Try.prog 4 Try.f4 Rows.fnExactCrcSpec Rows.fnExactCrcRow = true :=
  facts_of xCrc_k1 Try.f_laid Try.f_maps xCrc_k4 xCrc_k5 xCrc_k6 Try.f_stops xCrc_k8 Try.f_knobs xCrc_k10 xCrc_k11 xCrc_k12 xCrc_k13 xCrc_k14 xCrc_k15 xCrc_k16 xCrc_k17 xCrc_k18 xCrc_k19 xCrc_k20 xCrc_k21 xCrc_k22 (by kernel_rfl) xCrc_k24 Try.f_heard Try.f_enter Try.f_lifts Try.f_make rfl rfl xCrc_k30 xCrc_k31 xCrc_k32

set_option maxRecDepth 100000 in
theorem xCrc_lifted (os : Os) (started : os.Started) (H : Type) (enc : TypeId × Value → H) :
    ReturnsInHanded {} Try.checked os 4 .any (Rows.fnExactCrcSpec.pre6 enc Try.prog Try.f4 Rows.fnExactCrcRow.domain false) (Rows.fnExactCrcSpec.post enc Try.prog Try.f4 false true false false) := by
  refine returnsInHanded_of_change (C := Try.checked) Try.own started (by kernel_rfl) Try.func4
    (ChangeSpec.witness6 (enc := enc) (C := Try.checked) false ⟨#[], #[.string ⟨#[]⟩], []⟩ 8 (by kernel_rfl) (by kernel_rfl) (by kernel_rfl) (by kernel_rfl)) ?_
  intro W base args ds gs before hval0 hW _ _
  have hval : ∀ (j : Nat) t v, Try.f4.params[j]? = some t → args[j]? = some v → Value.okWide Try.prog W .any base t v := hval0
  have hW' := hW
  obtain ⟨p, q, hA0, hV, rfl, _, _⟩ := hW
  have hA : DataW.TrodAll enc Try.prog W 0 (fun _ => true) true Try.f4.params.toList args.toList ds p := hA0
  rw [Try.params4] at hA hval
  obtain ⟨v0, d0, rfl, rfl, h0⟩ := trodAll_one hA
  obtain ⟨rfl, rfl⟩ := trodVars_none hV
  obtain ⟨s, rfl, _, _, m0⟩ := ChangeMaps.open_string Try.underlying9 (hval 0 _ v0 rfl rfl) h0
  refine (exactCrc s _ m0).mono fun e W' ⟨he, hb⟩ => ⟨_, he, ?_⟩
  exact law_post (tb := 4) Try.laidOut (by kernel_rfl) rfl Try.underlying4 rfl hW' rfl hb

theorem xCrc_holds : Rows.FnExactCrcSaid :=
  OpenClaim.holds_of_wide 4 Try.f4 rfl rfl rfl rfl rfl rfl rfl ⟨rfl, rfl, rfl, rfl, rfl⟩ rfl rfl rfl rfl rfl (by kernel_rfl) Try.func4 xCrc_closed
    (of_decide_eq_true (by kernel_rfl)) (by unfold Func.isWrapper; first | (rw [if_pos (by decide +kernel)]; kernel_rfl) | (rw [if_neg (by decide +kernel)]; exact ⟨rfl, rfl⟩))
    (fun os started H enc _ => xCrc_lifted os started H enc)
#print axioms xCrc_holds
end Go.Proofs.Ytlcigfigblfpdaa
