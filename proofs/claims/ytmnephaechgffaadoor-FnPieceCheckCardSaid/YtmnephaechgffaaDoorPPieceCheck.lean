/- A wrong sum, or a sum less, is no proof: of every code that comes in. -/
import Derived.Test.YtmnephaechgffaaDoorLaw
import Derived.Test.YtmnephaechgffaaDoorRq
import Derived.Test.YtmnephaechgffaaDoorFx
import Derived.Test.YtmnephaechgffaaDoorFy
import Derived.Test.YtmnephaechgffaaDoorFz
import Derived.Test.YtmnephaechgffaaDoorFw
import Derived.Test.YtmnephaechgffaaDoorCards
import Derived.Test.YtmnephaechgffaaDoorTie
import Derived.Test.YtmnephaechgffaaDoorBy
import Derived.Test.YtmnephaechgffaaDoorZY
import Derived.LaidMore
import Derived.Lay
import Derived.Stop.Joined
import Derived.SevenTiedAt
import Derived.Lib.LaidTab
namespace Go.Proofs.YtmnephaechgffaaDoor
open Go.ChangeShapes Go.WideShapes Go.ChangeAt Go.RowKit Go.Deep

theorem xTabType : (Tryd.prog.globalNamed "internal/strconv.uint64pow10").bind (fun g => (Tryd.prog.globals[g]?).map (·.type)) = some 112 := by kernel_rfl
/-- What the row lists gives the walk its table. -/
theorem tab_of_laid {W : World} (h : laidMetH Tryd.prog Rows.fnPieceCheckRow.laid W) : Tab W := by
  rw [MakeChecks.laidMetH_plain _ _ _ (by kernel_rfl)] at h
  obtain ⟨ps, ⟨g0, t0, cs0, f0, p0, q0, hg0, ht0, hv0, hd0, ⟨g1, t1, cs1, f1, p1, q1, hg1, ht1, hv1, hd1, ⟨g2, t2, cs2, f2, p2, q2, hg2, ht2, hv2, hd2, _, _⟩, _⟩, _⟩, _, _⟩ := h
  have hT := xTabType
  rw [hg2] at hT
  obtain rfl : t2 = 112 := Option.some.inj (ht2.symm.trans hT)
  show World.var? _ _ _ = _
  rw [hv2, ← Lib.cells_of_tab (k := .u64) (zs := Lib.pow10Tab) Tryd.underlying112 Tryd.underlying102 (by kernel_rfl) (by kernel_rfl) hd2]

theorem pPieceCheck_k1 : (Rows.fnPieceCheckRow.wf (OpenSpec.ofChange Rows.fnPieceCheckSpec)) = true := by kernel_rfl
theorem pPieceCheck_k4 : (Tryd.f4.params.all (Tryd.prog.readableRec ·)) = true := by kernel_rfl
theorem pPieceCheck_k5 : (namedTie Tryd.prog Rows.fnPieceCheckRow.named Rows.fnPieceCheckSpec.vars) = true := by kernel_rfl
theorem pPieceCheck_k6 : ((Rows.fnPieceCheckRow.stops == [])) = true := by kernel_rfl
theorem pPieceCheck_k8 : ((Rows.fnPieceCheckRow.knobs == [])) = true := by kernel_rfl
theorem pPieceCheck_k10 : ((Rows.fnPieceCheckRow.inPlace == Tryd.prog.inPlace 4)) = true := by kernel_rfl
theorem pPieceCheck_k11 : ((Rows.fnPieceCheckRow.unfollowed == Tryd.prog.unfollowed 4)) = true := by kernel_rfl
theorem pPieceCheck_k12 : ((Rows.fnPieceCheckRow.recurses == Tryd.prog.recurses 4)) = true := by kernel_rfl
theorem pPieceCheck_k13 : ((Rows.fnPieceCheckRow.named == Tryd.prog.varsNamed 4)) = true := by kernel_rfl
theorem pPieceCheck_k14 : ((Rows.fnPieceCheckRow.maps == (Tryd.f4.params.toList ++ Rows.fnPieceCheckSpec.plain.varTypes Tryd.prog).any (Tryd.prog.mapsRec ·))) = true := by kernel_rfl
theorem pPieceCheck_k15 : ((Rows.fnPieceCheckRow.ifaces == (Tryd.f4.params.toList ++ Rows.fnPieceCheckSpec.plain.varTypes Tryd.prog).any (Tryd.prog.ifacesRec ·))) = true := by kernel_rfl
theorem pPieceCheck_k16 : ((Rows.fnPieceCheckRow.mapsOut == Tryd.prog.mapsAmong Tryd.f4.resultTypes.toList)) = true := by kernel_rfl
theorem pPieceCheck_k17 : ((Rows.fnPieceCheckRow.loops == (Tryd.f4.params.toList ++ Rows.fnPieceCheckSpec.plain.varTypes Tryd.prog).any (Tryd.prog.loopsFrom ·))) = true := by kernel_rfl
theorem pPieceCheck_k18 : ((Rows.fnPieceCheckRow.wideKeys == (Tryd.f4.params.toList ++ Rows.fnPieceCheckSpec.plain.varTypes Tryd.prog ++ Tryd.f4.resultTypes.toList).any (Tryd.prog.wideKeysFrom ·))) = true := by kernel_rfl
theorem pPieceCheck_k19 : (Rows.fnPieceCheckSpec.vars.all (Tryd.prog.varReadable ·)) = true := by kernel_rfl
theorem pPieceCheck_k20 : (Tryd.f4.resultTypes.all (fun t => Tryd.prog.readableRec t && decide (t < Tryd.prog.types.size))) = true := by kernel_rfl
theorem pPieceCheck_k21 : ((Rows.fnPieceCheckRow.ifacesOut == Tryd.f4.resultTypes.toList.any (Tryd.prog.ifacesRec ·))) = true := by kernel_rfl
theorem pPieceCheck_k22 : ((Rows.fnPieceCheckRow.loopsOut == Tryd.f4.resultTypes.toList.any (Tryd.prog.loopsFrom ·))) = true := by kernel_rfl
theorem pPieceCheck_k24 : (Rows.fnPieceCheckRow.shortTexts.isNone) = true := by kernel_rfl
theorem pPieceCheck_k30 : ((Rows.fnPieceCheckRow.pinned == Rows.fnPieceCheckRow.pinnedBy)) = true := by kernel_rfl
theorem pPieceCheck_k31 : ((Rows.fnPieceCheckRow.veiled == (Tryd.f4.params.toList ++ Rows.fnPieceCheckSpec.plain.varTypes Tryd.prog ++ Tryd.f4.resultTypes.toList).any (Tryd.prog.veiledRec ·))) = true := by kernel_rfl
theorem pPieceCheck_k32 : (Rows.fnPieceCheckRow.veiledFits Tryd.prog Tryd.f4.params.toList (Tryd.f4.params.toList ++ Rows.fnPieceCheckSpec.plain.varTypes Tryd.prog ++ Tryd.f4.resultTypes.toList)) = true := by kernel_rfl
theorem pPieceCheck_closed : joinedFacts Tryd.prog 4 Tryd.f4 Rows.fnPieceCheckSpec Rows.fnPieceCheckRow = true :=
  facts_of pPieceCheck_k1 Try.f_laid Try.f_maps pPieceCheck_k4 pPieceCheck_k5 pPieceCheck_k6 Try.f_stops pPieceCheck_k8 Try.f_knobs pPieceCheck_k10 pPieceCheck_k11 pPieceCheck_k12 pPieceCheck_k13 pPieceCheck_k14 pPieceCheck_k15 pPieceCheck_k16 pPieceCheck_k17 pPieceCheck_k18 pPieceCheck_k19 pPieceCheck_k20 pPieceCheck_k21 pPieceCheck_k22 (by kernel_rfl) pPieceCheck_k24 Try.f_heard Try.f_enter Try.f_lifts Try.f_make rfl rfl pPieceCheck_k30 pPieceCheck_k31 pPieceCheck_k32

set_option maxRecDepth 100000 in
theorem pPieceCheck_lifted (os : Os) (started : os.Started) (H : Type) (enc : TypeId × Value → H) :
    ReturnsInHanded {} Tryd.checked os 4 .any (fun w args => (Rows.fnPieceCheckSpec.pre enc Tryd.prog Tryd.f4 [] false w args ∧ laidMetH Tryd.prog Rows.fnPieceCheckRow.laid w) ∧ sizedMet enc Tryd.prog Tryd.f4 (OpenSpec.ofChange Rows.fnPieceCheckSpec) false w args)
      (Rows.fnPieceCheckSpec.post enc Tryd.prog Tryd.f4 false true false false) := by
  refine returnsInHanded_of_change_and (C := Tryd.checked) (X := fun w _ => laidMetH Tryd.prog Rows.fnPieceCheckRow.laid w) (fun _ _ _ hh h => h.of_heap hh) Tryd.own started (by kernel_rfl) Tryd.func4
    (ChangeSpec.witness_shaped (enc := enc) (C := Tryd.checked) (os := os) (X := fun w _ => laidMetH Tryd.prog Rows.fnPieceCheckRow.laid w) false (World.laidAll Tryd.prog os Rows.fnPieceCheckRow.laid) #[.slice none 0 0] 8 (World.laidAll_os _ _ _)
      (World.shaped_of_ZipB (by kernel_rfl) (by kernel_rfl)) (by kernel_rfl) (by kernel_rfl) (by kernel_rfl)
      (by rw [MakeChecks.laidMetH_plain _ _ _ (by kernel_rfl)]; exact laidMet_laidAll _ (by kernel_rfl) (by kernel_rfl))) ?_
  intro W base args ds gs before hval0 hW _ _ HL _
  have hval : ∀ (j : Nat) t v, Tryd.f4.params[j]? = some t → args[j]? = some v → Value.okWide Tryd.prog W .any base t v := hval0
  have hW' := hW
  obtain ⟨p, q, hA0, hV, rfl, _, _⟩ := hW
  have hA : DataW.TrodAll enc Tryd.prog W 0 (fun _ => true) true Tryd.f4.params.toList args.toList ds p := hA0
  rw [Tryd.params4] at hA hval
  obtain ⟨v0, d0, rfl, rfl, h0⟩ := trodAll_one hA
  obtain ⟨rfl, rfl⟩ := trodVars_none hV
  obtain ⟨A, n, c, rfl, m0, l0, b0⟩ := in_bytes Tryd.underlying26 Tryd.underlying5 (by kernel_rfl) (hval 0 _ v0 rfl rfl) h0
  refine (lawPieceCheck m0 l0 b0 (tab_of_laid HL)).mono fun e W' ⟨he, hb⟩ => ⟨_, he, ?_⟩
  exact law_post (tb := 4) Tryd.laidOut (by kernel_rfl) rfl Tryd.underlying4 rfl hW' rfl hb

theorem pPieceCheck_row : Rows.FnPieceCheckSaid :=
  OpenClaim.holds_of_wide 4 Tryd.f4 rfl rfl rfl rfl rfl rfl rfl ⟨rfl, rfl, rfl, rfl, rfl⟩ rfl rfl rfl rfl rfl (by kernel_rfl) Tryd.func4 pPieceCheck_closed
    (of_decide_eq_true (by kernel_rfl)) (by unfold Func.isWrapper; first | (rw [if_pos (by decide +kernel)]; kernel_rfl) | (rw [if_neg (by decide +kernel)]; exact ⟨rfl, rfl⟩))
    (fun os started H enc _ => pPieceCheck_lifted os started H enc)

theorem pPieceCheck_holds : Rows.FnPieceCheckCardSaid :=
  Claim7.holds_tied_plain_at .later [] [.data, .data, .data] true (true, "d19862c03ae4b4f9715e92ab5adeec4d8d079e9b45b17422d7a145dcb681b044") false
    pPieceCheck_row (fun _ h => by cases h) (by kernel_rfl) (fun _ h => by cases h) fnPieceCheck_row_tie rfl ⟨rfl, rfl⟩ (by kernel_rfl) rfl
    (fun f fn hf hfn => by
      obtain rfl : f = 4 := Option.some.inj ((show Tryd.prog.funcNamed "loop.example/wapentake/laws.FnPieceCheck" = some 4 by kernel_rfl).symm.trans hf) |>.symm
      obtain rfl : fn = Tryd.f4 := (Option.some.inj (Tryd.func4.symm.trans hfn)).symm
      exact ⟨by kernel_rfl, fun j t ht => by
        have hall : (Tryd.f4.params.toList.all fun t => !Tryd.prog.wantsStandIn t) = true := by kernel_rfl
        have hmem : t ∈ Tryd.f4.params.toList := by
          rw [Array.mem_toList_iff]
          exact Array.mem_of_getElem? ht
        have this := List.all_eq_true.1 hall t hmem
        have e : Tryd.prog.wantsStandIn t = false := by simpa using this
        exact e⟩)
    (by kernel_rfl)
#print axioms pPieceCheck_holds
end Go.Proofs.YtmnephaechgffaaDoor
