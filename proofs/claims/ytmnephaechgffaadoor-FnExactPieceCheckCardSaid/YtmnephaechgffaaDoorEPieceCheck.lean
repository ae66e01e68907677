/- The exact law of PieceCheck holds of all that comes in. -/
import Derived.Test.YtmnephaechgffaaDoorLaw
import Derived.Test.YtmnephaechgffaaDoorRq
import Derived.Test.YtmnephaechgffaaDoorFx
import Derived.Test.YtmnephaechgffaaDoorFy
import Derived.Test.YtmnephaechgffaaDoorFz
import Derived.Test.YtmnephaechgffaaDoorFw
import Derived.Test.YtmnephaechgffaaDoorCards
import Derived.Test.YtmnephaechgffaaDoorTie
import Derived.Test.YtmnephaechgffaaDoorPt
import Derived.LaidMore
import Derived.Lay
import Derived.Stop.Joined
import Derived.SevenTiedAt
import Derived.Lib.LaidTab
namespace Go.Proofs.YtmnephaechgffaaDoor
open Go.ChangeShapes Go.WideShapes Go.ChangeAt Go.RowKit Go.Deep

theorem xTabType : (Tryd.prog.globalNamed "internal/strconv.uint64pow10").bind (fun g => (Tryd.prog.globals[g]?).map (·.type)) = some 112 := by kernel_rfl
/-- What the row lists gives the walk its table. -/
theorem tab_of_laid {W : World} (h : laidMetH Tryd.prog Rows.fnExactPieceCheckRow.laid W) : Tab W := by
  rw [MakeChecks.laidMetH_plain _ _ _ (by kernel_rfl)] at h
  obtain ⟨ps, ⟨g0, t0, cs0, f0, p0, q0, hg0, ht0, hv0, hd0, ⟨g1, t1, cs1, f1, p1, q1, hg1, ht1, hv1, hd1, ⟨g2, t2, cs2, f2, p2, q2, hg2, ht2, hv2, hd2, _, _⟩, _⟩, _⟩, _, _⟩ := h
  have hT := xTabType
  rw [hg2] at hT
  obtain rfl : t2 = 112 := Option.some.inj (ht2.symm.trans hT)
  show World.var? _ _ _ = _
  rw [hv2, ← Lib.cells_of_tab (k := .u64) (zs := Lib.pow10Tab) Tryd.underlying112 Tryd.underlying102 (by kernel_rfl) (by kernel_rfl) hd2]

theorem xPieceCheck_k1 : (Rows.fnExactPieceCheckRow.wf (OpenSpec.ofChange Rows.fnExactPieceCheckSpec)) = true := by kernel_rfl
theorem xPieceCheck_k4 : (Tryd.f3.params.all (Tryd.prog.readableRec ·)) = true := by kernel_rfl
theorem xPieceCheck_k5 : (namedTie Tryd.prog Rows.fnExactPieceCheckRow.named Rows.fnExactPieceCheckSpec.vars) = true := by kernel_rfl
theorem xPieceCheck_k6 : ((Rows.fnExactPieceCheckRow.stops == [])) = true := by kernel_rfl
theorem xPieceCheck_k8 : ((Rows.fnExactPieceCheckRow.knobs == [])) = true := by kernel_rfl
theorem xPieceCheck_k10 : ((Rows.fnExactPieceCheckRow.inPlace == Tryd.prog.inPlace 3)) = true := by kernel_rfl
theorem xPieceCheck_k11 : ((Rows.fnExactPieceCheckRow.unfollowed == Tryd.prog.unfollowed 3)) = true := by kernel_rfl
theorem xPieceCheck_k12 : ((Rows.fnExactPieceCheckRow.recurses == Tryd.prog.recurses 3)) = true := by kernel_rfl
theorem xPieceCheck_k13 : ((Rows.fnExactPieceCheckRow.named == Tryd.prog.varsNamed 3)) = true := by kernel_rfl
theorem xPieceCheck_k14 : ((Rows.fnExactPieceCheckRow.maps == (Tryd.f3.params.toList ++ Rows.fnExactPieceCheckSpec.plain.varTypes Tryd.prog).any (Tryd.prog.mapsRec ·))) = true := by kernel_rfl
theorem xPieceCheck_k15 : ((Rows.fnExactPieceCheckRow.ifaces == (Tryd.f3.params.toList ++ Rows.fnExactPieceCheckSpec.plain.varTypes Tryd.prog).any (Tryd.prog.ifacesRec ·))) = true := by kernel_rfl
theorem xPieceCheck_k16 : ((Rows.fnExactPieceCheckRow.mapsOut == Tryd.prog.mapsAmong Tryd.f3.resultTypes.toList)) = true := by kernel_rfl
theorem xPieceCheck_k17 : ((Rows.fnExactPieceCheckRow.loops == (Tryd.f3.params.toList ++ Rows.fnExactPieceCheckSpec.plain.varTypes Tryd.prog).any (Tryd.prog.loopsFrom ·))) = true := by kernel_rfl
theorem xPieceCheck_k18 : ((Rows.fnExactPieceCheckRow.wideKeys == (Tryd.f3.params.toList ++ Rows.fnExactPieceCheckSpec.plain.varTypes Tryd.prog ++ Tryd.f3.resultTypes.toList).any (Tryd.prog.wideKeysFrom ·))) = true := by kernel_rfl
theorem xPieceCheck_k19 : (Rows.fnExactPieceCheckSpec.vars.all (Tryd.prog.varReadable ·)) = true := by kernel_rfl
theorem xPieceCheck_k20 : (Tryd.f3.resultTypes.all (fun t => Tryd.prog.readableRec t && decide (t < Tryd.prog.types.size))) = true := by kernel_rfl
theorem xPieceCheck_k21 : ((Rows.fnExactPieceCheckRow.ifacesOut == Tryd.f3.resultTypes.toList.any (Tryd.prog.ifacesRec ·))) = true := by kernel_rfl
theorem xPieceCheck_k22 : ((Rows.fnExactPieceCheckRow.loopsOut == Tryd.f3.resultTypes.toList.any (Tryd.prog.loopsFrom ·))) = true := by kernel_rfl
theorem xPieceCheck_k24 : (Rows.fnExactPieceCheckRow.shortTexts.isNone) = true := by kernel_rfl
theorem xPieceCheck_k30 : ((Rows.fnExactPieceCheckRow.pinned == Rows.fnExactPieceCheckRow.pinnedBy)) = true := by kernel_rfl
theorem xPieceCheck_k31 : ((Rows.fnExactPieceCheckRow.veiled == (Tryd.f3.params.toList ++ Rows.fnExactPieceCheckSpec.plain.varTypes Tryd.prog ++ Tryd.f3.resultTypes.toList).any (Tryd.prog.veiledRec ·))) = true := by kernel_rfl
theorem xPieceCheck_k32 : (Rows.fnExactPieceCheckRow.veiledFits Tryd.prog Tryd.f3.params.toList (Tryd.f3.params.toList ++ Rows.fnExactPieceCheckSpec.plain.varTypes Tryd.prog ++ Tryd.f3.resultTypes.toList)) = true := by kernel_rfl
theorem xPieceCheck_closed : joinedFacts Tryd.prog 3 Tryd.f3 Rows.fnExactPieceCheckSpec Rows.fnExactPieceCheckRow = true :=
  facts_of xPieceCheck_k1 Try.f_laid Try.f_maps xPieceCheck_k4 xPieceCheck_k5 xPieceCheck_k6 Try.f_stops xPieceCheck_k8 Try.f_knobs xPieceCheck_k10 xPieceCheck_k11 xPieceCheck_k12 xPieceCheck_k13 xPieceCheck_k14 xPieceCheck_k15 xPieceCheck_k16 xPieceCheck_k17 xPieceCheck_k18 xPieceCheck_k19 xPieceCheck_k20 xPieceCheck_k21 xPieceCheck_k22 (by kernel_rfl) xPieceCheck_k24 Try.f_heard Try.f_enter Try.f_lifts Try.f_make rfl rfl xPieceCheck_k30 xPieceCheck_k31 xPieceCheck_k32

set_option maxRecDepth 100000 in
theorem xPieceCheck_lifted (os : Os) (started : os.Started) (H : Type) (enc : TypeId × Value → H) :
    ReturnsInHanded {} Tryd.checked os 3 .any (fun w args => (Rows.fnExactPieceCheckSpec.pre enc Tryd.prog Tryd.f3 [] false w args ∧ laidMetH Tryd.prog Rows.fnExactPieceCheckRow.laid w) ∧ sizedMet enc Tryd.prog Tryd.f3 (OpenSpec.ofChange Rows.fnExactPieceCheckSpec) false w args)
      (Rows.fnExactPieceCheckSpec.post enc Tryd.prog Tryd.f3 false true false false) := by
  refine returnsInHanded_of_change_and (C := Tryd.checked) (X := fun w _ => laidMetH Tryd.prog Rows.fnExactPieceCheckRow.laid w) (fun _ _ _ hh h => h.of_heap hh) Tryd.own started (by kernel_rfl) Tryd.func3
    (ChangeSpec.witness_shaped (enc := enc) (C := Tryd.checked) (os := os) (X := fun w _ => laidMetH Tryd.prog Rows.fnExactPieceCheckRow.laid w) false (World.laidAll Tryd.prog os Rows.fnExactPieceCheckRow.laid) #[.int .i64 0, .int .i64 0, .int .i64 0, .string ⟨#[]⟩, .slice none 0 0] 8 (World.laidAll_os _ _ _)
      (World.shaped_of_ZipB (by kernel_rfl) (by kernel_rfl)) (by kernel_rfl) (by kernel_rfl) (by kernel_rfl)
      (by rw [MakeChecks.laidMetH_plain _ _ _ (by kernel_rfl)]; exact laidMet_laidAll _ (by kernel_rfl) (by kernel_rfl))) ?_
  intro W base args ds gs before hval0 hW _ _ HL _
  have hval : ∀ (j : Nat) t v, Tryd.f3.params[j]? = some t → args[j]? = some v → Value.okWide Tryd.prog W .any base t v := hval0
  have hW' := hW
  obtain ⟨p, q, hA0, hV, rfl, _, _⟩ := hW
  have hA : DataW.TrodAll enc Tryd.prog W 0 (fun _ => true) true Tryd.f3.params.toList args.toList ds p := hA0
  rw [Tryd.params3] at hA hval
  obtain ⟨v0, v1, v2, v3, v4, d0, d1, d2, d3, d4, p0, p1, p2, p3, p4, rfl, rfl, rfl, h0, h1, h2, h3, h4⟩ := trodAll_five hA
  obtain ⟨rfl, rfl⟩ := trodVars_none hV
  obtain ⟨x0, rfl, _⟩ := open_int Tryd.underlying3 (hval 0 _ v0 rfl rfl) h0
  obtain ⟨x1, rfl, _⟩ := open_int Tryd.underlying3 (hval 1 _ v1 rfl rfl) h1
  obtain ⟨x2, rfl, _⟩ := open_int Tryd.underlying3 (hval 2 _ v2 rfl rfl) h2
  obtain ⟨s, rfl, _, _, m3⟩ := ChangeMaps.open_string Tryd.underlying9 (hval 3 _ v3 rfl rfl) h3
  obtain ⟨A, c, L, rfl, m4, r4, i4⟩ := ints64_in Tryd.underlying22 Tryd.underlying3 (by kernel_rfl) (hval 4 _ v4 rfl rfl) h4
  refine (exactPieceCheck x0 x1 x2 s A c L _ r4 i4 (tab_of_laid HL)).mono fun e W' ⟨he, hb⟩ => ⟨_, he, ?_⟩
  exact law_post (tb := 4) Tryd.laidOut (by kernel_rfl) rfl Tryd.underlying4 rfl hW' rfl hb

theorem xPieceCheck_row : Rows.FnExactPieceCheckSaid :=
  OpenClaim.holds_of_wide 3 Tryd.f3 rfl rfl rfl rfl rfl rfl rfl ⟨rfl, rfl, rfl, rfl, rfl⟩ rfl rfl rfl rfl rfl (by kernel_rfl) Tryd.func3 xPieceCheck_closed
    (of_decide_eq_true (by kernel_rfl)) (by unfold Func.isWrapper; first | (rw [if_pos (by decide +kernel)]; kernel_rfl) | (rw [if_neg (by decide +kernel)]; exact ⟨rfl, rfl⟩))
    (fun os started H enc _ => xPieceCheck_lifted os started H enc)

theorem xPieceCheck_holds : Rows.FnExactPieceCheckCardSaid :=
  Claim7.holds_tied_plain_at .later [] [.data, .data, .data] true (true, "d19862c03ae4b4f9715e92ab5adeec4d8d079e9b45b17422d7a145dcb681b044") false
    xPieceCheck_row (fun _ h => by cases h) (by kernel_rfl) (fun _ h => by cases h) fnExactPieceCheck_row_tie rfl ⟨rfl, rfl⟩ (by kernel_rfl) rfl
    (fun f fn hf hfn => by
      obtain rfl : f = 3 := Option.some.inj ((show Tryd.prog.funcNamed "loop.example/wapentake/laws.FnExactPieceCheck" = some 3 by kernel_rfl).symm.trans hf) |>.symm
      obtain rfl : fn = Tryd.f3 := (Option.some.inj (Tryd.func3.symm.trans hfn)).symm
      exact ⟨by kernel_rfl, fun j t ht => by
        have hall : (Tryd.f3.params.toList.all fun t => !Tryd.prog.wantsStandIn t) = true := by kernel_rfl
        have hmem : t ∈ Tryd.f3.params.toList := by
          rw [Array.mem_toList_iff]
          exact Array.mem_of_getElem? ht
        have this := List.all_eq_true.1 hall t hmem
        have e : Tryd.prog.wantsStandIn t = false := by simpa using this
        exact e⟩)
    (by kernel_rfl)
#print axioms xPieceCheck_holds
end Go.Proofs.YtmnephaechgffaaDoor
