/- The exact law of ReqPut holds of every request that comes in. -/
import Derived.Test.YtolepfbhhmganaaDoorMB
import Derived.Test.YtolepfbhhmganaaDoorFx
import Derived.Test.YtolepfbhhmganaaDoorFy
import Derived.Test.YtolepfbhhmganaaDoorFz
import Derived.Test.YtolepfbhhmganaaDoorFw
import Derived.Test.YtolepfbhhmganaaDoorCards
import Derived.Test.YtolepfbhhmganaaDoorTie
import Derived.Test.YtolepfbhhmganaaDoorSd
import Derived.LaidMore
import Derived.Lay
import Derived.Stop.Joined
import Derived.SevenTiedAt
import Derived.Lib.LaidTab
namespace Go.Proofs.YtolepfbhhmganaaDoor
open Go.ChangeShapes Go.WideShapes Go.ChangeAt Go.RowKit Go.Deep

theorem xTabType : (Tryd.prog.globalNamed "internal/strconv.uint64pow10").bind (fun g => (Tryd.prog.globals[g]?).map (·.type)) = some 102 := by kernel_rfl
/-- What the row lists gives the walk its table. -/
theorem tab_of_laid {W : World} (h : laidMetH Tryd.prog Rows.fnExactReqPutRow.laid W) : Tab W := by
  rw [MakeChecks.laidMetH_plain _ _ _ (by kernel_rfl)] at h
  obtain ⟨ps, ⟨g0, t0, cs0, f0, p0, q0, hg0, ht0, hv0, hd0, ⟨g1, t1, cs1, f1, p1, q1, hg1, ht1, hv1, hd1, ⟨g2, t2, cs2, f2, p2, q2, hg2, ht2, hv2, hd2, _, _⟩, _⟩, _⟩, _, _⟩ := h
  have hT := xTabType
  rw [hg2] at hT
  obtain rfl : t2 = 102 := Option.some.inj (ht2.symm.trans hT)
  show World.var? _ _ _ = _
  rw [hv2, ← Lib.cells_of_tab (k := .u64) (zs := Lib.pow10Tab) Tryd.underlying102 Tryd.underlying84 (by kernel_rfl) (by kernel_rfl) hd2]

theorem xReqPut_k1 : (Rows.fnExactReqPutRow.wf (OpenSpec.ofChange Rows.fnExactReqPutSpec)) = true := by kernel_rfl
theorem xReqPut_k4 : (Tryd.f3.params.all (Tryd.prog.readableRec ·)) = true := by kernel_rfl
theorem xReqPut_k5 : (namedTie Tryd.prog Rows.fnExactReqPutRow.named Rows.fnExactReqPutSpec.vars) = true := by kernel_rfl
theorem xReqPut_k6 : ((Rows.fnExactReqPutRow.stops == [])) = true := by kernel_rfl
theorem xReqPut_k8 : ((Rows.fnExactReqPutRow.knobs == [])) = true := by kernel_rfl
theorem xReqPut_k10 : ((Rows.fnExactReqPutRow.inPlace == Tryd.prog.inPlace 3)) = true := by kernel_rfl
theorem xReqPut_k11 : ((Rows.fnExactReqPutRow.unfollowed == Tryd.prog.unfollowed 3)) = true := by kernel_rfl
theorem xReqPut_k12 : ((Rows.fnExactReqPutRow.recurses == Tryd.prog.recurses 3)) = true := by kernel_rfl
theorem xReqPut_k13 : ((Rows.fnExactReqPutRow.named == Tryd.prog.varsNamed 3)) = true := by kernel_rfl
theorem xReqPut_k14 : ((Rows.fnExactReqPutRow.maps == (Tryd.f3.params.toList ++ Rows.fnExactReqPutSpec.plain.varTypes Tryd.prog).any (Tryd.prog.mapsRec ·))) = true := by kernel_rfl
theorem xReqPut_k15 : ((Rows.fnExactReqPutRow.ifaces == (Tryd.f3.params.toList ++ Rows.fnExactReqPutSpec.plain.varTypes Tryd.prog).any (Tryd.prog.ifacesRec ·))) = true := by kernel_rfl
theorem xReqPut_k16 : ((Rows.fnExactReqPutRow.mapsOut == Tryd.prog.mapsAmong Tryd.f3.resultTypes.toList)) = true := by kernel_rfl
theorem xReqPut_k17 : ((Rows.fnExactReqPutRow.loops == (Tryd.f3.params.toList ++ Rows.fnExactReqPutSpec.plain.varTypes Tryd.prog).any (Tryd.prog.loopsFrom ·))) = true := by kernel_rfl
theorem xReqPut_k18 : ((Rows.fnExactReqPutRow.wideKeys == (Tryd.f3.params.toList ++ Rows.fnExactReqPutSpec.plain.varTypes Tryd.prog ++ Tryd.f3.resultTypes.toList).any (Tryd.prog.wideKeysFrom ·))) = true := by kernel_rfl
theorem xReqPut_k19 : (Rows.fnExactReqPutSpec.vars.all (Tryd.prog.varReadable ·)) = true := by kernel_rfl
theorem xReqPut_k20 : (Tryd.f3.resultTypes.all (fun t => Tryd.prog.readableRec t && decide (t < Tryd.prog.types.size))) = true := by kernel_rfl
theorem xReqPut_k21 : ((Rows.fnExactReqPutRow.ifacesOut == Tryd.f3.resultTypes.toList.any (Tryd.prog.ifacesRec ·))) = true := by kernel_rfl
theorem xReqPut_k22 : ((Rows.fnExactReqPutRow.loopsOut == Tryd.f3.resultTypes.toList.any (Tryd.prog.loopsFrom ·))) = true := by kernel_rfl
theorem xReqPut_k24 : (Rows.fnExactReqPutRow.shortTexts.isNone) = true := by kernel_rfl
theorem xReqPut_k30 : ((Rows.fnExactReqPutRow.pinned == Rows.fnExactReqPutRow.pinnedBy)) = true := by kernel_rfl
theorem xReqPut_k31 : ((Rows.fnExactReqPutRow.veiled == (Tryd.f3.params.toList ++ Rows.fnExactReqPutSpec.plain.varTypes Tryd.prog ++ Tryd.f3.resultTypes.toList).any (Tryd.prog.veiledRec ·))) = true := by kernel_rfl
theorem xReqPut_k32 : (Rows.fnExactReqPutRow.veiledFits Tryd.prog Tryd.f3.params.toList (Tryd.f3.params.toList ++ Rows.fnExactReqPutSpec.plain.varTypes Tryd.prog ++ Tryd.f3.resultTypes.toList)) = true := by kernel_rfl
theorem xReqPut_closed : joinedFacts Tryd.prog 3 Tryd.f3 Rows.fnExactReqPutSpec Rows.fnExactReqPutRow = true :=
  facts_of xReqPut_k1 Try.f_laid Try.f_maps xReqPut_k4 xReqPut_k5 xReqPut_k6 Try.f_stops xReqPut_k8 Try.f_knobs xReqPut_k10 xReqPut_k11 xReqPut_k12 xReqPut_k13 xReqPut_k14 xReqPut_k15 xReqPut_k16 xReqPut_k17 xReqPut_k18 xReqPut_k19 xReqPut_k20 xReqPut_k21 xReqPut_k22 (by kernel_rfl) xReqPut_k24 Try.f_heard Try.f_enter Try.f_lifts Try.f_make rfl rfl xReqPut_k30 xReqPut_k31 xReqPut_k32

set_option maxRecDepth 100000 in
theorem xReqPut_lifted (os : Os) (started : os.Started) (H : Type) (enc : TypeId × Value → H) :
    ReturnsInHanded {} Tryd.checked os 3 .any (fun w args => (Rows.fnExactReqPutSpec.pre enc Tryd.prog Tryd.f3 [] false w args ∧ laidMetH Tryd.prog Rows.fnExactReqPutRow.laid w) ∧ sizedMet enc Tryd.prog Tryd.f3 (OpenSpec.ofChange Rows.fnExactReqPutSpec) false w args)
      (Rows.fnExactReqPutSpec.post enc Tryd.prog Tryd.f3 false true false false) := by
  refine returnsInHanded_of_change_and (C := Tryd.checked) (X := fun w _ => laidMetH Tryd.prog Rows.fnExactReqPutRow.laid w) (fun _ _ _ hh h => h.of_heap hh) Tryd.own started (by kernel_rfl) Tryd.func3
    (ChangeSpec.witness_shaped (enc := enc) (C := Tryd.checked) (os := os) (X := fun w _ => laidMetH Tryd.prog Rows.fnExactReqPutRow.laid w) false (World.laidAll Tryd.prog os Rows.fnExactReqPutRow.laid) #[.agg #[.int .i64 0, .int .i64 0, .int .i64 0, .int .i64 0, .int .i64 0]] 8 (World.laidAll_os _ _ _)
      (World.shaped_of_ZipB (by kernel_rfl) (by kernel_rfl)) (by kernel_rfl) (by kernel_rfl) (by kernel_rfl)
      (by rw [MakeChecks.laidMetH_plain _ _ _ (by kernel_rfl)]; exact laidMet_laidAll _ (by kernel_rfl) (by kernel_rfl))) ?_
  intro W base args ds gs before hval0 hW _ _ HL _
  have hval : ∀ (j : Nat) t v, Tryd.f3.params[j]? = some t → args[j]? = some v → Value.okWide Tryd.prog W .any base t v := hval0
  have hW' := hW
  obtain ⟨p, q, hA0, hV, rfl, _, _⟩ := hW
  have hA : DataW.TrodAll enc Tryd.prog W 0 (fun _ => true) true Tryd.f3.params.toList args.toList ds p := hA0
  rw [Tryd.params3] at hA hval
  obtain ⟨v0, d0, rfl, rfl, h0⟩ := trodAll_one hA
  obtain ⟨rfl, rfl⟩ := trodVars_none hV
  obtain ⟨c, n, o, x, y, rfl⟩ := req_of_trod (hval 0 _ v0 rfl rfl) h0
  refine (exactReqPut c n o x y _ (tab_of_laid HL)).mono fun e W' ⟨he, hb⟩ => ⟨_, he, ?_⟩
  exact law_post (tb := 4) Tryd.laidOut (by kernel_rfl) rfl Tryd.underlying4 rfl hW' rfl hb

theorem xReqPut_row : Rows.FnExactReqPutSaid :=
  OpenClaim.holds_of_wide 3 Tryd.f3 rfl rfl rfl rfl rfl rfl rfl ⟨rfl, rfl, rfl, rfl, rfl⟩ rfl rfl rfl rfl rfl (by kernel_rfl) Tryd.func3 xReqPut_closed
    (of_decide_eq_true (by kernel_rfl)) (by unfold Func.isWrapper; first | (rw [if_pos (by decide +kernel)]; kernel_rfl) | (rw [if_neg (by decide +kernel)]; exact ⟨rfl, rfl⟩))
    (fun os started H enc _ => xReqPut_lifted os started H enc)

theorem xReqPut_holds : Rows.FnExactReqPutCardSaid :=
  Claim7.holds_tied_plain_at .later [] [.data, .data, .data] true (true, "7918b164eae5cb491ef62f9b4bf877ae84a141246cdb1dff74cec8094af5b4d7") true
    xReqPut_row (fun _ h => by cases h) (by kernel_rfl) (fun _ h => by cases h) fnExactReqPut_row_tie rfl ⟨rfl, rfl⟩ (by kernel_rfl) rfl
    (fun f fn hf hfn => by
      obtain rfl : f = 3 := Option.some.inj ((show Tryd.prog.funcNamed "loop.example/wapentake/laws.FnExactReqPut" = some 3 by kernel_rfl).symm.trans hf) |>.symm
      obtain rfl : fn = Tryd.f3 := (Option.some.inj (Tryd.func3.symm.trans hfn)).symm
      exact ⟨by kernel_rfl, fun j t ht => by
        have hall : (Tryd.f3.params.toList.all fun t => !Tryd.prog.wantsStandIn t) = true := by kernel_rfl
        have hmem : t ∈ Tryd.f3.params.toList := by
          rw [Array.mem_toList_iff]
          exact Array.mem_of_getElem? ht
        have this := List.all_eq_true.1 hall t hmem
        have e : Tryd.prog.wantsStandIn t = false := by simpa using this
        exact e⟩)
    (by kernel_rfl)
#print axioms xReqPut_holds
end Go.Proofs.YtolepfbhhmganaaDoor
