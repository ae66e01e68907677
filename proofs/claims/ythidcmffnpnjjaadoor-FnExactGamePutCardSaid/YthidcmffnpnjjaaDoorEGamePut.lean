/- The exact law of GamePut holds of every game that comes in. -/
import Derived.Test.YthidcmffnpnjjaaDoorLaw
import Derived.Test.YthidcmffnpnjjaaDoorRq
import Derived.Test.YthidcmffnpnjjaaDoorFx
import Derived.Test.YthidcmffnpnjjaaDoorFy
import Derived.Test.YthidcmffnpnjjaaDoorFz
import Derived.Test.YthidcmffnpnjjaaDoorFw
import Derived.Test.YthidcmffnpnjjaaDoorCards
import Derived.Test.YthidcmffnpnjjaaDoorTie
import Derived.Test.YthidcmffnpnjjaaDoorCp
import Derived.Test.YthidcmffnpnjjaaDoorTk
import Derived.LaidMore
import Derived.Lay
import Derived.Stop.Joined
import Derived.SevenTiedAt
import Derived.Lib.LaidTab
namespace Go.Proofs.YthidcmffnpnjjaaDoor
open Go.ChangeShapes Go.WideShapes Go.ChangeAt Go.RowKit Go.Deep

theorem xTabType : (Tryd.prog.globalNamed "internal/strconv.uint64pow10").bind (fun g => (Tryd.prog.globals[g]?).map (·.type)) = some 82 := by kernel_rfl
/-- What the row lists gives the walk its table. -/
theorem tab_of_laid {W : World} (h : laidMetH Tryd.prog Rows.fnExactGamePutRow.laid W) : Tab W := by
  rw [MakeChecks.laidMetH_plain _ _ _ (by kernel_rfl)] at h
  obtain ⟨ps, ⟨g0, t0, cs0, f0, p0, q0, hg0, ht0, hv0, hd0, ⟨g1, t1, cs1, f1, p1, q1, hg1, ht1, hv1, hd1, ⟨g2, t2, cs2, f2, p2, q2, hg2, ht2, hv2, hd2, _, _⟩, _⟩, _⟩, _, _⟩ := h
  have hT := xTabType
  rw [hg2] at hT
  obtain rfl : t2 = 82 := Option.some.inj (ht2.symm.trans hT)
  show World.var? _ _ _ = _
  rw [hv2, ← Lib.cells_of_tab (k := .u64) (zs := Lib.pow10Tab) Tryd.underlying82 Tryd.underlying74 (by kernel_rfl) (by kernel_rfl) hd2]

theorem xGamePut_k1 : (Rows.fnExactGamePutRow.wf (OpenSpec.ofChange Rows.fnExactGamePutSpec)) = true := by kernel_rfl
theorem xGamePut_k4 : (Tryd.f3.params.all (Tryd.prog.readableRec ·)) = true := by kernel_rfl
theorem xGamePut_k5 : (namedTie Tryd.prog Rows.fnExactGamePutRow.named Rows.fnExactGamePutSpec.vars) = true := by kernel_rfl
theorem xGamePut_k6 : ((Rows.fnExactGamePutRow.stops == [])) = true := by kernel_rfl
theorem xGamePut_k8 : ((Rows.fnExactGamePutRow.knobs == [])) = true := by kernel_rfl
theorem xGamePut_k10 : ((Rows.fnExactGamePutRow.inPlace == Tryd.prog.inPlace 3)) = true := by kernel_rfl
theorem xGamePut_k11 : ((Rows.fnExactGamePutRow.unfollowed == Tryd.prog.unfollowed 3)) = true := by kernel_rfl
theorem xGamePut_k12 : ((Rows.fnExactGamePutRow.recurses == Tryd.prog.recurses 3)) = true := by kernel_rfl
theorem xGamePut_k13 : ((Rows.fnExactGamePutRow.named == Tryd.prog.varsNamed 3)) = true := by kernel_rfl
theorem xGamePut_k14 : ((Rows.fnExactGamePutRow.maps == (Tryd.f3.params.toList ++ Rows.fnExactGamePutSpec.plain.varTypes Tryd.prog).any (Tryd.prog.mapsRec ·))) = true := by kernel_rfl
theorem xGamePut_k15 : ((Rows.fnExactGamePutRow.ifaces == (Tryd.f3.params.toList ++ Rows.fnExactGamePutSpec.plain.varTypes Tryd.prog).any (Tryd.prog.ifacesRec ·))) = true := by kernel_rfl
theorem xGamePut_k16 : ((Rows.fnExactGamePutRow.mapsOut == Tryd.prog.mapsAmong Tryd.f3.resultTypes.toList)) = true := by kernel_rfl
theorem xGamePut_k17 : ((Rows.fnExactGamePutRow.loops == (Tryd.f3.params.toList ++ Rows.fnExactGamePutSpec.plain.varTypes Tryd.prog).any (Tryd.prog.loopsFrom ·))) = true := by kernel_rfl
theorem xGamePut_k18 : ((Rows.fnExactGamePutRow.wideKeys == (Tryd.f3.params.toList ++ Rows.fnExactGamePutSpec.plain.varTypes Tryd.prog ++ Tryd.f3.resultTypes.toList).any (Tryd.prog.wideKeysFrom ·))) = true := by kernel_rfl
theorem xGamePut_k19 : (Rows.fnExactGamePutSpec.vars.all (Tryd.prog.varReadable ·)) = true := by kernel_rfl
theorem xGamePut_k20 : (Tryd.f3.resultTypes.all (fun t => Tryd.prog.readableRec t && decide (t < Tryd.prog.types.size))) = true := by kernel_rfl
theorem xGamePut_k21 : ((Rows.fnExactGamePutRow.ifacesOut == Tryd.f3.resultTypes.toList.any (Tryd.prog.ifacesRec ·))) = true := by kernel_rfl
theorem xGamePut_k22 : ((Rows.fnExactGamePutRow.loopsOut == Tryd.f3.resultTypes.toList.any (Tryd.prog.loopsFrom ·))) = true := by kernel_rfl
theorem xGamePut_k24 : (Rows.fnExactGamePutRow.shortTexts.isNone) = true := by kernel_rfl
theorem xGamePut_k30 : ((Rows.fnExactGamePutRow.pinned == Rows.fnExactGamePutRow.pinnedBy)) = true := by kernel_rfl
theorem xGamePut_k31 : ((Rows.fnExactGamePutRow.veiled == (Tryd.f3.params.toList ++ Rows.fnExactGamePutSpec.plain.varTypes Tryd.prog ++ Tryd.f3.resultTypes.toList).any (Tryd.prog.veiledRec ·))) = true := by kernel_rfl
theorem xGamePut_k32 : (Rows.fnExactGamePutRow.veiledFits Tryd.prog Tryd.f3.params.toList (Tryd.f3.params.toList ++ Rows.fnExactGamePutSpec.plain.varTypes Tryd.prog ++ Tryd.f3.resultTypes.toList)) = true := by kernel_rfl
theorem xGamePut_closed : joinedFacts Tryd.prog 3 Tryd.f3 Rows.fnExactGamePutSpec Rows.fnExactGamePutRow = true :=
  facts_of xGamePut_k1 Try.f_laid Try.f_maps xGamePut_k4 xGamePut_k5 xGamePut_k6 Try.f_stops xGamePut_k8 Try.f_knobs xGamePut_k10 xGamePut_k11 xGamePut_k12 xGamePut_k13 xGamePut_k14 xGamePut_k15 xGamePut_k16 xGamePut_k17 xGamePut_k18 xGamePut_k19 xGamePut_k20 xGamePut_k21 xGamePut_k22 (by kernel_rfl) xGamePut_k24 Try.f_heard Try.f_enter Try.f_lifts Try.f_make rfl rfl xGamePut_k30 xGamePut_k31 xGamePut_k32

set_option maxRecDepth 100000 in
theorem xGamePut_lifted (os : Os) (started : os.Started) (H : Type) (enc : TypeId × Value → H) :
    ReturnsInHanded {} Tryd.checked os 3 .any (fun w args => (Rows.fnExactGamePutSpec.pre enc Tryd.prog Tryd.f3 [] false w args ∧ laidMetH Tryd.prog Rows.fnExactGamePutRow.laid w) ∧ sizedMet enc Tryd.prog Tryd.f3 (OpenSpec.ofChange Rows.fnExactGamePutSpec) false w args)
      (Rows.fnExactGamePutSpec.post enc Tryd.prog Tryd.f3 false true false false) := by
  refine returnsInHanded_of_change_and (C := Tryd.checked) (X := fun w _ => laidMetH Tryd.prog Rows.fnExactGamePutRow.laid w) (fun _ _ _ hh h => h.of_heap hh) Tryd.own started (by kernel_rfl) Tryd.func3
    (ChangeSpec.witness_shaped (enc := enc) (C := Tryd.checked) (os := os) (X := fun w _ => laidMetH Tryd.prog Rows.fnExactGamePutRow.laid w) false (World.laidAll Tryd.prog os Rows.fnExactGamePutRow.laid) #[.agg #[.slice none 0 0, .slice none 0 0, .slice none 0 0]] 8 (World.laidAll_os _ _ _)
      (World.shaped_of_ZipB (by kernel_rfl) (by kernel_rfl)) (by kernel_rfl) (by kernel_rfl) (by kernel_rfl)
      (by rw [MakeChecks.laidMetH_plain _ _ _ (by kernel_rfl)]; exact laidMet_laidAll _ (by kernel_rfl) (by kernel_rfl))) ?_
  intro W base args ds gs before hval0 hW _ _ HL _
  have hval : ∀ (j : Nat) t v, Tryd.f3.params[j]? = some t → args[j]? = some v → Value.okWide Tryd.prog W .any base t v := hval0
  have hW' := hW
  obtain ⟨p, q, hA0, hV, rfl, _, _⟩ := hW
  have hA : DataW.TrodAll enc Tryd.prog W 0 (fun _ => true) true Tryd.f3.params.toList args.toList ds p := hA0
  rw [Tryd.params3] at hA hval
  obtain ⟨v0, d0, rfl, rfl, h0⟩ := trodAll_one hA
  obtain ⟨rfl, rfl⟩ := trodVars_none hV
  obtain ⟨A, a, B, b, C, c, E, F, L, rfl, mE0, mF0, mL0, rE0, rF0, rL0⟩ := in_game (hval 0 _ v0 rfl rfl) h0
  refine (exactGamePut A a B b C c E F L _ mE0 mF0 mL0 rE0 rF0 rL0 (tab_of_laid HL)).mono fun e W' ⟨he, hb⟩ => ⟨_, he, ?_⟩
  exact law_post (tb := 4) Tryd.laidOut (by kernel_rfl) rfl Tryd.underlying4 rfl hW' rfl hb

theorem xGamePut_row : Rows.FnExactGamePutSaid :=
  OpenClaim.holds_of_wide 3 Tryd.f3 rfl rfl rfl rfl rfl rfl rfl ⟨rfl, rfl, rfl, rfl, rfl⟩ rfl rfl rfl rfl rfl (by kernel_rfl) Tryd.func3 xGamePut_closed
    (of_decide_eq_true (by kernel_rfl)) (by unfold Func.isWrapper; first | (rw [if_pos (by decide +kernel)]; kernel_rfl) | (rw [if_neg (by decide +kernel)]; exact ⟨rfl, rfl⟩))
    (fun os started H enc _ => xGamePut_lifted os started H enc)

theorem xGamePut_holds : Rows.FnExactGamePutCardSaid :=
  Claim7.holds_tied_plain_at .later [] [.data, .data, .data] true (true, "7d4b47ac905cc3251fc8b690bc3d38d845ab03504a48108befdcd9a6e4cd6770") false
    xGamePut_row (fun _ h => by cases h) (by kernel_rfl) (fun _ h => by cases h) fnExactGamePut_row_tie rfl ⟨rfl, rfl⟩ (by kernel_rfl) rfl
    (fun f fn hf hfn => by
      obtain rfl : f = 3 := Option.some.inj ((show Tryd.prog.funcNamed "loop.example/wapentake/laws.FnExactGamePut" = some 3 by kernel_rfl).symm.trans hf) |>.symm
      obtain rfl : fn = Tryd.f3 := (Option.some.inj (Tryd.func3.symm.trans hfn)).symm
      exact ⟨by kernel_rfl, fun j t ht => by
        have hall : (Tryd.f3.params.toList.all fun t => !Tryd.prog.wantsStandIn t) = true := by kernel_rfl
        have hmem : t ∈ Tryd.f3.params.toList := by
          rw [Array.mem_toList_iff]
          exact Array.mem_of_getElem? ht
        have this := List.all_eq_true.1 hall t hmem
        have e : Tryd.prog.wantsStandIn t = false := by simpa using this
        exact e⟩)
    (by kernel_rfl)
#print axioms xGamePut_holds
end Go.Proofs.YthidcmffnpnjjaaDoor
