/- What is read is what would be written: of every code that comes in. -/
import Derived.Test.YtolepfbhhmganaaDoorMB
import Derived.Test.YtolepfbhhmganaaDoorFx
import Derived.Test.YtolepfbhhmganaaDoorFy
import Derived.Test.YtolepfbhhmganaaDoorFz
import Derived.Test.YtolepfbhhmganaaDoorFw
import Derived.Test.YtolepfbhhmganaaDoorCards
import Derived.Test.YtolepfbhhmganaaDoorTie
import Derived.Test.YtolepfbhhmganaaDoorSz
import Derived.LaidMore
import Derived.ChangeMaps5
import Derived.HandedShaped
import Derived.Stop.LaidErr
import Derived.WideKeyArgs
import Derived.WideKeyElems4
import Derived.Lay
import Derived.Stop.Joined
import Derived.SevenTiedAt
import Derived.Lib.LaidTab
namespace Go.Proofs.YtolepfbhhmganaaDoor
open Go.ChangeShapes Go.WideShapes Go.ChangeAt Go.RowKit Go.Deep

theorem laidShaped {H : Type} {enc : TypeId × Value → H} {a : Assume} {C : Checked} {os : Os} {f : FuncId} {fn : Func} {s : ChangeSpec} {conds : List PathCond} {apart fresh handsOn again : Bool} {X : World → Array Value → Prop}
    (hX : ∀ (w w' : World) (args : Array Value), w.heap = w'.heap → X w args → X w' args)
    (own : ownKnob C.prog.godebug = none) (started : os.Started) (noInit : C.prog.inits.idxOf? f = none) (hfn : C.prog.funcs[f]? = some fn)
    (witness : ∃ (w : World) (tape : Tape) (i : Input), w.os = os ∧ (w.forCall tape i).Shaped C.prog ∧ i.vars = [] ∧ Input.okWide C.prog (w.forCall tape i) .any w.heap.size f i ∧
      ((s.pre enc C.prog fn conds apart (w.forCall tape i).memory i.args ∧ X (w.forCall tape i).memory i.args) ∧ sizedMet enc C.prog fn (OpenSpec.ofChange s) apart (w.forCall tape i).memory i.args) ∧ a.holds C.prog (lone (Frame.enter C.prog f i.args .normal) [] (w.forCall tape i)))
    (contract : ∀ (W : World) (base : Nat) (args : Array Value) (ds gs : List (DataW H)) (before : List MemPlace),
      (∀ (j : Nat) t v, fn.params[j]? = some t → args[j]? = some v → Value.okWide C.prog W .any base t v) →
      DataW.Whole enc C.prog fn.params.toList s.vars apart W args.toList ds gs before →
      X W args → W.ShapedOpen C.prog →
      Calls C.prog f args W fun e W' => ∃ v, e = .returned v ∧ s.post enc C.prog fn apart fresh handsOn again W args v W') :
    ReturnsInHanded a C os f .any (fun w args => (s.pre enc C.prog fn conds apart w args ∧ X w args) ∧ sizedMet enc C.prog fn (OpenSpec.ofChange s) apart w args) (s.post enc C.prog fn apart fresh handsOn again) := by
  refine returnsInHanded_of_calls own started noInit witness ?_
  intro w tape i _ hsh _ hok hpre hholds
  obtain ⟨_, _, _, fn', hfn', _, _, _, _, hval⟩ := hok
  have e : fn' = fn := Option.some.inj (hfn'.symm.trans hfn)
  subst e
  obtain ⟨⟨⟨ds, gs, before, hw, hc⟩, hx⟩, hz⟩ := hpre
  have hw' := DataW.Whole.of_heap (w' := w.forCall tape i) (by rfl) hw
  refine (contract (w.forCall tape i) w.heap.size i.args ds gs before hval hw' (hX _ _ _ (by rfl) hx) hsh).mono fun e W' ⟨v, he, hp⟩ => ?_
  subst he
  exact ChangeSpec.post_blind hp

theorem yTabType : (Tryd.prog.globalNamed "internal/strconv.uint64pow10").bind (fun g => (Tryd.prog.globals[g]?).map (·.type)) = some 102 := by kernel_rfl
theorem ySynType : (Tryd.prog.globalNamed "strconv.ErrSyntax").bind (fun g => (Tryd.prog.globals[g]?).map (·.type)) = some 70 := by kernel_rfl
theorem yRngType : (Tryd.prog.globalNamed "strconv.ErrRange").bind (fun g => (Tryd.prog.globals[g]?).map (·.type)) = some 70 := by kernel_rfl
theorem yStar : "*" ++ "errors.errorString" = "*errors.errorString" := by decide
theorem yRow (u : TypeId) (h : Tryd.prog.typeName? 3 u = some "*errors.errorString") : u = 122 :=
  typeName_ptr_named (nm := "errors.errorString") (by rw [yStar]; kernel_rfl) (by kernel_rfl) (by decide) u (by rw [yStar]; exact h)
/-- What the row lists, and the world's shape, give the walk what it asks of the library's variables. -/
theorem env_of_laid {W : World} (h : laidMetH Tryd.prog Rows.fnReqGetRow.laid W) (hsh : W.ShapedOpen Tryd.prog) : Env W := by
  rw [MakeChecks.laidMetH_plain _ _ _ (by kernel_rfl)] at h
  obtain ⟨g0, hg0⟩ := gTab
  obtain ⟨g1, hg1⟩ := Option.isSome_iff_exists.1 gRng0
  obtain ⟨g2, hg2⟩ := Option.isSome_iff_exists.1 gSyn0
  have t0 := yTabType
  have t1 := yRngType
  have t2 := ySynType
  rw [hg0] at t0
  rw [hg1] at t1
  rw [hg2] at t2
  refine ⟨?_, ?_, ?_, Tryd.laysM146.s1_3 W hsh⟩
  · exact Lib.tabIs_of_head (k := .u64) (zs := Lib.pow10Tab) hg0 t0 Tryd.underlying102 Tryd.underlying84 (by kernel_rfl) (by kernel_rfl) h.tail.tail
  · obtain ⟨a, s, hv, _⟩ := laid_sentinel h.tail.tail.tail.tail.tail hg2 t2 Tryd.underlying70 yRow Tryd.underlying122 Tryd.underlying124 rfl rfl Tryd.underlying9 (by kernel_rfl) (by kernel_rfl)
    exact ⟨_, _, hv⟩
  · obtain ⟨a, s, hv, _⟩ := laid_sentinel h.tail.tail.tail.tail hg1 t1 Tryd.underlying70 yRow Tryd.underlying122 Tryd.underlying124 rfl rfl Tryd.underlying9 (by kernel_rfl) (by kernel_rfl)
    exact ⟨_, _, hv⟩

theorem pReqGet_k1 : (Rows.fnReqGetRow.wf (OpenSpec.ofChange Rows.fnReqGetSpec)) = true := by kernel_rfl
theorem pReqGet_k4 : (Tryd.f6.params.all (Tryd.prog.readableRec ·)) = true := by kernel_rfl
theorem pReqGet_k5 : (namedTie Tryd.prog Rows.fnReqGetRow.named Rows.fnReqGetSpec.vars) = true := by kernel_rfl
theorem pReqGet_k6 : ((Rows.fnReqGetRow.stops == [])) = true := by kernel_rfl
theorem pReqGet_k8 : ((Rows.fnReqGetRow.knobs == [])) = true := by kernel_rfl
theorem pReqGet_k10 : ((Rows.fnReqGetRow.inPlace == Tryd.prog.inPlace 6)) = true := by kernel_rfl
theorem pReqGet_k11 : ((Rows.fnReqGetRow.unfollowed == Tryd.prog.unfollowed 6)) = true := by kernel_rfl
theorem pReqGet_k12 : ((Rows.fnReqGetRow.recurses == Tryd.prog.recurses 6)) = true := by kernel_rfl
theorem pReqGet_k13 : ((Rows.fnReqGetRow.named == Tryd.prog.varsNamed 6)) = true := by kernel_rfl
theorem pReqGet_k14 : ((Rows.fnReqGetRow.maps == (Tryd.f6.params.toList ++ Rows.fnReqGetSpec.plain.varTypes Tryd.prog).any (Tryd.prog.mapsRec ·))) = true := by kernel_rfl
theorem pReqGet_k15 : ((Rows.fnReqGetRow.ifaces == (Tryd.f6.params.toList ++ Rows.fnReqGetSpec.plain.varTypes Tryd.prog).any (Tryd.prog.ifacesRec ·))) = true := by kernel_rfl
theorem pReqGet_k16 : ((Rows.fnReqGetRow.mapsOut == Tryd.prog.mapsAmong Tryd.f6.resultTypes.toList)) = true := by kernel_rfl
theorem pReqGet_k17 : ((Rows.fnReqGetRow.loops == (Tryd.f6.params.toList ++ Rows.fnReqGetSpec.plain.varTypes Tryd.prog).any (Tryd.prog.loopsFrom ·))) = true := by kernel_rfl
theorem pReqGet_k18 : ((Rows.fnReqGetRow.wideKeys == (Tryd.f6.params.toList ++ Rows.fnReqGetSpec.plain.varTypes Tryd.prog ++ Tryd.f6.resultTypes.toList).any (Tryd.prog.wideKeysFrom ·))) = true := by kernel_rfl
theorem pReqGet_k19 : (Rows.fnReqGetSpec.vars.all (Tryd.prog.varReadable ·)) = true := by kernel_rfl
theorem pReqGet_k20 : (Tryd.f6.resultTypes.all (fun t => Tryd.prog.readableRec t && decide (t < Tryd.prog.types.size))) = true := by kernel_rfl
theorem pReqGet_k21 : ((Rows.fnReqGetRow.ifacesOut == Tryd.f6.resultTypes.toList.any (Tryd.prog.ifacesRec ·))) = true := by kernel_rfl
theorem pReqGet_k22 : ((Rows.fnReqGetRow.loopsOut == Tryd.f6.resultTypes.toList.any (Tryd.prog.loopsFrom ·))) = true := by kernel_rfl
theorem pReqGet_k24 : (Rows.fnReqGetRow.shortTexts.isNone) = true := by kernel_rfl
theorem pReqGet_k30 : ((Rows.fnReqGetRow.pinned == Rows.fnReqGetRow.pinnedBy)) = true := by kernel_rfl
theorem pReqGet_k31 : ((Rows.fnReqGetRow.veiled == (Tryd.f6.params.toList ++ Rows.fnReqGetSpec.plain.varTypes Tryd.prog ++ Tryd.f6.resultTypes.toList).any (Tryd.prog.veiledRec ·))) = true := by kernel_rfl
theorem pReqGet_k32 : (Rows.fnReqGetRow.veiledFits Tryd.prog Tryd.f6.params.toList (Tryd.f6.params.toList ++ Rows.fnReqGetSpec.plain.varTypes Tryd.prog ++ Tryd.f6.resultTypes.toList)) = true := by kernel_rfl
theorem pReqGet_closed : joinedFacts Tryd.prog 6 Tryd.f6 Rows.fnReqGetSpec Rows.fnReqGetRow = true :=
  facts_of pReqGet_k1 Try.f_laid Try.f_maps pReqGet_k4 pReqGet_k5 pReqGet_k6 Try.f_stops pReqGet_k8 Try.f_knobs pReqGet_k10 pReqGet_k11 pReqGet_k12 pReqGet_k13 pReqGet_k14 pReqGet_k15 pReqGet_k16 pReqGet_k17 pReqGet_k18 pReqGet_k19 pReqGet_k20 pReqGet_k21 pReqGet_k22 (by kernel_rfl) pReqGet_k24 Try.f_heard Try.f_enter Try.f_lifts Try.f_make rfl rfl pReqGet_k30 pReqGet_k31 pReqGet_k32

set_option maxRecDepth 100000 in
theorem pReqGet_lifted (os : Os) (started : os.Started) (H : Type) (enc : TypeId × Value → H) :
    ReturnsInHanded {} Tryd.checked os 6 .any (fun w args => (Rows.fnReqGetSpec.pre enc Tryd.prog Tryd.f6 [] false w args ∧ laidMetH Tryd.prog Rows.fnReqGetRow.laid w) ∧ sizedMet enc Tryd.prog Tryd.f6 (OpenSpec.ofChange Rows.fnReqGetSpec) false w args)
      (Rows.fnReqGetSpec.post enc Tryd.prog Tryd.f6 false true false false) := by
  refine laidShaped (C := Tryd.checked) (X := fun w _ => laidMetH Tryd.prog Rows.fnReqGetRow.laid w) (fun _ _ _ hh h => h.of_heap hh) Tryd.own started (by kernel_rfl) Tryd.func6
    (ChangeSpec.witness_shaped (enc := enc) (C := Tryd.checked) (os := os) (X := fun w _ => laidMetH Tryd.prog Rows.fnReqGetRow.laid w) false (World.laidAll Tryd.prog os Rows.fnReqGetRow.laid) #[.slice none 0 0] 8 (World.laidAll_os _ _ _)
      (World.shaped_of_ZipB (by kernel_rfl) (by kernel_rfl)) (by kernel_rfl) (by kernel_rfl) (by kernel_rfl)
      (by rw [MakeChecks.laidMetH_plain _ _ _ (by kernel_rfl)]; exact laidMet_laidAll _ (by kernel_rfl) (by kernel_rfl))) ?_
  intro W base args ds gs before hval0 hW HL HSH
  have hval : ∀ (j : Nat) t v, Tryd.f6.params[j]? = some t → args[j]? = some v → Value.okWide Tryd.prog W .any base t v := hval0
  have hW' := hW
  obtain ⟨p, q, hA0, hV, rfl, _, _⟩ := hW
  have hA : DataW.TrodAll enc Tryd.prog W 0 (fun _ => true) true Tryd.f6.params.toList args.toList ds p := hA0
  rw [Tryd.params6] at hA hval
  obtain ⟨v0, d0, rfl, rfl, h0⟩ := trodAll_one hA
  obtain ⟨rfl, rfl⟩ := trodVars_none hV
  obtain ⟨A, n, c, rfl, m0, l0, b0⟩ := in_bytes Tryd.underlying28 Tryd.underlying5 (by kernel_rfl) (hval 0 _ v0 rfl rfl) h0
  refine (lawReqGet m0 l0 b0 (env_of_laid HL HSH)).mono fun e W' ⟨he, hb⟩ => ⟨_, he, ?_⟩
  exact law_post (tb := 4) Tryd.laidOut (by kernel_rfl) rfl Tryd.underlying4 rfl hW' rfl hb

theorem pReqGet_row : Rows.FnReqGetSaid :=
  OpenClaim.holds_of_wide 6 Tryd.f6 rfl rfl rfl rfl rfl rfl rfl ⟨rfl, rfl, rfl, rfl, rfl⟩ rfl rfl rfl rfl rfl (by kernel_rfl) Tryd.func6 pReqGet_closed
    (of_decide_eq_true (by kernel_rfl)) (by unfold Func.isWrapper; first | (rw [if_pos (by decide +kernel)]; kernel_rfl) | (rw [if_neg (by decide +kernel)]; exact ⟨rfl, rfl⟩))
    (fun os started H enc _ => pReqGet_lifted os started H enc)

theorem pReqGet_holds : Rows.FnReqGetCardSaid :=
  Claim7.holds_tied_plain_at .later [] [.data, .data, .data, .data, .sentinel, .sentinel, .pinned] true (true, "7918b164eae5cb491ef62f9b4bf877ae84a141246cdb1dff74cec8094af5b4d7") true
    pReqGet_row (fun _ h => by cases h) (by kernel_rfl) (fun _ h => by cases h) fnReqGet_row_tie rfl ⟨rfl, rfl⟩ (by kernel_rfl) rfl
    (fun f fn hf hfn => by
      obtain rfl : f = 6 := Option.some.inj ((show Tryd.prog.funcNamed "loop.example/wapentake/laws.FnReqGet" = some 6 by kernel_rfl).symm.trans hf) |>.symm
      obtain rfl : fn = Tryd.f6 := (Option.some.inj (Tryd.func6.symm.trans hfn)).symm
      exact ⟨by kernel_rfl, fun j t ht => by
        have hall : (Tryd.f6.params.toList.all fun t => !Tryd.prog.wantsStandIn t) = true := by kernel_rfl
        have hmem : t ∈ Tryd.f6.params.toList := by
          rw [Array.mem_toList_iff]
          exact Array.mem_of_getElem? ht
        have this := List.all_eq_true.1 hall t hmem
        have e : Tryd.prog.wantsStandIn t = false := by simpa using this
        exact e⟩)
    (by kernel_rfl)
#print axioms pReqGet_holds
end Go.Proofs.YtolepfbhhmganaaDoor
