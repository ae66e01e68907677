/- One more in a queue: both ways. -/
import Derived.Test.YtgnemgnhjallhaaVk
namespace Go.Proofs.Ytgnemgnhjallhaa
open Go.ChangeShapes Go.WideShapes Go.ChangeAt Go.RowKit
set_option linter.unusedVariables false
set_option linter.unusedSimpArgs false

set_option maxRecDepth 100000 in
set_option maxHeartbeats 2000000 in
theorem timedIndex (A : Option Addr) (a : Nat) (L : List Tm) (x : Tm) (w : World) (hl : L.length ≤ 2097152) (hr : Rd 3 Tm.cells w A L) :
    Calls Try.prog 53 #[.slice A L.length a, x.val] w fun e w' => ∃ v : Int, e = .returned (.int .i64 v) ∧ decide (0 ≤ v) = decide (x ∈ L) ∧ Below w.heap.size w w' := by
  have HR := Lib.hid hr
  have KX : Hid (Bkk (w.alloc (.cells (tmCs x) 25)) w.heap.size 25 (tmCs x)) := Bkk.new _
  have Z : Hid (Below w.heap.size w (w.alloc (.cells (tmCs x) 25))) := (Below.refl _ _).alloc (Nat.le_refl _) _
  clear hr
  go_enter Try.func53, Try.ntmps53
  go_wp2
  go_loopw [8] (fun v wr => ∃ j : Nat, j ≤ L.length ∧ v = .int .i64 (j : Int) ∧ Hid (∀ y ∈ L.take j, y ≠ x) ∧ Hid (Bkk wr w.heap.size 25 (tmCs x)) ∧ Hid (Below w.heap.size w wr)) (fun v _ => L.length - (intOf v).toNat)
  case atStart => exact ⟨0, Nat.zero_le _, rfl, by simp [Hid], KX.out, Z.out⟩
  case round =>
    clear KX Z
    obtain ⟨j, hj, rfl, ha, KX, hB⟩ := hrel
    by_cases hlt : j < L.length
    · obtain ⟨g, o, rfl, yc⟩ := Rd.below HR.out hB.out j hlt
      have HT := Lib.hid (List.take_succ_eq_append_getElem hlt)
      have HM := Lib.hid (List.getElem_mem hlt)
      generalize L[j] = y at yc HT HM
      have y0 : wr.cell? ⟨g, o + j * 3, none⟩ = some (.int .i64 y.a) := yc 0 _ rfl
      have y1 : wr.cell? ⟨g, o + j * 3 + 1, none⟩ = some (.int .i64 y.f) := yc 1 _ rfl
      have y2 : wr.cell? ⟨g, o + j * 3 + 2, none⟩ = some (.int .i64 y.n) := yc 2 _ rfl
      have x0 : wr.cell? ⟨w.heap.size, 0, none⟩ = some (.int .i64 x.a) := KX.out.cell 0
      have x1 : wr.cell? ⟨w.heap.size, 1, none⟩ = some (.int .i64 x.f) := KX.out.cell 1
      have x2 : wr.cell? ⟨w.heap.size, 2, none⟩ = some (.int .i64 x.n) := KX.out.cell 2
      have lx := KX.out.lt
      have i0 : (0 : Int) ≤ (j : Int) := by omega
      have i1 : (j : Int) < (L.length : Int) := by omega
      obtain ⟨d, hd⟩ : ∃ d, decide (x = y) = d := ⟨_, rfl⟩
      have HD := Lib.hid hd
      have hq : ∀ W, (binOp .eql 25 (.agg #[.int .i64 x.a, .int .i64 x.f, .int .i64 x.n]) (.agg #[.int .i64 y.a, .int .i64 y.f, .int .i64 y.n])).run Try.prog W = .ok (.bool d) W := fun W => by rw [← hd]; exact eqlTimed x y W
      clear yc hd
      go_wp2_with (fail)
      go_quiet (fail)
      rcases d with _ | _
      · have HA : Hid (∀ z ∈ L.take (j + 1), z ≠ x) := by
          intro z hz
          rw [HT.out] at hz
          rcases List.mem_append.1 hz with h | h
          · exact ha.out z h
          · rw [List.mem_singleton.1 h]
            exact fun e => of_decide_eq_false HD.out e.symm
        clear HD HT HM ha hq x0 x1 x2 y0 y1 y2
        go_wp2
        go_roundw
        case rel => exact ⟨j + 1, by omega, by go_num, HA.out, KX.out.below (Below.drewN (Below.refl _ _) _), Below.drewN hB.out _⟩
        case measure => (simp [intOf]; try omega)
      · have HE := Lib.hid (show x ∈ L by rw [of_decide_eq_true HD.out]; exact HM.out)
        clear HD HT HM ha hq x0 x1 x2 y0 y1 y2
        go_wp2
        go_light
        go_ret
        exact ⟨_, rfl, by rw [decide_eq_true HE.out]; simp, Below.drewN hB.out _⟩
    · have i1 : ¬ (j : Int) < (L.length : Int) := by omega
      obtain rfl : j = L.length := by omega
      rw [List.take_length] at ha
      have HE := Lib.hid (show ¬ x ∈ L from fun h => ha.out x h rfl)
      go_wp2
      go_light
      go_ret
      exact ⟨_, rfl, by first | exact ⟨fun h => by omega, fun h => absurd h HE.out⟩ | (rw [decide_eq_false HE.out]; rfl), hB.out⟩

theorem timedContains (A : Option Addr) (a : Nat) (L : List Tm) (x : Tm) (w : World) (hl : L.length ≤ 2097152) (hr : Rd 3 Tm.cells w A L) :
    Calls Try.prog 41 #[.slice A L.length a, x.val] w fun e w' => e = .returned (.bool (decide (x ∈ L))) ∧ Below w.heap.size w w' := by
  have KX : Hid (Bkk (w.alloc (.cells (tmCs x) 25)) w.heap.size 25 (tmCs x)) := Bkk.new _
  have Z : Hid (Below w.heap.size w (w.alloc (.cells (tmCs x) 25))) := (Below.refl _ _).alloc (Nat.le_refl _) _
  have HR := Lib.hid (Rd.below hr Z.out)
  clear hr
  go_enter Try.func41, Try.ntmps41
  go_wp2_with (fail)
  refine (timedIndex A a L x _ hl HR.out).mono ?_
  rintro e w1 ⟨v, rfl, hv, hb⟩
  have Z := Lib.hid (Below.and Z.out hb)
  have HV := Lib.hid hv
  clear hb hv
  obtain ⟨d, hd⟩ : ∃ d, decide (0 ≤ v) = d := ⟨_, rfl⟩
  have HD := Lib.hid hd
  rw [hd] at HV
  go_wp2
  go_light
  go_ret
  exact ⟨ret_bool (by first | exact HV.out | (rw [← HV.out, ← HD.out])), Z.out⟩

def addQ (L : List Tm) (x : Tm) : List Tm × Bool := if okQ L = true then (if tmB x = true ∧ x ∉ L ∧ L.length < 20 then (addT L x, true) else (L, false)) else ([], false)
def DoQ (X : List Tm × Bool) (w : World) (e : Ending) (w' : World) : Prop := ∃ A a, e = .returned (.tuple #[.slice A X.1.length a, .bool X.2]) ∧ OwT w' w.heap.size A a X.1 ∧ Below w.heap.size w w'
theorem addQ_bad {L : List Tm} {x : Tm} (h : okQ L = false) : addQ L x = ([], false) := by unfold addQ; rw [h]; rfl
theorem addQ_no {L : List Tm} {x : Tm} (h : okQ L = true) (hn : ¬ (tmB x = true ∧ x ∉ L ∧ L.length < 20)) : addQ L x = (L, false) := by unfold addQ; rw [h, if_pos rfl, if_neg hn]
theorem addQ_yes {L : List Tm} {x : Tm} (h : okQ L = true) (hn : tmB x = true ∧ x ∉ L ∧ L.length < 20) : addQ L x = (addT L x, true) := by unfold addQ; rw [h, if_pos rfl, if_pos hn]
theorem okQ_len {L : List Tm} (h : okQ L = true) : L.length ≤ 20 := (of_decide_eq_true h : OkQ L).len
theorem addT_len (L : List Tm) (x : Tm) : (addT L x).length = L.length + 1 := by unfold addT; rw [rise_len]; simp
theorem addQ_len (L : List Tm) (x : Tm) : (addQ L x).1.length ≤ L.length + 1 := by
  unfold addQ
  split
  · split
    · rw [addT_len]; exact Nat.le_refl _
    · simp
  · simp

set_option maxRecDepth 100000 in
set_option maxHeartbeats 4000000 in
theorem implQueueAdd (A : Option Addr) (a : Nat) (L : List Tm) (x : Tm) (w : World) (hL : L.length ≤ 2097152) (h : RdT w A a L) :
    Calls Try.prog 13 #[.slice A L.length a, x.val] w (DoQ (addQ L x) w) := by
  have KX : Hid (Bkk (w.alloc (.cells (tmCs x) 25)) w.heap.size 25 (tmCs x)) := Bkk.new _
  have Z : Hid (Below w.heap.size w (w.alloc (.cells (tmCs x) 25))) := (Below.refl _ _).alloc (Nat.le_refl _) _
  have HR := Lib.hid h
  clear h
  go_enter Try.func13, Try.ntmps13
  go_wp2_with (fail)
  obtain ⟨w0, hw0⟩ : ∃ X, X = (w.alloc (.cells (tmCs x) 25)) := ⟨_, rfl⟩
  rw [← hw0] at KX Z ⊢
  clear hw0
  refine (implQueueOk A a L _ hL (HR.out.below Z.out)).mono ?_
  rintro e w1 ⟨rfl, hb⟩
  replace KX := Lib.hid (KX.out.below hb)
  replace Z := Lib.hid (Below.and Z.out hb)
  clear hb
  rcases hok : okQ L with _ | _
  · have HX := Lib.hid (addQ_bad (x := x) hok)
    clear hok
    go_wp2
    go_light
    go_ret2
    rw [HX.out]
    exact ⟨none, 0, rfl, OwT.nil _ _, Z.out⟩
  have HOK := Lib.hid hok
  have h20 := okQ_len hok
  clear hok
  go_wp2_with (fail)
  refine (queueOf A a L _ hL (HR.out.below Z.out)).mono ?_
  rintro e w2 ⟨p, A1, a1, rfl, h1, hb⟩
  have HH := Lib.hid h1
  have LZ := Lib.hid (show w.heap.size ≤ w1.heap.size from Z.out.size)
  have LKX := Lib.hid (show w.heap.size < w1.heap.size from KX.out.lt)
  replace KX := Lib.hid (KX.out.below hb)
  replace Z := Lib.hid (Below.and Z.out hb)
  clear h1 hb
  have x0 : w2.cell? ⟨w.heap.size, 0, none⟩ = some (.int .i64 x.a) := KX.out.cell 0
  have x1 : w2.cell? ⟨w.heap.size, 1, none⟩ = some (.int .i64 x.f) := KX.out.cell 1
  have x2 : w2.cell? ⟨w.heap.size, 2, none⟩ = some (.int .i64 x.n) := KX.out.cell 2
  have lx := KX.out.lt
  go_wp2_with (fail)
  refine (implTimedOk x _).mono ?_
  rintro e w3 ⟨rfl, hb⟩
  replace HH := Lib.hid (HH.out.below hb)
  replace KX := Lib.hid (KX.out.below hb)
  replace Z := Lib.hid (Below.and Z.out hb)
  clear hb x0 x1 x2 lx
  rcases hx : tmB x with _ | _
  · skip
    have HX := Lib.hid (show addQ L x = (L, false) from addQ_no HOK.out (fun hh => by rw [hx] at hh; exact absurd hh.1 (by simp)))
    have q0 : w3.cell? ⟨p, 0, none⟩ = some (.slice A1 L.length a1) := HH.out.box.cell 0
    have lp := HH.out.box.lt
    go_wp2
    go_light
    go_ret2
    rw [HX.out]
    exact ⟨A1, a1, rfl, HH.out.row.base LZ.out, Z.out⟩
  have HXO := Lib.hid hx
  clear hx
  have x0 : w3.cell? ⟨w.heap.size, 0, none⟩ = some (.int .i64 x.a) := KX.out.cell 0
  have x1 : w3.cell? ⟨w.heap.size, 1, none⟩ = some (.int .i64 x.f) := KX.out.cell 1
  have x2 : w3.cell? ⟨w.heap.size, 2, none⟩ = some (.int .i64 x.n) := KX.out.cell 2
  have lx := KX.out.lt
  go_wp2_with (fail)
  refine (timedContains A a L x _ hL (HR.out.below Z.out).r).mono ?_
  rintro e w4 ⟨rfl, hb⟩
  replace HH := Lib.hid (HH.out.below hb)
  replace KX := Lib.hid (KX.out.below hb)
  replace Z := Lib.hid (Below.and Z.out hb)
  clear hb x0 x1 x2 lx
  by_cases hm : x ∈ L
  · rw [decide_eq_true hm]
    have HX := Lib.hid (show addQ L x = (L, false) from addQ_no HOK.out (fun hh => hh.2.1 hm))
    have q0 : w4.cell? ⟨p, 0, none⟩ = some (.slice A1 L.length a1) := HH.out.box.cell 0
    have lp := HH.out.box.lt
    go_wp2
    go_light
    go_ret2
    rw [HX.out]
    exact ⟨A1, a1, rfl, HH.out.row.base LZ.out, Z.out⟩
  rw [decide_eq_false hm]
  have HM := Lib.hid hm
  clear hm
  by_cases h9 : L.length = 20
  · have e9 : ((L.length : Int) == 20) = true := by rw [h9]; rfl
    have H9 := Lib.hid (show ¬ L.length < 20 by omega)
    clear h9
    have HX := Lib.hid (show addQ L x = (L, false) from addQ_no HOK.out (fun hh => H9.out hh.2.2))
    have q0 : w4.cell? ⟨p, 0, none⟩ = some (.slice A1 L.length a1) := HH.out.box.cell 0
    have lp := HH.out.box.lt
    go_wp2
    go_light
    go_ret2
    rw [HX.out]
    exact ⟨A1, a1, rfl, HH.out.row.base LZ.out, Z.out⟩
  have e9 : ((L.length : Int) == 20) = false := by simp; omega
  have HX := Lib.hid (show addQ L x = (addT L x, true) from addQ_yes HOK.out ⟨HXO.out, HM.out, by omega⟩)
  clear h9
  have x0 : w4.cell? ⟨w.heap.size, 0, none⟩ = some (.int .i64 x.a) := KX.out.cell 0
  have x1 : w4.cell? ⟨w.heap.size, 1, none⟩ = some (.int .i64 x.f) := KX.out.cell 1
  have x2 : w4.cell? ⟨w.heap.size, 2, none⟩ = some (.int .i64 x.n) := KX.out.cell 2
  have lx := KX.out.lt
  go_wp2_with (fail)
  refine (addH _ p A1 a1 L x _ (by omega) HH.out).mono ?_
  rintro e w5 ⟨rfl, ⟨A5, a5, h1⟩, h2⟩
  have HH := Lib.hid h1
  have Z := Lib.hid (Z.out.trans (h2.mono LZ.out))
  clear h1 h2 x0 x1 x2 lx
  obtain ⟨R, hR⟩ : ∃ R, addT L x = R := ⟨_, rfl⟩
  rw [hR] at HH HX
  clear hR
  have q0 : w5.cell? ⟨p, 0, none⟩ = some (.slice A5 R.length a5) := HH.out.box.cell 0
  have lp := HH.out.box.lt
  go_wp2
  go_light
  go_ret2
  rw [HX.out]
  exact ⟨A5, a5, rfl, HH.out.row.base LZ.out, Z.out⟩

set_option maxRecDepth 100000 in
set_option maxHeartbeats 4000000 in
theorem specQueueAdd (A : Option Addr) (a : Nat) (L : List Tm) (x : Tm) (w : World) (hL : L.length ≤ 2097152) (h : RdT w A a L) :
    Calls Try.prog 14 #[.slice A L.length a, x.val] w (DoQ (addQ L x) w) := by
  obtain ⟨I, hi, hz0, hz1, hz2⟩ := parts_ofH infoTimed
  have I1 := Lib.hid hi
  have I2 := Lib.hid hz0
  have I3 := Lib.hid hz1
  have I4 := Lib.hid hz2
  clear hi hz0 hz1 hz2
  have KX : Hid (Bkk (w.alloc (.cells (tmCs x) 25)) w.heap.size 25 (tmCs x)) := Bkk.new _
  have Z : Hid (Below w.heap.size w (w.alloc (.cells (tmCs x) 25))) := (Below.refl _ _).alloc (Nat.le_refl _) _
  have HR := Lib.hid h
  clear h
  go_enter Try.func14, Try.ntmps14
  go_wp2_with (fail)
  obtain ⟨w0, hw0⟩ : ∃ X, X = (w.alloc (.cells (tmCs x) 25)) := ⟨_, rfl⟩
  rw [← hw0] at KX Z ⊢
  clear hw0
  refine (l13Ok A a L _ hL (HR.out.below Z.out).r).mono ?_
  rintro e w1 ⟨rfl, hb⟩
  replace KX := Lib.hid (KX.out.below hb)
  replace Z := Lib.hid (Below.and Z.out hb)
  clear hb
  rcases hok : okQ L with _ | _
  · have HX := Lib.hid (addQ_bad (x := x) hok)
    clear hok
    go_wp2
    go_light
    go_ret2
    rw [HX.out]
    exact ⟨none, 0, rfl, OwT.nil _ _, Z.out⟩
  have HOK := Lib.hid hok
  have h20 := okQ_len hok
  clear hok
  have LKX := Lib.hid (show w.heap.size < w1.heap.size from KX.out.lt)
  have hba : Below w1.heap.size w1 (w1.alloc (.cells #[] 25)) := (Below.refl _ _).alloc (Nat.le_refl _) _
  have OE : Hid ((w1.alloc (.cells #[] 25)).ownsRow w1.heap.size 25 3 (.slice (some ⟨w1.heap.size, 0, none⟩) 0 0) 0 []) := own_nil_newH w1 25 3 rfl
  have LZ := Lib.hid (show w.heap.size ≤ w1.heap.size from Z.out.size)
  replace KX := Lib.hid (KX.out.below hba)
  replace Z := Lib.hid (Below.and Z.out hba)
  have LE := Lib.hid hba.size
  clear hba
  go_wp2_with (at_builtin; go_loud (refine list_app (f := Tm.cells) (fun _ => rfl) rfl _ _ 23 rfl w1.heap.size 25 I (.agg #[.int .i64 0, .int .i64 0, .int .i64 0]) 24 Try.underlying23 I1.out I2.out I3.out I4.out rfl (by decide) (.slice (some ⟨w1.heap.size, 0, none⟩) 0 0) 0 [] rfl OE.out A a L.length L rfl rfl (Rd.below HR.out.r Z.out) HR.out.nA (tm_one _) (by unfold maxLen; omega) (by omega) LE.out ?_))
  intro v3 w3 ho hg hp
  (try simp only [Nat.zero_add, List.nil_append] at ho)
  obtain ⟨A1, a1, rfl⟩ := own_formH ho
  have OA := Lib.hid (show OwT w3 w1.heap.size A1 a1 L from ho)
  have hge := own_block_ge (show World.ownsRow _ _ _ _ _ _ _ from OE.out)
  replace KX := Lib.hid (KX.out.grownV hg (fun e => by have := LKX.out; simp [Value.ownBlock] at e; omega))
  replace Z := Lib.hid (Z.out.grown hg Z.out.size (fun q hq => Nat.le_trans LZ.out (hge q hq).1))
  have LW := Lib.hid (Nat.le_trans LE.out hg.size)
  clear ho hg hp hge OE LE
  go_wp2
  go_loopw [7] (fun v wr => ∃ j : Nat, j ≤ L.length ∧ v = .int .i64 (j : Int) ∧ Hid (∀ y ∈ L.take j, y ≠ x) ∧ Hid (Below w3.heap.size w3 wr)) (fun v _ => L.length - (intOf v).toNat)
  case atStart => exact ⟨0, Nat.zero_le _, rfl, by simp [Hid], Below.refl _ _⟩
  case round =>
    obtain ⟨j, hj, rfl, ha, hB⟩ := hrel
    replace KX := Lib.hid (KX.out.below hB.out)
    replace Z := Lib.hid (Below.and Z.out hB.out)
    replace OA := Lib.hid (OA.out.below hB.out)
    replace LW := Lib.hid (Nat.le_trans LW.out hB.out.size)
    by_cases hlt : j < L.length
    · obtain ⟨g, o, hgo, yc⟩ := Rd.below HR.out.r Z.out j hlt
      subst hgo
      have HT := Lib.hid (List.take_succ_eq_append_getElem hlt)
      have HM := Lib.hid (List.getElem_mem hlt)
      generalize L[j] = y at yc HT HM
      have y0 : wr.cell? ⟨g, o + j * 3, none⟩ = some (.int .i64 y.a) := yc 0 _ rfl
      have y1 : wr.cell? ⟨g, o + j * 3 + 1, none⟩ = some (.int .i64 y.f) := yc 1 _ rfl
      have y2 : wr.cell? ⟨g, o + j * 3 + 2, none⟩ = some (.int .i64 y.n) := yc 2 _ rfl
      have x0 : wr.cell? ⟨w.heap.size, 0, none⟩ = some (.int .i64 x.a) := KX.out.cell 0
      have x1 : wr.cell? ⟨w.heap.size, 1, none⟩ = some (.int .i64 x.f) := KX.out.cell 1
      have x2 : wr.cell? ⟨w.heap.size, 2, none⟩ = some (.int .i64 x.n) := KX.out.cell 2
      have lx := KX.out.lt
      have i0 : (0 : Int) ≤ (j : Int) := by omega
      have i1 : (j : Int) < (L.length : Int) := by omega
      obtain ⟨d, hd⟩ : ∃ d, decide (y = x) = d := ⟨_, rfl⟩
      have HD := Lib.hid hd
      have hq : ∀ W, (binOp .eql 25 (.agg #[.int .i64 y.a, .int .i64 y.f, .int .i64 y.n]) (.agg #[.int .i64 x.a, .int .i64 x.f, .int .i64 x.n])).run Try.prog W = .ok (.bool d) W := fun W => by rw [← hd]; exact eqlTimed y x W
      clear yc hd
      go_wp2_with (fail)
      go_quiet (fail)
      rcases d with _ | _
      · have HA : Hid (∀ z ∈ L.take (j + 1), z ≠ x) := by
          intro z hz
          rw [HT.out] at hz
          rcases List.mem_append.1 hz with h | h
          · exact ha.out z h
          · rw [List.mem_singleton.1 h]
            exact fun e => of_decide_eq_false HD.out e
        clear HD HT HM ha hq x0 x1 x2 y0 y1 y2
        go_wp2
        go_roundw
        case rel => exact ⟨j + 1, by omega, by go_num, HA.out, Below.drewN hB.out _⟩
        case measure => (simp [intOf]; try omega)
      · have HE := Lib.hid (show x ∈ L by rw [← of_decide_eq_true HD.out]; exact HM.out)
        have BD := Lib.hid (fun n => Below.drewN (Below.refl wr.heap.size wr) n)
        clear HD HT HM ha hq x0 x1 x2 y0 y1 y2
        have HX := Lib.hid (show addQ L x = (L, false) from addQ_no HOK.out (fun hh => hh.2.1 HE.out))
        go_wp2
        go_light
        go_ret2
        rw [HX.out]
        exact ⟨A1, a1, rfl, (OA.out.below (BD.out _)).base LZ.out, Below.and Z.out (BD.out _)⟩
    · have i1 : ¬ (j : Int) < (L.length : Int) := by omega
      obtain rfl : j = L.length := by omega
      rw [List.take_length] at ha
      have HM := Lib.hid (show ¬ x ∈ L from fun h => ha.out x h rfl)
      clear ha
      have x0 : wr.cell? ⟨w.heap.size, 0, none⟩ = some (.int .i64 x.a) := KX.out.cell 0
      have x1 : wr.cell? ⟨w.heap.size, 1, none⟩ = some (.int .i64 x.f) := KX.out.cell 1
      have x2 : wr.cell? ⟨w.heap.size, 2, none⟩ = some (.int .i64 x.n) := KX.out.cell 2
      have lx := KX.out.lt
      go_wp2_with (fail)
      refine (specTimedOk x _).mono ?_
      rintro e w5 ⟨rfl, hb⟩
      replace OA := Lib.hid (OA.out.below hb)
      have hb2 := hb.size
      replace KX := Lib.hid (KX.out.below hb)
      replace Z := Lib.hid (Below.and Z.out hb)
      clear hb x0 x1 x2 lx hB
      rcases hx : tmB x with _ | _
      · skip
        have HX := Lib.hid (show addQ L x = (L, false) from addQ_no HOK.out (fun hh => by rw [hx] at hh; exact absurd hh.1 (by simp)))
        go_wp2
        go_light
        go_ret2
        rw [HX.out]
        exact ⟨A1, a1, rfl, OA.out.base LZ.out, Z.out⟩
      have HXO := Lib.hid hx
      clear hx
      by_cases h9 : 20 ≤ L.length
      · have e9 : (20 : Int) ≤ (L.length : Int) := by omega
        have H9 := Lib.hid (show ¬ L.length < 20 by omega)
        clear h9
        have HX := Lib.hid (show addQ L x = (L, false) from addQ_no HOK.out (fun hh => H9.out hh.2.2))
        go_wp2
        go_light
        go_ret2
        rw [HX.out]
        exact ⟨A1, a1, rfl, OA.out.base LZ.out, Z.out⟩
      have e9 : ¬ (20 : Int) ≤ (L.length : Int) := by omega
      have hlL : L.length < 20 := by omega
      have HX := Lib.hid (show addQ L x = (addT L x, true) from addQ_yes HOK.out ⟨HXO.out, HM.out, by omega⟩)
      clear h9
      have hba : Below w5.heap.size w5 (w5.alloc (.cells (tmCs x) 25)) := (Below.refl _ _).alloc (Nat.le_refl _) _
      have HRw := Lib.hid (tm_row w5 25 x)
      have KX5 := Lib.hid KX.out
      replace OA := Lib.hid (OA.out.below hba)
      have LE := Lib.hid (Nat.le_trans LW.out (Nat.le_trans hb2 hba.size))
      replace KX := Lib.hid (KX.out.below hba)
      replace Z := Lib.hid (Below.and Z.out hba)
      clear hba hb2
      have x0 : w5.cell? ⟨w.heap.size, 0, none⟩ = some (.int .i64 x.a) := KX5.out.cell 0
      have x1 : w5.cell? ⟨w.heap.size, 1, none⟩ = some (.int .i64 x.f) := KX5.out.cell 1
      have x2 : w5.cell? ⟨w.heap.size, 2, none⟩ = some (.int .i64 x.n) := KX5.out.cell 2
      have lx := KX5.out.lt
      go_wp2_with (at_builtin; go_loud (refine list_app (f := Tm.cells) (fun _ => rfl) rfl _ _ 23 rfl w1.heap.size 25 I (.agg #[.int .i64 0, .int .i64 0, .int .i64 0]) 24 Try.underlying23 I1.out I2.out I3.out I4.out rfl (by decide) _ L.length (L.flatMap Tm.cells) rfl OA.out _ _ 1 [x] rfl rfl HRw.out (fun h => by cases h) (tm_one _) (by unfold maxLen; omega) (by omega) LE.out ?_))
      intro v7 w7 ho hg hp
      clear x0 x1 x2 lx KX5 KX
      have hge := own_block_ge (show World.ownsRow _ _ _ _ _ _ _ from OA.out)
      replace Z := Lib.hid (Z.out.grown hg Z.out.size (fun q hq => Nat.le_trans LZ.out (hge q hq).1))
      have L7 := Lib.hid (Nat.le_trans LE.out hg.size)
      obtain ⟨A5, a5, rfl, oa⟩ := OwT.push ho
      clear ho hg hp hge HRw OA LE LW
      have OA := Lib.hid oa
      obtain ⟨n, hn⟩ : ∃ n, L.length = n := ⟨_, rfl⟩
      have hlen : (L ++ [x]).length = n + 1 := by simp [hn]
      obtain ⟨R, hR⟩ : ∃ R, addT L x = R := ⟨_, rfl⟩
      have HRR := Lib.hid (show riseT (L ++ [x]) n = R by rw [← hR, ← hn]; rfl)
      have HRL := Lib.hid (show R.length = n + 1 by rw [← hR, addT_len, hn])
      rw [hR] at HX
      have hn9 : n < 20 := by omega
      obtain ⟨L2, hL2⟩ : ∃ X, X = L ++ [x] := ⟨_, rfl⟩
      rw [← hL2] at OA HRR hlen ⊢
      have RI := Lib.hid (fun wx hlo hx => l13Rise w1.heap.size A5 a5 L2 n wx (by omega) hlen hlo hx)
      have HLN := Lib.hid hlen
      clear hlen hL2 hR hn oa
      go_wp2_with (fail)
      refine (RI.out _ L7.out OA.out).mono ?_
      rintro e w8 ⟨rfl, h1, h2⟩
      rw [HRR.out] at h1
      have OA := Lib.hid h1
      replace Z := Lib.hid (Z.out.trans (h2.mono LZ.out))
      have EL := Lib.hid (show L2.length = R.length by rw [HLN.out, HRL.out])
      clear h1 h2 RI HLN HRL HRR L7
      rw [EL.out]
      clear EL
      go_wp2
      go_light
      go_ret2
      rw [HX.out]
      exact ⟨A5, a5, rfl, OA.out.base LZ.out, Z.out⟩

end Go.Proofs.Ytgnemgnhjallhaa
