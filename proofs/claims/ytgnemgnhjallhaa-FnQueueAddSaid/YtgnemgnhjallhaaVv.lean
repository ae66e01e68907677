/- What is added is there, once: the law. -/
import Derived.Test.YtgnemgnhjallhaaVu
namespace Go.Proofs.Ytgnemgnhjallhaa
open Go.ChangeShapes Go.WideShapes Go.ChangeAt Go.RowKit
set_option linter.unusedVariables false
set_option linter.unusedSimpArgs false

set_option maxRecDepth 100000 in
set_option maxHeartbeats 2000000 in
theorem wpTimed_rd (A B : Option Addr) (a b : Nat) (L : List Tm) (w : World) (hL : L.length ≤ 2097152) (rA : Rd 3 Tm.cells w A L) (rB : Rd 3 Tm.cells w B L) :
    Calls Try.prog 15 #[.slice A L.length a, .slice B L.length b] w fun e w' => e = .returned (.bool true) ∧ Below w.heap.size w w' := by
  have H1 := Lib.hid rA
  have H2 := Lib.hid rB
  have nl : ((L.length : Int) != (L.length : Int)) = false := by simp
  clear rA rB
  go_enter Try.func15, Try.ntmps15
  go_wp2
  go_loopw [5] (fun v wr => ∃ j : Nat, j ≤ L.length ∧ v = .int .i64 (j : Int) ∧ Hid (Below w.heap.size w wr)) (fun v _ => L.length - (intOf v).toNat)
  case atStart => exact ⟨0, Nat.zero_le _, rfl, Below.refl _ _⟩
  case round =>
    obtain ⟨j, hj, rfl, hB⟩ := hrel
    by_cases hlt : j < L.length
    · obtain ⟨g, o, hgo, xc⟩ := Rd.below H1.out hB.out j hlt
      obtain ⟨g', o', hgo', yc⟩ := Rd.below H2.out hB.out j hlt
      subst hgo hgo'
      generalize L[j] = x at xc yc
      have x0 : wr.cell? ⟨g, o + j * 3, none⟩ = some (.int .i64 x.a) := xc 0 _ rfl
      have x1 : wr.cell? ⟨g, o + j * 3 + 1, none⟩ = some (.int .i64 x.f) := xc 1 _ rfl
      have x2 : wr.cell? ⟨g, o + j * 3 + 2, none⟩ = some (.int .i64 x.n) := xc 2 _ rfl
      have y0 : wr.cell? ⟨g', o' + j * 3, none⟩ = some (.int .i64 x.a) := yc 0 _ rfl
      have y1 : wr.cell? ⟨g', o' + j * 3 + 1, none⟩ = some (.int .i64 x.f) := yc 1 _ rfl
      have y2 : wr.cell? ⟨g', o' + j * 3 + 2, none⟩ = some (.int .i64 x.n) := yc 2 _ rfl
      clear xc yc
      have hq : ∀ W, (binOp .neq 25 (.agg #[.int .i64 x.a, .int .i64 x.f, .int .i64 x.n]) (.agg #[.int .i64 x.a, .int .i64 x.f, .int .i64 x.n])).run Try.prog W = .ok (.bool false) W := fun W => by have := neqTimed x x W; simpa using this
      have i0 : (0 : Int) ≤ (j : Int) := by omega
      have i1 : (j : Int) < (L.length : Int) := by omega
      go_wp2_with (fail)
      go_quiet (fail)
      clear hq x0 x1 x2 y0 y1 y2
      go_wp2
      go_roundw
      case rel => exact ⟨j + 1, by omega, by go_num, Below.drewN hB.out _⟩
      case measure => (simp [intOf]; try omega)
    · have i1 : ¬ (j : Int) < (L.length : Int) := by omega
      obtain rfl : j = L.length := by omega
      go_wp2
      go_light
      go_ret
      exact ⟨rfl, hB.out⟩

set_option maxRecDepth 100000 in
set_option maxHeartbeats 2000000 in
theorem wpFirst (x y : Tm) (w : World) :
    Calls Try.prog 21 #[x.val, y.val] w fun e w' => e = .returned (.bool (lessT x y)) ∧ Below w.heap.size w w' := by
  go_enter Try.func21, Try.ntmps21
  go_wp2
  all_goals go_light
  all_goals go_ret
  all_goals refine ⟨ret_bool ?_, ((Below.refl _ _).alloc (Nat.le_refl _) _).alloc (by simp) _⟩
  all_goals unfold lessT
  all_goals (simp_all; try omega)

set_option maxRecDepth 100000 in
set_option maxHeartbeats 8000000 in
theorem lawQueueAdd (A : Option Addr) (c n : Nat) (w : World) (hn : n ≤ maxLen) (hc : n ≤ c) (hb : InB w A n) :
    Calls Try.prog 3 #[.slice A n c] w fun e w' => e = .returned (.bool true) ∧ Below w.heap.size w w' := by
  have HB := Lib.hid hb
  clear hb
  go_enter Try.func3, Try.ntmps3
  by_cases h : n > 1048576
  · go_wp2
    go_light
    go_ret
    exact ⟨rfl, Below.refl _ _⟩
  go_wp2_with (fail)
  refine (drawQueueAdd (by omega) hc HB.out).mono ?_
  rintro e w1 ⟨L, B, d, x, rfl, hl, oo, hb⟩
  have OQ := Lib.hid oo
  have Z := Lib.hid hb
  clear hb HB h oo
  have hba : Below w1.heap.size w1 (w1.alloc (.cells (tmCs x) 25)) := (Below.refl _ _).alloc (Nat.le_refl _) _
  have KT : Hid (Bkk (w1.alloc (.cells (tmCs x) 25)) w1.heap.size 25 (tmCs x)) := Bkk.new _
  replace OQ := Lib.hid (OQ.out.below hba)
  replace Z := Lib.hid (Below.and Z.out hba)
  clear hba
  go_upto_region 4 with (fail)
  obtain ⟨tb, htb⟩ : ∃ X, X = w1.heap.size := ⟨_, rfl⟩
  obtain ⟨w2, hw2⟩ : ∃ X, X = w1.alloc (.cells (tmCs x) 25) := ⟨_, rfl⟩
  rw [← hw2] at KT OQ Z ⊢
  rw [← htb] at KT ⊢
  clear hw2 htb
  obtain ⟨⟨R, u⟩, hY⟩ : ∃ Y, addQ L x = Y := ⟨_, rfl⟩
  have HY := Lib.hid hY
  have hrl : R.length ≤ L.length + 1 := by have := addQ_len L x; rw [hY] at this; exact this
  clear hY
  have t0 : w2.cell? ⟨tb, 0, none⟩ = some (.int .i64 x.a) := KT.out.cell 0
  have t1 : w2.cell? ⟨tb, 1, none⟩ = some (.int .i64 x.f) := KT.out.cell 1
  have t2 : w2.cell? ⟨tb, 2, none⟩ = some (.int .i64 x.n) := KT.out.cell 2
  have lt := KT.out.lt
  go_wp2_with (fail)
  refine (implQueueAdd B d L x _ (by omega) OQ.out.rdT).mono ?_
  rw [HY.out]
  rintro e w3 ⟨A3, a3, rfl, o2, hb⟩
  have OX := Lib.hid o2
  replace Z := Lib.hid (Below.and Z.out hb)
  replace OQ := Lib.hid (OQ.out.below hb)
  replace KT := Lib.hid (KT.out.below hb)
  clear hb o2
  clear t0 t1 t2 lt
  have t0 : w3.cell? ⟨tb, 0, none⟩ = some (.int .i64 x.a) := KT.out.cell 0
  have t1 : w3.cell? ⟨tb, 1, none⟩ = some (.int .i64 x.f) := KT.out.cell 1
  have t2 : w3.cell? ⟨tb, 2, none⟩ = some (.int .i64 x.n) := KT.out.cell 2
  have lt := KT.out.lt
  go_wp2_with (fail)
  refine (specQueueAdd B d L x _ (by omega) OQ.out.rdT).mono ?_
  rw [HY.out]
  rintro e w4 ⟨A4, a4, rfl, o2, hb⟩
  have OW := Lib.hid o2
  replace Z := Lib.hid (Below.and Z.out hb)
  replace OQ := Lib.hid (OQ.out.below hb)
  replace KT := Lib.hid (KT.out.below hb)
  replace OX := Lib.hid (OX.out.below hb)
  clear hb o2
  clear t0 t1 t2 lt
  have nu : (u != u) = false := by simp
  have eu : (u == u) = true := by simp
  obtain ⟨b, hb⟩ : ∃ b, okQ L = b := ⟨_, rfl⟩
  have HOK := Lib.hid hb
  have nb : (b != b) = false := by simp
  have eb : (b == b) = true := by simp
  clear hb
  go_wp2_with (fail)
  refine (wpTimed_rd _ _ _ _ _ _ (by omega) OX.out.rd OW.out.rd).mono ?_
  rintro e w5 ⟨rfl, hb⟩
  replace Z := Lib.hid (Below.and Z.out hb)
  replace OQ := Lib.hid (OQ.out.below hb)
  replace KT := Lib.hid (KT.out.below hb)
  replace OX := Lib.hid (OX.out.below hb)
  replace OW := Lib.hid (OW.out.below hb)
  clear hb
  go_wp2_with (fail)
  refine (implQueueOk _ _ _ _ (by omega) OQ.out.rdT).mono ?_
  rw [HOK.out]
  rintro e w6 ⟨rfl, hb⟩
  replace Z := Lib.hid (Below.and Z.out hb)
  replace OQ := Lib.hid (OQ.out.below hb)
  replace KT := Lib.hid (KT.out.below hb)
  replace OX := Lib.hid (OX.out.below hb)
  replace OW := Lib.hid (OW.out.below hb)
  clear hb
  go_wp2_with (fail)
  refine (specQueueOk _ _ _ _ (by omega) OQ.out.rd).mono ?_
  rw [HOK.out]
  rintro e w7 ⟨rfl, hb⟩
  replace Z := Lib.hid (Below.and Z.out hb)
  replace OQ := Lib.hid (OQ.out.below hb)
  replace KT := Lib.hid (KT.out.below hb)
  replace OX := Lib.hid (OX.out.below hb)
  replace OW := Lib.hid (OW.out.below hb)
  clear hb
  rcases u with _ | _
  · go_wp2_with (fail)
    refine (wpTimed_rd _ _ _ _ _ _ (by omega) OX.out.rd OW.out.rd).mono ?_
    rintro e w8 ⟨rfl, hb⟩
    replace Z := Lib.hid (Below.and Z.out hb)
    replace OQ := Lib.hid (OQ.out.below hb)
    replace KT := Lib.hid (KT.out.below hb)
    replace OX := Lib.hid (OX.out.below hb)
    replace OW := Lib.hid (OW.out.below hb)
    clear hb
    go_wp2_with (fail)
    refine (implQueueOk _ _ _ _ (by omega) OQ.out.rdT).mono ?_
    rw [HOK.out]
    rintro e w9 ⟨rfl, hb⟩
    replace Z := Lib.hid (Below.and Z.out hb)
    replace OQ := Lib.hid (OQ.out.below hb)
    replace KT := Lib.hid (KT.out.below hb)
    replace OX := Lib.hid (OX.out.below hb)
    replace OW := Lib.hid (OW.out.below hb)
    clear hb
    go_wp2_with (fail)
    refine (specQueueOk _ _ _ _ (by omega) OQ.out.rd).mono ?_
    rw [HOK.out]
    rintro e wA ⟨rfl, hb⟩
    replace Z := Lib.hid (Below.and Z.out hb)
    replace OQ := Lib.hid (OQ.out.below hb)
    replace KT := Lib.hid (KT.out.below hb)
    replace OX := Lib.hid (OX.out.below hb)
    replace OW := Lib.hid (OW.out.below hb)
    clear hb
    go_wp2_with (fail)
    refine (implQueueOk _ _ _ _ (by omega) OQ.out.rdT).mono ?_
    rw [HOK.out]
    rintro e wB ⟨rfl, hb⟩
    replace Z := Lib.hid (Below.and Z.out hb)
    replace OQ := Lib.hid (OQ.out.below hb)
    replace KT := Lib.hid (KT.out.below hb)
    replace OX := Lib.hid (OX.out.below hb)
    replace OW := Lib.hid (OW.out.below hb)
    clear hb
    rcases b with _ | _
    · skip
      go_wp2
      go_light
      go_ret
      exact ⟨rfl, Z.out⟩
    · have hRL := addQ_false HY.out HOK.out
      subst hRL
      go_wp2_with (fail)
      refine (wpTimed_rd _ _ _ _ _ _ (by omega) OX.out.rd OQ.out.rd).mono ?_
      rintro e wC ⟨rfl, hb⟩
      replace Z := Lib.hid (Below.and Z.out hb)
      replace OQ := Lib.hid (OQ.out.below hb)
      replace KT := Lib.hid (KT.out.below hb)
      replace OX := Lib.hid (OX.out.below hb)
      replace OW := Lib.hid (OW.out.below hb)
      clear hb
      go_wp2
      go_light
      go_ret
      exact ⟨rfl, Z.out⟩
  · obtain ⟨hk, hx, hm, hlt, hR⟩ := addQ_iff HY.out
    have HC := Lib.hid (show R.countP (fun y => decide (y = x)) = 1 by rw [hR]; exact add_count hk.heap hm)
    have HAG := Lib.hid (show addQ R x = (R, false) by rw [hR]; exact add_again hk hx hm hlt)
    have HOR := Lib.hid (show okQ R = true by rw [hR]; exact okQ_iff.2 (hk.add hx hm hlt))
    have HRL := Lib.hid (show R.length = L.length + 1 by rw [hR, addT_len])
    clear hk hx hm hlt hR HOK HY
    go_wp2
    go_loopw [9, 10] (fun u v wr => ∃ j : Nat, j ≤ R.length ∧ v = .int .i64 (j : Int) ∧ (∃ k : Nat, u = .int .i64 (k : Int) ∧ k ≤ j ∧ Hid ((R.take j).countP (fun y => decide (y = x)) = k)) ∧ Hid (Below w7.heap.size w7 wr)) (fun _ v _ => R.length - (intOf v).toNat)
    case atStart => exact ⟨0, Nat.zero_le _, rfl, ⟨0, rfl, Nat.le_refl _, by simp [Hid]⟩, Below.refl _ _⟩
    case round =>
      obtain ⟨j, hj, rfl, ⟨k, rfl, hkj, HK⟩, hB⟩ := hrel
      replace Z := Lib.hid (Below.and Z.out hB.out)
      replace OQ := Lib.hid (OQ.out.below hB.out)
      replace KT := Lib.hid (KT.out.below hB.out)
      replace OX := Lib.hid (OX.out.below hB.out)
      replace OW := Lib.hid (OW.out.below hB.out)
      by_cases hlt : j < R.length
      · obtain ⟨g, o, hgo, yc⟩ := OX.out.rd j hlt
        subst hgo
        have HT := Lib.hid (List.take_succ_eq_append_getElem hlt)
        generalize R[j] = y at yc HT
        have y0 : wr.cell? ⟨g, o + j * 3, none⟩ = some (.int .i64 y.a) := yc 0 _ rfl
        have y1 : wr.cell? ⟨g, o + j * 3 + 1, none⟩ = some (.int .i64 y.f) := yc 1 _ rfl
        have y2 : wr.cell? ⟨g, o + j * 3 + 2, none⟩ = some (.int .i64 y.n) := yc 2 _ rfl
        clear yc
        have t0 : wr.cell? ⟨tb, 0, none⟩ = some (.int .i64 x.a) := KT.out.cell 0
        have t1 : wr.cell? ⟨tb, 1, none⟩ = some (.int .i64 x.f) := KT.out.cell 1
        have t2 : wr.cell? ⟨tb, 2, none⟩ = some (.int .i64 x.n) := KT.out.cell 2
        have lt := KT.out.lt
        have i0 : (0 : Int) ≤ (j : Int) := by omega
        have i1 : (j : Int) < (R.length : Int) := by omega
        obtain ⟨d9, hd⟩ : ∃ d9, decide (y = x) = d9 := ⟨_, rfl⟩
        have hq : ∀ W, (binOp .eql 25 (.agg #[.int .i64 y.a, .int .i64 y.f, .int .i64 y.n]) (.agg #[.int .i64 x.a, .int .i64 x.f, .int .i64 x.n])).run Try.prog W = .ok (.bool d9) W := fun W => by rw [← hd]; exact eqlTimed y x W
        have HK2 := Lib.hid (show (R.take (j + 1)).countP (fun y => decide (y = x)) = k + (if d9 = true then 1 else 0) by
          rw [HT.out, List.countP_append, HK.out]
          simp [hd])
        clear hd HT HK
        go_wp2_with (fail)
        go_quiet (fail)
        rcases d9 with _ | _
        · clear hq y0 y1 y2
          clear t0 t1 t2 lt
          go_wp2
          go_roundw
          case rel => exact ⟨j + 1, by omega, by go_num, ⟨k, rfl, by omega, by simpa [Hid] using HK2.out⟩, Below.drewN hB.out _⟩
          case measure => (simp [intOf]; try omega)
        · clear hq y0 y1 y2
          clear t0 t1 t2 lt
          go_wp2
          go_roundw
          case rel => exact ⟨j + 1, by omega, by go_num, ⟨k + 1, by go_num, by omega, by simpa [Hid] using HK2.out⟩, Below.drewN hB.out _⟩
          case measure => (simp [intOf]; try omega)
      · have i1 : ¬ (j : Int) < (R.length : Int) := by omega
        obtain rfl : j = R.length := by omega
        rw [List.take_length, HC.out] at HK
        obtain rfl : k = 1 := HK.out.symm
        have t0 : wr.cell? ⟨tb, 0, none⟩ = some (.int .i64 x.a) := KT.out.cell 0
        have t1 : wr.cell? ⟨tb, 1, none⟩ = some (.int .i64 x.f) := KT.out.cell 1
        have t2 : wr.cell? ⟨tb, 2, none⟩ = some (.int .i64 x.n) := KT.out.cell 2
        have lt := KT.out.lt
        go_wp2_with (fail)
        refine (implQueueAdd _ _ R x _ (by omega) OX.out.rdT).mono ?_
        rw [HAG.out]
        rintro e wD ⟨A5, a5, rfl, o2, hb⟩
        replace Z := Lib.hid (Below.and Z.out hb)
        replace OQ := Lib.hid (OQ.out.below hb)
        replace KT := Lib.hid (KT.out.below hb)
        replace OX := Lib.hid (OX.out.below hb)
        replace OW := Lib.hid (OW.out.below hb)
        clear hb o2
        clear t0 t1 t2 lt
        go_wp2_with (fail)
        refine (implQueueOk _ _ _ _ (by omega) OX.out.rdT).mono ?_
        rw [HOR.out]
        rintro e wE ⟨rfl, hb⟩
        replace Z := Lib.hid (Below.and Z.out hb)
        replace OQ := Lib.hid (OQ.out.below hb)
        replace KT := Lib.hid (KT.out.below hb)
        replace OX := Lib.hid (OX.out.below hb)
        replace OW := Lib.hid (OW.out.below hb)
        clear hb
        have e9 : ((R.length : Int) == (L.length : Int) + 1) = true := by have := HRL.out; simp; omega
        go_wp2
        go_light
        go_ret
        exact ⟨rfl, Z.out⟩

end Go.Proofs.Ytgnemgnhjallhaa
