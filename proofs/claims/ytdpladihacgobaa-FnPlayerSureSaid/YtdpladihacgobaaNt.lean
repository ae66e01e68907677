/- What a player is sure of: the law. -/
import Derived.Test.YtdpladihacgobaaNq
import Derived.Test.YtdpladihacgobaaNr
import Derived.Test.YtdpladihacgobaaNf
namespace Go.Proofs.Ytdpladihacgobaa
open Go.ChangeShapes Go.WideShapes Go.ChangeAt Go.RowKit
set_option linter.unusedVariables false
set_option linter.unusedSimpArgs false

theorem firstR_mem (P : Rp → Bool) : ∀ l : List Rp, (firstR P l).2 = true → (firstR P l).1 ∈ l
  | [], h => by cases h
  | x :: l, h => by
    unfold firstR at h ⊢
    rcases hx : P x with _ | _
    · rw [hx] at h
      exact List.mem_cons_of_mem _ (firstR_mem P l h)
    · exact List.Mem.head _
/-- The most that are alike, of the first j. -/
def bestN (L : List Rp) (j : Nat) : Nat := (L.take j).foldl (fun b x => max b (L.countP (likeP x))) 0
theorem best_le (L M : List Rp) (b : Nat) (hb : b ≤ L.length) : M.foldl (fun b x => max b (L.countP (likeP x))) b ≤ L.length := by
  induction M generalizing b with
  | nil => exact hb
  | cons x M ih => exact ih _ (Nat.max_le.2 ⟨hb, List.countP_le_length⟩)
theorem bestN_le (L : List Rp) (j : Nat) : bestN L j ≤ L.length := best_le L _ 0 (Nat.zero_le _)
theorem bestN_succ (L : List Rp) (j : Nat) (h : j < L.length) : bestN L (j + 1) = max (bestN L j) (L.countP (likeP L[j])) := by
  unfold bestN
  rw [List.take_succ_eq_append_getElem h, List.foldl_append]
  rfl
theorem best_two (L M : List Rp) (b : Nat) : 2 ≤ M.foldl (fun b x => max b (L.countP (likeP x))) b ↔ 2 ≤ b ∨ ∃ x ∈ M, 2 ≤ L.countP (likeP x) := by
  induction M generalizing b with
  | nil => simp
  | cons x M ih =>
    rw [List.foldl_cons, ih]
    constructor
    · rintro (h | ⟨y, hy, h⟩)
      · rcases Nat.le_total b (L.countP (likeP x)) with h1 | h1
        · exact .inr ⟨x, List.Mem.head _, by omega⟩
        · exact .inl (by omega)
      · exact .inr ⟨y, List.mem_cons_of_mem _ hy, h⟩
    · rintro (h | ⟨y, hy, h⟩)
      · exact .inl (by omega)
      · rcases List.mem_cons.1 hy with rfl | hy
        · exact .inl (by omega)
        · exact .inr ⟨y, hy, h⟩
theorem sure_best {q : Rq} {L : List Rp} (h : plB q L = true) : (sureP q L).2 = decide ((2 : Int) ≤ ((bestN L L.length : Nat) : Int)) := by
  unfold sureP
  rw [h, if_pos rfl, firstR_all, Bool.eq_iff_iff, decide_eq_true_iff]
  have := best_two L L 0
  unfold bestN
  rw [List.take_length]
  constructor
  · intro h1
    have h2 : ∃ x ∈ L, 2 ≤ L.countP (likeP x) := by
      rw [Bool.not_eq_true', List.all_eq_false] at h1
      obtain ⟨x, hx, hp⟩ := h1
      refine ⟨x, hx, ?_⟩
      simp [sureX] at hp
      omega
    have := this.2 (.inr h2)
    omega
  · intro h1
    rcases this.1 (by omega) with h2 | ⟨x, hx, h2⟩
    · omega
    · rw [Bool.not_eq_true', List.all_eq_false]
      exact ⟨x, hx, by simp [sureX]; omega⟩
theorem sure_num {q : Rq} {L : List Rp} (h : plB q L = true) (hs : (sureP q L).2 = true) : (sureP q L).1.n = q.n := by
  have e : sureP q L = firstR (sureX L) L := by unfold sureP; rw [h]; rfl
  rw [e] at hs ⊢
  have hm := firstR_mem _ _ hs
  unfold plB at h
  rw [Bool.and_eq_true, List.all_eq_true] at h
  have := h.2 _ hm
  simp [okR] at this
  exact this.2.1

set_option maxRecDepth 100000 in
set_option maxHeartbeats 8000000 in
theorem lawPlayerSure (A : Option Addr) (c n : Nat) (w : World) (hn : n ≤ maxLen) (hc : n ≤ c) (hb : InB w A n) :
    Calls Try.prog 4 #[.slice A n c] w fun e w' => e = .returned (.bool true) ∧ Below w.heap.size w w' := by
  have HB := Lib.hid hb
  clear hb
  go_enter Try.func4, Try.ntmps4
  by_cases h : n > 1048576
  · go_wp2
    go_light
    go_ret
    exact ⟨rfl, Below.refl _ _⟩
  go_wp2_with (fail)
  refine (drawPlayerSure (by omega) hc HB.out).mono ?_
  rintro e w1 ⟨q0, D1, d, L, rfl, hL, oa, hbz⟩
  have Z := Lib.hid hbz
  have RA := Lib.hid oa.rdP
  clear oa hbz HB h
  obtain ⟨⟨y, u⟩, hy⟩ : ∃ Y, Y = sureP q0 L := ⟨_, rfl⟩
  have HU := Lib.hid hy
  clear hy
  have hb : Below w1.heap.size w1 (w1.alloc (.cells #[.int .i64 q0.c, .int .i64 q0.n, .int .i64 q0.o, .int .i64 q0.x, .int .i64 q0.y, .slice D1 L.length d] 27)) := (Below.refl _ _).alloc (Nat.le_refl _) _
  have T3 : Hid (Bkk (w1.alloc (.cells #[.int .i64 q0.c, .int .i64 q0.n, .int .i64 q0.o, .int .i64 q0.x, .int .i64 q0.y, .slice D1 L.length d] 27)) w1.heap.size 27 #[.int .i64 q0.c, .int .i64 q0.n, .int .i64 q0.o, .int .i64 q0.x, .int .i64 q0.y, .slice D1 L.length d]) := Bkk.new _
  replace RA := Lib.hid (RA.out.below hb)
  replace Z := Lib.hid (Below.and Z.out hb)
  clear hb
  go_upto_region 4 with (fail)
  obtain ⟨w2, hw2⟩ : ∃ X, X = (w1.alloc (.cells #[.int .i64 q0.c, .int .i64 q0.n, .int .i64 q0.o, .int .i64 q0.x, .int .i64 q0.y, .slice D1 L.length d] 27)) := ⟨_, rfl⟩
  obtain ⟨blk3, hblk3⟩ : ∃ X, X = w1.heap.size := ⟨_, rfl⟩
  rw [← hw2] at T3 RA Z ⊢
  rw [← hblk3] at T3 ⊢
  clear hw2 hblk3
  have p0 : w2.cell? ⟨blk3, 0, none⟩ = some (.int .i64 q0.c) := T3.out.cell 0
  have p1 : w2.cell? ⟨blk3, 1, none⟩ = some (.int .i64 q0.n) := T3.out.cell 1
  have p2 : w2.cell? ⟨blk3, 2, none⟩ = some (.int .i64 q0.o) := T3.out.cell 2
  have p3 : w2.cell? ⟨blk3, 3, none⟩ = some (.int .i64 q0.x) := T3.out.cell 3
  have p4 : w2.cell? ⟨blk3, 4, none⟩ = some (.int .i64 q0.y) := T3.out.cell 4
  have p5 : w2.cell? ⟨blk3, 5, none⟩ = some (.slice D1 L.length d) := T3.out.cell 5
  go_wp2_with (fail)
  refine (implPlayerSure q0 D1 d L _ (by unfold maxLen; omega) RA.out.r).mono ?_
  rintro e w3 ⟨rfl, hb⟩
  rw [← HU.out]
  clear p0 p1 p2 p3 p4 p5
  replace T3 := Lib.hid (T3.out.below hb)
  replace RA := Lib.hid (RA.out.below hb)
  replace Z := Lib.hid (Below.and Z.out hb)
  clear hb
  have hb : Below w3.heap.size w3 (w3.alloc (.cells #[.int .i64 y.f, .int .i64 y.n, .int .i64 y.c, .int .i64 y.s] 29)) := (Below.refl _ _).alloc (Nat.le_refl _) _
  have T4 : Hid (Bkk (w3.alloc (.cells #[.int .i64 y.f, .int .i64 y.n, .int .i64 y.c, .int .i64 y.s] 29)) w3.heap.size 29 #[.int .i64 y.f, .int .i64 y.n, .int .i64 y.c, .int .i64 y.s]) := Bkk.new _
  replace T3 := Lib.hid (T3.out.below hb)
  replace RA := Lib.hid (RA.out.below hb)
  replace Z := Lib.hid (Below.and Z.out hb)
  clear hb
  go_upto_region 5 with (fail)
  obtain ⟨w4, hw4⟩ : ∃ X, X = (w3.alloc (.cells #[.int .i64 y.f, .int .i64 y.n, .int .i64 y.c, .int .i64 y.s] 29)) := ⟨_, rfl⟩
  obtain ⟨blk4, hblk4⟩ : ∃ X, X = w3.heap.size := ⟨_, rfl⟩
  rw [← hw4] at T4 T3 RA Z ⊢
  rw [← hblk4] at T4 ⊢
  clear hw4 hblk4
  have p0 : w4.cell? ⟨blk3, 0, none⟩ = some (.int .i64 q0.c) := T3.out.cell 0
  have p1 : w4.cell? ⟨blk3, 1, none⟩ = some (.int .i64 q0.n) := T3.out.cell 1
  have p2 : w4.cell? ⟨blk3, 2, none⟩ = some (.int .i64 q0.o) := T3.out.cell 2
  have p3 : w4.cell? ⟨blk3, 3, none⟩ = some (.int .i64 q0.x) := T3.out.cell 3
  have p4 : w4.cell? ⟨blk3, 4, none⟩ = some (.int .i64 q0.y) := T3.out.cell 4
  have p5 : w4.cell? ⟨blk3, 5, none⟩ = some (.slice D1 L.length d) := T3.out.cell 5
  go_wp2_with (fail)
  refine (specPlayerSure q0 D1 d L _ (by unfold maxLen; omega) RA.out.r).mono ?_
  rintro e w5 ⟨rfl, hb⟩
  rw [← HU.out]
  clear p0 p1 p2 p3 p4 p5
  replace T3 := Lib.hid (T3.out.below hb)
  replace T4 := Lib.hid (T4.out.below hb)
  replace RA := Lib.hid (RA.out.below hb)
  replace Z := Lib.hid (Below.and Z.out hb)
  clear hb
  have hb : Below w5.heap.size w5 (w5.alloc (.cells #[.int .i64 y.f, .int .i64 y.n, .int .i64 y.c, .int .i64 y.s] 29)) := (Below.refl _ _).alloc (Nat.le_refl _) _
  have T6 : Hid (Bkk (w5.alloc (.cells #[.int .i64 y.f, .int .i64 y.n, .int .i64 y.c, .int .i64 y.s] 29)) w5.heap.size 29 #[.int .i64 y.f, .int .i64 y.n, .int .i64 y.c, .int .i64 y.s]) := Bkk.new _
  replace T3 := Lib.hid (T3.out.below hb)
  replace T4 := Lib.hid (T4.out.below hb)
  replace RA := Lib.hid (RA.out.below hb)
  replace Z := Lib.hid (Below.and Z.out hb)
  clear hb
  go_upto_region 6 with (fail)
  obtain ⟨w6, hw6⟩ : ∃ X, X = (w5.alloc (.cells #[.int .i64 y.f, .int .i64 y.n, .int .i64 y.c, .int .i64 y.s] 29)) := ⟨_, rfl⟩
  obtain ⟨blk6, hblk6⟩ : ∃ X, X = w5.heap.size := ⟨_, rfl⟩
  rw [← hw6] at T6 T3 T4 RA Z ⊢
  rw [← hblk6] at T6 ⊢
  clear hw6 hblk6
  have nx : (u != u) = false := by simp
  have ne : (u == u) = true := by simp
  have hq : ∀ W, (binOp .neq 29 (.agg #[.int .i64 y.f, .int .i64 y.n, .int .i64 y.c, .int .i64 y.s]) (.agg #[.int .i64 y.f, .int .i64 y.n, .int .i64 y.c, .int .i64 y.s])).run Try.prog W = .ok (.bool false) W := fun W => by have := neqReply y y W; simpa using this
  have p0 : w6.cell? ⟨blk3, 0, none⟩ = some (.int .i64 q0.c) := T3.out.cell 0
  have p1 : w6.cell? ⟨blk3, 1, none⟩ = some (.int .i64 q0.n) := T3.out.cell 1
  have p2 : w6.cell? ⟨blk3, 2, none⟩ = some (.int .i64 q0.o) := T3.out.cell 2
  have p3 : w6.cell? ⟨blk3, 3, none⟩ = some (.int .i64 q0.x) := T3.out.cell 3
  have p4 : w6.cell? ⟨blk3, 4, none⟩ = some (.int .i64 q0.y) := T3.out.cell 4
  have p5 : w6.cell? ⟨blk3, 5, none⟩ = some (.slice D1 L.length d) := T3.out.cell 5
  have y0 : w6.cell? ⟨blk4, 0, none⟩ = some (.int .i64 y.f) := T4.out.cell 0
  have y1 : w6.cell? ⟨blk4, 1, none⟩ = some (.int .i64 y.n) := T4.out.cell 1
  have y2 : w6.cell? ⟨blk4, 2, none⟩ = some (.int .i64 y.c) := T4.out.cell 2
  have y3 : w6.cell? ⟨blk4, 3, none⟩ = some (.int .i64 y.s) := T4.out.cell 3
  have z0 : w6.cell? ⟨blk6, 0, none⟩ = some (.int .i64 y.f) := T6.out.cell 0
  have z1 : w6.cell? ⟨blk6, 1, none⟩ = some (.int .i64 y.n) := T6.out.cell 1
  have z2 : w6.cell? ⟨blk6, 2, none⟩ = some (.int .i64 y.c) := T6.out.cell 2
  have z3 : w6.cell? ⟨blk6, 3, none⟩ = some (.int .i64 y.s) := T6.out.cell 3
  go_wp2_with (fail)
  refine (implPlayerOk q0 D1 d L _ (by unfold maxLen; omega) RA.out.r).mono ?_
  rintro e w7 ⟨rfl, hb⟩
  clear p0 p1 p2 p3 p4 p5 y0 y1 y2 y3 z0 z1 z2 z3
  replace T3 := Lib.hid (T3.out.below hb)
  replace T4 := Lib.hid (T4.out.below hb)
  replace T6 := Lib.hid (T6.out.below hb)
  replace RA := Lib.hid (RA.out.below hb)
  replace Z := Lib.hid (Below.and Z.out hb)
  clear hb
  clear hq
  rcases hok : plB q0 L with _ | _
  · have hq : ∀ W, (binOp .eql 29 (.agg #[.int .i64 y.f, .int .i64 y.n, .int .i64 y.c, .int .i64 y.s]) (.agg #[.int .i64 y.f, .int .i64 y.n, .int .i64 y.c, .int .i64 y.s])).run Try.prog W = .ok (.bool true) W := fun W => by have := eqlReply y y W; simpa using this
    clear hok
    have y0 : w7.cell? ⟨blk4, 0, none⟩ = some (.int .i64 y.f) := T4.out.cell 0
    have y1 : w7.cell? ⟨blk4, 1, none⟩ = some (.int .i64 y.n) := T4.out.cell 1
    have y2 : w7.cell? ⟨blk4, 2, none⟩ = some (.int .i64 y.c) := T4.out.cell 2
    have y3 : w7.cell? ⟨blk4, 3, none⟩ = some (.int .i64 y.s) := T4.out.cell 3
    have z0 : w7.cell? ⟨blk6, 0, none⟩ = some (.int .i64 y.f) := T6.out.cell 0
    have z1 : w7.cell? ⟨blk6, 1, none⟩ = some (.int .i64 y.n) := T6.out.cell 1
    have z2 : w7.cell? ⟨blk6, 2, none⟩ = some (.int .i64 y.c) := T6.out.cell 2
    have z3 : w7.cell? ⟨blk6, 3, none⟩ = some (.int .i64 y.s) := T6.out.cell 3
    go_wp2
    go_light
    go_ret
    exact ⟨rfl, Z.out⟩
  have HB2 := Lib.hid (show u = decide ((2 : Int) ≤ ((bestN L L.length : Nat) : Int)) by have := sure_best hok; rw [← HU.out] at this; exact this)
  have HNM := Lib.hid (show u = true → y.n = q0.n by intro e; have := sure_num hok; rw [← HU.out] at this; exact this e)
  clear hok T6 HU nx ne
  go_wp2
  go_loopw [8, 9] (fun b v wr => ∃ j m : Nat, j ≤ L.length ∧ m ≤ L.length ∧ b = .int .i64 (m : Int) ∧ v = .int .i64 (j : Int) ∧ Hid (bestN L j = m) ∧ Hid (Below w7.heap.size w7 wr)) (fun _ v _ => L.length - (intOf v).toNat)
  case atStart => exact ⟨0, 0, Nat.zero_le _, Nat.zero_le _, rfl, rfl, rfl, Below.refl _ _⟩
  case round =>
    obtain ⟨j, m, hj, hm, rfl, rfl, ha, hB⟩ := hrel
    replace T3 := Lib.hid (T3.out.below hB.out)
    replace T4 := Lib.hid (T4.out.below hB.out)
    replace RA := Lib.hid (RA.out.below hB.out)
    replace Z := Lib.hid (Below.and Z.out hB.out)
    have p0 : wr.cell? ⟨blk3, 0, none⟩ = some (.int .i64 q0.c) := T3.out.cell 0
    have p1 : wr.cell? ⟨blk3, 1, none⟩ = some (.int .i64 q0.n) := T3.out.cell 1
    have p2 : wr.cell? ⟨blk3, 2, none⟩ = some (.int .i64 q0.o) := T3.out.cell 2
    have p3 : wr.cell? ⟨blk3, 3, none⟩ = some (.int .i64 q0.x) := T3.out.cell 3
    have p4 : wr.cell? ⟨blk3, 4, none⟩ = some (.int .i64 q0.y) := T3.out.cell 4
    have p5 : wr.cell? ⟨blk3, 5, none⟩ = some (.slice D1 L.length d) := T3.out.cell 5
    by_cases hlt : j < L.length
    · have i1 : (j : Int) < (L.length : Int) := by omega
      have HBS := Lib.hid (bestN_succ L j hlt)
      obtain ⟨g, o, hgo, ca⟩ := RA.out.r j hlt
      subst hgo
      generalize L[j] = x at ca HBS
      have xr0 : wr.cell? ⟨g, o + j * 4, none⟩ = some (.int .i64 x.f) := ca 0 _ rfl
      have xr1 : wr.cell? ⟨g, o + j * 4 + 1, none⟩ = some (.int .i64 x.n) := ca 1 _ rfl
      have xr2 : wr.cell? ⟨g, o + j * 4 + 2, none⟩ = some (.int .i64 x.c) := ca 2 _ rfl
      have xr3 : wr.cell? ⟨g, o + j * 4 + 3, none⟩ = some (.int .i64 x.s) := ca 3 _ rfl
      have X0 := Lib.hid (show wr.cell? ⟨g, o + j * 4 + 2, none⟩ = some (.int .i64 x.c) ∧ wr.cell? ⟨g, o + j * 4 + 3, none⟩ = some (.int .i64 x.s) from ⟨xr2, xr3⟩)
      clear ca xr0 xr1 xr2 xr3
      obtain ⟨wy, hwy⟩ : ∃ X, X = wr := ⟨_, rfl⟩
      rw [← hwy] at T3 T4 RA Z X0 hB p0 p1 p2 p3 p4 p5
      rw [← hwy]
      clear hwy
      go_wp2
      clear p0 p1 p2 p3 p4 p5
      go_loopw [10, 11] (fun cn v wr => ∃ k z : Nat, k ≤ L.length ∧ z ≤ k ∧ cn = .int .i64 (z : Int) ∧ v = .int .i64 (k : Int) ∧ Hid ((L.take k).countP (likeP x) = z) ∧ Hid (Below wy.heap.size wy wr)) (fun _ v _ => L.length - (intOf v).toNat)
      case atStart => exact ⟨0, 0, Nat.zero_le _, Nat.le_refl _, rfl, rfl, by simp [Hid], Below.refl _ _⟩
      case round =>
        obtain ⟨k, z, hk, hz, rfl, rfl, hcn, hC⟩ := hrel
        replace T3 := Lib.hid (T3.out.below hC.out)
        replace T4 := Lib.hid (T4.out.below hC.out)
        replace RA := Lib.hid (RA.out.below hC.out)
        replace Z := Lib.hid (Below.and Z.out hC.out)
        replace hB := Lib.hid (Below.and hB.out hC.out)
        have xc2 : wr.cell? ⟨g, o + j * 4 + 2, none⟩ = some (.int .i64 x.c) := cell_kept hC.out X0.out.1
        have xc3 : wr.cell? ⟨g, o + j * 4 + 3, none⟩ = some (.int .i64 x.s) := cell_kept hC.out X0.out.2
        have p0 : wr.cell? ⟨blk3, 0, none⟩ = some (.int .i64 q0.c) := T3.out.cell 0
        have p1 : wr.cell? ⟨blk3, 1, none⟩ = some (.int .i64 q0.n) := T3.out.cell 1
        have p2 : wr.cell? ⟨blk3, 2, none⟩ = some (.int .i64 q0.o) := T3.out.cell 2
        have p3 : wr.cell? ⟨blk3, 3, none⟩ = some (.int .i64 q0.x) := T3.out.cell 3
        have p4 : wr.cell? ⟨blk3, 4, none⟩ = some (.int .i64 q0.y) := T3.out.cell 4
        have p5 : wr.cell? ⟨blk3, 5, none⟩ = some (.slice (some ⟨g, o, none⟩) L.length d) := T3.out.cell 5
        have lp := T3.out.lt
        have lx : g < wr.heap.size := World.block_lt_of_cell? wr _ xc2
        by_cases hkl : k < L.length
        · have HT := Lib.hid (List.take_succ_eq_append_getElem hkl)
          obtain ⟨g', o', hgo, ca⟩ := RA.out.r k hkl
          cases hgo
          generalize L[k] = v at ca HT
          have vr0 : wr.cell? ⟨g, o + k * 4, none⟩ = some (.int .i64 v.f) := ca 0 _ rfl
          have vr1 : wr.cell? ⟨g, o + k * 4 + 1, none⟩ = some (.int .i64 v.n) := ca 1 _ rfl
          have vr2 : wr.cell? ⟨g, o + k * 4 + 2, none⟩ = some (.int .i64 v.c) := ca 2 _ rfl
          have vr3 : wr.cell? ⟨g, o + k * 4 + 3, none⟩ = some (.int .i64 v.s) := ca 3 _ rfl
          clear ca
          have i0 : (0 : Int) ≤ (k : Int) := by omega
          have j0 : (0 : Int) ≤ (j : Int) := by omega
          have i2 : (k : Int) < (L.length : Int) := by omega
          have HC := Lib.hid (show (L.take (k + 1)).countP (likeP x) = z + (if likeP x v then 1 else 0) by rw [HT.out, List.countP_append, hcn.out]; simp [List.countP_cons])
          clear HT hcn
          go_upto_region 16 with (fail)
          rcases h1 : (v.c == x.c) with _ | _
          · skip
            refine wp_region_held_drew (S := fun w1 => Below wr.heap.size wr w1) (by kernel_rfl) ((Below.refl _ _).drew) (fun hq => ?_)
            refine takeD 0 62 (v := ?_) rfl rfl (by kernel_rfl) (by kernel_rfl) (by kernel_rfl) (fun _ _ _ h => h) (Or.inl ⟨by rfl, ?_⟩) (by assumption) ?_
            rotate_left
            · intro w1 hSw; obtain ⟨hcS, hfS⟩ := bcell hSw; go_simp; (try with_reducible rfl)
            (try simp only [Act.put, List.setIfInBounds_toArray, List.set_cons_zero, List.set_cons_succ])
            refine takeD 1 63 (v := ?_) rfl rfl (by kernel_rfl) (by kernel_rfl) (by kernel_rfl) (fun _ _ _ h => h) (Or.inl ⟨by rfl, ?_⟩) (by assumption) ?_
            rotate_left
            · intro w1 hSw; obtain ⟨hcS, hfS⟩ := bcell hSw; go_simp; (try with_reducible rfl)
            (try simp only [Act.put, List.setIfInBounds_toArray, List.set_cons_zero, List.set_cons_succ])
            refine takeD 2 64 (v := ?_) rfl rfl (by kernel_rfl) (by kernel_rfl) (by kernel_rfl) (fun _ _ _ h => h) (Or.inl ⟨by rfl, ?_⟩) (by assumption) ?_
            rotate_left
            · intro w1 hSw; obtain ⟨hcS, hfS⟩ := bcell hSw; go_simp; (try with_reducible rfl)
            (try simp only [Act.put, List.setIfInBounds_toArray, List.set_cons_zero, List.set_cons_succ])
            refine takeD 3 65 (v := ?_) rfl rfl (by kernel_rfl) (by kernel_rfl) (by kernel_rfl) (fun _ _ _ h => h) (Or.inl ⟨by rfl, ?_⟩) (by assumption) ?_
            rotate_left
            · intro w1 hSw; obtain ⟨hcS, hfS⟩ := bcell hSw; go_simp; (try with_reducible rfl)
            (try simp only [Act.put, List.setIfInBounds_toArray, List.set_cons_zero, List.set_cons_succ])
            refine takeD 4 66 (v := ?_) rfl rfl (by kernel_rfl) (by kernel_rfl) (by kernel_rfl) (fun _ _ _ h => h) (Or.inl ⟨by rfl, ?_⟩) (by assumption) ?_
            rotate_left
            · intro w1 hSw; obtain ⟨hcS, hfS⟩ := bcell hSw; go_simp; (try with_reducible rfl)
            (try simp only [Act.put, List.setIfInBounds_toArray, List.set_cons_zero, List.set_cons_succ])
            refine takeD 5 67 (v := ?_) rfl rfl (by kernel_rfl) (by kernel_rfl) (by kernel_rfl) (fun _ _ _ h => h) (Or.inl ⟨by rfl, ?_⟩) (by assumption) ?_
            rotate_left
            · intro w1 hSw; obtain ⟨hcS, hfS⟩ := bcell hSw; go_simp; (try with_reducible rfl)
            (try simp only [Act.put, List.setIfInBounds_toArray, List.set_cons_zero, List.set_cons_succ])
            refine takeD 6 68 (v := ?_) rfl rfl (by kernel_rfl) (by kernel_rfl) (by kernel_rfl) (fun _ _ _ h => h) (Or.inl ⟨by rfl, ?_⟩) (by assumption) ?_
            rotate_left
            · intro w1 hSw; obtain ⟨hcS, hfS⟩ := bcell hSw; go_simp; (try with_reducible rfl)
            (try simp only [Act.put, List.setIfInBounds_toArray, List.set_cons_zero, List.set_cons_succ])
            refine takeD 7 69 (v := ?_) rfl rfl (by kernel_rfl) (by kernel_rfl) (by kernel_rfl) (fun _ _ _ h => h) (Or.inl ⟨by rfl, ?_⟩) (by assumption) ?_
            rotate_left
            · intro w1 hSw; obtain ⟨hcS, hfS⟩ := bcell hSw; go_simp; (try with_reducible rfl)
            (try simp only [Act.put, List.setIfInBounds_toArray, List.set_cons_zero, List.set_cons_succ])
            refine takeD 8 70 (v := ?_) rfl rfl (by kernel_rfl) (by kernel_rfl) (by kernel_rfl) (fun _ _ _ h => h) (Or.inl ⟨by rfl, ?_⟩) (by assumption) ?_
            rotate_left
            · intro w1 hSw; obtain ⟨hcS, hfS⟩ := bcell hSw; go_simp; (try with_reducible rfl)
            (try simp only [Act.put, List.setIfInBounds_toArray, List.set_cons_zero, List.set_cons_succ])
            refine takeD 9 71 (v := ?_) rfl rfl (by kernel_rfl) (by kernel_rfl) (by kernel_rfl) (fun _ _ _ h => h) (Or.inl ⟨by rfl, ?_⟩) (by assumption) ?_
            rotate_left
            · intro w1 hSw; obtain ⟨hcS, hfS⟩ := bcell hSw; go_simp; (try with_reducible rfl)
            (try simp only [Act.put, List.setIfInBounds_toArray, List.set_cons_zero, List.set_cons_succ])
            refine takeD 10 72 (v := ?_) rfl rfl (by kernel_rfl) (by kernel_rfl) (by kernel_rfl) (fun _ _ _ h => h) (Or.inl ⟨by rfl, ?_⟩) (by assumption) ?_
            rotate_left
            · intro w1 hSw; obtain ⟨hcS, hfS⟩ := bcell hSw; go_simp; (try with_reducible rfl)
            (try simp only [Act.put, List.setIfInBounds_toArray, List.set_cons_zero, List.set_cons_succ])
            refine takeD 11 73 (v := ?_) rfl rfl (by kernel_rfl) (by kernel_rfl) (by kernel_rfl) (fun _ _ _ h => h) (Or.inl ⟨by rfl, ?_⟩) (by assumption) ?_
            rotate_left
            · intro w1 hSw; obtain ⟨hcS, hfS⟩ := bcell hSw; go_simp; (try with_reducible rfl)
            (try simp only [Act.put, List.setIfInBounds_toArray, List.set_cons_zero, List.set_cons_succ])
            refine takeD 12 74 (v := ?_) rfl rfl (by kernel_rfl) (by kernel_rfl) (by kernel_rfl) (fun _ _ _ h => h) (Or.inl ⟨by rfl, ?_⟩) (by assumption) ?_
            rotate_left
            · intro w1 hSw; obtain ⟨hcS, hfS⟩ := bcell hSw; go_simp; (try with_reducible rfl)
            (try simp only [Act.put, List.setIfInBounds_toArray, List.set_cons_zero, List.set_cons_succ])
            refine takeD 13 75 (v := ?_) rfl rfl (by kernel_rfl) (by kernel_rfl) (by kernel_rfl) (fun _ _ _ h => h) (Or.inl ⟨by rfl, ?_⟩) (by assumption) ?_
            rotate_left
            · intro w1 hSw; obtain ⟨hcS, hfS⟩ := bcell hSw; go_simp; (try with_reducible rfl)
            (try simp only [Act.put, List.setIfInBounds_toArray, List.set_cons_zero, List.set_cons_succ])
            refine takeD 14 76 (v := undef) rfl rfl (by kernel_rfl) (by kernel_rfl) (by kernel_rfl) (fun _ _ _ h => h) (Or.inr ⟨by rfl, rfl⟩) (by assumption) ?_
            (try simp only [Act.put, List.setIfInBounds_toArray, List.set_cons_zero, List.set_cons_succ])
            refine takeD 15 77 (v := undef) rfl rfl (by kernel_rfl) (by kernel_rfl) (by kernel_rfl) (fun _ _ _ h => h) (Or.inr ⟨by rfl, rfl⟩) (by assumption) ?_
            (try simp only [Act.put, List.setIfInBounds_toArray, List.set_cons_zero, List.set_cons_succ])
            refine takeD 16 78 (v := undef) rfl rfl (by kernel_rfl) (by kernel_rfl) (by kernel_rfl) (fun _ _ _ h => h) (Or.inr ⟨by rfl, rfl⟩) (by assumption) ?_
            (try simp only [Act.put, List.setIfInBounds_toArray, List.set_cons_zero, List.set_cons_succ])
            refine takeD 17 79 (v := undef) rfl rfl (by kernel_rfl) (by kernel_rfl) (by kernel_rfl) (fun _ _ _ h => h) (Or.inr ⟨by rfl, rfl⟩) (by assumption) ?_
            (try simp only [Act.put, List.setIfInBounds_toArray, List.set_cons_zero, List.set_cons_succ])
            refine takeD 18 80 (v := undef) rfl rfl (by kernel_rfl) (by kernel_rfl) (by kernel_rfl) (fun _ _ _ h => h) (Or.inr ⟨by rfl, rfl⟩) (by assumption) ?_
            (try simp only [Act.put, List.setIfInBounds_toArray, List.set_cons_zero, List.set_cons_succ])
            refine takeD 19 81 (v := undef) rfl rfl (by kernel_rfl) (by kernel_rfl) (by kernel_rfl) (fun _ _ _ h => h) (Or.inr ⟨by rfl, rfl⟩) (by assumption) ?_
            (try simp only [Act.put, List.setIfInBounds_toArray, List.set_cons_zero, List.set_cons_succ])
            refine takeD 20 82 (v := undef) rfl rfl (by kernel_rfl) (by kernel_rfl) (by kernel_rfl) (fun _ _ _ h => h) (Or.inr ⟨by rfl, rfl⟩) (by assumption) ?_
            (try simp only [Act.put, List.setIfInBounds_toArray, List.set_cons_zero, List.set_cons_succ])
            refine takeD 21 83 (v := undef) rfl rfl (by kernel_rfl) (by kernel_rfl) (by kernel_rfl) (fun _ _ _ h => h) (Or.inr ⟨by rfl, rfl⟩) (by assumption) ?_
            (try simp only [Act.put, List.setIfInBounds_toArray, List.set_cons_zero, List.set_cons_succ])
            refine takeD 22 84 (v := undef) rfl rfl (by kernel_rfl) (by kernel_rfl) (by kernel_rfl) (fun _ _ _ h => h) (Or.inr ⟨by rfl, rfl⟩) (by assumption) ?_
            (try simp only [Act.put, List.setIfInBounds_toArray, List.set_cons_zero, List.set_cons_succ])
            refine takeD 23 85 (v := undef) rfl rfl (by kernel_rfl) (by kernel_rfl) (by kernel_rfl) (fun _ _ _ h => h) (Or.inr ⟨by rfl, rfl⟩) (by assumption) ?_
            (try simp only [Act.put, List.setIfInBounds_toArray, List.set_cons_zero, List.set_cons_succ])
            refine takeD 24 86 (v := undef) rfl rfl (by kernel_rfl) (by kernel_rfl) (by kernel_rfl) (fun _ _ _ h => h) (Or.inr ⟨by rfl, rfl⟩) (by assumption) ?_
            (try simp only [Act.put, List.setIfInBounds_toArray, List.set_cons_zero, List.set_cons_succ])
            refine takeD 25 87 (v := undef) rfl rfl (by kernel_rfl) (by kernel_rfl) (by kernel_rfl) (fun _ _ _ h => h) (Or.inr ⟨by rfl, rfl⟩) (by assumption) ?_
            (try simp only [Act.put, List.setIfInBounds_toArray, List.set_cons_zero, List.set_cons_succ])
            refine takeD 26 88 (v := undef) rfl rfl (by kernel_rfl) (by kernel_rfl) (by kernel_rfl) (fun _ _ _ h => h) (Or.inr ⟨by rfl, rfl⟩) (by assumption) ?_
            (try simp only [Act.put, List.setIfInBounds_toArray, List.set_cons_zero, List.set_cons_succ])
            refine takeD 27 89 (v := ?_) rfl rfl (by kernel_rfl) (by kernel_rfl) (by kernel_rfl) (fun _ _ _ h => h) (Or.inl ⟨by rfl, ?_⟩) (by assumption) ?_
            rotate_left
            · intro w1 hSw; obtain ⟨hcS, hfS⟩ := bcell hSw; go_simp; (try with_reducible rfl)
            (try simp only [Act.put, List.setIfInBounds_toArray, List.set_cons_zero, List.set_cons_succ])
            refine wpAnyH_done (by kernel_rfl) ?_ _
            have HD := Lib.hid (Below.and hC.out hq)
            clear vr0 vr1 vr2 vr3 xc2 xc3 p0 p1 p2 p3 p4 p5 lp lx
            have HC := Lib.hid (show (L.take (k + 1)).countP (likeP x) = z by rw [HC.out]; simp [likeP, h1])
            go_wp2
            go_roundw
            case rel => exact ⟨k + 1, z, by omega, by omega, rfl, by go_num, HC.out, HD.out⟩
            case measure => (simp [intOf]; try omega)
          · skip
            refine wp_region_held_drew (S := fun w1 => Below wr.heap.size wr w1) (by kernel_rfl) ((Below.refl _ _).drew) (fun hq => ?_)
            refine takeD 0 62 (v := ?_) rfl rfl (by kernel_rfl) (by kernel_rfl) (by kernel_rfl) (fun _ _ _ h => h) (Or.inl ⟨by rfl, ?_⟩) (by assumption) ?_
            rotate_left
            · intro w1 hSw; obtain ⟨hcS, hfS⟩ := bcell hSw; go_simp; (try with_reducible rfl)
            (try simp only [Act.put, List.setIfInBounds_toArray, List.set_cons_zero, List.set_cons_succ])
            refine takeD 1 63 (v := ?_) rfl rfl (by kernel_rfl) (by kernel_rfl) (by kernel_rfl) (fun _ _ _ h => h) (Or.inl ⟨by rfl, ?_⟩) (by assumption) ?_
            rotate_left
            · intro w1 hSw; obtain ⟨hcS, hfS⟩ := bcell hSw; go_simp; (try with_reducible rfl)
            (try simp only [Act.put, List.setIfInBounds_toArray, List.set_cons_zero, List.set_cons_succ])
            refine takeD 2 64 (v := ?_) rfl rfl (by kernel_rfl) (by kernel_rfl) (by kernel_rfl) (fun _ _ _ h => h) (Or.inl ⟨by rfl, ?_⟩) (by assumption) ?_
            rotate_left
            · intro w1 hSw; obtain ⟨hcS, hfS⟩ := bcell hSw; go_simp; (try with_reducible rfl)
            (try simp only [Act.put, List.setIfInBounds_toArray, List.set_cons_zero, List.set_cons_succ])
            refine takeD 3 65 (v := ?_) rfl rfl (by kernel_rfl) (by kernel_rfl) (by kernel_rfl) (fun _ _ _ h => h) (Or.inl ⟨by rfl, ?_⟩) (by assumption) ?_
            rotate_left
            · intro w1 hSw; obtain ⟨hcS, hfS⟩ := bcell hSw; go_simp; (try with_reducible rfl)
            (try simp only [Act.put, List.setIfInBounds_toArray, List.set_cons_zero, List.set_cons_succ])
            refine takeD 4 66 (v := ?_) rfl rfl (by kernel_rfl) (by kernel_rfl) (by kernel_rfl) (fun _ _ _ h => h) (Or.inl ⟨by rfl, ?_⟩) (by assumption) ?_
            rotate_left
            · intro w1 hSw; obtain ⟨hcS, hfS⟩ := bcell hSw; go_simp; (try with_reducible rfl)
            (try simp only [Act.put, List.setIfInBounds_toArray, List.set_cons_zero, List.set_cons_succ])
            refine takeD 5 67 (v := ?_) rfl rfl (by kernel_rfl) (by kernel_rfl) (by kernel_rfl) (fun _ _ _ h => h) (Or.inl ⟨by rfl, ?_⟩) (by assumption) ?_
            rotate_left
            · intro w1 hSw; obtain ⟨hcS, hfS⟩ := bcell hSw; go_simp; (try with_reducible rfl)
            (try simp only [Act.put, List.setIfInBounds_toArray, List.set_cons_zero, List.set_cons_succ])
            refine takeD 6 68 (v := ?_) rfl rfl (by kernel_rfl) (by kernel_rfl) (by kernel_rfl) (fun _ _ _ h => h) (Or.inl ⟨by rfl, ?_⟩) (by assumption) ?_
            rotate_left
            · intro w1 hSw; obtain ⟨hcS, hfS⟩ := bcell hSw; go_simp; (try with_reducible rfl)
            (try simp only [Act.put, List.setIfInBounds_toArray, List.set_cons_zero, List.set_cons_succ])
            refine takeD 7 69 (v := ?_) rfl rfl (by kernel_rfl) (by kernel_rfl) (by kernel_rfl) (fun _ _ _ h => h) (Or.inl ⟨by rfl, ?_⟩) (by assumption) ?_
            rotate_left
            · intro w1 hSw; obtain ⟨hcS, hfS⟩ := bcell hSw; go_simp; (try with_reducible rfl)
            (try simp only [Act.put, List.setIfInBounds_toArray, List.set_cons_zero, List.set_cons_succ])
            refine takeD 8 70 (v := ?_) rfl rfl (by kernel_rfl) (by kernel_rfl) (by kernel_rfl) (fun _ _ _ h => h) (Or.inl ⟨by rfl, ?_⟩) (by assumption) ?_
            rotate_left
            · intro w1 hSw; obtain ⟨hcS, hfS⟩ := bcell hSw; go_simp; (try with_reducible rfl)
            (try simp only [Act.put, List.setIfInBounds_toArray, List.set_cons_zero, List.set_cons_succ])
            refine takeD 9 71 (v := ?_) rfl rfl (by kernel_rfl) (by kernel_rfl) (by kernel_rfl) (fun _ _ _ h => h) (Or.inl ⟨by rfl, ?_⟩) (by assumption) ?_
            rotate_left
            · intro w1 hSw; obtain ⟨hcS, hfS⟩ := bcell hSw; go_simp; (try with_reducible rfl)
            (try simp only [Act.put, List.setIfInBounds_toArray, List.set_cons_zero, List.set_cons_succ])
            refine takeD 10 72 (v := ?_) rfl rfl (by kernel_rfl) (by kernel_rfl) (by kernel_rfl) (fun _ _ _ h => h) (Or.inl ⟨by rfl, ?_⟩) (by assumption) ?_
            rotate_left
            · intro w1 hSw; obtain ⟨hcS, hfS⟩ := bcell hSw; go_simp; (try with_reducible rfl)
            (try simp only [Act.put, List.setIfInBounds_toArray, List.set_cons_zero, List.set_cons_succ])
            refine takeD 11 73 (v := ?_) rfl rfl (by kernel_rfl) (by kernel_rfl) (by kernel_rfl) (fun _ _ _ h => h) (Or.inl ⟨by rfl, ?_⟩) (by assumption) ?_
            rotate_left
            · intro w1 hSw; obtain ⟨hcS, hfS⟩ := bcell hSw; go_simp; (try with_reducible rfl)
            (try simp only [Act.put, List.setIfInBounds_toArray, List.set_cons_zero, List.set_cons_succ])
            refine takeD 12 74 (v := ?_) rfl rfl (by kernel_rfl) (by kernel_rfl) (by kernel_rfl) (fun _ _ _ h => h) (Or.inl ⟨by rfl, ?_⟩) (by assumption) ?_
            rotate_left
            · intro w1 hSw; obtain ⟨hcS, hfS⟩ := bcell hSw; go_simp; (try with_reducible rfl)
            (try simp only [Act.put, List.setIfInBounds_toArray, List.set_cons_zero, List.set_cons_succ])
            refine takeD 13 75 (v := ?_) rfl rfl (by kernel_rfl) (by kernel_rfl) (by kernel_rfl) (fun _ _ _ h => h) (Or.inl ⟨by rfl, ?_⟩) (by assumption) ?_
            rotate_left
            · intro w1 hSw; obtain ⟨hcS, hfS⟩ := bcell hSw; go_simp; (try with_reducible rfl)
            (try simp only [Act.put, List.setIfInBounds_toArray, List.set_cons_zero, List.set_cons_succ])
            refine takeD 14 76 (v := ?_) rfl rfl (by kernel_rfl) (by kernel_rfl) (by kernel_rfl) (fun _ _ _ h => h) (Or.inl ⟨by rfl, ?_⟩) (by assumption) ?_
            rotate_left
            · intro w1 hSw; obtain ⟨hcS, hfS⟩ := bcell hSw; go_simp; (try with_reducible rfl)
            (try simp only [Act.put, List.setIfInBounds_toArray, List.set_cons_zero, List.set_cons_succ])
            refine takeD 15 77 (v := ?_) rfl rfl (by kernel_rfl) (by kernel_rfl) (by kernel_rfl) (fun _ _ _ h => h) (Or.inl ⟨by rfl, ?_⟩) (by assumption) ?_
            rotate_left
            · intro w1 hSw; obtain ⟨hcS, hfS⟩ := bcell hSw; go_simp; (try with_reducible rfl)
            (try simp only [Act.put, List.setIfInBounds_toArray, List.set_cons_zero, List.set_cons_succ])
            refine takeD 16 78 (v := ?_) rfl rfl (by kernel_rfl) (by kernel_rfl) (by kernel_rfl) (fun _ _ _ h => h) (Or.inl ⟨by rfl, ?_⟩) (by assumption) ?_
            rotate_left
            · intro w1 hSw; obtain ⟨hcS, hfS⟩ := bcell hSw; go_simp; (try with_reducible rfl)
            (try simp only [Act.put, List.setIfInBounds_toArray, List.set_cons_zero, List.set_cons_succ])
            refine takeD 17 79 (v := ?_) rfl rfl (by kernel_rfl) (by kernel_rfl) (by kernel_rfl) (fun _ _ _ h => h) (Or.inl ⟨by rfl, ?_⟩) (by assumption) ?_
            rotate_left
            · intro w1 hSw; obtain ⟨hcS, hfS⟩ := bcell hSw; go_simp; (try with_reducible rfl)
            (try simp only [Act.put, List.setIfInBounds_toArray, List.set_cons_zero, List.set_cons_succ])
            refine takeD 18 80 (v := ?_) rfl rfl (by kernel_rfl) (by kernel_rfl) (by kernel_rfl) (fun _ _ _ h => h) (Or.inl ⟨by rfl, ?_⟩) (by assumption) ?_
            rotate_left
            · intro w1 hSw; obtain ⟨hcS, hfS⟩ := bcell hSw; go_simp; (try with_reducible rfl)
            (try simp only [Act.put, List.setIfInBounds_toArray, List.set_cons_zero, List.set_cons_succ])
            refine takeD 19 81 (v := ?_) rfl rfl (by kernel_rfl) (by kernel_rfl) (by kernel_rfl) (fun _ _ _ h => h) (Or.inl ⟨by rfl, ?_⟩) (by assumption) ?_
            rotate_left
            · intro w1 hSw; obtain ⟨hcS, hfS⟩ := bcell hSw; go_simp; (try with_reducible rfl)
            (try simp only [Act.put, List.setIfInBounds_toArray, List.set_cons_zero, List.set_cons_succ])
            refine takeD 20 82 (v := ?_) rfl rfl (by kernel_rfl) (by kernel_rfl) (by kernel_rfl) (fun _ _ _ h => h) (Or.inl ⟨by rfl, ?_⟩) (by assumption) ?_
            rotate_left
            · intro w1 hSw; obtain ⟨hcS, hfS⟩ := bcell hSw; go_simp; (try with_reducible rfl)
            (try simp only [Act.put, List.setIfInBounds_toArray, List.set_cons_zero, List.set_cons_succ])
            refine takeD 21 83 (v := ?_) rfl rfl (by kernel_rfl) (by kernel_rfl) (by kernel_rfl) (fun _ _ _ h => h) (Or.inl ⟨by rfl, ?_⟩) (by assumption) ?_
            rotate_left
            · intro w1 hSw; obtain ⟨hcS, hfS⟩ := bcell hSw; go_simp; (try with_reducible rfl)
            (try simp only [Act.put, List.setIfInBounds_toArray, List.set_cons_zero, List.set_cons_succ])
            refine takeD 22 84 (v := ?_) rfl rfl (by kernel_rfl) (by kernel_rfl) (by kernel_rfl) (fun _ _ _ h => h) (Or.inl ⟨by rfl, ?_⟩) (by assumption) ?_
            rotate_left
            · intro w1 hSw; obtain ⟨hcS, hfS⟩ := bcell hSw; go_simp; (try with_reducible rfl)
            (try simp only [Act.put, List.setIfInBounds_toArray, List.set_cons_zero, List.set_cons_succ])
            refine takeD 23 85 (v := ?_) rfl rfl (by kernel_rfl) (by kernel_rfl) (by kernel_rfl) (fun _ _ _ h => h) (Or.inl ⟨by rfl, ?_⟩) (by assumption) ?_
            rotate_left
            · intro w1 hSw; obtain ⟨hcS, hfS⟩ := bcell hSw; go_simp; (try with_reducible rfl)
            (try simp only [Act.put, List.setIfInBounds_toArray, List.set_cons_zero, List.set_cons_succ])
            refine takeD 24 86 (v := ?_) rfl rfl (by kernel_rfl) (by kernel_rfl) (by kernel_rfl) (fun _ _ _ h => h) (Or.inl ⟨by rfl, ?_⟩) (by assumption) ?_
            rotate_left
            · intro w1 hSw; obtain ⟨hcS, hfS⟩ := bcell hSw; go_simp; (try with_reducible rfl)
            (try simp only [Act.put, List.setIfInBounds_toArray, List.set_cons_zero, List.set_cons_succ])
            refine takeD 25 87 (v := ?_) rfl rfl (by kernel_rfl) (by kernel_rfl) (by kernel_rfl) (fun _ _ _ h => h) (Or.inl ⟨by rfl, ?_⟩) (by assumption) ?_
            rotate_left
            · intro w1 hSw; obtain ⟨hcS, hfS⟩ := bcell hSw; go_simp; (try with_reducible rfl)
            (try simp only [Act.put, List.setIfInBounds_toArray, List.set_cons_zero, List.set_cons_succ])
            refine takeD 26 88 (v := ?_) rfl rfl (by kernel_rfl) (by kernel_rfl) (by kernel_rfl) (fun _ _ _ h => h) (Or.inl ⟨by rfl, ?_⟩) (by assumption) ?_
            rotate_left
            · intro w1 hSw; obtain ⟨hcS, hfS⟩ := bcell hSw; go_simp; (try with_reducible rfl)
            (try simp only [Act.put, List.setIfInBounds_toArray, List.set_cons_zero, List.set_cons_succ])
            refine takeD 27 89 (v := ?_) rfl rfl (by kernel_rfl) (by kernel_rfl) (by kernel_rfl) (fun _ _ _ h => h) (Or.inl ⟨by rfl, ?_⟩) (by assumption) ?_
            rotate_left
            · intro w1 hSw; obtain ⟨hcS, hfS⟩ := bcell hSw; go_simp; (try with_reducible rfl)
            (try simp only [Act.put, List.setIfInBounds_toArray, List.set_cons_zero, List.set_cons_succ])
            refine wpAnyH_done (by kernel_rfl) ?_ _
            have HD := Lib.hid (Below.and hC.out hq)
            clear vr0 vr1 vr2 vr3 xc2 xc3 p0 p1 p2 p3 p4 p5 lp lx
            rcases h2 : (v.s == x.s) with _ | _
            · skip
              have HC := Lib.hid (show (L.take (k + 1)).countP (likeP x) = z by rw [HC.out]; simp [likeP, h2])
              go_wp2
              go_roundw
              case rel => exact ⟨k + 1, z, by omega, by omega, rfl, by go_num, HC.out, HD.out⟩
              case measure => (simp [intOf]; try omega)
            · skip
              have HC := Lib.hid (show (L.take (k + 1)).countP (likeP x) = z + 1 by rw [HC.out]; simp [likeP, h1, h2])
              go_wp2
              go_roundw
              case rel => exact ⟨k + 1, z + 1, by omega, by omega, by go_num, by go_num, HC.out, HD.out⟩
              case measure => (simp [intOf]; try omega)
        · have i2 : ¬ (k : Int) < (L.length : Int) := by omega
          obtain rfl : k = L.length := by omega
          rw [List.take_length] at hcn
          have HM := Lib.hid (show bestN L (j + 1) = max m z by rw [HBS.out, ha.out, hcn.out])
          clear HBS hcn ha xc2 xc3 lp lx
          by_cases h5 : (m : Int) < (z : Int)
          · have HM := Lib.hid (show bestN L (j + 1) = z by rw [HM.out]; omega)
            go_wp2
            go_roundw
            case rel => exact ⟨j + 1, z, by omega, by omega, rfl, by go_num, HM.out, hB.out⟩
            case measure => (simp [intOf]; try omega)
          · have HM := Lib.hid (show bestN L (j + 1) = m by rw [HM.out]; omega)
            go_wp2
            go_roundw
            case rel => exact ⟨j + 1, m, by omega, by omega, rfl, by go_num, HM.out, hB.out⟩
            case measure => (simp [intOf]; try omega)
    · have i1 : ¬ (j : Int) < (L.length : Int) := by omega
      obtain rfl : j = L.length := by omega
      have h9 := ha.out
      have HB2 := Lib.hid (show u = decide ((2 : Int) ≤ (m : Int)) by rw [HB2.out, h9])
      clear h9 ha
      have y0 : wr.cell? ⟨blk4, 0, none⟩ = some (.int .i64 y.f) := T4.out.cell 0
      have y1 : wr.cell? ⟨blk4, 1, none⟩ = some (.int .i64 y.n) := T4.out.cell 1
      have y2 : wr.cell? ⟨blk4, 2, none⟩ = some (.int .i64 y.c) := T4.out.cell 2
      have y3 : wr.cell? ⟨blk4, 3, none⟩ = some (.int .i64 y.s) := T4.out.cell 3
      rcases u with _ | _
      · have e2 : decide ((2 : Int) ≤ (m : Int)) = false := HB2.out.symm
        clear HB2 HNM
        go_wp2
        go_light
        go_ret
        exact ⟨rfl, Z.out⟩
      · have e2 : decide ((2 : Int) ≤ (m : Int)) = true := HB2.out.symm
        have e3 : (y.n == q0.n) = true := by simpa using HNM.out rfl
        clear HB2 HNM
        go_wp2
        go_light
        go_ret
        exact ⟨rfl, Z.out⟩

end Go.Proofs.Ytdpladihacgobaa
