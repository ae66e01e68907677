/- A player who asks anew: the law. -/
import Derived.Test.YtdpladihacgobaaNq
import Derived.Test.YtdpladihacgobaaNr
import Derived.Test.YtdpladihacgobaaNj
namespace Go.Proofs.Ytdpladihacgobaa
open Go.ChangeShapes Go.WideShapes Go.ChangeAt Go.RowKit
set_option linter.unusedVariables false
set_option linter.unusedSimpArgs false

theorem askP_cases (q : Rq) (L : List Rp) (r : Rq) : askP q L r = ((q, L), false) ∨ (askP q L r = ((r, []), true) ∧ (sureP q L).2 = true ∧ rqB r = true ∧ q.n < r.n) := by
  unfold askP
  split
  · rename_i h
    simp only [Bool.and_eq_true, Bool.not_eq_true', decide_eq_false_iff_not] at h
    exact .inr ⟨rfl, h.1, h.2.1, by omega⟩
  · exact .inl rfl
theorem plB_nil (q : Rq) : plB q [] = rqB q := by simp [plB]
theorem sureP_nil (q : Rq) : sureP q [] = (⟨0, 0, 0, 0⟩, false) := by unfold sureP; split <;> rfl

set_option maxRecDepth 100000 in
set_option maxHeartbeats 8000000 in
theorem lawPlayerAsk (A : Option Addr) (c n : Nat) (w : World) (hn : n ≤ maxLen) (hc : n ≤ c) (hb : InB w A n) :
    Calls Try.prog 5 #[.slice A n c] w fun e w' => e = .returned (.bool true) ∧ Below w.heap.size w w' := by
  have HB := Lib.hid hb
  clear hb
  go_enter Try.func5, Try.ntmps5
  by_cases h : n > 1048576
  · go_wp2
    go_light
    go_ret
    exact ⟨rfl, Below.refl _ _⟩
  go_wp2_with (fail)
  refine (drawPlayerAsk (by omega) hc HB.out).mono ?_
  rintro e w1 ⟨q0, D1, d, L, r, rfl, hL, oa, hbz⟩
  have Z := Lib.hid hbz
  have RA := Lib.hid oa.rdP
  clear oa hbz HB h
  have hb : Below w1.heap.size w1 ((w1.alloc (.cells #[.int .i64 q0.c, .int .i64 q0.n, .int .i64 q0.o, .int .i64 q0.x, .int .i64 q0.y, .slice D1 L.length d] 27)).alloc (.cells #[.int .i64 r.c, .int .i64 r.n, .int .i64 r.o, .int .i64 r.x, .int .i64 r.y] 24)) := below_alloc2 w1 _ _
  have T3 : Hid (Bkk ((w1.alloc (.cells #[.int .i64 q0.c, .int .i64 q0.n, .int .i64 q0.o, .int .i64 q0.x, .int .i64 q0.y, .slice D1 L.length d] 27)).alloc (.cells #[.int .i64 r.c, .int .i64 r.n, .int .i64 r.o, .int .i64 r.x, .int .i64 r.y] 24)) w1.heap.size 27 #[.int .i64 q0.c, .int .i64 q0.n, .int .i64 q0.o, .int .i64 q0.x, .int .i64 q0.y, .slice D1 L.length d]) := (Bkk.new (cs := #[.int .i64 q0.c, .int .i64 q0.n, .int .i64 q0.o, .int .i64 q0.x, .int .i64 q0.y, .slice D1 L.length d]) (t := 27) w1).alloc _
  have T4 : Hid (Bkk ((w1.alloc (.cells #[.int .i64 q0.c, .int .i64 q0.n, .int .i64 q0.o, .int .i64 q0.x, .int .i64 q0.y, .slice D1 L.length d] 27)).alloc (.cells #[.int .i64 r.c, .int .i64 r.n, .int .i64 r.o, .int .i64 r.x, .int .i64 r.y] 24)) (w1.heap.size + 1) 24 #[.int .i64 r.c, .int .i64 r.n, .int .i64 r.o, .int .i64 r.x, .int .i64 r.y]) := by have := Bkk.new (cs := #[.int .i64 r.c, .int .i64 r.n, .int .i64 r.o, .int .i64 r.x, .int .i64 r.y]) (t := 24) (w1.alloc (.cells #[.int .i64 q0.c, .int .i64 q0.n, .int .i64 q0.o, .int .i64 q0.x, .int .i64 q0.y, .slice D1 L.length d] 27)); simpa [Hid] using this
  replace RA := Lib.hid (RA.out.below hb)
  replace Z := Lib.hid (Below.and Z.out hb)
  clear hb
  go_upto_region 4 with (fail)
  obtain ⟨w2, hw2⟩ : ∃ X, X = ((w1.alloc (.cells #[.int .i64 q0.c, .int .i64 q0.n, .int .i64 q0.o, .int .i64 q0.x, .int .i64 q0.y, .slice D1 L.length d] 27)).alloc (.cells #[.int .i64 r.c, .int .i64 r.n, .int .i64 r.o, .int .i64 r.x, .int .i64 r.y] 24)) := ⟨_, rfl⟩
  obtain ⟨blk3, hp3⟩ : ∃ X, X = w1.heap.size := ⟨_, rfl⟩
  obtain ⟨blk4, hp4⟩ : ∃ X, X = w1.heap.size + 1 := ⟨_, rfl⟩
  rw [← hw2] at T3 T4 RA Z ⊢
  rw [← hp4] at T4 ⊢
  rw [← hp3] at T3 ⊢
  clear hw2 hp3 hp4
  obtain ⟨⟨⟨q1, L1⟩, x2⟩, hX⟩ : ∃ Y : (Rq × List Rp) × Bool, Y = askP q0 L r := ⟨_, rfl⟩
  have HX := Lib.hid hX
  have hl1 : L1.length ≤ L.length + 1 := by have := askP_len q0 L r; rw [← hX] at this; exact this
  clear hX
  have p0 : w2.cell? ⟨blk3, 0, none⟩ = some (.int .i64 q0.c) := T3.out.cell 0
  have p1 : w2.cell? ⟨blk3, 1, none⟩ = some (.int .i64 q0.n) := T3.out.cell 1
  have p2 : w2.cell? ⟨blk3, 2, none⟩ = some (.int .i64 q0.o) := T3.out.cell 2
  have p3 : w2.cell? ⟨blk3, 3, none⟩ = some (.int .i64 q0.x) := T3.out.cell 3
  have p4 : w2.cell? ⟨blk3, 4, none⟩ = some (.int .i64 q0.y) := T3.out.cell 4
  have p5 : w2.cell? ⟨blk3, 5, none⟩ = some (.slice D1 L.length d) := T3.out.cell 5
  have g0 : w2.cell? ⟨blk4, 0, none⟩ = some (.int .i64 r.c) := T4.out.cell 0
  have g1 : w2.cell? ⟨blk4, 1, none⟩ = some (.int .i64 r.n) := T4.out.cell 1
  have g2 : w2.cell? ⟨blk4, 2, none⟩ = some (.int .i64 r.o) := T4.out.cell 2
  have g3 : w2.cell? ⟨blk4, 3, none⟩ = some (.int .i64 r.x) := T4.out.cell 3
  have g4 : w2.cell? ⟨blk4, 4, none⟩ = some (.int .i64 r.y) := T4.out.cell 4
  go_wp2_with (fail)
  have hs := implPlayerAsk q0 D1 d L r w2 (by omega) RA.out
  rw [← HX.out] at hs
  refine hs.mono ?_
  clear hs
  rintro e w3 ⟨A5, a5, rfl, oa, hb⟩
  clear p0 p1 p2 p3 p4 p5 g0 g1 g2 g3 g4
  replace T3 := Lib.hid (T3.out.below hb)
  replace T4 := Lib.hid (T4.out.below hb)
  replace RA := Lib.hid (RA.out.below hb)
  replace Z := Lib.hid (Below.and Z.out hb)
  clear hb
  have R5 := Lib.hid oa.rdP
  clear oa
  have hb : Below w3.heap.size w3 (w3.alloc (.cells #[.int .i64 q1.c, .int .i64 q1.n, .int .i64 q1.o, .int .i64 q1.x, .int .i64 q1.y, .slice A5 L1.length a5] 27)) := (Below.refl _ _).alloc (Nat.le_refl _) _
  have T5 : Hid (Bkk (w3.alloc (.cells #[.int .i64 q1.c, .int .i64 q1.n, .int .i64 q1.o, .int .i64 q1.x, .int .i64 q1.y, .slice A5 L1.length a5] 27)) w3.heap.size 27 #[.int .i64 q1.c, .int .i64 q1.n, .int .i64 q1.o, .int .i64 q1.x, .int .i64 q1.y, .slice A5 L1.length a5]) := Bkk.new _
  replace T3 := Lib.hid (T3.out.below hb)
  replace T4 := Lib.hid (T4.out.below hb)
  replace RA := Lib.hid (RA.out.below hb)
  replace R5 := Lib.hid (R5.out.below hb)
  replace Z := Lib.hid (Below.and Z.out hb)
  clear hb
  go_upto_region 5 with (fail)
  obtain ⟨w4, hw4⟩ : ∃ X, X = (w3.alloc (.cells #[.int .i64 q1.c, .int .i64 q1.n, .int .i64 q1.o, .int .i64 q1.x, .int .i64 q1.y, .slice A5 L1.length a5] 27)) := ⟨_, rfl⟩
  obtain ⟨blk5, hblk5⟩ : ∃ X, X = w3.heap.size := ⟨_, rfl⟩
  rw [← hw4] at T5 T3 T4 RA R5 Z ⊢
  rw [← hblk5] at T5 ⊢
  clear hw4 hblk5
  have p0 : w4.cell? ⟨blk3, 0, none⟩ = some (.int .i64 q0.c) := T3.out.cell 0
  have p1 : w4.cell? ⟨blk3, 1, none⟩ = some (.int .i64 q0.n) := T3.out.cell 1
  have p2 : w4.cell? ⟨blk3, 2, none⟩ = some (.int .i64 q0.o) := T3.out.cell 2
  have p3 : w4.cell? ⟨blk3, 3, none⟩ = some (.int .i64 q0.x) := T3.out.cell 3
  have p4 : w4.cell? ⟨blk3, 4, none⟩ = some (.int .i64 q0.y) := T3.out.cell 4
  have p5 : w4.cell? ⟨blk3, 5, none⟩ = some (.slice D1 L.length d) := T3.out.cell 5
  have g0 : w4.cell? ⟨blk4, 0, none⟩ = some (.int .i64 r.c) := T4.out.cell 0
  have g1 : w4.cell? ⟨blk4, 1, none⟩ = some (.int .i64 r.n) := T4.out.cell 1
  have g2 : w4.cell? ⟨blk4, 2, none⟩ = some (.int .i64 r.o) := T4.out.cell 2
  have g3 : w4.cell? ⟨blk4, 3, none⟩ = some (.int .i64 r.x) := T4.out.cell 3
  have g4 : w4.cell? ⟨blk4, 4, none⟩ = some (.int .i64 r.y) := T4.out.cell 4
  go_wp2_with (fail)
  have hs := specPlayerAsk q0 D1 d L r w4 (by omega) RA.out
  rw [← HX.out] at hs
  refine hs.mono ?_
  clear hs
  rintro e w5 ⟨A7, a7, rfl, oa, hb⟩
  clear p0 p1 p2 p3 p4 p5 g0 g1 g2 g3 g4
  replace T3 := Lib.hid (T3.out.below hb)
  replace T4 := Lib.hid (T4.out.below hb)
  replace T5 := Lib.hid (T5.out.below hb)
  replace RA := Lib.hid (RA.out.below hb)
  replace R5 := Lib.hid (R5.out.below hb)
  replace Z := Lib.hid (Below.and Z.out hb)
  clear hb
  have R7 := Lib.hid oa.rdP
  clear oa
  have hb : Below w5.heap.size w5 (w5.alloc (.cells #[.int .i64 q1.c, .int .i64 q1.n, .int .i64 q1.o, .int .i64 q1.x, .int .i64 q1.y, .slice A7 L1.length a7] 27)) := (Below.refl _ _).alloc (Nat.le_refl _) _
  have T7 : Hid (Bkk (w5.alloc (.cells #[.int .i64 q1.c, .int .i64 q1.n, .int .i64 q1.o, .int .i64 q1.x, .int .i64 q1.y, .slice A7 L1.length a7] 27)) w5.heap.size 27 #[.int .i64 q1.c, .int .i64 q1.n, .int .i64 q1.o, .int .i64 q1.x, .int .i64 q1.y, .slice A7 L1.length a7]) := Bkk.new _
  replace T3 := Lib.hid (T3.out.below hb)
  replace T4 := Lib.hid (T4.out.below hb)
  replace T5 := Lib.hid (T5.out.below hb)
  replace RA := Lib.hid (RA.out.below hb)
  replace R5 := Lib.hid (R5.out.below hb)
  replace R7 := Lib.hid (R7.out.below hb)
  replace Z := Lib.hid (Below.and Z.out hb)
  clear hb
  go_upto_region 6 with (fail)
  obtain ⟨w6, hw6⟩ : ∃ X, X = (w5.alloc (.cells #[.int .i64 q1.c, .int .i64 q1.n, .int .i64 q1.o, .int .i64 q1.x, .int .i64 q1.y, .slice A7 L1.length a7] 27)) := ⟨_, rfl⟩
  obtain ⟨blk7, hblk7⟩ : ∃ X, X = w5.heap.size := ⟨_, rfl⟩
  rw [← hw6] at T7 T3 T4 T5 RA R5 R7 Z ⊢
  rw [← hblk7] at T7 ⊢
  clear hw6 hblk7
  have nx : (x2 != x2) = false := by simp
  have ne : (x2 == x2) = true := by simp
  have u0 : w6.cell? ⟨blk5, 0, none⟩ = some (.int .i64 q1.c) := T5.out.cell 0
  have u1 : w6.cell? ⟨blk5, 1, none⟩ = some (.int .i64 q1.n) := T5.out.cell 1
  have u2 : w6.cell? ⟨blk5, 2, none⟩ = some (.int .i64 q1.o) := T5.out.cell 2
  have u3 : w6.cell? ⟨blk5, 3, none⟩ = some (.int .i64 q1.x) := T5.out.cell 3
  have u4 : w6.cell? ⟨blk5, 4, none⟩ = some (.int .i64 q1.y) := T5.out.cell 4
  have u5 : w6.cell? ⟨blk5, 5, none⟩ = some (.slice A5 L1.length a5) := T5.out.cell 5
  have v0 : w6.cell? ⟨blk7, 0, none⟩ = some (.int .i64 q1.c) := T7.out.cell 0
  have v1 : w6.cell? ⟨blk7, 1, none⟩ = some (.int .i64 q1.n) := T7.out.cell 1
  have v2 : w6.cell? ⟨blk7, 2, none⟩ = some (.int .i64 q1.o) := T7.out.cell 2
  have v3 : w6.cell? ⟨blk7, 3, none⟩ = some (.int .i64 q1.x) := T7.out.cell 3
  have v4 : w6.cell? ⟨blk7, 4, none⟩ = some (.int .i64 q1.y) := T7.out.cell 4
  have v5 : w6.cell? ⟨blk7, 5, none⟩ = some (.slice A7 L1.length a7) := T7.out.cell 5
  go_wp2_with (fail)
  refine (wpPlayer_rd q1 A5 A7 a5 a7 L1 _ (by omega) R5.out.r R7.out.r).mono ?_
  rintro e w7 ⟨rfl, hb⟩
  clear u0 u1 u2 u3 u4 u5 v0 v1 v2 v3 v4 v5
  replace T3 := Lib.hid (T3.out.below hb)
  replace T4 := Lib.hid (T4.out.below hb)
  replace T5 := Lib.hid (T5.out.below hb)
  replace T7 := Lib.hid (T7.out.below hb)
  replace RA := Lib.hid (RA.out.below hb)
  replace R5 := Lib.hid (R5.out.below hb)
  replace R7 := Lib.hid (R7.out.below hb)
  replace Z := Lib.hid (Below.and Z.out hb)
  clear hb
  rcases askP_cases q0 L r with hA | ⟨hA, hS, hR, hN⟩
  · have e := HX.out.trans hA
    simp only [Prod.mk.injEq] at e
    obtain ⟨⟨rfl, rfl⟩, rfl⟩ := e
    clear hA HX nx ne
    have u0 : w7.cell? ⟨blk5, 0, none⟩ = some (.int .i64 q1.c) := T5.out.cell 0
    have u1 : w7.cell? ⟨blk5, 1, none⟩ = some (.int .i64 q1.n) := T5.out.cell 1
    have u2 : w7.cell? ⟨blk5, 2, none⟩ = some (.int .i64 q1.o) := T5.out.cell 2
    have u3 : w7.cell? ⟨blk5, 3, none⟩ = some (.int .i64 q1.x) := T5.out.cell 3
    have u4 : w7.cell? ⟨blk5, 4, none⟩ = some (.int .i64 q1.y) := T5.out.cell 4
    have u5 : w7.cell? ⟨blk5, 5, none⟩ = some (.slice A5 L1.length a5) := T5.out.cell 5
    have v0 : w7.cell? ⟨blk7, 0, none⟩ = some (.int .i64 q1.c) := T7.out.cell 0
    have v1 : w7.cell? ⟨blk7, 1, none⟩ = some (.int .i64 q1.n) := T7.out.cell 1
    have v2 : w7.cell? ⟨blk7, 2, none⟩ = some (.int .i64 q1.o) := T7.out.cell 2
    have v3 : w7.cell? ⟨blk7, 3, none⟩ = some (.int .i64 q1.x) := T7.out.cell 3
    have v4 : w7.cell? ⟨blk7, 4, none⟩ = some (.int .i64 q1.y) := T7.out.cell 4
    have v5 : w7.cell? ⟨blk7, 5, none⟩ = some (.slice A7 L1.length a7) := T7.out.cell 5
    go_wp2_with (fail)
    refine (wpPlayer_rd q1 A5 A7 a5 a7 L1 _ (by omega) R5.out.r R7.out.r).mono ?_
    rintro e w8 ⟨rfl, hb⟩
    clear u0 u1 u2 u3 u4 u5 v0 v1 v2 v3 v4 v5
    replace T3 := Lib.hid (T3.out.below hb)
    replace T4 := Lib.hid (T4.out.below hb)
    replace T5 := Lib.hid (T5.out.below hb)
    replace T7 := Lib.hid (T7.out.below hb)
    replace RA := Lib.hid (RA.out.below hb)
    replace R5 := Lib.hid (R5.out.below hb)
    replace R7 := Lib.hid (R7.out.below hb)
    replace Z := Lib.hid (Below.and Z.out hb)
    clear hb
    have u0 : w8.cell? ⟨blk5, 0, none⟩ = some (.int .i64 q1.c) := T5.out.cell 0
    have u1 : w8.cell? ⟨blk5, 1, none⟩ = some (.int .i64 q1.n) := T5.out.cell 1
    have u2 : w8.cell? ⟨blk5, 2, none⟩ = some (.int .i64 q1.o) := T5.out.cell 2
    have u3 : w8.cell? ⟨blk5, 3, none⟩ = some (.int .i64 q1.x) := T5.out.cell 3
    have u4 : w8.cell? ⟨blk5, 4, none⟩ = some (.int .i64 q1.y) := T5.out.cell 4
    have u5 : w8.cell? ⟨blk5, 5, none⟩ = some (.slice A5 L1.length a5) := T5.out.cell 5
    have p0 : w8.cell? ⟨blk3, 0, none⟩ = some (.int .i64 q1.c) := T3.out.cell 0
    have p1 : w8.cell? ⟨blk3, 1, none⟩ = some (.int .i64 q1.n) := T3.out.cell 1
    have p2 : w8.cell? ⟨blk3, 2, none⟩ = some (.int .i64 q1.o) := T3.out.cell 2
    have p3 : w8.cell? ⟨blk3, 3, none⟩ = some (.int .i64 q1.x) := T3.out.cell 3
    have p4 : w8.cell? ⟨blk3, 4, none⟩ = some (.int .i64 q1.y) := T3.out.cell 4
    have p5 : w8.cell? ⟨blk3, 5, none⟩ = some (.slice D1 L1.length d) := T3.out.cell 5
    go_wp2_with (fail)
    refine (wpPlayer_rd q1 A5 D1 a5 d L1 _ (by omega) R5.out.r RA.out.r).mono ?_
    rintro e w9 ⟨rfl, hb⟩
    clear u0 u1 u2 u3 u4 u5 p0 p1 p2 p3 p4 p5
    replace T3 := Lib.hid (T3.out.below hb)
    replace T4 := Lib.hid (T4.out.below hb)
    replace T5 := Lib.hid (T5.out.below hb)
    replace T7 := Lib.hid (T7.out.below hb)
    replace RA := Lib.hid (RA.out.below hb)
    replace R5 := Lib.hid (R5.out.below hb)
    replace R7 := Lib.hid (R7.out.below hb)
    replace Z := Lib.hid (Below.and Z.out hb)
    clear hb
    go_wp2
    go_light
    go_ret
    exact ⟨rfl, Z.out⟩
  · have e := HX.out.trans hA
    simp only [Prod.mk.injEq] at e
    obtain ⟨⟨rfl, rfl⟩, rfl⟩ := e
    clear hA HX nx ne
    obtain ⟨⟨y, u⟩, hy⟩ : ∃ Y, Y = sureP q0 L := ⟨_, rfl⟩
    have HU := Lib.hid hy
    have hu : u = true := by have := hy.symm; rw [← hS, ← hy]
    subst hu
    clear hy hS
    have p0 : w7.cell? ⟨blk3, 0, none⟩ = some (.int .i64 q0.c) := T3.out.cell 0
    have p1 : w7.cell? ⟨blk3, 1, none⟩ = some (.int .i64 q0.n) := T3.out.cell 1
    have p2 : w7.cell? ⟨blk3, 2, none⟩ = some (.int .i64 q0.o) := T3.out.cell 2
    have p3 : w7.cell? ⟨blk3, 3, none⟩ = some (.int .i64 q0.x) := T3.out.cell 3
    have p4 : w7.cell? ⟨blk3, 4, none⟩ = some (.int .i64 q0.y) := T3.out.cell 4
    have p5 : w7.cell? ⟨blk3, 5, none⟩ = some (.slice D1 L.length d) := T3.out.cell 5
    go_wp2_with (fail)
    refine (implPlayerSure q0 D1 d L _ (by unfold maxLen; omega) RA.out.r).mono ?_
    rintro e w8 ⟨rfl, hb⟩
    rw [← HU.out]
    clear p0 p1 p2 p3 p4 p5
    replace T3 := Lib.hid (T3.out.below hb)
    replace T4 := Lib.hid (T4.out.below hb)
    replace T5 := Lib.hid (T5.out.below hb)
    replace T7 := Lib.hid (T7.out.below hb)
    replace RA := Lib.hid (RA.out.below hb)
    replace R5 := Lib.hid (R5.out.below hb)
    replace R7 := Lib.hid (R7.out.below hb)
    replace Z := Lib.hid (Below.and Z.out hb)
    clear hb
    have hb : Below w8.heap.size w8 (w8.alloc (.cells #[.int .i64 y.f, .int .i64 y.n, .int .i64 y.c, .int .i64 y.s] 29)) := (Below.refl _ _).alloc (Nat.le_refl _) _
    have T9 : Hid (Bkk (w8.alloc (.cells #[.int .i64 y.f, .int .i64 y.n, .int .i64 y.c, .int .i64 y.s] 29)) w8.heap.size 29 #[.int .i64 y.f, .int .i64 y.n, .int .i64 y.c, .int .i64 y.s]) := Bkk.new _
    replace T3 := Lib.hid (T3.out.below hb)
    replace T4 := Lib.hid (T4.out.below hb)
    replace T5 := Lib.hid (T5.out.below hb)
    replace T7 := Lib.hid (T7.out.below hb)
    replace RA := Lib.hid (RA.out.below hb)
    replace R5 := Lib.hid (R5.out.below hb)
    replace R7 := Lib.hid (R7.out.below hb)
    replace Z := Lib.hid (Below.and Z.out hb)
    clear hb
    go_upto_region 9 with (fail)
    obtain ⟨w9, hw9⟩ : ∃ X, X = (w8.alloc (.cells #[.int .i64 y.f, .int .i64 y.n, .int .i64 y.c, .int .i64 y.s] 29)) := ⟨_, rfl⟩
    obtain ⟨blk9, hblk9⟩ : ∃ X, X = w8.heap.size := ⟨_, rfl⟩
    rw [← hw9] at T9 T3 T4 T5 T7 RA R5 R7 Z ⊢
    rw [← hblk9] at T9 ⊢
    clear hw9 hblk9
    have u0 : w9.cell? ⟨blk5, 0, none⟩ = some (.int .i64 q1.c) := T5.out.cell 0
    have u1 : w9.cell? ⟨blk5, 1, none⟩ = some (.int .i64 q1.n) := T5.out.cell 1
    have u2 : w9.cell? ⟨blk5, 2, none⟩ = some (.int .i64 q1.o) := T5.out.cell 2
    have u3 : w9.cell? ⟨blk5, 3, none⟩ = some (.int .i64 q1.x) := T5.out.cell 3
    have u4 : w9.cell? ⟨blk5, 4, none⟩ = some (.int .i64 q1.y) := T5.out.cell 4
    have u5 : w9.cell? ⟨blk5, 5, none⟩ = some (.slice A5 (List.length ([] : List Rp)) a5) := T5.out.cell 5
    go_wp2_with (fail)
    refine (implPlayerSure q1 A5 a5 [] _ (by unfold maxLen; simp) R5.out.r).mono ?_
    rintro e wA ⟨rfl, hb⟩
    rw [sureP_nil]
    clear u0 u1 u2 u3 u4 u5
    replace T3 := Lib.hid (T3.out.below hb)
    replace T4 := Lib.hid (T4.out.below hb)
    replace T5 := Lib.hid (T5.out.below hb)
    replace T7 := Lib.hid (T7.out.below hb)
    replace T9 := Lib.hid (T9.out.below hb)
    replace RA := Lib.hid (RA.out.below hb)
    replace R5 := Lib.hid (R5.out.below hb)
    replace R7 := Lib.hid (R7.out.below hb)
    replace Z := Lib.hid (Below.and Z.out hb)
    clear hb
    have hb : Below wA.heap.size wA (wA.alloc (.cells #[.int .i64 0, .int .i64 0, .int .i64 0, .int .i64 0] 29)) := (Below.refl _ _).alloc (Nat.le_refl _) _
    have T11 : Hid (Bkk (wA.alloc (.cells #[.int .i64 0, .int .i64 0, .int .i64 0, .int .i64 0] 29)) wA.heap.size 29 #[.int .i64 0, .int .i64 0, .int .i64 0, .int .i64 0]) := Bkk.new _
    replace T3 := Lib.hid (T3.out.below hb)
    replace T4 := Lib.hid (T4.out.below hb)
    replace T5 := Lib.hid (T5.out.below hb)
    replace T7 := Lib.hid (T7.out.below hb)
    replace T9 := Lib.hid (T9.out.below hb)
    replace RA := Lib.hid (RA.out.below hb)
    replace R5 := Lib.hid (R5.out.below hb)
    replace R7 := Lib.hid (R7.out.below hb)
    replace Z := Lib.hid (Below.and Z.out hb)
    clear hb
    go_upto_region 10 with (fail)
    obtain ⟨wB, hwB⟩ : ∃ X, X = (wA.alloc (.cells #[.int .i64 0, .int .i64 0, .int .i64 0, .int .i64 0] 29)) := ⟨_, rfl⟩
    obtain ⟨blk11, hblk11⟩ : ∃ X, X = wA.heap.size := ⟨_, rfl⟩
    rw [← hwB] at T11 T3 T4 T5 T7 T9 RA R5 R7 Z ⊢
    rw [← hblk11] at T11 ⊢
    clear hwB hblk11
    have u0 : wB.cell? ⟨blk5, 0, none⟩ = some (.int .i64 q1.c) := T5.out.cell 0
    have u1 : wB.cell? ⟨blk5, 1, none⟩ = some (.int .i64 q1.n) := T5.out.cell 1
    have u2 : wB.cell? ⟨blk5, 2, none⟩ = some (.int .i64 q1.o) := T5.out.cell 2
    have u3 : wB.cell? ⟨blk5, 3, none⟩ = some (.int .i64 q1.x) := T5.out.cell 3
    have u4 : wB.cell? ⟨blk5, 4, none⟩ = some (.int .i64 q1.y) := T5.out.cell 4
    have u5 : wB.cell? ⟨blk5, 5, none⟩ = some (.slice A5 (List.length ([] : List Rp)) a5) := T5.out.cell 5
    go_wp2_with (fail)
    refine (implPlayerOk q1 A5 a5 [] _ (by unfold maxLen; simp) R5.out.r).mono ?_
    rintro e wC ⟨rfl, hb⟩
    rw [plB_nil, hR]
    clear u0 u1 u2 u3 u4 u5
    replace T3 := Lib.hid (T3.out.below hb)
    replace T4 := Lib.hid (T4.out.below hb)
    replace T5 := Lib.hid (T5.out.below hb)
    replace T7 := Lib.hid (T7.out.below hb)
    replace T9 := Lib.hid (T9.out.below hb)
    replace T11 := Lib.hid (T11.out.below hb)
    replace RA := Lib.hid (RA.out.below hb)
    replace R5 := Lib.hid (R5.out.below hb)
    replace R7 := Lib.hid (R7.out.below hb)
    replace Z := Lib.hid (Below.and Z.out hb)
    clear hb
    have u0 : wC.cell? ⟨blk5, 0, none⟩ = some (.int .i64 q1.c) := T5.out.cell 0
    have u1 : wC.cell? ⟨blk5, 1, none⟩ = some (.int .i64 q1.n) := T5.out.cell 1
    have u2 : wC.cell? ⟨blk5, 2, none⟩ = some (.int .i64 q1.o) := T5.out.cell 2
    have u3 : wC.cell? ⟨blk5, 3, none⟩ = some (.int .i64 q1.x) := T5.out.cell 3
    have u4 : wC.cell? ⟨blk5, 4, none⟩ = some (.int .i64 q1.y) := T5.out.cell 4
    have u5 : wC.cell? ⟨blk5, 5, none⟩ = some (.slice A5 ([] : List Rp).length a5) := T5.out.cell 5
    have g0 : wC.cell? ⟨blk4, 0, none⟩ = some (.int .i64 q1.c) := T4.out.cell 0
    have g1 : wC.cell? ⟨blk4, 1, none⟩ = some (.int .i64 q1.n) := T4.out.cell 1
    have g2 : wC.cell? ⟨blk4, 2, none⟩ = some (.int .i64 q1.o) := T4.out.cell 2
    have g3 : wC.cell? ⟨blk4, 3, none⟩ = some (.int .i64 q1.x) := T4.out.cell 3
    have g4 : wC.cell? ⟨blk4, 4, none⟩ = some (.int .i64 q1.y) := T4.out.cell 4
    have p0 : wC.cell? ⟨blk3, 0, none⟩ = some (.int .i64 q0.c) := T3.out.cell 0
    have p1 : wC.cell? ⟨blk3, 1, none⟩ = some (.int .i64 q0.n) := T3.out.cell 1
    have p2 : wC.cell? ⟨blk3, 2, none⟩ = some (.int .i64 q0.o) := T3.out.cell 2
    have p3 : wC.cell? ⟨blk3, 3, none⟩ = some (.int .i64 q0.x) := T3.out.cell 3
    have p4 : wC.cell? ⟨blk3, 4, none⟩ = some (.int .i64 q0.y) := T3.out.cell 4
    have p5 : wC.cell? ⟨blk3, 5, none⟩ = some (.slice D1 L.length d) := T3.out.cell 5
    have hq : ∀ W, (binOp .eql 24 (.agg #[.int .i64 q1.c, .int .i64 q1.n, .int .i64 q1.o, .int .i64 q1.x, .int .i64 q1.y]) (.agg #[.int .i64 q1.c, .int .i64 q1.n, .int .i64 q1.o, .int .i64 q1.x, .int .i64 q1.y])).run Try.prog W = .ok (.bool true) W := fun W => by have := eqlReq q1 q1 W; simpa using this
    have e9 : decide (q0.n < q1.n) = true := decide_eq_true hN
    go_wp2
    go_light
    go_ret
    exact ⟨rfl, Z.out⟩

end Go.Proofs.Ytdpladihacgobaa
