/- The exact law of MsgOk, walked. -/
import Derived.Test.YtlokhgnbcbnmpaaOg
import Derived.Test.YtlokhgnbcbnmpaaUn
import Derived.Test.YtlokhgnbcbnmpaaMG
namespace Go.Proofs.Ytlokhgnbcbnmpaa
open Go.ChangeShapes Go.WideShapes Go.ChangeAt Go.RowKit
set_option linter.unusedVariables false
set_option linter.unusedSimpArgs false

theorem szR_neg {left : Int} {n : Nat} (h0 : 0 ≤ left) (h : ¬ szR left n < 0) : (n : Int) ≤ left ∧ szR left n = left - n := by
  unfold szR at h ⊢
  split at h
  · rename_i h1; exact ⟨h1, if_pos h1⟩
  · omega

set_option maxRecDepth 100000 in
set_option maxHeartbeats 4000000 in
theorem exactMsgOk (p : MgP) (w : World) (hp : p.rd w) :
    Calls Try.prog 3 #[p.val] w fun e w' => e = .returned (.bool true) ∧ Below w.heap.size w w' := by
  have BW : Hid (Below w.heap.size w (w.alloc (.cells #[.int .i64 p.k, .int .i64 p.f, .int .i64 p.v, .int .i64 p.s, .int .i64 p.r.c, .int .i64 p.r.n, .int .i64 p.r.o, .int .i64 p.r.x, .int .i64 p.r.y, .slice p.A p.cl.length p.a, .slice p.B p.vt.length p.b] 27))) := (Below.refl _ _).alloc (Nat.le_refl _) _
  have KP : Hid (Blk (w.alloc (.cells #[.int .i64 p.k, .int .i64 p.f, .int .i64 p.v, .int .i64 p.s, .int .i64 p.r.c, .int .i64 p.r.n, .int .i64 p.r.o, .int .i64 p.r.x, .int .i64 p.r.y, .slice p.A p.cl.length p.a, .slice p.B p.vt.length p.b] 27)) w.heap.size 27 #[.int .i64 p.k, .int .i64 p.f, .int .i64 p.v, .int .i64 p.s, .int .i64 p.r.c, .int .i64 p.r.n, .int .i64 p.r.o, .int .i64 p.r.x, .int .i64 p.r.y, .slice p.A p.cl.length p.a, .slice p.B p.vt.length p.b]) := Blk.new w
  have PR := Lib.hid hp
  clear hp
  go_enter Try.func3, Try.ntmps3
  go_wp2_with (fail)
  refine (szMsg p 1048576 _ (PR.out.below BW.out) (by omega) (by omega)).mono ?_
  rintro e w1 ⟨rfl, hb⟩
  have BW := Lib.hid (Below.and BW.out hb)
  have KP := Lib.hid (KP.out.below hb)
  clear hb
  by_cases hz : szR 1048576 p.sz < 0
  · generalize szR 1048576 p.sz = z at hz
    go_wp2
    go_light
    go_ret
    exact ⟨rfl, BW.out⟩
  obtain ⟨sp0, sp1⟩ := szR_neg (by omega) hz
  have sp : p.sz ≤ 1048576 := by omega
  rw [sp1]
  have nz : ¬ 1048576 - (p.sz : Int) < 0 := by omega
  clear hz sp1 sp0
  have m1 : p.cl.length ≤ 1048576 := by unfold MgP.sz at sp; omega
  have m2 : p.vt.length ≤ 1048576 := by unfold MgP.sz szV at sp; omega
  have M1 := Lib.hid m1
  have M2 := Lib.hid m2
  clear m1 m2
  have x0 : w1.cell? ⟨w.heap.size, 0, none⟩ = some (.int .i64 p.k) := KP.out.cell 0
  have x1 : w1.cell? ⟨w.heap.size, 1, none⟩ = some (.int .i64 p.f) := KP.out.cell 1
  have x2 : w1.cell? ⟨w.heap.size, 2, none⟩ = some (.int .i64 p.v) := KP.out.cell 2
  have x3 : w1.cell? ⟨w.heap.size, 3, none⟩ = some (.int .i64 p.s) := KP.out.cell 3
  have x4 : w1.cell? ⟨w.heap.size, 4, none⟩ = some (.int .i64 p.r.c) := KP.out.cell 4
  have x5 : w1.cell? ⟨w.heap.size, 5, none⟩ = some (.int .i64 p.r.n) := KP.out.cell 5
  have x6 : w1.cell? ⟨w.heap.size, 6, none⟩ = some (.int .i64 p.r.o) := KP.out.cell 6
  have x7 : w1.cell? ⟨w.heap.size, 7, none⟩ = some (.int .i64 p.r.x) := KP.out.cell 7
  have x8 : w1.cell? ⟨w.heap.size, 8, none⟩ = some (.int .i64 p.r.y) := KP.out.cell 8
  have x9 : w1.cell? ⟨w.heap.size, 9, none⟩ = some (.slice p.A p.cl.length p.a) := KP.out.cell 9
  have x10 : w1.cell? ⟨w.heap.size, 10, none⟩ = some (.slice p.B p.vt.length p.b) := KP.out.cell 10
  go_wp2_with (fail)
  refine (toMsg p _ (PR.out.below BW.out) sp).mono ?_
  rintro e w2 ⟨P1, rfl, hm, ho, hb⟩
  have BW := Lib.hid (Below.and BW.out hb)
  have KP := Lib.hid (KP.out.below hb)
  clear x0 x1 x2 x3 x4 x5 x6 x7 x8 x9 x10
  have HM1 := Lib.hid hm
  have OP1 := Lib.hid ho
  have ml : P1.cl.length = p.cl.length ∧ P1.vt.length = p.vt.length := by
    have h := hm
    simp only [MgP.mg, Mg.mk.injEq] at h
    exact ⟨by rw [h.2.2.2.2.2.1], by have := congrArg List.length h.2.2.2.2.2.2; simpa using this⟩
  have HD : Hid (okP P1 = okP p) := okP_congr hm
  have m1 : P1.cl.length ≤ 1048576 := by rw [ml.1]; exact M1.out
  have m2 : P1.vt.length ≤ 1048576 := by rw [ml.2]; exact M2.out
  have M1 := Lib.hid m1
  have M2 := Lib.hid m2
  clear hm ho hb ml m1 m2
  go_wp2_with (fail)
  refine (specMsgOk P1 _ M1.out M2.out OP1.out.rd).mono ?_
  rintro e w5 ⟨he, hb⟩
  obtain rfl := he.trans (ret_bool HD.out)
  have BW := Lib.hid (Below.and BW.out hb)
  have KP := Lib.hid (KP.out.below hb)
  clear hb he
  generalize hD : okP p = D
  have HD := Lib.hid hD
  clear hD
  have x0 : w5.cell? ⟨w.heap.size, 0, none⟩ = some (.int .i64 p.k) := KP.out.cell 0
  have x1 : w5.cell? ⟨w.heap.size, 1, none⟩ = some (.int .i64 p.f) := KP.out.cell 1
  have x2 : w5.cell? ⟨w.heap.size, 2, none⟩ = some (.int .i64 p.v) := KP.out.cell 2
  have x3 : w5.cell? ⟨w.heap.size, 3, none⟩ = some (.int .i64 p.s) := KP.out.cell 3
  have x4 : w5.cell? ⟨w.heap.size, 4, none⟩ = some (.int .i64 p.r.c) := KP.out.cell 4
  have x5 : w5.cell? ⟨w.heap.size, 5, none⟩ = some (.int .i64 p.r.n) := KP.out.cell 5
  have x6 : w5.cell? ⟨w.heap.size, 6, none⟩ = some (.int .i64 p.r.o) := KP.out.cell 6
  have x7 : w5.cell? ⟨w.heap.size, 7, none⟩ = some (.int .i64 p.r.x) := KP.out.cell 7
  have x8 : w5.cell? ⟨w.heap.size, 8, none⟩ = some (.int .i64 p.r.y) := KP.out.cell 8
  have x9 : w5.cell? ⟨w.heap.size, 9, none⟩ = some (.slice p.A p.cl.length p.a) := KP.out.cell 9
  have x10 : w5.cell? ⟨w.heap.size, 10, none⟩ = some (.slice p.B p.vt.length p.b) := KP.out.cell 10
  go_wp2_with (fail)
  refine (toMsg p _ (PR.out.below BW.out) sp).mono ?_
  rintro e w6 ⟨X0, rfl, hm, ho, hb⟩
  have BW := Lib.hid (Below.and BW.out hb)
  have KP := Lib.hid (KP.out.below hb)
  have HMX0 := Lib.hid hm
  have OX0 := Lib.hid ho
  clear x0 x1 x2 x3 x4 x5 x6 x7 x8 x9 x10
  have HE : Hid (okP X0 = D) := (okP_congr hm).trans HD.out
  clear hm ho hb
  have KP := Lib.hid (KP.out.alloc (.cells #[.int .i64 X0.k, .int .i64 X0.f, .int .i64 X0.v, .int .i64 X0.s, .int .i64 X0.r.c, .int .i64 X0.r.n, .int .i64 X0.r.o, .int .i64 X0.r.x, .int .i64 X0.r.y, .slice X0.A X0.cl.length X0.a, .slice X0.B X0.vt.length X0.b] 34))
  have OX0 := Lib.hid (OX0.out.below ((Below.refl _ _).alloc (Nat.le_refl _) (.cells #[.int .i64 X0.k, .int .i64 X0.f, .int .i64 X0.v, .int .i64 X0.s, .int .i64 X0.r.c, .int .i64 X0.r.n, .int .i64 X0.r.o, .int .i64 X0.r.x, .int .i64 X0.r.y, .slice X0.A X0.cl.length X0.a, .slice X0.B X0.vt.length X0.b] 34)))
  have K7 : Hid (Blk (w6.alloc (.cells #[.int .i64 X0.k, .int .i64 X0.f, .int .i64 X0.v, .int .i64 X0.s, .int .i64 X0.r.c, .int .i64 X0.r.n, .int .i64 X0.r.o, .int .i64 X0.r.x, .int .i64 X0.r.y, .slice X0.A X0.cl.length X0.a, .slice X0.B X0.vt.length X0.b] 34)) w6.heap.size 34 #[.int .i64 X0.k, .int .i64 X0.f, .int .i64 X0.v, .int .i64 X0.s, .int .i64 X0.r.c, .int .i64 X0.r.n, .int .i64 X0.r.o, .int .i64 X0.r.x, .int .i64 X0.r.y, .slice X0.A X0.cl.length X0.a, .slice X0.B X0.vt.length X0.b]) := Blk.new w6
  have BW := Lib.hid (Below.and BW.out ((Below.refl _ _).alloc (Nat.le_refl _) (.cells #[.int .i64 X0.k, .int .i64 X0.f, .int .i64 X0.v, .int .i64 X0.s, .int .i64 X0.r.c, .int .i64 X0.r.n, .int .i64 X0.r.o, .int .i64 X0.r.x, .int .i64 X0.r.y, .slice X0.A X0.cl.length X0.a, .slice X0.B X0.vt.length X0.b] 34)))
  have x0 : (w6.alloc (.cells #[.int .i64 X0.k, .int .i64 X0.f, .int .i64 X0.v, .int .i64 X0.s, .int .i64 X0.r.c, .int .i64 X0.r.n, .int .i64 X0.r.o, .int .i64 X0.r.x, .int .i64 X0.r.y, .slice X0.A X0.cl.length X0.a, .slice X0.B X0.vt.length X0.b] 34)).cell? ⟨w6.heap.size, 0, none⟩ = some (.int .i64 X0.k) := K7.out.cell 0
  have x1 : (w6.alloc (.cells #[.int .i64 X0.k, .int .i64 X0.f, .int .i64 X0.v, .int .i64 X0.s, .int .i64 X0.r.c, .int .i64 X0.r.n, .int .i64 X0.r.o, .int .i64 X0.r.x, .int .i64 X0.r.y, .slice X0.A X0.cl.length X0.a, .slice X0.B X0.vt.length X0.b] 34)).cell? ⟨w6.heap.size, 1, none⟩ = some (.int .i64 X0.f) := K7.out.cell 1
  have x2 : (w6.alloc (.cells #[.int .i64 X0.k, .int .i64 X0.f, .int .i64 X0.v, .int .i64 X0.s, .int .i64 X0.r.c, .int .i64 X0.r.n, .int .i64 X0.r.o, .int .i64 X0.r.x, .int .i64 X0.r.y, .slice X0.A X0.cl.length X0.a, .slice X0.B X0.vt.length X0.b] 34)).cell? ⟨w6.heap.size, 2, none⟩ = some (.int .i64 X0.v) := K7.out.cell 2
  have x3 : (w6.alloc (.cells #[.int .i64 X0.k, .int .i64 X0.f, .int .i64 X0.v, .int .i64 X0.s, .int .i64 X0.r.c, .int .i64 X0.r.n, .int .i64 X0.r.o, .int .i64 X0.r.x, .int .i64 X0.r.y, .slice X0.A X0.cl.length X0.a, .slice X0.B X0.vt.length X0.b] 34)).cell? ⟨w6.heap.size, 3, none⟩ = some (.int .i64 X0.s) := K7.out.cell 3
  have x4 : (w6.alloc (.cells #[.int .i64 X0.k, .int .i64 X0.f, .int .i64 X0.v, .int .i64 X0.s, .int .i64 X0.r.c, .int .i64 X0.r.n, .int .i64 X0.r.o, .int .i64 X0.r.x, .int .i64 X0.r.y, .slice X0.A X0.cl.length X0.a, .slice X0.B X0.vt.length X0.b] 34)).cell? ⟨w6.heap.size, 4, none⟩ = some (.int .i64 X0.r.c) := K7.out.cell 4
  have x5 : (w6.alloc (.cells #[.int .i64 X0.k, .int .i64 X0.f, .int .i64 X0.v, .int .i64 X0.s, .int .i64 X0.r.c, .int .i64 X0.r.n, .int .i64 X0.r.o, .int .i64 X0.r.x, .int .i64 X0.r.y, .slice X0.A X0.cl.length X0.a, .slice X0.B X0.vt.length X0.b] 34)).cell? ⟨w6.heap.size, 5, none⟩ = some (.int .i64 X0.r.n) := K7.out.cell 5
  have x6 : (w6.alloc (.cells #[.int .i64 X0.k, .int .i64 X0.f, .int .i64 X0.v, .int .i64 X0.s, .int .i64 X0.r.c, .int .i64 X0.r.n, .int .i64 X0.r.o, .int .i64 X0.r.x, .int .i64 X0.r.y, .slice X0.A X0.cl.length X0.a, .slice X0.B X0.vt.length X0.b] 34)).cell? ⟨w6.heap.size, 6, none⟩ = some (.int .i64 X0.r.o) := K7.out.cell 6
  have x7 : (w6.alloc (.cells #[.int .i64 X0.k, .int .i64 X0.f, .int .i64 X0.v, .int .i64 X0.s, .int .i64 X0.r.c, .int .i64 X0.r.n, .int .i64 X0.r.o, .int .i64 X0.r.x, .int .i64 X0.r.y, .slice X0.A X0.cl.length X0.a, .slice X0.B X0.vt.length X0.b] 34)).cell? ⟨w6.heap.size, 7, none⟩ = some (.int .i64 X0.r.x) := K7.out.cell 7
  have x8 : (w6.alloc (.cells #[.int .i64 X0.k, .int .i64 X0.f, .int .i64 X0.v, .int .i64 X0.s, .int .i64 X0.r.c, .int .i64 X0.r.n, .int .i64 X0.r.o, .int .i64 X0.r.x, .int .i64 X0.r.y, .slice X0.A X0.cl.length X0.a, .slice X0.B X0.vt.length X0.b] 34)).cell? ⟨w6.heap.size, 8, none⟩ = some (.int .i64 X0.r.y) := K7.out.cell 8
  have x9 : (w6.alloc (.cells #[.int .i64 X0.k, .int .i64 X0.f, .int .i64 X0.v, .int .i64 X0.s, .int .i64 X0.r.c, .int .i64 X0.r.n, .int .i64 X0.r.o, .int .i64 X0.r.x, .int .i64 X0.r.y, .slice X0.A X0.cl.length X0.a, .slice X0.B X0.vt.length X0.b] 34)).cell? ⟨w6.heap.size, 9, none⟩ = some (.slice X0.A X0.cl.length X0.a) := K7.out.cell 9
  have x10 : (w6.alloc (.cells #[.int .i64 X0.k, .int .i64 X0.f, .int .i64 X0.v, .int .i64 X0.s, .int .i64 X0.r.c, .int .i64 X0.r.n, .int .i64 X0.r.o, .int .i64 X0.r.x, .int .i64 X0.r.y, .slice X0.A X0.cl.length X0.a, .slice X0.B X0.vt.length X0.b] 34)).cell? ⟨w6.heap.size, 10, none⟩ = some (.slice X0.B X0.vt.length X0.b) := K7.out.cell 10
  go_wp2_with (fail)
  refine (implMsgOk X0 _ OX0.out.rd).mono ?_
  rintro e w8 ⟨he, hb⟩
  obtain rfl := he.trans (ret_bool HE.out)
  have BW := Lib.hid (Below.and BW.out hb)
  have KP := Lib.hid (KP.out.below hb)
  have K7 := Lib.hid (K7.out.below hb)
  have OX0 := Lib.hid (OX0.out.below hb)
  clear x0 x1 x2 x3 x4 x5 x6 x7 x8 x9 x10
  clear hb he
  have bb : (D != D) = false := by simp
  have lp := K7.out.lt
  have lq := KP.out.lt
  have x0 : w8.cell? ⟨w6.heap.size, 0, none⟩ = some (.int .i64 X0.k) := K7.out.cell 0
  have x1 : w8.cell? ⟨w6.heap.size, 1, none⟩ = some (.int .i64 X0.f) := K7.out.cell 1
  have x2 : w8.cell? ⟨w6.heap.size, 2, none⟩ = some (.int .i64 X0.v) := K7.out.cell 2
  have x3 : w8.cell? ⟨w6.heap.size, 3, none⟩ = some (.int .i64 X0.s) := K7.out.cell 3
  have x4 : w8.cell? ⟨w6.heap.size, 4, none⟩ = some (.int .i64 X0.r.c) := K7.out.cell 4
  have x5 : w8.cell? ⟨w6.heap.size, 5, none⟩ = some (.int .i64 X0.r.n) := K7.out.cell 5
  have x6 : w8.cell? ⟨w6.heap.size, 6, none⟩ = some (.int .i64 X0.r.o) := K7.out.cell 6
  have x7 : w8.cell? ⟨w6.heap.size, 7, none⟩ = some (.int .i64 X0.r.x) := K7.out.cell 7
  have x8 : w8.cell? ⟨w6.heap.size, 8, none⟩ = some (.int .i64 X0.r.y) := K7.out.cell 8
  have x9 : w8.cell? ⟨w6.heap.size, 9, none⟩ = some (.slice X0.A X0.cl.length X0.a) := K7.out.cell 9
  have x10 : w8.cell? ⟨w6.heap.size, 10, none⟩ = some (.slice X0.B X0.vt.length X0.b) := K7.out.cell 10
  have y0 : w8.cell? ⟨w.heap.size, 0, none⟩ = some (.int .i64 p.k) := KP.out.cell 0
  have y1 : w8.cell? ⟨w.heap.size, 1, none⟩ = some (.int .i64 p.f) := KP.out.cell 1
  have y2 : w8.cell? ⟨w.heap.size, 2, none⟩ = some (.int .i64 p.v) := KP.out.cell 2
  have y3 : w8.cell? ⟨w.heap.size, 3, none⟩ = some (.int .i64 p.s) := KP.out.cell 3
  have y4 : w8.cell? ⟨w.heap.size, 4, none⟩ = some (.int .i64 p.r.c) := KP.out.cell 4
  have y5 : w8.cell? ⟨w.heap.size, 5, none⟩ = some (.int .i64 p.r.n) := KP.out.cell 5
  have y6 : w8.cell? ⟨w.heap.size, 6, none⟩ = some (.int .i64 p.r.o) := KP.out.cell 6
  have y7 : w8.cell? ⟨w.heap.size, 7, none⟩ = some (.int .i64 p.r.x) := KP.out.cell 7
  have y8 : w8.cell? ⟨w.heap.size, 8, none⟩ = some (.int .i64 p.r.y) := KP.out.cell 8
  have y9 : w8.cell? ⟨w.heap.size, 9, none⟩ = some (.slice p.A p.cl.length p.a) := KP.out.cell 9
  have y10 : w8.cell? ⟨w.heap.size, 10, none⟩ = some (.slice p.B p.vt.length p.b) := KP.out.cell 10
  go_wp2_with (fail)
  refine wp_region_held_drew (S := fun w1 => Below w8.heap.size w8 w1) (by kernel_rfl) ((Below.refl _ _).drew) (fun hq => ?_)
  refine takeD 0 22 (v := ?_) rfl rfl (by kernel_rfl) (by kernel_rfl) (by kernel_rfl) (fun _ _ _ h => h) (Or.inl ⟨by rfl, ?_⟩) (by assumption) ?_
  rotate_left
  · intro w1 hSw; obtain ⟨hcS, hfS⟩ := bcell hSw; go_simp; (try with_reducible rfl)
  (try simp only [Act.put, List.setIfInBounds_toArray, List.set_cons_zero, List.set_cons_succ])
  refine takeD 1 23 (v := ?_) rfl rfl (by kernel_rfl) (by kernel_rfl) (by kernel_rfl) (fun _ _ _ h => h) (Or.inl ⟨by rfl, ?_⟩) (by assumption) ?_
  rotate_left
  · intro w1 hSw; obtain ⟨hcS, hfS⟩ := bcell hSw; go_simp; (try with_reducible rfl)
  (try simp only [Act.put, List.setIfInBounds_toArray, List.set_cons_zero, List.set_cons_succ])
  refine wpAnyH_ready (rs := [2]) (by kernel_rfl) (by simp) ?_
  refine AllReadyH.cons rfl (fun K hK => ?_) AllReadyH.nil
  go_simp
  refine (toMsg p _ (PR.out.below (Below.and BW.out hq)) sp).mono ?_
  rintro e w9 ⟨P2, rfl, hmP2, hoP2, hb⟩
  refine hK.out _ _ (Below.and hq hb) (fun hq2 => ?_)
  clear hK K
  (try simp only [Act.put, List.setIfInBounds_toArray, List.set_cons_zero, List.set_cons_succ])
  refine wpAnyH_ready (rs := [3]) (by kernel_rfl) (by simp) ?_
  refine AllReadyH.cons rfl (fun K hK => ?_) AllReadyH.nil
  go_simp
  refine (eqMsg X0 P2 _ ((OX0.out.below hq2).rd) hoP2.rd).mono ?_
  rintro e w10 ⟨he, hb⟩
  obtain rfl := he.trans (ret_bool (show decide (X0.mg = P2.mg) = true by rw [HMX0.out, hmP2]; exact decide_eq_true rfl))
  refine hK.out _ _ (Below.and hq2 hb) (fun hq3 => ?_)
  clear hK K
  (try simp only [Act.put, List.setIfInBounds_toArray, List.set_cons_zero, List.set_cons_succ])
  refine takeD 4 26 (v := ?_) rfl rfl (by kernel_rfl) (by kernel_rfl) (by kernel_rfl) (fun _ _ _ h => h) (Or.inl ⟨by rfl, ?_⟩) (by assumption) ?_
  rotate_left
  · intro w1 hSw; obtain ⟨hcS, hfS⟩ := bcell hSw; go_simp; (try with_reducible rfl)
  (try simp only [Act.put, List.setIfInBounds_toArray, List.set_cons_zero, List.set_cons_succ])
  refine wpAnyH_done (by kernel_rfl) ?_ _
  have BW := Lib.hid (Below.and BW.out hq3)
  go_wp2
  go_light
  go_ret
  exact ⟨rfl, BW.out⟩

end Go.Proofs.Ytlokhgnbcbnmpaa
