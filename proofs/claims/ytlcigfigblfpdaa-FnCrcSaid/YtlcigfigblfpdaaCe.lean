/- A request as a text: the model's side. -/
import Derived.Test.YtlcigfigblfpdaaSb
import Derived.Test.YtlcigfigblfpdaaBk
namespace Go.Proofs.Ytlcigfigblfpdaa
open Go.ChangeShapes Go.WideShapes Go.ChangeAt Go.RowKit
set_option linter.unusedVariables false
set_option linter.unusedSimpArgs false

theorem putN_len (c n : Int) (k : Nat) (x y : Int) (c0 : -1000 ≤ c) (c1 : c ≤ 1000) (n0 : -1000 ≤ n) (n1 : n ≤ 1000) (x0 : -1000 ≤ x) (x1 : x ≤ 1000) (y0 : -1000 ≤ y) (y1 : y ≤ 1000) : (putN c n k x y).length ≤ 100 := by
  have l1 := itoa_len c (by omega) (by omega)
  have l2 := itoa_len n (by omega) (by omega)
  have l3 := itoa_len x (by omega) (by omega)
  have l4 := itoa_len y (by omega) (by omega)
  have l5 := wordN_len k
  unfold putN
  simp only [cat_len, List.length_cons, List.length_nil]
  omega

def putT (r : Rq) : List UInt8 := if nullB r = true then [110, 111, 110, 101] else if rqB r = true then putN r.c r.n r.o.toNat r.x r.y else []
theorem rq_bd {c n o x y : Int} (h : reqB c n o x y = true) : (1 ≤ c ∧ c ≤ 4) ∧ (1 ≤ n ∧ n ≤ 30) ∧ (1 ≤ o ∧ o ≤ 5) ∧ (-1 ≤ x ∧ x ≤ 4) ∧ (-1 ≤ y ∧ y ≤ 9) := by
  simp only [reqB, shapeB, inB] at h
  by_cases h1 : o = 1 ∨ o = 3
  · rw [if_pos h1] at h; simp only [Bool.and_eq_true, decide_eq_true_eq] at h; omega
  rw [if_neg h1] at h
  by_cases h2 : o = 2
  · rw [if_pos h2] at h; simp only [Bool.and_eq_true, decide_eq_true_eq] at h; omega
  rw [if_neg h2] at h
  by_cases h3 : o = 4
  · rw [if_pos h3] at h; simp only [Bool.and_eq_true, decide_eq_true_eq] at h; omega
  rw [if_neg h3] at h
  by_cases h4 : o = 5
  · rw [if_pos h4] at h; simp only [Bool.and_eq_true, decide_eq_true_eq] at h; omega
  rw [if_neg h4] at h
  simp at h
theorem null_not {r : Rq} (h : nullB r = true) : rqB r = false := by
  have : r = ⟨0, 0, 0, 0, 0⟩ := of_decide_eq_true h
  subst this; rfl

set_option maxRecDepth 100000 in
set_option maxHeartbeats 2000000 in
theorem specReqPut (r : Rq) (w : World) :
    Calls Try.prog 10 #[r.val] w fun e w' => e = .returned (bsV (putT r)) ∧ Below w.heap.size w w' := by
  have Z0 : Hid (Below w.heap.size w (w.alloc (.cells #[.int .i64 r.c, .int .i64 r.n, .int .i64 r.o, .int .i64 r.x, .int .i64 r.y] 32))) := (Below.refl _ _).alloc (Nat.le_refl _) _
  have K0 : Hid (Bkk (w.alloc (.cells #[.int .i64 r.c, .int .i64 r.n, .int .i64 r.o, .int .i64 r.x, .int .i64 r.y] 32)) w.heap.size 32 #[.int .i64 r.c, .int .i64 r.n, .int .i64 r.o, .int .i64 r.x, .int .i64 r.y]) := Bkk.new w
  rcases hn : nullB r with _ | _
  · rcases hq : rqB r with _ | _
    · have HN := Lib.hid hn
      have HQ := Lib.hid hq
      have HE := Lib.hid (show putT r = [] by unfold putT; rw [hn, hq]; rfl)
      clear hn hq
      go_enter Try.func10, Try.ntmps10
      go_wp2_with (fail)
      refine (l1None r _).mono ?_
      rintro e w1 ⟨rfl, hb⟩
      rw [HN.out]
      have Z1 := Lib.hid (Below.and Z0.out hb)
      have K1 := Lib.hid (K0.out.below hb)
      clear hb
      have x0' : w1.cell? ⟨w.heap.size, 0, none⟩ = some (.int .i64 r.c) := K1.out.cell 0
      have x1' : w1.cell? ⟨w.heap.size, 1, none⟩ = some (.int .i64 r.n) := K1.out.cell 1
      have x2' : w1.cell? ⟨w.heap.size, 2, none⟩ = some (.int .i64 r.o) := K1.out.cell 2
      have x3' : w1.cell? ⟨w.heap.size, 3, none⟩ = some (.int .i64 r.x) := K1.out.cell 3
      have x4' : w1.cell? ⟨w.heap.size, 4, none⟩ = some (.int .i64 r.y) := K1.out.cell 4
      go_wp2_with (fail)
      refine (l1Ok r.c r.n r.o r.x r.y _).mono ?_
      rintro e w2 ⟨rfl, hb⟩
      rw [show reqB r.c r.n r.o r.x r.y = false from HQ.out]
      have Z1 := Lib.hid (Below.and Z1.out hb)
      clear hb
      go_wp2
      go_light
      go_ret
      exact ⟨ret_bs HE.out.symm, Z1.out⟩
    · obtain ⟨b1, b2, b3, b4, b5⟩ := rq_bd (show reqB r.c r.n r.o r.x r.y = true from hq)
      obtain ⟨k, hk⟩ := Int.eq_ofNat_of_zero_le (show 0 ≤ r.o by omega)
      have HN := Lib.hid hn
      have HQ := Lib.hid hq
      have HE := Lib.hid (show putT r = putN r.c r.n k r.x r.y by unfold putT; rw [hn, hq, hk]; rfl)
      have HK := Lib.hid hk
      have k5 : k ≤ 5 := by omega
      clear hn hq hk b3
      go_enter Try.func10, Try.ntmps10
      go_wp2_with (fail)
      refine (l1None r _).mono ?_
      rintro e w1 ⟨rfl, hb⟩
      rw [HN.out]
      have Z1 := Lib.hid (Below.and Z0.out hb)
      have K1 := Lib.hid (K0.out.below hb)
      clear hb
      have x0' : w1.cell? ⟨w.heap.size, 0, none⟩ = some (.int .i64 r.c) := K1.out.cell 0
      have x1' : w1.cell? ⟨w.heap.size, 1, none⟩ = some (.int .i64 r.n) := K1.out.cell 1
      have x2' : w1.cell? ⟨w.heap.size, 2, none⟩ = some (.int .i64 r.o) := K1.out.cell 2
      have x3' : w1.cell? ⟨w.heap.size, 3, none⟩ = some (.int .i64 r.x) := K1.out.cell 3
      have x4' : w1.cell? ⟨w.heap.size, 4, none⟩ = some (.int .i64 r.y) := K1.out.cell 4
      go_wp2_with (fail)
      refine (l1Ok r.c r.n r.o r.x r.y _).mono ?_
      rintro e w2 ⟨rfl, hb⟩
      rw [show reqB r.c r.n r.o r.x r.y = true from HQ.out]
      have Z1 := Lib.hid (Below.and Z1.out hb)
      have K1 := Lib.hid (K1.out.below hb)
      clear hb
      clear x0' x1' x2' x3' x4'
      have x0' : w2.cell? ⟨w.heap.size, 0, none⟩ = some (.int .i64 r.c) := K1.out.cell 0
      have x1' : w2.cell? ⟨w.heap.size, 1, none⟩ = some (.int .i64 r.n) := K1.out.cell 1
      have x2' : w2.cell? ⟨w.heap.size, 2, none⟩ = some (.int .i64 r.o) := K1.out.cell 2
      have x3' : w2.cell? ⟨w.heap.size, 3, none⟩ = some (.int .i64 r.x) := K1.out.cell 3
      have x4' : w2.cell? ⟨w.heap.size, 4, none⟩ = some (.int .i64 r.y) := K1.out.cell 4
      go_wp2_with (fail)
      rw [HK.out]
      refine (l1Put r.c r.n k r.x r.y _ k5 (by omega) (by omega) (by omega) (by omega) (by omega) (by omega) (by omega) (by omega)).mono ?_
      rintro e w3 ⟨rfl, hb⟩
      have Z1 := Lib.hid (Below.and Z1.out hb)
      clear hb
      go_wp2
      go_light
      go_ret
      exact ⟨ret_bs HE.out.symm, Z1.out⟩
  · have HN := Lib.hid hn
    have HE := Lib.hid (show putT r = [110, 111, 110, 101] by unfold putT; rw [hn]; rfl)
    clear hn
    go_enter Try.func10, Try.ntmps10
    go_wp2_with (fail)
    refine (l1None r _).mono ?_
    rintro e w1 ⟨rfl, hb⟩
    rw [HN.out]
    have Z1 := Lib.hid (Below.and Z0.out hb)
    clear hb
    go_wp2
    go_light
    go_ret
    exact ⟨ret_bs HE.out.symm, Z1.out⟩

theorem putT_len (r : Rq) : (putT r).length ≤ 1000 := by
  unfold putT
  split
  · simp
  · split
    · rename_i h
      obtain ⟨b1, b2, b3, b4, b5⟩ := rq_bd (show reqB r.c r.n r.o r.x r.y = true from h)
      exact Nat.le_trans (putN_len _ _ _ _ _ (by omega) (by omega) (by omega) (by omega) (by omega) (by omega) (by omega) (by omega)) (by omega)
    · simp

end Go.Proofs.Ytlcigfigblfpdaa
