/- Requests as texts: both sides, and the exact law. -/
import Derived.Test.YtolepfbhhmganaaDoorSc
namespace Go.Proofs.YtolepfbhhmganaaDoor
open Go.ChangeShapes Go.WideShapes Go.ChangeAt Go.RowKit
set_option linter.unusedVariables false
set_option linter.unusedSimpArgs false

def putT (r : Rq) : List UInt8 := if nullB r = true then [110, 111, 110, 101] else if rqB r = true then putN r.c r.n r.o.toNat r.x r.y else []
theorem rq_bd {c n o x y : Int} (h : reqB c n o x y = true) : (1 ≤ c ∧ c ≤ 4) ∧ (1 ≤ n ∧ n ≤ 30) ∧ (1 ≤ o ∧ o ≤ 5) ∧ (-1 ≤ x ∧ x ≤ 4) ∧ (-1 ≤ y ∧ y ≤ 9) := by
  simp only [reqB, shapeB, inB] at h
  by_cases h1 : o = 1 ∨ o = 3
  · rw [if_pos h1] at h; simp only [Bool.and_eq_true, decide_eq_true_eq] at h; omega
  rw [if_neg h1] at h
  by_cases h2 : o = 2
  · rw [if_pos h2] at h; simp only [Bool.and_eq_true, decide_eq_true_eq] at h; omega
  rw [if_neg h2] at h
  by_cases h3 : o = 4
  · rw [if_pos h3] at h; simp only [Bool.and_eq_true, decide_eq_true_eq] at h; omega
  rw [if_neg h3] at h
  by_cases h4 : o = 5
  · rw [if_pos h4] at h; simp only [Bool.and_eq_true, decide_eq_true_eq] at h; omega
  rw [if_neg h4] at h
  simp at h
theorem null_not {r : Rq} (h : nullB r = true) : rqB r = false := by
  have : r = ⟨0, 0, 0, 0, 0⟩ := of_decide_eq_true h
  subst this; rfl

set_option maxRecDepth 100000 in
set_option maxHeartbeats 2000000 in
theorem specReqPut (r : Rq) (w : World) :
    Calls Tryd.prog 7 #[r.val] w fun e w' => e = .returned (bsV (putT r)) ∧ Below w.heap.size w w' := by
  have Z0 : Hid (Below w.heap.size w (w.alloc (.cells #[.int .i64 r.c, .int .i64 r.n, .int .i64 r.o, .int .i64 r.x, .int .i64 r.y] 25))) := (Below.refl _ _).alloc (Nat.le_refl _) _
  have K0 : Hid (Bkk (w.alloc (.cells #[.int .i64 r.c, .int .i64 r.n, .int .i64 r.o, .int .i64 r.x, .int .i64 r.y] 25)) w.heap.size 25 #[.int .i64 r.c, .int .i64 r.n, .int .i64 r.o, .int .i64 r.x, .int .i64 r.y]) := Bkk.new w
  rcases hn : nullB r with _ | _
  · rcases hq : rqB r with _ | _
    · have HN := Lib.hid hn
      have HQ := Lib.hid hq
      have HE := Lib.hid (show putT r = [] by unfold putT; rw [hn, hq]; rfl)
      clear hn hq
      go_enter Tryd.func7, Tryd.ntmps7
      go_wp2_with (fail)
      refine (l1None r _).mono ?_
      rintro e w1 ⟨rfl, hb⟩
      rw [HN.out]
      have Z1 := Lib.hid (Below.and Z0.out hb)
      have K1 := Lib.hid (K0.out.below hb)
      clear hb
      have x0' : w1.cell? ⟨w.heap.size, 0, none⟩ = some (.int .i64 r.c) := K1.out.cell 0
      have x1' : w1.cell? ⟨w.heap.size, 1, none⟩ = some (.int .i64 r.n) := K1.out.cell 1
      have x2' : w1.cell? ⟨w.heap.size, 2, none⟩ = some (.int .i64 r.o) := K1.out.cell 2
      have x3' : w1.cell? ⟨w.heap.size, 3, none⟩ = some (.int .i64 r.x) := K1.out.cell 3
      have x4' : w1.cell? ⟨w.heap.size, 4, none⟩ = some (.int .i64 r.y) := K1.out.cell 4
      go_wp2_with (fail)
      refine (l1Ok r.c r.n r.o r.x r.y _).mono ?_
      rintro e w2 ⟨rfl, hb⟩
      rw [show reqB r.c r.n r.o r.x r.y = false from HQ.out]
      have Z1 := Lib.hid (Below.and Z1.out hb)
      clear hb
      go_wp2
      go_light
      go_ret
      exact ⟨ret_bs HE.out.symm, Z1.out⟩
    · obtain ⟨b1, b2, b3, b4, b5⟩ := rq_bd (show reqB r.c r.n r.o r.x r.y = true from hq)
      obtain ⟨k, hk⟩ := Int.eq_ofNat_of_zero_le (show 0 ≤ r.o by omega)
      have HN := Lib.hid hn
      have HQ := Lib.hid hq
      have HE := Lib.hid (show putT r = putN r.c r.n k r.x r.y by unfold putT; rw [hn, hq, hk]; rfl)
      have HK := Lib.hid hk
      have k5 : k ≤ 5 := by omega
      clear hn hq hk b3
      go_enter Tryd.func7, Tryd.ntmps7
      go_wp2_with (fail)
      refine (l1None r _).mono ?_
      rintro e w1 ⟨rfl, hb⟩
      rw [HN.out]
      have Z1 := Lib.hid (Below.and Z0.out hb)
      have K1 := Lib.hid (K0.out.below hb)
      clear hb
      have x0' : w1.cell? ⟨w.heap.size, 0, none⟩ = some (.int .i64 r.c) := K1.out.cell 0
      have x1' : w1.cell? ⟨w.heap.size, 1, none⟩ = some (.int .i64 r.n) := K1.out.cell 1
      have x2' : w1.cell? ⟨w.heap.size, 2, none⟩ = some (.int .i64 r.o) := K1.out.cell 2
      have x3' : w1.cell? ⟨w.heap.size, 3, none⟩ = some (.int .i64 r.x) := K1.out.cell 3
      have x4' : w1.cell? ⟨w.heap.size, 4, none⟩ = some (.int .i64 r.y) := K1.out.cell 4
      go_wp2_with (fail)
      refine (l1Ok r.c r.n r.o r.x r.y _).mono ?_
      rintro e w2 ⟨rfl, hb⟩
      rw [show reqB r.c r.n r.o r.x r.y = true from HQ.out]
      have Z1 := Lib.hid (Below.and Z1.out hb)
      have K1 := Lib.hid (K1.out.below hb)
      clear hb
      clear x0' x1' x2' x3' x4'
      have x0' : w2.cell? ⟨w.heap.size, 0, none⟩ = some (.int .i64 r.c) := K1.out.cell 0
      have x1' : w2.cell? ⟨w.heap.size, 1, none⟩ = some (.int .i64 r.n) := K1.out.cell 1
      have x2' : w2.cell? ⟨w.heap.size, 2, none⟩ = some (.int .i64 r.o) := K1.out.cell 2
      have x3' : w2.cell? ⟨w.heap.size, 3, none⟩ = some (.int .i64 r.x) := K1.out.cell 3
      have x4' : w2.cell? ⟨w.heap.size, 4, none⟩ = some (.int .i64 r.y) := K1.out.cell 4
      go_wp2_with (fail)
      rw [HK.out]
      refine (l1Put r.c r.n k r.x r.y _ k5 (by omega) (by omega) (by omega) (by omega) (by omega) (by omega) (by omega) (by omega)).mono ?_
      rintro e w3 ⟨rfl, hb⟩
      have Z1 := Lib.hid (Below.and Z1.out hb)
      clear hb
      go_wp2
      go_light
      go_ret
      exact ⟨ret_bs HE.out.symm, Z1.out⟩
  · have HN := Lib.hid hn
    have HE := Lib.hid (show putT r = [110, 111, 110, 101] by unfold putT; rw [hn]; rfl)
    clear hn
    go_enter Tryd.func7, Tryd.ntmps7
    go_wp2_with (fail)
    refine (l1None r _).mono ?_
    rintro e w1 ⟨rfl, hb⟩
    rw [HN.out]
    have Z1 := Lib.hid (Below.and Z0.out hb)
    clear hb
    go_wp2
    go_light
    go_ret
    exact ⟨ret_bs HE.out.symm, Z1.out⟩

set_option maxRecDepth 100000 in
set_option maxHeartbeats 2000000 in
theorem implPut_null (r : Rq) (w : World) (hn : nullB r = true) :
    Calls Tryd.prog 9 #[r.val] w fun e w' => e = .returned (bsV [110, 111, 110, 101]) ∧ Below w.heap.size w w' := by
  have Z0 : Hid (Below w.heap.size w (w.alloc (.cells #[.int .i64 r.c, .int .i64 r.n, .int .i64 r.o, .int .i64 r.x, .int .i64 r.y] 25))) := (Below.refl _ _).alloc (Nat.le_refl _) _
  have K0 : Hid (Bkk (w.alloc (.cells #[.int .i64 r.c, .int .i64 r.n, .int .i64 r.o, .int .i64 r.x, .int .i64 r.y] 25)) w.heap.size 25 #[.int .i64 r.c, .int .i64 r.n, .int .i64 r.o, .int .i64 r.x, .int .i64 r.y]) := Bkk.new w
  have HN := Lib.hid hn
  clear hn
  go_enter Tryd.func9, Tryd.ntmps9
  go_wp2_with (fail)
  refine (isNull r _).mono ?_
  rintro e w1 ⟨rfl, hb⟩
  rw [HN.out]
  have Z1 := Lib.hid (Below.and Z0.out hb)
  clear hb
  go_wp2
  go_light
  go_ret
  exact ⟨rfl, Z1.out⟩

set_option maxRecDepth 100000 in
set_option maxHeartbeats 2000000 in
theorem implPut_no (r : Rq) (w : World) (hn : nullB r = false) (hq : rqB r = false) :
    Calls Tryd.prog 9 #[r.val] w fun e w' => e = .returned (bsV []) ∧ Below w.heap.size w w' := by
  have Z0 : Hid (Below w.heap.size w (w.alloc (.cells #[.int .i64 r.c, .int .i64 r.n, .int .i64 r.o, .int .i64 r.x, .int .i64 r.y] 25))) := (Below.refl _ _).alloc (Nat.le_refl _) _
  have K0 : Hid (Bkk (w.alloc (.cells #[.int .i64 r.c, .int .i64 r.n, .int .i64 r.o, .int .i64 r.x, .int .i64 r.y] 25)) w.heap.size 25 #[.int .i64 r.c, .int .i64 r.n, .int .i64 r.o, .int .i64 r.x, .int .i64 r.y]) := Bkk.new w
  have HN := Lib.hid hn
  have HQ := Lib.hid hq
  obtain ⟨d, hd⟩ : ∃ d, deedT r.o = d := ⟨_, rfl⟩
  have HD := Lib.hid hd
  clear hn hq hd
  rcases hi : inB r.o 1 5 with _ | _
  · have HI := Lib.hid hi
    clear hi
    go_enter Tryd.func9, Tryd.ntmps9
    go_wp2_with (fail)
    refine (isNull r _).mono ?_
    rintro e w1 ⟨rfl, hb⟩
    rw [HN.out]
    have Z1 := Lib.hid (Below.and Z0.out hb)
    have K1 := Lib.hid (K0.out.below hb)
    clear hb
    have x0' : w1.cell? ⟨w.heap.size, 0, none⟩ = some (.int .i64 r.c) := K1.out.cell 0
    have x1' : w1.cell? ⟨w.heap.size, 1, none⟩ = some (.int .i64 r.n) := K1.out.cell 1
    have x2' : w1.cell? ⟨w.heap.size, 2, none⟩ = some (.int .i64 r.o) := K1.out.cell 2
    have x3' : w1.cell? ⟨w.heap.size, 3, none⟩ = some (.int .i64 r.x) := K1.out.cell 3
    have x4' : w1.cell? ⟨w.heap.size, 4, none⟩ = some (.int .i64 r.y) := K1.out.cell 4
    go_wp2_with (first | (go_at_call 21; refine (deedOf _ _).mono ?_; rintro e w' ⟨rfl, rfl⟩; rw [HD.out, HI.out]))
    go_light
    go_ret
    exact ⟨rfl, Z1.out⟩
  · have HI := Lib.hid hi
    clear hi
    go_enter Tryd.func9, Tryd.ntmps9
    go_wp2_with (fail)
    refine (isNull r _).mono ?_
    rintro e w1 ⟨rfl, hb⟩
    rw [HN.out]
    have Z1 := Lib.hid (Below.and Z0.out hb)
    have K1 := Lib.hid (K0.out.below hb)
    clear hb
    have x0' : w1.cell? ⟨w.heap.size, 0, none⟩ = some (.int .i64 r.c) := K1.out.cell 0
    have x1' : w1.cell? ⟨w.heap.size, 1, none⟩ = some (.int .i64 r.n) := K1.out.cell 1
    have x2' : w1.cell? ⟨w.heap.size, 2, none⟩ = some (.int .i64 r.o) := K1.out.cell 2
    have x3' : w1.cell? ⟨w.heap.size, 3, none⟩ = some (.int .i64 r.x) := K1.out.cell 3
    have x4' : w1.cell? ⟨w.heap.size, 4, none⟩ = some (.int .i64 r.y) := K1.out.cell 4
    go_wp2_with (first | (go_at_call 21; refine (deedOf _ _).mono ?_; rintro e w' ⟨rfl, rfl⟩; rw [HD.out, HI.out]))
    refine (implReqOk r.c r.n r.o r.x r.y _).mono ?_
    rintro e w2 ⟨rfl, hb⟩
    rw [show reqB r.c r.n r.o r.x r.y = false from HQ.out]
    have Z1 := Lib.hid (Below.and Z1.out hb)
    clear hb
    go_wp2
    go_light
    go_ret
    exact ⟨rfl, Z1.out⟩

theorem implReqPut (r : Rq) (w : World) (ht : Tab w) :
    Calls Tryd.prog 9 #[r.val] w fun e w' => e = .returned (bsV (putT r)) ∧ Below w.heap.size w w' := by
  rcases hn : nullB r with _ | _
  · rcases hq : rqB r with _ | _
    · have HE : putT r = [] := by unfold putT; rw [hn, hq]; rfl
      rw [HE]; exact implPut_no r w hn hq
    · obtain ⟨b1, b2, b3, b4, b5⟩ := rq_bd (show reqB r.c r.n r.o r.x r.y = true from hq)
      have HE : putT r = putN r.c r.n r.o.toNat r.x r.y := by unfold putT; rw [hn, hq]; rfl
      rw [HE]
      obtain ⟨c, n, o, x, y⟩ := r
      simp only at b1 b2 b3 b4 b5 hq ⊢
      have ho : o = 1 ∨ o = 2 ∨ o = 3 ∨ o = 4 ∨ o = 5 := by omega
      rcases ho with rfl | rfl | rfl | rfl | rfl
      · exact implPut1 c n x y w hq (by omega) (by omega) (by omega) (by omega) (by omega) (by omega) (by omega) (by omega) ht
      · exact implPut2 c n x y w hq (by omega) (by omega) (by omega) (by omega) (by omega) (by omega) (by omega) (by omega) ht
      · exact implPut3 c n x y w hq (by omega) (by omega) (by omega) (by omega) (by omega) (by omega) (by omega) (by omega) ht
      · exact implPut4 c n x y w hq (by omega) (by omega) (by omega) (by omega) (by omega) (by omega) (by omega) (by omega) ht
      · exact implPut5 c n x y w hq (by omega) (by omega) (by omega) (by omega) (by omega) (by omega) (by omega) (by omega) ht
  · have HE : putT r = [110, 111, 110, 101] := by unfold putT; rw [hn]; rfl
    rw [HE]; exact implPut_null r w hn

set_option maxRecDepth 100000 in
set_option maxHeartbeats 2000000 in
theorem exactReqPut (c n o x y : Int) (w : World) (ht : Tab w) :
    Calls Tryd.prog 3 #[req c n o x y] w fun e w' => e = .returned (.bool true) ∧ Below w.heap.size w w' := by
  unfold req
  have Z0 : Hid (Below w.heap.size w (w.alloc (.cells #[.int .i64 c, .int .i64 n, .int .i64 o, .int .i64 x, .int .i64 y] 23))) := (Below.refl _ _).alloc (Nat.le_refl _) _
  have K0 : Hid (Bkk (w.alloc (.cells #[.int .i64 c, .int .i64 n, .int .i64 o, .int .i64 x, .int .i64 y] 23)) w.heap.size 23 #[.int .i64 c, .int .i64 n, .int .i64 o, .int .i64 x, .int .i64 y]) := Bkk.new w
  have TB := Lib.hid ht
  obtain ⟨L, hL⟩ : ∃ L, putT ⟨c, n, o, x, y⟩ = L := ⟨_, rfl⟩
  have HL := Lib.hid hL
  clear ht hL
  go_enter Tryd.func3, Tryd.ntmps3
  go_wp2_with (fail)
  refine (toReq c n o x y _).mono ?_
  rintro e w1 ⟨rfl, hb⟩
  have Z1 := Lib.hid (Below.and Z0.out hb)
  have K1 := Lib.hid (K0.out.below hb)
  clear hb
  go_wp2_with (fail)
  refine (specReqPut ⟨c, n, o, x, y⟩ _).mono ?_
  rintro e w2 ⟨rfl, hb⟩
  rw [HL.out]
  have Z1 := Lib.hid (Below.and Z1.out hb)
  have K1 := Lib.hid (K1.out.below hb)
  clear hb
  have x0' : w2.cell? ⟨w.heap.size, 0, none⟩ = some (.int .i64 c) := K1.out.cell 0
  have x1' : w2.cell? ⟨w.heap.size, 1, none⟩ = some (.int .i64 n) := K1.out.cell 1
  have x2' : w2.cell? ⟨w.heap.size, 2, none⟩ = some (.int .i64 o) := K1.out.cell 2
  have x3' : w2.cell? ⟨w.heap.size, 3, none⟩ = some (.int .i64 x) := K1.out.cell 3
  have x4' : w2.cell? ⟨w.heap.size, 4, none⟩ = some (.int .i64 y) := K1.out.cell 4
  go_wp2_with (fail)
  refine (toReq c n o x y _).mono ?_
  rintro e w3 ⟨rfl, hb⟩
  have Z1 := Lib.hid (Below.and Z1.out hb)
  clear hb
  go_wp2_with (fail)
  refine (implReqPut ⟨c, n, o, x, y⟩ _ (TB.out.below Z1.out)).mono ?_
  rintro e w4 ⟨rfl, hb⟩
  rw [HL.out]
  have Z1 := Lib.hid (Below.and Z1.out hb)
  clear hb
  go_wp2
  go_light
  go_ret
  exact ⟨rfl, Z1.out⟩

end Go.Proofs.YtolepfbhhmganaaDoor
