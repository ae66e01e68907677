/- A request performed upon a board: the program's way, whole. -/
import Derived.Test.YthjiooocahdfpaaGzl
namespace Go.Proofs.Ythjiooocahdfpaa
open Go.ChangeShapes Go.WideShapes Go.ChangeAt Go.RowKit
set_option linter.unusedVariables false
set_option linter.unusedSimpArgs false

set_option maxRecDepth 100000 in
set_option maxHeartbeats 4000000 in
theorem perfAct2 {w : World} {p lo : Nat} {A : Option Addr} {a : Nat} {B : Option Addr} {b : Nat} {C : Option Addr} {d : Nat} {E : List Fig} {F L : List Int} (h : Bd w p lo A a B b C d E F L) (he : OkE E) (rc rn rx ry : Int) (k : Nat) (hk : k < E.length) (ha : atF rc E = some k)
    (hm : ∀ w0 : World, Bd w0 p lo A a B b C d E F L → Calls Try.prog 69 #[.agg #[.pointer (some ⟨p, 0, none⟩), .int .i64 (k : Int)], .agg #[.int .i64 rc, .int .i64 rn, .int .i64 2, .int .i64 rx, .int .i64 ry]] w0 (ActB p lo A a B b C d L (actG E F L k (E[k]'hk) ⟨rc, rn, 2, rx, ry⟩) w0)) :
    Calls Try.prog 41 #[.pointer (some ⟨p, 0, none⟩), .agg #[.int .i64 rc, .int .i64 rn, .int .i64 2, .int .i64 rx, .int .i64 ry]] w (StepB p lo B b C d L (actG E F L k (E[k]'hk) ⟨rc, rn, 2, rx, ry⟩) w) := by
  have B0 : Below w.heap.size w (w.alloc (.cells #[.int .i64 rc, .int .i64 rn, .int .i64 2, .int .i64 rx, .int .i64 ry] 35)) := (Below.refl _ _).alloc (Nat.le_refl _) _
  have H0 := Lib.hid (h.below B0)
  have LW := Lib.hid h.low
  have R0 : Hid (Bkk (w.alloc (.cells #[.int .i64 rc, .int .i64 rn, .int .i64 2, .int .i64 rx, .int .i64 ry] 35)) w.heap.size 35 #[.int .i64 rc, .int .i64 rn, .int .i64 2, .int .i64 rx, .int .i64 ry]) := Bkk.new w
  have FO := Lib.hid (figureOf p A a E rc (w.alloc (.cells #[.int .i64 rc, .int .i64 rn, .int .i64 2, .int .i64 rx, .int .i64 ry] 35)) he (RdF.of_own H0.out.e) H0.out.at_.cells.1)
  rw [ha, atF_lt he ha] at FO
  have FO : Hid (Calls Try.prog 68 #[.pointer (some ⟨p, 0, none⟩), .int .i64 rc] (w.alloc (.cells #[.int .i64 rc, .int .i64 rn, .int .i64 2, .int .i64 rx, .int .i64 ry] 35)) fun r w' => r = .returned (.tuple #[.agg #[.pointer (some ⟨p, 0, none⟩), .int .i64 (k : Int)], .bool true]) ∧ Below (w.alloc (.cells #[.int .i64 rc, .int .i64 rn, .int .i64 2, .int .i64 rx, .int .i64 ry] 35)).heap.size (w.alloc (.cells #[.int .i64 rc, .int .i64 rn, .int .i64 2, .int .i64 rx, .int .i64 ry] 35)) w') := FO
  have B0 := Lib.hid B0
  have HM := Lib.hid hm
  have hmm := @run_makeMap Try.prog
  obtain ⟨X, hX⟩ : ∃ X, X = actG E F L k (E[k]'hk) ⟨rc, rn, 2, rx, ry⟩ := ⟨_, rfl⟩
  rw [← hX] at HM ⊢
  clear h he ha hm hX
  go_enter Try.func41, Try.ntmps41
  go_wp2_with (fail)
  refine FO.out.mono ?_
  rintro e wa ⟨rfl, hb⟩
  clear FO
  have BA := Lib.hid (Below.and B0.out hb)
  have HA := Lib.hid (H0.out.below hb)
  have RA := Lib.hid (R0.out.below hb)
  have lr0 : w.heap.size < wa.heap.size := by have := hb.size; simp at this; omega
  clear hb H0 R0 B0
  have x2 : wa.cell? ⟨w.heap.size, 2, none⟩ = some (.int .i64 2) := RA.out.cell 2
  obtain ⟨W3, W4, W5, W6, r2, r3, r4, r5, r6, b6, s6⟩ := acts_made (wa.alloc (.cells #[.pointer (some ⟨p, 0, none⟩), .int .i64 (k : Int)] 87))
  have e1 : (wa.alloc (.cells #[.pointer (some ⟨p, 0, none⟩), .int .i64 (k : Int)] 87)).heap.size = wa.heap.size + 1 := by simp
  rw [e1] at r2 r3 r4 r5 r6 s6
  have B1 : Below wa.heap.size wa (wa.alloc (.cells #[.pointer (some ⟨p, 0, none⟩), .int .i64 (k : Int)] 87)) := (Below.refl _ _).alloc (Nat.le_refl _) _
  have B6 := Lib.hid (Below.and B1 b6)
  have K6 : Hid (Bkk W6 wa.heap.size 87 #[.pointer (some ⟨p, 0, none⟩), .int .i64 (k : Int)]) := (Bkk.new wa).below b6
  have R6 := Lib.hid (RA.out.below B6.out)
  have H6 := Lib.hid (HA.out.below B6.out)
  have BW := Lib.hid (Below.and BA.out B6.out)
  have l1 := (r6 W6 (Below.refl _ _)).1
  have l2 := (r6 W6 (Below.refl _ _)).2.1
  have l3 := (r6 W6 (Below.refl _ _)).2.2.1
  have l4 := (r6 W6 (Below.refl _ _)).2.2.2
  have S6 := Lib.hid s6
  clear r6 b6 e1 s6 B1
  have y0 : W6.cell? ⟨w.heap.size, 0, none⟩ = some (.int .i64 rc) := R6.out.cell 0
  have y1 : W6.cell? ⟨w.heap.size, 1, none⟩ = some (.int .i64 rn) := R6.out.cell 1
  have y2 : W6.cell? ⟨w.heap.size, 2, none⟩ = some (.int .i64 2) := R6.out.cell 2
  have y3 : W6.cell? ⟨w.heap.size, 3, none⟩ = some (.int .i64 rx) := R6.out.cell 3
  have y4 : W6.cell? ⟨w.heap.size, 4, none⟩ = some (.int .i64 ry) := R6.out.cell 4
  have z0 : W6.cell? ⟨wa.heap.size, 0, none⟩ = some (.pointer (some ⟨p, 0, none⟩)) := K6.out.cell 0
  have z1 : W6.cell? ⟨wa.heap.size, 1, none⟩ = some (.int .i64 (k : Int)) := K6.out.cell 1
  go_wp2_with (fail)
  refine (HM.out W6 H6.out).mono ?_
  unfold ActB
  rintro e wb ⟨rfl, hB, hb⟩
  have HBd := Lib.hid hB
  have HBb := Lib.hid hb
  clear hB hb
  go_wp2
  go_ret
  exact ⟨rfl, ⟨A, a, HBd.out⟩, (BW.out.mono LW.out).trans HBb.out⟩

set_option maxRecDepth 100000 in
set_option maxHeartbeats 4000000 in
theorem perfAct3 {w : World} {p lo : Nat} {A : Option Addr} {a : Nat} {B : Option Addr} {b : Nat} {C : Option Addr} {d : Nat} {E : List Fig} {F L : List Int} (h : Bd w p lo A a B b C d E F L) (he : OkE E) (rc rn rx ry : Int) (k : Nat) (hk : k < E.length) (ha : atF rc E = some k)
    (hm : ∀ w0 : World, Bd w0 p lo A a B b C d E F L → Calls Try.prog 70 #[.agg #[.pointer (some ⟨p, 0, none⟩), .int .i64 (k : Int)], .agg #[.int .i64 rc, .int .i64 rn, .int .i64 3, .int .i64 rx, .int .i64 ry]] w0 (ActB p lo A a B b C d L (actG E F L k (E[k]'hk) ⟨rc, rn, 3, rx, ry⟩) w0)) :
    Calls Try.prog 41 #[.pointer (some ⟨p, 0, none⟩), .agg #[.int .i64 rc, .int .i64 rn, .int .i64 3, .int .i64 rx, .int .i64 ry]] w (StepB p lo B b C d L (actG E F L k (E[k]'hk) ⟨rc, rn, 3, rx, ry⟩) w) := by
  have B0 : Below w.heap.size w (w.alloc (.cells #[.int .i64 rc, .int .i64 rn, .int .i64 3, .int .i64 rx, .int .i64 ry] 35)) := (Below.refl _ _).alloc (Nat.le_refl _) _
  have H0 := Lib.hid (h.below B0)
  have LW := Lib.hid h.low
  have R0 : Hid (Bkk (w.alloc (.cells #[.int .i64 rc, .int .i64 rn, .int .i64 3, .int .i64 rx, .int .i64 ry] 35)) w.heap.size 35 #[.int .i64 rc, .int .i64 rn, .int .i64 3, .int .i64 rx, .int .i64 ry]) := Bkk.new w
  have FO := Lib.hid (figureOf p A a E rc (w.alloc (.cells #[.int .i64 rc, .int .i64 rn, .int .i64 3, .int .i64 rx, .int .i64 ry] 35)) he (RdF.of_own H0.out.e) H0.out.at_.cells.1)
  rw [ha, atF_lt he ha] at FO
  have FO : Hid (Calls Try.prog 68 #[.pointer (some ⟨p, 0, none⟩), .int .i64 rc] (w.alloc (.cells #[.int .i64 rc, .int .i64 rn, .int .i64 3, .int .i64 rx, .int .i64 ry] 35)) fun r w' => r = .returned (.tuple #[.agg #[.pointer (some ⟨p, 0, none⟩), .int .i64 (k : Int)], .bool true]) ∧ Below (w.alloc (.cells #[.int .i64 rc, .int .i64 rn, .int .i64 3, .int .i64 rx, .int .i64 ry] 35)).heap.size (w.alloc (.cells #[.int .i64 rc, .int .i64 rn, .int .i64 3, .int .i64 rx, .int .i64 ry] 35)) w') := FO
  have B0 := Lib.hid B0
  have HM := Lib.hid hm
  have hmm := @run_makeMap Try.prog
  obtain ⟨X, hX⟩ : ∃ X, X = actG E F L k (E[k]'hk) ⟨rc, rn, 3, rx, ry⟩ := ⟨_, rfl⟩
  rw [← hX] at HM ⊢
  clear h he ha hm hX
  go_enter Try.func41, Try.ntmps41
  go_wp2_with (fail)
  refine FO.out.mono ?_
  rintro e wa ⟨rfl, hb⟩
  clear FO
  have BA := Lib.hid (Below.and B0.out hb)
  have HA := Lib.hid (H0.out.below hb)
  have RA := Lib.hid (R0.out.below hb)
  have lr0 : w.heap.size < wa.heap.size := by have := hb.size; simp at this; omega
  clear hb H0 R0 B0
  have x2 : wa.cell? ⟨w.heap.size, 2, none⟩ = some (.int .i64 3) := RA.out.cell 2
  obtain ⟨W3, W4, W5, W6, r2, r3, r4, r5, r6, b6, s6⟩ := acts_made (wa.alloc (.cells #[.pointer (some ⟨p, 0, none⟩), .int .i64 (k : Int)] 87))
  have e1 : (wa.alloc (.cells #[.pointer (some ⟨p, 0, none⟩), .int .i64 (k : Int)] 87)).heap.size = wa.heap.size + 1 := by simp
  rw [e1] at r2 r3 r4 r5 r6 s6
  have B1 : Below wa.heap.size wa (wa.alloc (.cells #[.pointer (some ⟨p, 0, none⟩), .int .i64 (k : Int)] 87)) := (Below.refl _ _).alloc (Nat.le_refl _) _
  have B6 := Lib.hid (Below.and B1 b6)
  have K6 : Hid (Bkk W6 wa.heap.size 87 #[.pointer (some ⟨p, 0, none⟩), .int .i64 (k : Int)]) := (Bkk.new wa).below b6
  have R6 := Lib.hid (RA.out.below B6.out)
  have H6 := Lib.hid (HA.out.below B6.out)
  have BW := Lib.hid (Below.and BA.out B6.out)
  have l1 := (r6 W6 (Below.refl _ _)).1
  have l2 := (r6 W6 (Below.refl _ _)).2.1
  have l3 := (r6 W6 (Below.refl _ _)).2.2.1
  have l4 := (r6 W6 (Below.refl _ _)).2.2.2
  have S6 := Lib.hid s6
  clear r6 b6 e1 s6 B1
  have y0 : W6.cell? ⟨w.heap.size, 0, none⟩ = some (.int .i64 rc) := R6.out.cell 0
  have y1 : W6.cell? ⟨w.heap.size, 1, none⟩ = some (.int .i64 rn) := R6.out.cell 1
  have y2 : W6.cell? ⟨w.heap.size, 2, none⟩ = some (.int .i64 3) := R6.out.cell 2
  have y3 : W6.cell? ⟨w.heap.size, 3, none⟩ = some (.int .i64 rx) := R6.out.cell 3
  have y4 : W6.cell? ⟨w.heap.size, 4, none⟩ = some (.int .i64 ry) := R6.out.cell 4
  have z0 : W6.cell? ⟨wa.heap.size, 0, none⟩ = some (.pointer (some ⟨p, 0, none⟩)) := K6.out.cell 0
  have z1 : W6.cell? ⟨wa.heap.size, 1, none⟩ = some (.int .i64 (k : Int)) := K6.out.cell 1
  go_wp2_with (fail)
  refine (HM.out W6 H6.out).mono ?_
  unfold ActB
  rintro e wb ⟨rfl, hB, hb⟩
  have HBd := Lib.hid hB
  have HBb := Lib.hid hb
  clear hB hb
  go_wp2
  go_ret
  exact ⟨rfl, ⟨A, a, HBd.out⟩, (BW.out.mono LW.out).trans HBb.out⟩

set_option maxRecDepth 100000 in
set_option maxHeartbeats 4000000 in
theorem perfAct4 {w : World} {p lo : Nat} {A : Option Addr} {a : Nat} {B : Option Addr} {b : Nat} {C : Option Addr} {d : Nat} {E : List Fig} {F L : List Int} (h : Bd w p lo A a B b C d E F L) (he : OkE E) (rc rn rx ry : Int) (k : Nat) (hk : k < E.length) (ha : atF rc E = some k)
    (hm : ∀ w0 : World, Bd w0 p lo A a B b C d E F L → Calls Try.prog 71 #[.agg #[.pointer (some ⟨p, 0, none⟩), .int .i64 (k : Int)], .agg #[.int .i64 rc, .int .i64 rn, .int .i64 4, .int .i64 rx, .int .i64 ry]] w0 (ActB p lo A a B b C d L (actG E F L k (E[k]'hk) ⟨rc, rn, 4, rx, ry⟩) w0)) :
    Calls Try.prog 41 #[.pointer (some ⟨p, 0, none⟩), .agg #[.int .i64 rc, .int .i64 rn, .int .i64 4, .int .i64 rx, .int .i64 ry]] w (StepB p lo B b C d L (actG E F L k (E[k]'hk) ⟨rc, rn, 4, rx, ry⟩) w) := by
  have B0 : Below w.heap.size w (w.alloc (.cells #[.int .i64 rc, .int .i64 rn, .int .i64 4, .int .i64 rx, .int .i64 ry] 35)) := (Below.refl _ _).alloc (Nat.le_refl _) _
  have H0 := Lib.hid (h.below B0)
  have LW := Lib.hid h.low
  have R0 : Hid (Bkk (w.alloc (.cells #[.int .i64 rc, .int .i64 rn, .int .i64 4, .int .i64 rx, .int .i64 ry] 35)) w.heap.size 35 #[.int .i64 rc, .int .i64 rn, .int .i64 4, .int .i64 rx, .int .i64 ry]) := Bkk.new w
  have FO := Lib.hid (figureOf p A a E rc (w.alloc (.cells #[.int .i64 rc, .int .i64 rn, .int .i64 4, .int .i64 rx, .int .i64 ry] 35)) he (RdF.of_own H0.out.e) H0.out.at_.cells.1)
  rw [ha, atF_lt he ha] at FO
  have FO : Hid (Calls Try.prog 68 #[.pointer (some ⟨p, 0, none⟩), .int .i64 rc] (w.alloc (.cells #[.int .i64 rc, .int .i64 rn, .int .i64 4, .int .i64 rx, .int .i64 ry] 35)) fun r w' => r = .returned (.tuple #[.agg #[.pointer (some ⟨p, 0, none⟩), .int .i64 (k : Int)], .bool true]) ∧ Below (w.alloc (.cells #[.int .i64 rc, .int .i64 rn, .int .i64 4, .int .i64 rx, .int .i64 ry] 35)).heap.size (w.alloc (.cells #[.int .i64 rc, .int .i64 rn, .int .i64 4, .int .i64 rx, .int .i64 ry] 35)) w') := FO
  have B0 := Lib.hid B0
  have HM := Lib.hid hm
  have hmm := @run_makeMap Try.prog
  obtain ⟨X, hX⟩ : ∃ X, X = actG E F L k (E[k]'hk) ⟨rc, rn, 4, rx, ry⟩ := ⟨_, rfl⟩
  rw [← hX] at HM ⊢
  clear h he ha hm hX
  go_enter Try.func41, Try.ntmps41
  go_wp2_with (fail)
  refine FO.out.mono ?_
  rintro e wa ⟨rfl, hb⟩
  clear FO
  have BA := Lib.hid (Below.and B0.out hb)
  have HA := Lib.hid (H0.out.below hb)
  have RA := Lib.hid (R0.out.below hb)
  have lr0 : w.heap.size < wa.heap.size := by have := hb.size; simp at this; omega
  clear hb H0 R0 B0
  have x2 : wa.cell? ⟨w.heap.size, 2, none⟩ = some (.int .i64 4) := RA.out.cell 2
  obtain ⟨W3, W4, W5, W6, r2, r3, r4, r5, r6, b6, s6⟩ := acts_made (wa.alloc (.cells #[.pointer (some ⟨p, 0, none⟩), .int .i64 (k : Int)] 87))
  have e1 : (wa.alloc (.cells #[.pointer (some ⟨p, 0, none⟩), .int .i64 (k : Int)] 87)).heap.size = wa.heap.size + 1 := by simp
  rw [e1] at r2 r3 r4 r5 r6 s6
  have B1 : Below wa.heap.size wa (wa.alloc (.cells #[.pointer (some ⟨p, 0, none⟩), .int .i64 (k : Int)] 87)) := (Below.refl _ _).alloc (Nat.le_refl _) _
  have B6 := Lib.hid (Below.and B1 b6)
  have K6 : Hid (Bkk W6 wa.heap.size 87 #[.pointer (some ⟨p, 0, none⟩), .int .i64 (k : Int)]) := (Bkk.new wa).below b6
  have R6 := Lib.hid (RA.out.below B6.out)
  have H6 := Lib.hid (HA.out.below B6.out)
  have BW := Lib.hid (Below.and BA.out B6.out)
  have l1 := (r6 W6 (Below.refl _ _)).1
  have l2 := (r6 W6 (Below.refl _ _)).2.1
  have l3 := (r6 W6 (Below.refl _ _)).2.2.1
  have l4 := (r6 W6 (Below.refl _ _)).2.2.2
  have S6 := Lib.hid s6
  clear r6 b6 e1 s6 B1
  have y0 : W6.cell? ⟨w.heap.size, 0, none⟩ = some (.int .i64 rc) := R6.out.cell 0
  have y1 : W6.cell? ⟨w.heap.size, 1, none⟩ = some (.int .i64 rn) := R6.out.cell 1
  have y2 : W6.cell? ⟨w.heap.size, 2, none⟩ = some (.int .i64 4) := R6.out.cell 2
  have y3 : W6.cell? ⟨w.heap.size, 3, none⟩ = some (.int .i64 rx) := R6.out.cell 3
  have y4 : W6.cell? ⟨w.heap.size, 4, none⟩ = some (.int .i64 ry) := R6.out.cell 4
  have z0 : W6.cell? ⟨wa.heap.size, 0, none⟩ = some (.pointer (some ⟨p, 0, none⟩)) := K6.out.cell 0
  have z1 : W6.cell? ⟨wa.heap.size, 1, none⟩ = some (.int .i64 (k : Int)) := K6.out.cell 1
  go_wp2_with (fail)
  refine (HM.out W6 H6.out).mono ?_
  unfold ActB
  rintro e wb ⟨rfl, hB, hb⟩
  have HBd := Lib.hid hB
  have HBb := Lib.hid hb
  clear hB hb
  go_wp2
  go_ret
  exact ⟨rfl, ⟨A, a, HBd.out⟩, (BW.out.mono LW.out).trans HBb.out⟩

set_option maxRecDepth 100000 in
set_option maxHeartbeats 4000000 in
theorem perfAct5 {w : World} {p lo : Nat} {A : Option Addr} {a : Nat} {B : Option Addr} {b : Nat} {C : Option Addr} {d : Nat} {E : List Fig} {F L : List Int} (h : Bd w p lo A a B b C d E F L) (he : OkE E) (rc rn rx ry : Int) (k : Nat) (hk : k < E.length) (ha : atF rc E = some k)
    (hm : ∀ w0 : World, Bd w0 p lo A a B b C d E F L → Calls Try.prog 72 #[.agg #[.pointer (some ⟨p, 0, none⟩), .int .i64 (k : Int)], .agg #[.int .i64 rc, .int .i64 rn, .int .i64 5, .int .i64 rx, .int .i64 ry]] w0 (ActB p lo A a B b C d L (actG E F L k (E[k]'hk) ⟨rc, rn, 5, rx, ry⟩) w0)) :
    Calls Try.prog 41 #[.pointer (some ⟨p, 0, none⟩), .agg #[.int .i64 rc, .int .i64 rn, .int .i64 5, .int .i64 rx, .int .i64 ry]] w (StepB p lo B b C d L (actG E F L k (E[k]'hk) ⟨rc, rn, 5, rx, ry⟩) w) := by
  have B0 : Below w.heap.size w (w.alloc (.cells #[.int .i64 rc, .int .i64 rn, .int .i64 5, .int .i64 rx, .int .i64 ry] 35)) := (Below.refl _ _).alloc (Nat.le_refl _) _
  have H0 := Lib.hid (h.below B0)
  have LW := Lib.hid h.low
  have R0 : Hid (Bkk (w.alloc (.cells #[.int .i64 rc, .int .i64 rn, .int .i64 5, .int .i64 rx, .int .i64 ry] 35)) w.heap.size 35 #[.int .i64 rc, .int .i64 rn, .int .i64 5, .int .i64 rx, .int .i64 ry]) := Bkk.new w
  have FO := Lib.hid (figureOf p A a E rc (w.alloc (.cells #[.int .i64 rc, .int .i64 rn, .int .i64 5, .int .i64 rx, .int .i64 ry] 35)) he (RdF.of_own H0.out.e) H0.out.at_.cells.1)
  rw [ha, atF_lt he ha] at FO
  have FO : Hid (Calls Try.prog 68 #[.pointer (some ⟨p, 0, none⟩), .int .i64 rc] (w.alloc (.cells #[.int .i64 rc, .int .i64 rn, .int .i64 5, .int .i64 rx, .int .i64 ry] 35)) fun r w' => r = .returned (.tuple #[.agg #[.pointer (some ⟨p, 0, none⟩), .int .i64 (k : Int)], .bool true]) ∧ Below (w.alloc (.cells #[.int .i64 rc, .int .i64 rn, .int .i64 5, .int .i64 rx, .int .i64 ry] 35)).heap.size (w.alloc (.cells #[.int .i64 rc, .int .i64 rn, .int .i64 5, .int .i64 rx, .int .i64 ry] 35)) w') := FO
  have B0 := Lib.hid B0
  have HM := Lib.hid hm
  have hmm := @run_makeMap Try.prog
  obtain ⟨X, hX⟩ : ∃ X, X = actG E F L k (E[k]'hk) ⟨rc, rn, 5, rx, ry⟩ := ⟨_, rfl⟩
  rw [← hX] at HM ⊢
  clear h he ha hm hX
  go_enter Try.func41, Try.ntmps41
  go_wp2_with (fail)
  refine FO.out.mono ?_
  rintro e wa ⟨rfl, hb⟩
  clear FO
  have BA := Lib.hid (Below.and B0.out hb)
  have HA := Lib.hid (H0.out.below hb)
  have RA := Lib.hid (R0.out.below hb)
  have lr0 : w.heap.size < wa.heap.size := by have := hb.size; simp at this; omega
  clear hb H0 R0 B0
  have x2 : wa.cell? ⟨w.heap.size, 2, none⟩ = some (.int .i64 5) := RA.out.cell 2
  obtain ⟨W3, W4, W5, W6, r2, r3, r4, r5, r6, b6, s6⟩ := acts_made (wa.alloc (.cells #[.pointer (some ⟨p, 0, none⟩), .int .i64 (k : Int)] 87))
  have e1 : (wa.alloc (.cells #[.pointer (some ⟨p, 0, none⟩), .int .i64 (k : Int)] 87)).heap.size = wa.heap.size + 1 := by simp
  rw [e1] at r2 r3 r4 r5 r6 s6
  have B1 : Below wa.heap.size wa (wa.alloc (.cells #[.pointer (some ⟨p, 0, none⟩), .int .i64 (k : Int)] 87)) := (Below.refl _ _).alloc (Nat.le_refl _) _
  have B6 := Lib.hid (Below.and B1 b6)
  have K6 : Hid (Bkk W6 wa.heap.size 87 #[.pointer (some ⟨p, 0, none⟩), .int .i64 (k : Int)]) := (Bkk.new wa).below b6
  have R6 := Lib.hid (RA.out.below B6.out)
  have H6 := Lib.hid (HA.out.below B6.out)
  have BW := Lib.hid (Below.and BA.out B6.out)
  have l1 := (r6 W6 (Below.refl _ _)).1
  have l2 := (r6 W6 (Below.refl _ _)).2.1
  have l3 := (r6 W6 (Below.refl _ _)).2.2.1
  have l4 := (r6 W6 (Below.refl _ _)).2.2.2
  have S6 := Lib.hid s6
  clear r6 b6 e1 s6 B1
  have y0 : W6.cell? ⟨w.heap.size, 0, none⟩ = some (.int .i64 rc) := R6.out.cell 0
  have y1 : W6.cell? ⟨w.heap.size, 1, none⟩ = some (.int .i64 rn) := R6.out.cell 1
  have y2 : W6.cell? ⟨w.heap.size, 2, none⟩ = some (.int .i64 5) := R6.out.cell 2
  have y3 : W6.cell? ⟨w.heap.size, 3, none⟩ = some (.int .i64 rx) := R6.out.cell 3
  have y4 : W6.cell? ⟨w.heap.size, 4, none⟩ = some (.int .i64 ry) := R6.out.cell 4
  have z0 : W6.cell? ⟨wa.heap.size, 0, none⟩ = some (.pointer (some ⟨p, 0, none⟩)) := K6.out.cell 0
  have z1 : W6.cell? ⟨wa.heap.size, 1, none⟩ = some (.int .i64 (k : Int)) := K6.out.cell 1
  go_wp2_with (fail)
  refine (HM.out W6 H6.out).mono ?_
  unfold ActB
  rintro e wb ⟨rfl, hB, hb⟩
  have HBd := Lib.hid hB
  have HBb := Lib.hid hb
  clear hB hb
  go_wp2
  go_ret
  exact ⟨rfl, ⟨A, a, HBd.out⟩, (BW.out.mono LW.out).trans HBb.out⟩

set_option maxRecDepth 100000 in
set_option maxHeartbeats 2000000 in
theorem perfOff {w : World} {p lo : Nat} {A : Option Addr} {a : Nat} {B : Option Addr} {b : Nat} {C : Option Addr} {d : Nat} {E : List Fig} {F L : List Int} (h : Bd w p lo A a B b C d E F L) (he : OkE E) (rc rn ro rx ry : Int) (ho : ro ≠ 1) (ha : atF rc E = none) :
    Calls Try.prog 41 #[.pointer (some ⟨p, 0, none⟩), .agg #[.int .i64 rc, .int .i64 rn, .int .i64 ro, .int .i64 rx, .int .i64 ry]] w (StepB p lo B b C d L ((E, F, L), 5) w) := by
  have B0 : Below w.heap.size w (w.alloc (.cells #[.int .i64 rc, .int .i64 rn, .int .i64 ro, .int .i64 rx, .int .i64 ry] 35)) := (Below.refl _ _).alloc (Nat.le_refl _) _
  have H0 := Lib.hid (h.below B0)
  have LW := Lib.hid h.low
  have R0 : Hid (Bkk (w.alloc (.cells #[.int .i64 rc, .int .i64 rn, .int .i64 ro, .int .i64 rx, .int .i64 ry] 35)) w.heap.size 35 #[.int .i64 rc, .int .i64 rn, .int .i64 ro, .int .i64 rx, .int .i64 ry]) := Bkk.new w
  have FO := Lib.hid (figureOf p A a E rc (w.alloc (.cells #[.int .i64 rc, .int .i64 rn, .int .i64 ro, .int .i64 rx, .int .i64 ry] 35)) he (RdF.of_own H0.out.e) H0.out.at_.cells.1)
  rw [ha] at FO
  have FO : Hid (Calls Try.prog 68 #[.pointer (some ⟨p, 0, none⟩), .int .i64 rc] (w.alloc (.cells #[.int .i64 rc, .int .i64 rn, .int .i64 ro, .int .i64 rx, .int .i64 ry] 35)) fun r w' => r = .returned (.tuple #[.agg #[.pointer (some ⟨p, 0, none⟩), .int .i64 ((ltF rc E : Nat) : Int)], .bool false]) ∧ Below (w.alloc (.cells #[.int .i64 rc, .int .i64 rn, .int .i64 ro, .int .i64 rx, .int .i64 ry] 35)).heap.size (w.alloc (.cells #[.int .i64 rc, .int .i64 rn, .int .i64 ro, .int .i64 rx, .int .i64 ry] 35)) w') := FO
  have B0 := Lib.hid B0
  have e1 : (ro == 1) = false := by simpa using ho
  clear h he ha
  go_enter Try.func41, Try.ntmps41
  go_wp2_with (fail)
  refine FO.out.mono ?_
  rintro e wa ⟨rfl, hb⟩
  clear FO
  have BA := Lib.hid (Below.and B0.out hb)
  have HA := Lib.hid (H0.out.below hb)
  have HC := Lib.hid (HA.out.below ((Below.refl wa.heap.size wa).alloc (Nat.le_refl _) (.cells #[.pointer (some ⟨p, 0, none⟩), .int .i64 ((ltF rc E : Nat) : Int)] 87)))
  clear hb H0 R0 B0
  go_wp2
  go_ret
  exact ⟨rfl, ⟨A, a, HC.out⟩, (BA.out.mono LW.out).alloc (Nat.le_trans LW.out BA.out.size) _⟩

set_option maxRecDepth 100000 in
set_option maxHeartbeats 2000000 in
theorem perfJoin {w : World} {p lo : Nat} {A : Option Addr} {a : Nat} {B : Option Addr} {b : Nat} {C : Option Addr} {d : Nat} {E : List Fig} {F L : List Int} (h : Bd w p lo A a B b C d E F L) (he : OkE E) (rc rn rx ry : Int) (X : Gm × Int)
    (hj : ∀ w0 : World, Bd w0 p lo A a B b C d E F L → Calls Try.prog 67 #[.pointer (some ⟨p, 0, none⟩), .int .i64 rc] w0 (StepB p lo B b C d L X w0)) :
    Calls Try.prog 41 #[.pointer (some ⟨p, 0, none⟩), .agg #[.int .i64 rc, .int .i64 rn, .int .i64 1, .int .i64 rx, .int .i64 ry]] w (StepB p lo B b C d L X w) := by
  have B0 : Below w.heap.size w (w.alloc (.cells #[.int .i64 rc, .int .i64 rn, .int .i64 1, .int .i64 rx, .int .i64 ry] 35)) := (Below.refl _ _).alloc (Nat.le_refl _) _
  have H0 := Lib.hid (h.below B0)
  have LW := Lib.hid h.low
  have B0 := Lib.hid B0
  have HJ := Lib.hid hj
  clear h he hj
  go_enter Try.func41, Try.ntmps41
  go_wp2_with (fail)
  refine (HJ.out _ H0.out).mono ?_
  unfold StepB
  rintro e wa ⟨rfl, hB, hb⟩
  have HBd := Lib.hid hB
  have HBb := Lib.hid hb
  clear hB hb
  go_wp2
  go_ret
  exact ⟨rfl, HBd.out, (B0.out.mono LW.out).trans HBb.out⟩

/-- perform, whole. -/
theorem performI {w : World} {p lo : Nat} {A : Option Addr} {a : Nat} {B : Option Addr} {b : Nat} {C : Option Addr} {d : Nat} {E : List Fig} {F L : List Int} (h : Bd w p lo A a B b C d E F L) (he : OkE E) (hf : OkF F) (rc rn ro rx ry : Int) (hr : reqB rc rn ro rx ry = true) :
    Calls Try.prog 41 #[.pointer (some ⟨p, 0, none⟩), .agg #[.int .i64 rc, .int .i64 rn, .int .i64 ro, .int .i64 rx, .int .i64 ry]] w (StepB p lo B b C d L (perfG E F L ⟨rc, rn, ro, rx, ry⟩) w) := by
  simp only [reqB, inB, Bool.and_eq_true, decide_eq_true_eq] at hr
  obtain ⟨hc, hn, hs⟩ := hr
  by_cases h1 : ro = 1
  · subst h1
    rcases hat : atF rc E with _ | k
    · have hA : perfG E F L ⟨rc, rn, 1, rx, ry⟩ = ((E.take (ltF rc E) ++ ⟨rc, rc - 1, rc - 1, 3, 0⟩ :: E.drop (ltF rc E), F, L), 0) := by simp [perfG, hat]
      rw [hA]
      exact perfJoin h he rc rn rx ry _ (fun w0 h0 => joinYes h0 he rc hc hat)
    · have hA : perfG E F L ⟨rc, rn, 1, rx, ry⟩ = ((E, F, L), 4) := by simp [perfG, hat]
      rw [hA]
      exact perfJoin h he rc rn rx ry _ (fun w0 h0 => joinNo h0 he rc k hat)
  rcases hat : atF rc E with _ | k
  · have hA : perfG E F L ⟨rc, rn, ro, rx, ry⟩ = ((E, F, L), 5) := by simp [perfG, hat, h1]
    rw [hA]
    exact perfOff h he rc rn ro rx ry h1 hat
  obtain ⟨hk, _, _⟩ := atF_some hat
  have hA : perfG E F L ⟨rc, rn, ro, rx, ry⟩ = actG E F L k (E[k]'hk) ⟨rc, rn, ro, rx, ry⟩ := by simp [perfG, hat, h1, List.getElem?_eq_getElem hk]
  rw [hA]
  by_cases h2 : ro = 2
  · subst h2
    simp [shapeB, inB] at hs
    exact perfAct2 h he rc rn rx ry k hk hat (fun w0 h0 => moveAllI h0 he k hk rc rn rx ry (by omega))
  by_cases h3 : ro = 3
  · subst h3
    exact perfAct3 h he rc rn rx ry k hk hat (fun w0 h0 => takeAllI h0 he k hk rc rn rx ry hf)
  by_cases h4 : ro = 4
  · subst h4
    exact perfAct4 h he rc rn rx ry k hk hat (fun w0 h0 => hitWhole h0 he k hk rc rn rx ry hf)
  by_cases h5 : ro = 5
  · subst h5
    simp [shapeB, inB] at hs
    exact perfAct5 h he rc rn rx ry k hk hat (fun w0 h0 => giveAllI h0 he k hk rc rn rx ry (by omega))
  · simp [shapeB, h1, h2, h3, h4, h5] at hs

end Go.Proofs.Ythjiooocahdfpaa
