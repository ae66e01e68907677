/- What the laws of dice draw; the laws' own comparison of ints. -/
import Derived.Test.YtkhneligclhgaaaFh
import Derived.Test.YtkhneligclhgaaaVta
import Derived.Test.YtkhneligclhgaaaMM
namespace Go.Proofs.Ytkhneligclhgaaa
open Go.ChangeShapes Go.WideShapes Go.ChangeAt Go.RowKit
set_option linter.unusedVariables false
set_option linter.unusedSimpArgs false

theorem OwD.drawn {w w' : World} {lo R : Nat} {A : Option Addr} {a : Nat} {D : List Int} (h : OwD w lo A a D) (hR : R < lo) (hg : w.grownBy w' (some R)) : OwD w' lo A a D :=
  h.kept hg (fun e => by have := (h.ge R e).1; omega)
theorem Dr.backD {w W : World} {R : Nat} {A : Option Addr} {n c : Nat} {q : Int} {w0 : World} (h : Dr w R A n c q W) (hb : Below w0.heap.size w0 w) (hR : w0.heap.size ≤ R) : Below w0.heap.size w0 W :=
  hb.trans (Below.of_grown h.gr hb.size (fun x hx => by injection hx with hx; omega))
theorem OwD.pushD {w' : World} {lo : Nat} {D : List Int} {v' : Value} {b : Int} (ho : w'.ownsRow lo 3 1 v' (D.length + 1) (ints D ++ [b].flatMap cD)) :
    ∃ B' d', v' = .slice B' (D ++ [b]).length d' ∧ OwD w' lo B' d' (D ++ [b]) := by
  obtain ⟨A', a', rfl⟩ := own_formD ho
  have hl : D.length + 1 = (D ++ [b]).length := by simp
  have e : ints D ++ [b].flatMap cD = ints (D ++ [b]) := by simp [ints]
  rw [e, hl] at ho
  exact ⟨A', a', by rw [hl], ho⟩
theorem int_rowD (w : World) (b : Int) : Rd 1 cD (w.alloc (.cells #[.int .i64 b] 3)) (some ⟨w.heap.size, 0, none⟩) [b] := by
  intro i h
  have hi : i = 0 := by simpa using h
  subst hi
  refine ⟨w.heap.size, 0, rfl, fun j u hj => ?_⟩
  rcases j with _ | j
  · simp only [cD, List.getElem_cons_zero, List.getElem?_cons_zero, Option.some.injEq] at hj
    subst hj
    rw [cell_of_row _ _ _ _ 3 (0, 0) (heap_alloc_new w _)]
    rfl
  · simp [cD] at hj

set_option maxRecDepth 100000 in
set_option maxHeartbeats 2000000 in
theorem l20Seed {w : World} {R : Nat} {A : Option Addr} {n c : Nat} {p : Int} (h : Reader w R A n c p) (hp : p ≤ 90000) :
    Calls Try.prog 33 #[.pointer (some ⟨R, 0, none⟩)] w fun e w' => ∃ v : Int, e = .returned (.int .i64 v) ∧ Drawn w R A n c p 6 w' := by
  have DR := Lib.hid (Dr.start h)
  clear h
  go_enter Try.func33, Try.ntmps33
  go_wp2_with (fail)
  refine (pickR 256 DR.out.rd (by omega) (by omega) (by omega)).mono ?_
  rintro e w1 ⟨v0, v00, v01, rfl, q0, q00, q01, hr, hg⟩
  replace DR := Lib.hid (DR.out.draw hr hg)
  clear hr hg
  have e0 : IntKind.i64.wrap (v0 * 8388608) = v0 * 8388608 := IntWalk.i64_in _ (by omega)
  go_wp2_with (fail)
  refine (pickR 256 DR.out.rd (by omega) (by omega) (by omega)).mono ?_
  rintro e w2 ⟨v1, v10, v11, rfl, q1, q10, q11, hr, hg⟩
  replace DR := Lib.hid (DR.out.draw hr hg)
  clear hr hg
  have e1 : IntKind.i64.wrap (v1 * 32768) = v1 * 32768 := IntWalk.i64_in _ (by omega)
  have e2 : IntKind.i64.wrap (v0 * 8388608 + v1 * 32768) = v0 * 8388608 + v1 * 32768 := IntWalk.i64_in _ (by omega)
  go_wp2_with (fail)
  refine (pickR 256 DR.out.rd (by omega) (by omega) (by omega)).mono ?_
  rintro e w3 ⟨v2, v20, v21, rfl, q2, q20, q21, hr, hg⟩
  replace DR := Lib.hid (DR.out.draw hr hg)
  clear hr hg
  have e3 : IntKind.i64.wrap (v2 * 128) = v2 * 128 := IntWalk.i64_in _ (by omega)
  have e4 : IntKind.i64.wrap (v0 * 8388608 + v1 * 32768 + v2 * 128) = v0 * 8388608 + v1 * 32768 + v2 * 128 := IntWalk.i64_in _ (by omega)
  go_wp2_with (fail)
  refine (pickR 128 DR.out.rd (by omega) (by omega) (by omega)).mono ?_
  rintro e w4 ⟨v3, v30, v31, rfl, q3, q30, q31, hr, hg⟩
  replace DR := Lib.hid (DR.out.draw hr hg)
  clear hr hg
  have e5 : IntKind.i64.wrap (v0 * 8388608 + v1 * 32768 + v2 * 128 + v3) = v0 * 8388608 + v1 * 32768 + v2 * 128 + v3 := IntWalk.i64_in _ (by omega)
  go_wp2_with (fail)
  refine (pickR 14 DR.out.rd (by omega) (by omega) (by omega)).mono ?_
  rintro e w5 ⟨v4, v40, v41, rfl, q4, q40, q41, hr, hg⟩
  replace DR := Lib.hid (DR.out.draw hr hg)
  clear hr hg
  by_cases h0 : v4 = 0
  · subst h0
    have hba : Below w5.heap.size w5 (w5.alloc (.cells #[.int .i64 (-1), .int .i64 2147483648, .int .i64 0, .int .i64 2147483647] 3)) := (Below.refl _ _).alloc (Nat.le_refl _) _
    have hsz : R < w5.heap.size := DR.out.rd.lt
    replace DR := Lib.hid (DR.out.below hba)
    clear hba
    go_wp2_with (fail)
    refine (oneV w5.heap.size [-1, 2147483648, 0, 2147483647] DR.out.rd (by omega) (by simp) (by simp) (by omega) (lit_cellsV w5 3 [-1, 2147483648, 0, 2147483647])).mono ?_
    rintro e w6 ⟨v, hm, rfl, qe, qe0, qe1, hr, hg⟩
    replace DR := Lib.hid (DR.out.draw hr hg)
    have D9 := Lib.hid (Dr.out DR.out (p := p) (K := 6) (by omega) (by omega))
    clear hr hg hsz DR hm
    go_wp2
    go_light
    go_ret
    exact ⟨v, rfl, D9.out⟩
  · have e0 : (v4 == 0) = false := by simpa using h0
    have D9 := Lib.hid (Dr.out DR.out (p := p) (K := 6) (by omega) (by omega))
    clear DR
    go_wp2
    go_light
    go_ret
    exact ⟨_, rfl, D9.out⟩

set_option maxRecDepth 100000 in
set_option maxHeartbeats 2000000 in
theorem drawDiceNext {w : World} {A : Option Addr} {n c : Nat} (hn : n ≤ 1048576) (hc : n ≤ c) (hb : InB w A n) :
    Calls Try.prog 13 #[.slice A n c] w fun e w' => ∃ v : Int, e = .returned (.int .i64 v) ∧ Below w.heap.size w w' := by
  have HB := Lib.hid hb
  clear hb
  go_enter Try.func13, Try.ntmps13
  go_wp2_with (fail)
  refine (l20Open hn hc HB.out).mono ?_
  rintro e w1 ⟨m, rfl, hr, h1⟩
  have RD := Lib.hid hr
  have BA := Lib.hid h1
  clear hr h1
  obtain ⟨R, hR⟩ : ∃ R, R = w.heap.size := ⟨_, rfl⟩
  have HRw := Lib.hid (show w.heap.size ≤ R from Nat.le_of_eq hR.symm)
  rw [← hR] at RD ⊢
  clear hR
  go_wp2_with (fail)
  refine (l20Seed RD.out (by omega)).mono ?_
  rintro e w2 ⟨v, rfl, q, q0, q1, hr, hg⟩
  have BB := Lib.hid (Dr.backD ((Dr.start RD.out).draw hr hg) BA.out HRw.out)
  clear hr hg RD BA
  go_wp2
  go_light
  go_ret
  exact ⟨v, rfl, BB.out⟩

set_option maxRecDepth 100000 in
set_option maxHeartbeats 2000000 in
theorem drawDiceRoll {w : World} {A : Option Addr} {n c : Nat} (hn : n ≤ 1048576) (hc : n ≤ c) (hb : InB w A n) :
    Calls Try.prog 16 #[.slice A n c] w fun e w' => ∃ v k : Int, e = .returned (.tuple #[.int .i64 v, .int .i64 k]) ∧ Below w.heap.size w w' := by
  have HB := Lib.hid hb
  clear hb
  go_enter Try.func16, Try.ntmps16
  go_wp2_with (fail)
  refine (l20Open hn hc HB.out).mono ?_
  rintro e w1 ⟨m, rfl, hr, h1⟩
  have RD := Lib.hid hr
  have BA := Lib.hid h1
  clear hr h1
  obtain ⟨R, hR⟩ : ∃ R, R = w.heap.size := ⟨_, rfl⟩
  have HRw := Lib.hid (show w.heap.size ≤ R from Nat.le_of_eq hR.symm)
  rw [← hR] at RD ⊢
  clear hR
  go_wp2_with (fail)
  refine (l20Seed RD.out (by omega)).mono ?_
  rintro e w2 ⟨v, rfl, q, q0, q1, hr, hg⟩
  have DR := Lib.hid ((Dr.start RD.out).draw hr hg)
  clear hr hg RD
  have hba : Below w2.heap.size w2 (w2.alloc (.cells #[.int .i64 1, .int .i64 2, .int .i64 6, .int .i64 20, .int .i64 0, .int .i64 21] 3)) := (Below.refl _ _).alloc (Nat.le_refl _) _
  have hsz : R < w2.heap.size := DR.out.rd.lt
  replace DR := Lib.hid (DR.out.below hba)
  clear hba
  go_wp2_with (fail)
  refine (oneV w2.heap.size [1, 2, 6, 20, 0, 21] DR.out.rd (by omega) (by simp) (by simp) (by omega) (lit_cellsV w2 3 [1, 2, 6, 20, 0, 21])).mono ?_
  rintro e w3 ⟨k, hmk, rfl, qk, qk0, qk1, hr, hg⟩
  replace DR := Lib.hid (DR.out.draw hr hg)
  clear hr hg hsz
  have BB := Lib.hid (DR.out.backD BA.out HRw.out)
  clear DR BA hmk
  go_wp2
  go_light
  go_ret2
  exact ⟨v, k, rfl, BB.out⟩

theorem OwD.nA {w : World} {lo : Nat} {A : Option Addr} {a : Nat} {D : List Int} (h : OwD w lo A a D) : A = none → a = 0 := fun e => by
  rcases (show w.ownsRow _ _ _ _ _ _ from h).2 with ⟨h1, _⟩ | ⟨g, cap, cur, h1, _⟩
  · injection h1
  · injection h1 with h1; rw [e] at h1; cases h1

set_option maxRecDepth 100000 in
set_option maxHeartbeats 4000000 in
theorem drawDiceMix {w : World} {A : Option Addr} {n c : Nat} (hn : n ≤ 1048576) (hc : n ≤ c) (hb : InB w A n) :
    Calls Try.prog 19 #[.slice A n c] w fun e w' => ∃ (D : List Int) (B : Option Addr) (d : Nat), e = .returned (.slice B D.length d) ∧ D.length ≤ 5 ∧ OwD w' w.heap.size B d D ∧ (B = none → d = 0) ∧ Below w.heap.size w w' := by
  obtain ⟨I, hi, hz0, hz1, hz2⟩ := infoParts
  have I1 := Lib.hid hi
  have I2 := Lib.hid hz0
  have I3 := Lib.hid hz1
  have I4 := Lib.hid hz2
  clear hi hz0 hz1 hz2
  have HB := Lib.hid hb
  clear hb
  go_enter Try.func19, Try.ntmps19
  go_wp2_with (fail)
  refine (l20Open hn hc HB.out).mono ?_
  rintro e w1 ⟨n', rfl, hr, h1⟩
  have RD := Lib.hid hr
  have BA := Lib.hid h1
  clear hr h1
  obtain ⟨R, hR⟩ : ∃ R, R = w.heap.size := ⟨_, rfl⟩
  have HRw := Lib.hid (show w.heap.size ≤ R from Nat.le_of_eq hR.symm)
  rw [← hR] at RD ⊢
  clear hR
  have hba : Below w1.heap.size w1 (w1.alloc (.cells #[] 3)) := (Below.refl _ _).alloc (Nat.le_refl _) _
  have OQ : Hid (OwD (w1.alloc (.cells #[] 3)) w1.heap.size (some ⟨w1.heap.size, 0, none⟩) 0 []) := own_nil_newD w1 3 1 rfl
  have HRL := Lib.hid (show R < w1.heap.size from RD.out.lt)
  have HOld := Lib.hid RD.out.old
  have DR := Lib.hid ((Dr.start RD.out).below hba)
  have LW1 := Lib.hid (show w.heap.size ≤ w1.heap.size from BA.out.size)
  clear RD hba
  go_upto_region 3 with (fail)
  obtain ⟨w0, hw0⟩ : ∃ X, X = w1.alloc (.cells #[] 3) := ⟨_, rfl⟩
  obtain ⟨B0, hB0⟩ : ∃ X : Option Addr, X = some ⟨w1.heap.size, 0, none⟩ := ⟨_, rfl⟩
  have NB : Hid (B0 = none → 0 = 0) := fun _ => rfl
  rw [← hw0] at OQ DR ⊢
  rw [← hB0] at OQ ⊢
  clear hw0 hB0
  go_wp2_with (fail)
  refine (pickR 6 DR.out.rd (by omega) (by omega) (by omega)).mono ?_
  rintro e w2 ⟨m, m0, m1, rfl, qm, qm0, qm1, hr, hg⟩
  replace OQ := Lib.hid (OQ.out.drawn HRL.out hg)
  replace DR := Lib.hid (DR.out.draw hr hg)
  clear hr hg
  obtain ⟨m, rfl⟩ : ∃ M : Nat, m = (M : Int) := ⟨m.toNat, by omega⟩
  go_wp2
  go_loopw [4, 5] (fun u v wr => ∃ (m : Nat) (Q : List Int) (B : Option Addr) (b : Nat) (q : Int), u = .slice B Q.length b ∧ v = .int .i64 (m : Int) ∧ Q.length + m ≤ 5 ∧ 0 ≤ q ∧ q + 6 * (m : Int) ≤ 200 ∧ Hid (OwD wr w1.heap.size B b Q) ∧ Hid (Dr w1 R A n' c q wr)) (fun _ v _ => (intOf v).toNat)
  case atStart => exact ⟨m, [], B0, 0, qm, rfl, rfl, by simp; omega, by omega, by omega, OQ.out, DR.out⟩
  case round =>
    clear OQ DR
    obtain ⟨m, Q, B, b, q, rfl, rfl, hQ, hq0, hq1, OQ, DR⟩ := hrel
    rcases m with _ | m
    · have i0 : ¬ (0 : Int) < ((0 : Nat) : Int) := by omega
      have BB := Lib.hid (DR.out.backD BA.out HRw.out)
      clear DR
      go_wp2
      go_light
      go_ret
      exact ⟨Q, B, b, rfl, by omega, OQ.out.base LW1.out, OQ.out.nA, BB.out⟩
    · have i0 : (0 : Int) < ((m + 1 : Nat) : Int) := by omega
      have e9 : IntKind.i64.wrap (((m + 1 : Nat) : Int) - 1) = (m : Int) := by rw [IntWalk.i64_in _ (by omega)]; omega
      go_wp2_with (fail)
      refine (l20Seed DR.out.rd (by omega)).mono ?_
      rintro e w3 ⟨v, rfl, qs, qs0, qs1, hr, hg⟩
      replace OQ := Lib.hid (OQ.out.drawn HRL.out hg)
      replace DR := Lib.hid (DR.out.draw hr hg)
      clear hr hg
      have hba : Below w3.heap.size w3 (w3.alloc (.cells #[.int .i64 v] 3)) := (Below.refl _ _).alloc (Nat.le_refl _) _
      have HRw3 := Lib.hid (int_rowD w3 v)
      replace OQ := Lib.hid (OQ.out.below hba)
      replace DR := Lib.hid (DR.out.below hba)
      have LE := Lib.hid (show w1.heap.size ≤ (w3.alloc (.cells #[.int .i64 v] 3)).heap.size from DR.out.gr.size)
      clear hba
      go_wp2_with (at_builtin; go_loud (refine list_app (f := cD) (fun _ => rfl) rfl _ _ 30 rfl w1.heap.size 3 I (.int .i64 0) 8 Try.underlying30 I1.out I2.out I3.out I4.out rfl (by decide) _ Q.length (ints Q) rfl OQ.out _ _ 1 [v] rfl rfl HRw3.out (fun h => by cases h) (cD_one _) (by unfold maxLen; omega) (by omega) LE.out ?_))
      intro v4 w4 ho hg hp
      have hge := own_block_ge (show World.ownsRow _ _ _ _ _ _ _ from OQ.out)
      replace DR := Lib.hid (DR.out.row HOld.out HRL.out hg (fun x hx => (hge x hx).1))
      obtain ⟨A5, a5, rfl, oa⟩ := OwD.pushD ho
      have OQ := Lib.hid oa
      clear ho hg hp hge HRw3 LE oa
      go_wp2
      go_roundw
      case rel => exact ⟨m, _, A5, a5, qs, rfl, by simp; try omega, by simp; omega, by omega, by omega, OQ.out, DR.out⟩
      case measure => (simp [intOf]; try omega)

set_option maxRecDepth 100000 in
set_option maxHeartbeats 4000000 in
theorem drawDiceShuffle {w : World} {A : Option Addr} {n c : Nat} (hn : n ≤ 1048576) (hc : n ≤ c) (hb : InB w A n) :
    Calls Try.prog 22 #[.slice A n c] w fun e w' => ∃ (D : List Int) (B : Option Addr) (d : Nat) (v : Int), e = .returned (.tuple #[.slice B D.length d, .int .i64 v]) ∧ D.length ≤ 21 ∧ OwD w' w.heap.size B d D ∧ (B = none → d = 0) ∧ Below w.heap.size w w' := by
  obtain ⟨I, hi, hz0, hz1, hz2⟩ := infoParts
  have I1 := Lib.hid hi
  have I2 := Lib.hid hz0
  have I3 := Lib.hid hz1
  have I4 := Lib.hid hz2
  clear hi hz0 hz1 hz2
  have HB := Lib.hid hb
  clear hb
  go_enter Try.func22, Try.ntmps22
  go_wp2_with (fail)
  refine (l20Open hn hc HB.out).mono ?_
  rintro e w1 ⟨n', rfl, hr, h1⟩
  have RD := Lib.hid hr
  have BA := Lib.hid h1
  clear hr h1
  obtain ⟨R, hR⟩ : ∃ R, R = w.heap.size := ⟨_, rfl⟩
  have HRw := Lib.hid (show w.heap.size ≤ R from Nat.le_of_eq hR.symm)
  rw [← hR] at RD ⊢
  clear hR
  have hba : Below w1.heap.size w1 (w1.alloc (.cells #[] 3)) := (Below.refl _ _).alloc (Nat.le_refl _) _
  have OQ : Hid (OwD (w1.alloc (.cells #[] 3)) w1.heap.size (some ⟨w1.heap.size, 0, none⟩) 0 []) := own_nil_newD w1 3 1 rfl
  have HRL := Lib.hid (show R < w1.heap.size from RD.out.lt)
  have HOld := Lib.hid RD.out.old
  have DR := Lib.hid ((Dr.start RD.out).below hba)
  have LW1 := Lib.hid (show w.heap.size ≤ w1.heap.size from BA.out.size)
  clear RD hba
  go_upto_region 3 with (fail)
  obtain ⟨w0, hw0⟩ : ∃ X, X = w1.alloc (.cells #[] 3) := ⟨_, rfl⟩
  obtain ⟨B0, hB0⟩ : ∃ X : Option Addr, X = some ⟨w1.heap.size, 0, none⟩ := ⟨_, rfl⟩
  have NB : Hid (B0 = none → 0 = 0) := fun _ => rfl
  rw [← hw0] at OQ DR ⊢
  rw [← hB0] at OQ ⊢
  clear hw0 hB0
  have hba : Below w0.heap.size w0 (w0.alloc (.cells #[.int .i64 0, .int .i64 1, .int .i64 2, .int .i64 5, .int .i64 20, .int .i64 21] 3)) := (Below.refl _ _).alloc (Nat.le_refl _) _
  have hsz : R < w0.heap.size := DR.out.rd.lt
  replace OQ := Lib.hid (OQ.out.below hba)
  replace DR := Lib.hid (DR.out.below hba)
  clear hba
  go_wp2_with (fail)
  refine (oneV w0.heap.size [0, 1, 2, 5, 20, 21] DR.out.rd (by omega) (by simp) (by simp) (by omega) (lit_cellsV w0 3 [0, 1, 2, 5, 20, 21])).mono ?_
  rintro e w2 ⟨m, hmm, rfl, qm, qm0, qm1, hr, hg⟩
  replace OQ := Lib.hid (OQ.out.drawn HRL.out hg)
  replace DR := Lib.hid (DR.out.draw hr hg)
  clear hr hg hsz
  have hm2 : 0 ≤ m ∧ m ≤ 21 := by simp at hmm; omega
  obtain ⟨m, rfl⟩ : ∃ M : Nat, m = (M : Int) := ⟨m.toNat, by omega⟩
  clear hmm
  go_wp2
  go_loopw [5, 6] (fun u v wr => ∃ (m : Nat) (Q : List Int) (B : Option Addr) (b : Nat) (q : Int), u = .slice B Q.length b ∧ v = .int .i64 (m : Int) ∧ Q.length + m ≤ 21 ∧ 0 ≤ q ∧ q + 1 * (m : Int) ≤ 200 ∧ Hid (OwD wr w1.heap.size B b Q) ∧ Hid (Dr w1 R A n' c q wr)) (fun _ v _ => (intOf v).toNat)
  case atStart => exact ⟨m, [], B0, 0, qm, rfl, rfl, by simp; omega, by omega, by omega, OQ.out, DR.out⟩
  case round =>
    clear OQ DR
    obtain ⟨m, Q, B, b, q, rfl, rfl, hQ, hq0, hq1, OQ, DR⟩ := hrel
    rcases m with _ | m
    · have i0 : ¬ (0 : Int) < ((0 : Nat) : Int) := by omega
      go_wp2_with (fail)
      refine (l20Seed DR.out.rd (by omega)).mono ?_
      rintro e w3 ⟨v, rfl, qs, qs0, qs1, hr, hg⟩
      replace OQ := Lib.hid (OQ.out.drawn HRL.out hg)
      replace DR := Lib.hid (DR.out.draw hr hg)
      have BB := Lib.hid (DR.out.backD BA.out HRw.out)
      clear hr hg DR
      go_wp2
      go_light
      go_ret2
      exact ⟨Q, B, b, v, rfl, by omega, OQ.out.base LW1.out, OQ.out.nA, BB.out⟩
    · have i0 : (0 : Int) < ((m + 1 : Nat) : Int) := by omega
      have e9 : IntKind.i64.wrap (((m + 1 : Nat) : Int) - 1) = (m : Int) := by rw [IntWalk.i64_in _ (by omega)]; omega
      go_wp2_with (fail)
      refine (pickR 9 DR.out.rd (by omega) (by omega) (by omega)).mono ?_
      rintro e w3 ⟨v, v0, v1, rfl, qs, qs0, qs1, hr, hg⟩
      replace OQ := Lib.hid (OQ.out.drawn HRL.out hg)
      replace DR := Lib.hid (DR.out.draw hr hg)
      clear hr hg
      have hba : Below w3.heap.size w3 (w3.alloc (.cells #[.int .i64 v] 3)) := (Below.refl _ _).alloc (Nat.le_refl _) _
      have HRw3 := Lib.hid (int_rowD w3 v)
      replace OQ := Lib.hid (OQ.out.below hba)
      replace DR := Lib.hid (DR.out.below hba)
      have LE := Lib.hid (show w1.heap.size ≤ (w3.alloc (.cells #[.int .i64 v] 3)).heap.size from DR.out.gr.size)
      clear hba
      go_wp2_with (at_builtin; go_loud (refine list_app (f := cD) (fun _ => rfl) rfl _ _ 30 rfl w1.heap.size 3 I (.int .i64 0) 8 Try.underlying30 I1.out I2.out I3.out I4.out rfl (by decide) _ Q.length (ints Q) rfl OQ.out _ _ 1 [v] rfl rfl HRw3.out (fun h => by cases h) (cD_one _) (by unfold maxLen; omega) (by omega) LE.out ?_))
      intro v4 w4 ho hg hp
      have hge := own_block_ge (show World.ownsRow _ _ _ _ _ _ _ from OQ.out)
      replace DR := Lib.hid (DR.out.row HOld.out HRL.out hg (fun x hx => (hge x hx).1))
      obtain ⟨A5, a5, rfl, oa⟩ := OwD.pushD ho
      have OQ := Lib.hid oa
      clear ho hg hp hge HRw3 LE oa
      go_wp2
      go_roundw
      case rel => exact ⟨m, _, A5, a5, qs, rfl, by simp; try omega, by simp; omega, by omega, by omega, OQ.out, DR.out⟩
      case measure => (simp [intOf]; try omega)

set_option maxRecDepth 100000 in
set_option maxHeartbeats 2000000 in
theorem drawDiceBack {w : World} {A : Option Addr} {n c : Nat} (hn : n ≤ 1048576) (hc : n ≤ c) (hb : InB w A n) :
    Calls Try.prog 27 #[.slice A n c] w fun e w' => ∃ (D : List Int) (B : Option Addr) (d : Nat) (v : Int), e = .returned (.tuple #[.slice B D.length d, .int .i64 v]) ∧ D.length ≤ 21 ∧ OwD w' w.heap.size B d D ∧ (B = none → d = 0) ∧ Below w.heap.size w w' := by
  have HB := Lib.hid hb
  clear hb
  go_enter Try.func27, Try.ntmps27
  go_wp2_with (fail)
  refine (drawDiceShuffle hn hc HB.out).mono ?_
  rintro e w1 ⟨D, B, d, v, rfl, h1, h2, h3, h4⟩
  have H2 := Lib.hid h2
  have H3 := Lib.hid h3
  have H4 := Lib.hid h4
  clear h2 h3 h4
  go_wp2
  go_light
  go_ret2
  exact ⟨D, B, d, v, rfl, h1, H2.out, H3.out, H4.out⟩

set_option maxRecDepth 100000 in
set_option maxHeartbeats 2000000 in
theorem wpIntsD (A B : Option Addr) (a b : Nat) (L : List Int) (w : World) (hL : L.length ≤ 2097152) (rA : RdI w A L) (rB : RdI w B L) :
    Calls Try.prog 24 #[.slice A L.length a, .slice B L.length b] w fun e w' => e = .returned (.bool true) ∧ Below w.heap.size w w' := by
  have H1 := Lib.hid rA
  have H2 := Lib.hid rB
  have nl : ((L.length : Int) != (L.length : Int)) = false := by simp
  clear rA rB
  go_enter Try.func24, Try.ntmps24
  go_wp2
  go_loopw [5] (fun v wr => ∃ j : Nat, j ≤ L.length ∧ v = .int .i64 (j : Int) ∧ Hid (Below w.heap.size w wr)) (fun v _ => L.length - (intOf v).toNat)
  case atStart => exact ⟨0, Nat.zero_le _, rfl, Below.refl _ _⟩
  case round =>
    obtain ⟨j, hj, rfl, hB⟩ := hrel
    by_cases hlt : j < L.length
    · obtain ⟨g, hgo, xc⟩ := H1.out.below hB.out j hlt
      obtain ⟨g', hgo', yc⟩ := H2.out.below hB.out j hlt
      subst hgo hgo'
      generalize L[j] = x at xc yc
      have hq : (x != x) = false := by simp
      have i0 : (0 : Int) ≤ (j : Int) := by omega
      have i1 : (j : Int) < (L.length : Int) := by omega
      go_wp2_with (fail)
      go_quiet (fail)
      clear hq xc yc
      go_wp2
      go_roundw
      case rel => exact ⟨j + 1, by omega, by go_num, Below.drewN hB.out _⟩
      case measure => (simp [intOf]; try omega)
    · have i1 : ¬ (j : Int) < (L.length : Int) := by omega
      obtain rfl : j = L.length := by omega
      go_wp2
      go_light
      go_ret
      exact ⟨rfl, hB.out⟩

section
variable {α : Type} {f : α → List Value} {k : Nat} {P : Program}
theorem list_appG (hf : ∀ a, (f a).length = k) {w : World} {ops : Array Oper} {rest : List Oper} {o : Oper} {a : Act} {Q : Exit → Act → World → Prop} (hw : Region.wanted o (yielded ops a.tmps) = true) (s x : Operand) (t : TypeId)
    (hop : o.op = .call { callee := .builtin .append, args := #[s, x], argTypes := #[t, t] })
    (base : Nat) (e : TypeId) (i : TypeInfo) (z : Value) (bytes : Nat) (ht : P.underlying t = some (.slice e)) (hi : P.info? e = some i) (hz : i.zero = some z)
    (hsize : i.size = k) (hby : i.bytes = bytes) (hzs : z.cells.size = k) (hsz : 0 < k) (v : Value) (n : Nat) (xs : List Value) (hs : a.eval s = v) (hown : w.ownsRow base e k v n xs)
    (A : Option Addr) (c m : Nat) (L : List α) (hm : L.length = m) (hx : a.eval x = .slice A m c) (hr : Rd k f w A L) (hc : A = none → c = 0) (h1 : ∀ u ∈ L.flatMap f, u.oneCell' = true)
    (h63 : n + m ≤ maxLen) (hbytes : (n + m) * bytes ≤ 140737488355328) (hbase : base ≤ w.heap.size)
    (h : ∀ v' w', w'.ownsRow base e k v' (n + m) (xs ++ L.flatMap f) → w.grownBy w' v.ownBlock → (v'.ownBlock = v.ownBlock ∨ v'.ownBlock = some w.heap.size) → wpList P ops Q rest (a.put o.dst v') w') : wpList P ops Q (o :: rest) a w :=
  wpList_step fun _ hK => by
    rw [if_pos hw]
    exact wp_app hf w s x t hop base e i z bytes ht hi hz hsize hby hzs hsz v n xs hs hown A c m L hm hx hr hc h1 h63 hbytes hbase fun v' w' h2 h3 h4 => hK _ _ (h v' w' h2 h3 h4)
end
end Go.Proofs.Ytkhneligclhgaaa
