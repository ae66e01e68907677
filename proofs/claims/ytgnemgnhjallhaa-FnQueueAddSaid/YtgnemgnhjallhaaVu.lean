/- What the laws of queues draw. -/
import Derived.Test.YtgnemgnhjallhaaVt
namespace Go.Proofs.Ytgnemgnhjallhaa
open Go.ChangeShapes Go.WideShapes Go.ChangeAt Go.RowKit
set_option linter.unusedVariables false
set_option linter.unusedSimpArgs false

theorem Dr.back {w W : World} {R : Nat} {A : Option Addr} {n c : Nat} {q : Int} {w0 : World} (h : Dr w R A n c q W) (hb : Below w0.heap.size w0 w) (hR : w0.heap.size ≤ R) : Below w0.heap.size w0 W :=
  hb.trans (Below.of_grown h.gr hb.size (fun x hx => by injection hx with hx; omega))
theorem ownAll {w : World} {lo g a : Nat} {L : List Tm} (h : OwT w lo (some ⟨g, 0, none⟩) a L) : ∀ i, i < L.length → w.cell? ⟨g, i * 3, none⟩ = some (.int .i64 (at' L i).a) ∧ w.cell? ⟨g, i * 3 + 1, none⟩ = some (.int .i64 (at' L i).f) ∧ w.cell? ⟨g, i * 3 + 2, none⟩ = some (.int .i64 (at' L i).n) := fun i hi => ownC h i hi _ rfl

theorem drawQueueNext {w : World} {A : Option Addr} {n c : Nat} (hn : n ≤ 1048576) (hc : n ≤ c) (hb : InB w A n) :
    Calls Try.prog 18 #[.slice A n c] w fun e w' => ∃ (D : List Tm) (B : Option Addr) (d : Nat), e = .returned (.slice B D.length d) ∧ D.length ≤ 25 ∧ OwT w' w.heap.size B d D ∧ Below w.heap.size w w' := by
  have HB := Lib.hid hb
  clear hb
  go_enter Try.func18, Try.ntmps18
  go_wp2_with (fail)
  refine (l20Open hn hc HB.out).mono ?_
  rintro e w1 ⟨m, rfl, hr, h1⟩
  have RD := Lib.hid hr
  have BA := Lib.hid h1
  clear hr h1
  go_wp2_with (fail)
  refine (l20Queue RD.out (by omega)).mono ?_
  rintro e w2 ⟨D, B, d, rfl, hl, oo, q, q0, q1, hr, hg⟩
  have OO := Lib.hid (oo.base BA.out.size)
  have BB := Lib.hid (BA.out.trans (Below.of_grown hg BA.out.size (fun x hx => by injection hx with hx; omega)))
  clear hr hg RD BA oo
  go_wp2
  go_light
  go_ret
  exact ⟨D, B, d, rfl, hl, OO.out, BB.out⟩

set_option maxRecDepth 100000 in
set_option maxHeartbeats 2000000 in
theorem drawQueueTill {w : World} {A : Option Addr} {n c : Nat} (hn : n ≤ 1048576) (hc : n ≤ c) (hb : InB w A n) :
    Calls Try.prog 22 #[.slice A n c] w fun e w' => ∃ (D : List Tm) (B : Option Addr) (d : Nat) (t : Int), e = .returned (.tuple #[.slice B D.length d, .int .i64 t]) ∧ D.length ≤ 25 ∧ OwT w' w.heap.size B d D ∧ Below w.heap.size w w' := by
  have HB := Lib.hid hb
  clear hb
  go_enter Try.func22, Try.ntmps22
  go_wp2_with (fail)
  refine (l20Open hn hc HB.out).mono ?_
  rintro e w1 ⟨m, rfl, hr, h1⟩
  have RD := Lib.hid hr
  have BA := Lib.hid h1
  have HRl := Lib.hid hr.lt
  clear hr h1
  obtain ⟨R, hR⟩ : ∃ R, R = w.heap.size := ⟨_, rfl⟩
  have HRw := Lib.hid (show w.heap.size ≤ R from Nat.le_of_eq hR.symm)
  rw [← hR] at RD HRl ⊢
  clear hR
  go_wp2_with (fail)
  refine (l20Queue RD.out (by omega)).mono ?_
  rintro e w2 ⟨D, B, d, rfl, hl, oo, q, q0, q1, hr, hg⟩
  have OO := Lib.hid (oo.base BA.out.size)
  have DR := Lib.hid ((Dr.start RD.out).draw hr hg)
  have ORl := Lib.hid (fun k hk => (oo.lt k hk).1)
  clear hr hg RD oo
  have hba : Below w2.heap.size w2 (w2.alloc (.cells #[.int .i64 (-1), .int .i64 0, .int .i64 3, .int .i64 6, .int .i64 999] 3)) := (Below.refl _ _).alloc (Nat.le_refl _) _
  have hsz : R < w2.heap.size := DR.out.rd.lt
  replace OO := Lib.hid (OO.out.below hba)
  replace DR := Lib.hid (DR.out.below hba)
  clear hba
  go_wp2_with (fail)
  refine (oneV w2.heap.size [-1, 0, 3, 6, 999] DR.out.rd (by omega) (by simp) (by simp) (by omega) (lit_cellsV w2 3 [-1, 0, 3, 6, 999])).mono ?_
  rintro e w3 ⟨t, _, rfl, qb, qb0, qb1, hr, hg⟩
  replace OO := Lib.hid (OO.out.grown hg (fun k hk e => by injection e with e; have h1 := ORl.out k hk; have h2 := HRl.out; omega))
  replace DR := Lib.hid (DR.out.draw hr hg)
  have BB := Lib.hid (DR.out.back BA.out HRw.out)
  clear hr hg DR hsz
  go_wp2
  go_light
  go_ret2
  exact ⟨D, B, d, t, rfl, hl, OO.out, BB.out⟩

set_option maxRecDepth 100000 in
set_option maxHeartbeats 4000000 in
theorem drawQueueAdd {w : World} {A : Option Addr} {n c : Nat} (hn : n ≤ 1048576) (hc : n ≤ c) (hb : InB w A n) :
    Calls Try.prog 12 #[.slice A n c] w fun e w' => ∃ (D : List Tm) (B : Option Addr) (d : Nat) (x : Tm), e = .returned (.tuple #[.slice B D.length d, x.val]) ∧ D.length ≤ 25 ∧ OwT w' w.heap.size B d D ∧ Below w.heap.size w w' := by
  have KR : Hid (Bkk (w.alloc (.cells (tmCs ⟨0, 0, 0⟩) 25)) w.heap.size 25 (tmCs ⟨0, 0, 0⟩)) := Bkk.new _
  have hb0 : Below w.heap.size w (w.alloc (.cells (tmCs ⟨0, 0, 0⟩) 25)) := (Below.refl _ _).alloc (Nat.le_refl _) _
  have HB : Hid (InB (w.alloc (.cells (tmCs ⟨0, 0, 0⟩) 25)) A n) := fun i hi => by
    obtain ⟨b, off, u, h1, h2, h3⟩ := hb i hi
    exact ⟨b, off, u, h1, (Below.grownBy hb0 none).cell h2 (by simp), h3⟩
  have Z0 := Lib.hid hb0
  clear hb hb0
  go_enter Try.func12, Try.ntmps12
  go_wp2_with (fail)
  obtain ⟨w0, hw0⟩ : ∃ X, X = (w.alloc (.cells (tmCs ⟨0, 0, 0⟩) 25)) := ⟨_, rfl⟩
  rw [← hw0] at KR HB Z0 ⊢
  clear hw0
  refine (l20Open hn hc HB.out).mono ?_
  rintro e w1 ⟨m, rfl, hr, h1⟩
  have RD := Lib.hid hr
  have HRl := Lib.hid hr.lt
  have BA := Lib.hid (Below.and Z0.out h1)
  have HRB0 := Lib.hid KR.out.lt
  replace KR := Lib.hid (KR.out.below h1)
  obtain ⟨R, hR⟩ : ∃ R, R = w0.heap.size := ⟨_, rfl⟩
  have HRw := Lib.hid (show w.heap.size < R by have := HRB0.out; omega)
  rw [← hR] at RD HRl ⊢
  clear hr h1 hR HB Z0
  have hrw := HRw.out
  go_wp2_with (fail)
  refine (l20Queue RD.out (by omega)).mono ?_
  rintro e w2 ⟨D, B, d, rfl, hl, oo, q, q0, q1, hr, hg⟩
  have OO := Lib.hid oo
  have HRB := Lib.hid (show w.heap.size < w1.heap.size from KR.out.lt)
  have hRl := HRl.out
  have HOld := Lib.hid RD.out.old
  have DR := Lib.hid ((Dr.start RD.out).draw hr hg)
  replace KR := Lib.hid (KR.out.grownV hg (fun e => by injection e with e; omega))
  clear hr hg RD oo
  by_cases h0 : 0 < D.length
  · have d0 : (0 : Int) < (D.length : Int) := by omega
    go_wp2_with (fail)
    refine (pickR 6 DR.out.rd (by omega) (by omega) (by omega)).mono ?_
    rintro e w3 ⟨v, v0, v1, rfl, qa, qa0, qa1, hr, hg⟩
    replace KR := Lib.hid (KR.out.grownV hg (fun e => by injection e with e; omega))
    replace OO := Lib.hid (OO.out.drawn hRl hg)
    replace DR := Lib.hid (DR.out.draw hr hg)
    clear hr hg
    by_cases hv : v = 0
    · subst hv
      obtain ⟨g, rfl, hgl, hgw⟩ := own_g OO.out h0
      have HGL := Lib.hid hgl
      go_upto_region 4 with (fail)
      refine wp_region_held_drew (S := fun WS => ∀ i, i < D.length → WS.cell? ⟨g, i * 3, none⟩ = some (.int .i64 (at' D i).a) ∧ WS.cell? ⟨g, i * 3 + 1, none⟩ = some (.int .i64 (at' D i).f) ∧ WS.cell? ⟨g, i * 3 + 2, none⟩ = some (.int .i64 (at' D i).n)) (by kernel_rfl) (ownAll OO.out) (fun hS0 => ?_)
      replace KR := Lib.hid (KR.out.below (Below.refl _ _).drew)
      replace OO := Lib.hid (OO.out.below (Below.refl _ _).drew)
      replace DR := Lib.hid (DR.out.below (Below.refl _ _).drew)
      obtain ⟨w4, hw4⟩ : ∃ X, X = w3.drew := ⟨_, rfl⟩
      rw [← hw4] at KR OO DR hS0 ⊢
      clear hw4 hgw
      refine takeD 0 18 (v := ?_) rfl rfl (by kernel_rfl) (by kernel_rfl) (by kernel_rfl) (fun _ _ _ h => h) (Or.inl ⟨by rfl, ?_⟩) (by assumption) ?_
      rotate_left
      · intro wS hSw; skip; go_simp; (try with_reducible rfl)
      (try simp only [Act.put, List.setIfInBounds_toArray, List.set_cons_zero, List.set_cons_succ])
      refine takeD 1 19 (v := ?_) rfl rfl (by kernel_rfl) (by kernel_rfl) (by kernel_rfl) (fun _ _ _ h => h) (Or.inl ⟨by rfl, ?_⟩) (by assumption) ?_
      rotate_left
      · intro wS hSw; skip; go_simp; (try with_reducible rfl)
      (try simp only [Act.put, List.setIfInBounds_toArray, List.set_cons_zero, List.set_cons_succ])
      refine takeD 2 20 (v := ?_) rfl rfl (by kernel_rfl) (by kernel_rfl) (by kernel_rfl) (fun _ _ _ h => h) (Or.inl ⟨by rfl, ?_⟩) (by assumption) ?_
      rotate_left
      · intro wS hSw; skip; go_simp; (try with_reducible rfl)
      (try simp only [Act.put, List.setIfInBounds_toArray, List.set_cons_zero, List.set_cons_succ])
      refine takeD 3 21 (v := ?_) rfl rfl (by kernel_rfl) (by kernel_rfl) (by kernel_rfl) (fun _ _ _ h => h) (Or.inl ⟨by rfl, ?_⟩) (by assumption) ?_
      rotate_left
      · intro wS hSw; skip; go_simp; (try with_reducible rfl)
      (try simp only [Act.put, List.setIfInBounds_toArray, List.set_cons_zero, List.set_cons_succ])
      refine takeD 4 22 (v := ?_) rfl rfl (by kernel_rfl) (by kernel_rfl) (by kernel_rfl) (fun _ _ _ h => h) (Or.inl ⟨by rfl, ?_⟩) (by assumption) ?_
      rotate_left
      · intro wS hSw; skip; go_simp; (try with_reducible rfl)
      (try simp only [Act.put, List.setIfInBounds_toArray, List.set_cons_zero, List.set_cons_succ])
      refine wpAnyH_ready (rs := [5]) (by kernel_rfl) (by simp) ?_
      refine AllReadyH.cons rfl (fun KK hK => ?_) AllReadyH.nil
      go_simp
      refine (pickR (D.length : Int) DR.out.rd (by omega) (by omega) (by omega)).mono ?_
      rintro e w5 ⟨v, v0, v1, rfl, qb, qb0, qb1, hr, hg⟩
      obtain ⟨j, rfl⟩ := Int.eq_ofNat_of_zero_le v0
      replace KR := Lib.hid (KR.out.grownV hg (fun e => by injection e with e; omega))
      replace OO := Lib.hid (OO.out.drawn hRl hg)
      replace DR := Lib.hid (DR.out.draw hr hg)
      clear hr hg
      have hjl : j < D.length := by omega
      refine hK.out _ _ (ownAll OO.out) (fun hS1 => ?_)
      clear hK KK
      (try simp only [Act.put, List.setIfInBounds_toArray, List.set_cons_zero, List.set_cons_succ])
      refine takeD 6 24 (v := ?_) rfl rfl (by kernel_rfl) (by kernel_rfl) (by kernel_rfl) (fun _ _ _ h => h) (Or.inl ⟨by rfl, ?_⟩) (by assumption) ?_
      rotate_left
      · intro wS hSw; skip; go_simp; (try with_reducible rfl)
      (try simp only [Act.put, List.setIfInBounds_toArray, List.set_cons_zero, List.set_cons_succ])
      refine takeD 7 25 (v := ?_) rfl rfl (by kernel_rfl) (by kernel_rfl) (by kernel_rfl) (fun _ _ _ h => h) (Or.inl ⟨by rfl, ?_⟩) (by assumption) ?_
      rotate_left
      · intro wS hSw; obtain ⟨y0, y1, y2⟩ := hSw j hjl; go_simp; (try with_reducible rfl)
      (try simp only [Act.put, List.setIfInBounds_toArray, List.set_cons_zero, List.set_cons_succ])
      refine takeD 8 2 (v := ?_) rfl rfl (by kernel_rfl) (by kernel_rfl) (by kernel_rfl) (fun _ _ _ h => h) (Or.inl ⟨by rfl, ?_⟩) (by assumption) ?_
      rotate_left
      · intro wS hSw; skip; go_simp; (try with_reducible rfl)
      (try simp only [Act.put, List.setIfInBounds_toArray, List.set_cons_zero, List.set_cons_succ])
      have r0 : w5.cell? ⟨w.heap.size, 0, none⟩ = some (.int .i64 0) := KR.out.cell 0
      have r1 : w5.cell? ⟨w.heap.size, 1, none⟩ = some (.int .i64 0) := KR.out.cell 1
      have r2 : w5.cell? ⟨w.heap.size, 2, none⟩ = some (.int .i64 0) := KR.out.cell 2
      have rf := KR.out.frozen
      have lr := KR.out.lt
      refine wpAnyH_ready (rs := [9]) (by kernel_rfl) (by simp) ?_
      refine AllReadyH.cons rfl (fun KK hK => ?_) AllReadyH.nil
      go_simp
      obtain ⟨x, hx⟩ : ∃ x, at' D j = x := ⟨_, rfl⟩
      rw [hx]
      have BB := Lib.hid (DR.out.back BA.out (by omega))
      have OF := Lib.hid (((OO.out.put (q := w.heap.size) HRB.out 0 (.int .i64 x.a)).put (q := w.heap.size) HRB.out 1 (.int .i64 x.f)).put (q := w.heap.size) HRB.out 2 (.int .i64 x.n))
      have BF := Lib.hid (Below.setCell (Below.setCell (Below.setCell BB.out (p := ⟨w.heap.size, 0, none⟩) (Nat.le_refl _) (.int .i64 x.a)) (p := ⟨w.heap.size, 1, none⟩) (Nat.le_refl _) (.int .i64 x.f)) (p := ⟨w.heap.size, 2, none⟩) (Nat.le_refl _) (.int .i64 x.n))
      refine hK.out _ _ (ownAll OF.out) (fun hS2 => ?_)
      clear hK KK
      (try simp only [Act.put, List.setIfInBounds_toArray, List.set_cons_zero, List.set_cons_succ])
      refine wpAnyH_done (by kernel_rfl) ?_ _
      have HW := Lib.hid BA.out.size
      clear KR DR OO BB BA
      go_wp2
      exact bodyPost_ret (v := .tuple #[.slice (some ⟨g, 0, none⟩) D.length d, x.val]) (by simp [results, Try.results12, go_sem, r0, r1, r2, rf]) rfl ⟨D, _, d, x, rfl, hl, OF.out.base HW.out, BF.out⟩
    · have e0 : (v == 0) = false := by simpa using hv
      go_wp2_with (fail)
      refine (l20Timed DR.out.rd (by omega)).mono ?_
      rintro e w7 ⟨x, rfl, qc, qc0, qc1, hr, hg⟩
      replace KR := Lib.hid (KR.out.grownV hg (fun e => by injection e with e; omega))
      replace OO := Lib.hid (OO.out.drawn hRl hg)
      replace DR := Lib.hid (DR.out.draw hr hg)
      clear hr hg
      have r0 : w7.cell? ⟨w.heap.size, 0, none⟩ = some (.int .i64 0) := KR.out.cell 0
      have r1 : w7.cell? ⟨w.heap.size, 1, none⟩ = some (.int .i64 0) := KR.out.cell 1
      have r2 : w7.cell? ⟨w.heap.size, 2, none⟩ = some (.int .i64 0) := KR.out.cell 2
      have rf := KR.out.frozen
      have lr := KR.out.lt
      have BB := Lib.hid (DR.out.back BA.out (by omega))
      have OF := Lib.hid (((OO.out.put (q := w.heap.size) HRB.out 0 (.int .i64 x.a)).put (q := w.heap.size) HRB.out 1 (.int .i64 x.f)).put (q := w.heap.size) HRB.out 2 (.int .i64 x.n))
      have BF := Lib.hid (Below.setCell (Below.setCell (Below.setCell BB.out (p := ⟨w.heap.size, 0, none⟩) (Nat.le_refl _) (.int .i64 x.a)) (p := ⟨w.heap.size, 1, none⟩) (Nat.le_refl _) (.int .i64 x.f)) (p := ⟨w.heap.size, 2, none⟩) (Nat.le_refl _) (.int .i64 x.n))
      have HW := Lib.hid BA.out.size
      clear KR DR OO BB BA
      go_wp2
      exact bodyPost_ret (v := .tuple #[.slice B D.length d, x.val]) (by simp [results, Try.results12, go_sem, r0, r1, r2, rf]) rfl ⟨D, B, d, x, rfl, hl, OF.out.base HW.out, BF.out⟩
  · have d0 : decide ((0 : Int) < (D.length : Int)) = false := decide_eq_false (by omega)
    go_wp2_with (fail)
    refine (l20Timed DR.out.rd (by omega)).mono ?_
    rintro e w7 ⟨x, rfl, qc, qc0, qc1, hr, hg⟩
    replace KR := Lib.hid (KR.out.grownV hg (fun e => by injection e with e; omega))
    replace OO := Lib.hid (OO.out.drawn hRl hg)
    replace DR := Lib.hid (DR.out.draw hr hg)
    clear hr hg
    have r0 : w7.cell? ⟨w.heap.size, 0, none⟩ = some (.int .i64 0) := KR.out.cell 0
    have r1 : w7.cell? ⟨w.heap.size, 1, none⟩ = some (.int .i64 0) := KR.out.cell 1
    have r2 : w7.cell? ⟨w.heap.size, 2, none⟩ = some (.int .i64 0) := KR.out.cell 2
    have rf := KR.out.frozen
    have lr := KR.out.lt
    have BB := Lib.hid (DR.out.back BA.out (by omega))
    have OF := Lib.hid (((OO.out.put (q := w.heap.size) HRB.out 0 (.int .i64 x.a)).put (q := w.heap.size) HRB.out 1 (.int .i64 x.f)).put (q := w.heap.size) HRB.out 2 (.int .i64 x.n))
    have BF := Lib.hid (Below.setCell (Below.setCell (Below.setCell BB.out (p := ⟨w.heap.size, 0, none⟩) (Nat.le_refl _) (.int .i64 x.a)) (p := ⟨w.heap.size, 1, none⟩) (Nat.le_refl _) (.int .i64 x.f)) (p := ⟨w.heap.size, 2, none⟩) (Nat.le_refl _) (.int .i64 x.n))
    have HW := Lib.hid BA.out.size
    clear KR DR OO BB BA
    go_wp2
    exact bodyPost_ret (v := .tuple #[.slice B D.length d, x.val]) (by simp [results, Try.results12, go_sem, r0, r1, r2, rf]) rfl ⟨D, B, d, x, rfl, hl, OF.out.base HW.out, BF.out⟩

end Go.Proofs.Ytgnemgnhjallhaa
