/- A player drawn of a code, alone, with an answer, and with a request: the draws of the laws. -/
import Derived.Test.YtdpladihacgobaaNp
namespace Go.Proofs.Ytdpladihacgobaa
open Go.ChangeShapes Go.WideShapes Go.ChangeAt Go.RowKit
set_option linter.unusedVariables false
set_option linter.unusedSimpArgs false

theorem in_belowN {w w' : World} {A : Option Addr} {n : Nat} (h : InB w A n) (hb : Below w.heap.size w w') : InB w' A n := fun i hi => by
  obtain ⟨b, off, u, h1, h2, h3⟩ := h i hi
  exact ⟨b, off, u, h1, (Below.grownBy hb none).cell h2 (by simp), h3⟩
theorem OwL.drawn {w w' : World} {lo R : Nat} {A : Option Addr} {a : Nat} {L : List Rp} (h : OwL w lo A a L) (hR : R < lo) (hg : w.grownBy w' (some R)) : OwL w' lo A a L :=
  h.same (fun k hk => hg.block k (h.ge k hk).2 (fun e => by injection e with e; have := (h.ge k hk).1; omega))

set_option maxRecDepth 100000 in
set_option maxHeartbeats 4000000 in
theorem drawPlayerSure {w : World} {A : Option Addr} {n c : Nat} (hn : n ≤ 1048576) (hc : n ≤ c) (hb : InB w A n) :
    Calls Try.prog 17 #[.slice A n c] w fun e w' => ∃ (q0 : Rq) (D1 : Option Addr) (d : Nat) (L : List Rp), e = .returned (playerV q0 D1 L.length d) ∧ L.length ≤ 6 ∧ OwL w' w.heap.size D1 d L ∧ Below w.heap.size w w' := by
  have hba : Below w.heap.size w (w.alloc (.cells #[.int .i64 0, .int .i64 0, .int .i64 0, .int .i64 0, .int .i64 0, .slice none 0 0] 27)) := (Below.refl _ _).alloc (Nat.le_refl _) _
  have KZ : Hid (Bkk (w.alloc (.cells #[.int .i64 0, .int .i64 0, .int .i64 0, .int .i64 0, .int .i64 0, .slice none 0 0] 27)) w.heap.size 27 #[.int .i64 0, .int .i64 0, .int .i64 0, .int .i64 0, .int .i64 0, .slice none 0 0]) := Bkk.new _
  have HB := Lib.hid (in_belowN hb hba)
  have BA := Lib.hid hba
  have HS : w.heap.size < (w.alloc (.cells #[.int .i64 0, .int .i64 0, .int .i64 0, .int .i64 0, .int .i64 0, .slice none 0 0] 27)).heap.size := KZ.out.lt
  clear hb hba
  go_enter Try.func17, Try.ntmps17
  go_upto_region 1 with (fail)
  obtain ⟨w0, hw0⟩ : ∃ X, X = w.alloc (.cells #[.int .i64 0, .int .i64 0, .int .i64 0, .int .i64 0, .int .i64 0, .slice none 0 0] 27) := ⟨_, rfl⟩
  rw [← hw0] at KZ HB BA HS ⊢
  clear hw0
  go_wp2_with (fail)
  refine (l20Open hn hc HB.out).mono ?_
  rintro e w1 ⟨m, rfl, hr, h1⟩
  have RD := Lib.hid hr
  have BA := Lib.hid (Below.and BA.out h1)
  have KZ := Lib.hid (KZ.out.below h1)
  have hR : w0.heap.size < w1.heap.size := hr.lt
  clear hr h1 HB
  go_wp2_with (fail)
  refine (l20Player RD.out (by omega)).mono ?_
  rintro e w2 ⟨q0, D1, d, L, rfl, hL, oa, q, qa, qb, hr, hg⟩
  have KZ := Lib.hid (KZ.out.grown hg (fun e => by injection e with e; omega))
  have BA := Lib.hid (BA.out.trans (Below.of_grown hg (by omega) (fun x hx => by injection hx with hx; omega)))
  have oa := Lib.hid (oa.base (show w.heap.size ≤ w1.heap.size by omega))
  have OG := Lib.hid ((((((oa.out.box KZ.out (by decide) 0 (.int .i64 q0.c)).box (KZ.out.set 0 (.int .i64 q0.c)) (by decide) 1 (.int .i64 q0.n)).box ((KZ.out.set 0 (.int .i64 q0.c)).set 1 (.int .i64 q0.n)) (by decide) 2 (.int .i64 q0.o)).box (((KZ.out.set 0 (.int .i64 q0.c)).set 1 (.int .i64 q0.n)).set 2 (.int .i64 q0.o)) (by decide) 3 (.int .i64 q0.x)).box ((((KZ.out.set 0 (.int .i64 q0.c)).set 1 (.int .i64 q0.n)).set 2 (.int .i64 q0.o)).set 3 (.int .i64 q0.x)) (by decide) 4 (.int .i64 q0.y)).box (((((KZ.out.set 0 (.int .i64 q0.c)).set 1 (.int .i64 q0.n)).set 2 (.int .i64 q0.o)).set 3 (.int .i64 q0.x)).set 4 (.int .i64 q0.y)) (by decide) 5 (.slice D1 L.length d))
  have BG := Lib.hid ((((((BA.out.setCell (p := ⟨w.heap.size, 0, none⟩) (Nat.le_refl _) (.int .i64 q0.c)).setCell (p := ⟨w.heap.size, 1, none⟩) (Nat.le_refl _) (.int .i64 q0.n)).setCell (p := ⟨w.heap.size, 2, none⟩) (Nat.le_refl _) (.int .i64 q0.o)).setCell (p := ⟨w.heap.size, 3, none⟩) (Nat.le_refl _) (.int .i64 q0.x)).setCell (p := ⟨w.heap.size, 4, none⟩) (Nat.le_refl _) (.int .i64 q0.y)).setCell (p := ⟨w.heap.size, 5, none⟩) (Nat.le_refl _) (.slice D1 L.length d))
  have z0 : w2.cell? ⟨w.heap.size, 0, none⟩ = some (.int .i64 0) := KZ.out.cell 0
  have z1 : w2.cell? ⟨w.heap.size, 1, none⟩ = some (.int .i64 0) := KZ.out.cell 1
  have z2 : w2.cell? ⟨w.heap.size, 2, none⟩ = some (.int .i64 0) := KZ.out.cell 2
  have z3 : w2.cell? ⟨w.heap.size, 3, none⟩ = some (.int .i64 0) := KZ.out.cell 3
  have z4 : w2.cell? ⟨w.heap.size, 4, none⟩ = some (.int .i64 0) := KZ.out.cell 4
  have z5 : w2.cell? ⟨w.heap.size, 5, none⟩ = some (.slice none 0 0) := KZ.out.cell 5
  have zf := KZ.out.frozen
  have lz := KZ.out.lt
  clear hr hg RD BA oa KZ
  go_wp2
  refine bodyPost_ret (v := playerV q0 D1 L.length d) (by simp [results, Try.results17, go_sem, z0, z1, z2, z3, z4, z5, zf]) rfl ⟨q0, D1, d, L, rfl, hL, OG.out, BG.out⟩

set_option maxRecDepth 100000 in
set_option maxHeartbeats 4000000 in
theorem drawPlayerHear {w : World} {A : Option Addr} {n c : Nat} (hn : n ≤ 1048576) (hc : n ≤ c) (hb : InB w A n) :
    Calls Try.prog 10 #[.slice A n c] w fun e w' => ∃ (q0 : Rq) (D1 : Option Addr) (d : Nat) (L : List Rp) (r : Rp), e = .returned (.tuple #[playerV q0 D1 L.length d, r.val]) ∧ L.length ≤ 6 ∧ OwL w' w.heap.size D1 d L ∧ Below w.heap.size w w' := by
  have HS : w.heap.size + 2 ≤ ((w.alloc (.cells #[.int .i64 0, .int .i64 0, .int .i64 0, .int .i64 0, .int .i64 0, .slice none 0 0] 27)).alloc (.cells #[.int .i64 0, .int .i64 0, .int .i64 0, .int .i64 0] 29)).heap.size := by simp
  have hba : Below w.heap.size w ((w.alloc (.cells #[.int .i64 0, .int .i64 0, .int .i64 0, .int .i64 0, .int .i64 0, .slice none 0 0] 27)).alloc (.cells #[.int .i64 0, .int .i64 0, .int .i64 0, .int .i64 0] 29)) := below_alloc2 w _ _
  have KZ : Hid (Bkk ((w.alloc (.cells #[.int .i64 0, .int .i64 0, .int .i64 0, .int .i64 0, .int .i64 0, .slice none 0 0] 27)).alloc (.cells #[.int .i64 0, .int .i64 0, .int .i64 0, .int .i64 0] 29)) w.heap.size 27 #[.int .i64 0, .int .i64 0, .int .i64 0, .int .i64 0, .int .i64 0, .slice none 0 0]) := (Bkk.new (cs := #[.int .i64 0, .int .i64 0, .int .i64 0, .int .i64 0, .int .i64 0, .slice none 0 0]) (t := 27) w).alloc _
  have FZ : Hid (Bkk ((w.alloc (.cells #[.int .i64 0, .int .i64 0, .int .i64 0, .int .i64 0, .int .i64 0, .slice none 0 0] 27)).alloc (.cells #[.int .i64 0, .int .i64 0, .int .i64 0, .int .i64 0] 29)) (w.heap.size + 1) 29 #[.int .i64 0, .int .i64 0, .int .i64 0, .int .i64 0]) := by have := Bkk.new (cs := #[.int .i64 0, .int .i64 0, .int .i64 0, .int .i64 0]) (t := 29) (w.alloc (.cells #[.int .i64 0, .int .i64 0, .int .i64 0, .int .i64 0, .int .i64 0, .slice none 0 0] 27)); simpa [Hid] using this
  have HB := Lib.hid (in_belowN hb hba)
  have BA := Lib.hid hba
  clear hb hba
  go_enter Try.func10, Try.ntmps10
  go_upto_region 1 with (fail)
  obtain ⟨w0, hw0⟩ : ∃ X, X = ((w.alloc (.cells #[.int .i64 0, .int .i64 0, .int .i64 0, .int .i64 0, .int .i64 0, .slice none 0 0] 27)).alloc (.cells #[.int .i64 0, .int .i64 0, .int .i64 0, .int .i64 0] 29)) := ⟨_, rfl⟩
  rw [← hw0] at KZ FZ HB BA HS ⊢
  clear hw0
  go_wp2_with (fail)
  refine (l20Open hn hc HB.out).mono ?_
  rintro e w1 ⟨m, rfl, hr, h1⟩
  have RD := Lib.hid hr
  have BA := Lib.hid (Below.and BA.out h1)
  have KZ := Lib.hid (KZ.out.below h1)
  have FZ := Lib.hid (FZ.out.below h1)
  have hR : w0.heap.size < w1.heap.size := hr.lt
  clear hr h1 HB
  go_wp2_with (fail)
  refine (l20Player RD.out (by omega)).mono ?_
  rintro e w2 ⟨q0, D1, d, L, rfl, hL, oa, q, qa, qb, hr, hg⟩
  obtain ⟨lo, hlo⟩ : ∃ X, X = w1.heap.size := ⟨_, rfl⟩
  obtain ⟨R, hRR⟩ : ∃ X, X = w0.heap.size := ⟨_, rfl⟩
  have LW := Lib.hid (show lo ≤ w2.heap.size by rw [hlo]; exact hg.size)
  have KZ := Lib.hid (KZ.out.grown hg (fun e => by injection e with e; omega))
  have FZ := Lib.hid (FZ.out.grown hg (fun e => by injection e with e; omega))
  have BA := Lib.hid (BA.out.trans (Below.of_grown hg (by omega) (fun x hx => by injection hx with hx; omega)))
  have RD := Lib.hid hr
  rw [← hlo] at oa hR
  rw [← hRR] at RD hR HS ⊢
  have OA := Lib.hid oa
  clear hr hg hlo hRR oa
  have hb : Below w2.heap.size w2 (w2.alloc (.cells #[.int .i64 q0.c, .int .i64 q0.n, .int .i64 q0.o, .int .i64 q0.x, .int .i64 q0.y, .slice D1 L.length d] 27)) := (Below.refl _ _).alloc (Nat.le_refl _) _
  have T5 : Hid (Bkk (w2.alloc (.cells #[.int .i64 q0.c, .int .i64 q0.n, .int .i64 q0.o, .int .i64 q0.x, .int .i64 q0.y, .slice D1 L.length d] 27)) w2.heap.size 27 #[.int .i64 q0.c, .int .i64 q0.n, .int .i64 q0.o, .int .i64 q0.x, .int .i64 q0.y, .slice D1 L.length d]) := Bkk.new _
  have KZ := Lib.hid (KZ.out.below hb)
  have FZ := Lib.hid (FZ.out.below hb)
  have BA := Lib.hid (Below.and BA.out hb)
  have OA := Lib.hid (OA.out.below hb)
  have RD := Lib.hid (RD.out.below hb)
  have LP := LW.out
  have LW := Lib.hid (Nat.le_trans LW.out hb.size)
  clear hb
  go_upto_region 3 with (fail)
  obtain ⟨p5, hp5⟩ : ∃ X, X = w2.heap.size := ⟨_, rfl⟩
  obtain ⟨w3, hw3⟩ : ∃ X, X = w2.alloc (.cells #[.int .i64 q0.c, .int .i64 q0.n, .int .i64 q0.o, .int .i64 q0.x, .int .i64 q0.y, .slice D1 L.length d] 27) := ⟨_, rfl⟩
  rw [← hw3] at T5 KZ FZ BA OA RD LW ⊢
  rw [← hp5] at T5 LP ⊢
  clear hw3 hp5
  refine wp_region_held_drew (S := fun WS => Bkk WS p5 27 #[.int .i64 q0.c, .int .i64 q0.n, .int .i64 q0.o, .int .i64 q0.x, .int .i64 q0.y, .slice D1 L.length d]) (by kernel_rfl) (T5.out.below (Below.refl _ _).drew) (fun hS => ?_)
  have hb : Below w3.heap.size w3 w3.drew := (Below.refl _ _).drew
  replace KZ := Lib.hid (KZ.out.below hb)
  replace FZ := Lib.hid (FZ.out.below hb)
  replace T5 := Lib.hid (T5.out.below hb)
  replace BA := Lib.hid (Below.and BA.out hb)
  replace OA := Lib.hid (OA.out.below hb)
  replace LW := Lib.hid (Nat.le_trans LW.out hb.size)
  have RD := Lib.hid (RD.out.below hb)
  clear hb
  obtain ⟨w4, hw4⟩ : ∃ X, X = w3.drew := ⟨_, rfl⟩
  rw [← hw4] at hS KZ FZ T5 BA OA LW RD ⊢
  clear hw4
  refine takeD 0 10 (v := ?_) rfl rfl (by kernel_rfl) (by kernel_rfl) (by kernel_rfl) (fun _ _ _ h => h) (Or.inl ⟨by rfl, ?_⟩) (by assumption) ?_
  rotate_left
  · intro w1 hSw; have c0 := hSw.cell 0; have c1 := hSw.cell 1; have c2 := hSw.cell 2; have c3 := hSw.cell 3; have c4 := hSw.cell 4; have c5 := hSw.cell 5; go_simp; (try with_reducible rfl)
  (try simp only [Act.put, List.setIfInBounds_toArray, List.set_cons_zero, List.set_cons_succ])
  refine takeD 1 11 (v := ?_) rfl rfl (by kernel_rfl) (by kernel_rfl) (by kernel_rfl) (fun _ _ _ h => h) (Or.inl ⟨by rfl, ?_⟩) (by assumption) ?_
  rotate_left
  · intro w1 hSw; have c0 := hSw.cell 0; have c1 := hSw.cell 1; have c2 := hSw.cell 2; have c3 := hSw.cell 3; have c4 := hSw.cell 4; have c5 := hSw.cell 5; go_simp; (try with_reducible rfl)
  (try simp only [Act.put, List.setIfInBounds_toArray, List.set_cons_zero, List.set_cons_succ])
  refine takeD 2 12 (v := ?_) rfl rfl (by kernel_rfl) (by kernel_rfl) (by kernel_rfl) (fun _ _ _ h => h) (Or.inl ⟨by rfl, ?_⟩) (by assumption) ?_
  rotate_left
  · intro w1 hSw; have c0 := hSw.cell 0; have c1 := hSw.cell 1; have c2 := hSw.cell 2; have c3 := hSw.cell 3; have c4 := hSw.cell 4; have c5 := hSw.cell 5; go_simp; (try with_reducible rfl)
  (try simp only [Act.put, List.setIfInBounds_toArray, List.set_cons_zero, List.set_cons_succ])
  refine takeD 3 13 (v := ?_) rfl rfl (by kernel_rfl) (by kernel_rfl) (by kernel_rfl) (fun _ _ _ h => h) (Or.inl ⟨by rfl, ?_⟩) (by assumption) ?_
  rotate_left
  · intro w1 hSw; have c0 := hSw.cell 0; have c1 := hSw.cell 1; have c2 := hSw.cell 2; have c3 := hSw.cell 3; have c4 := hSw.cell 4; have c5 := hSw.cell 5; go_simp; (try with_reducible rfl)
  (try simp only [Act.put, List.setIfInBounds_toArray, List.set_cons_zero, List.set_cons_succ])
  refine takeD 4 14 (v := ?_) rfl rfl (by kernel_rfl) (by kernel_rfl) (by kernel_rfl) (fun _ _ _ h => h) (Or.inl ⟨by rfl, ?_⟩) (by assumption) ?_
  rotate_left
  · intro w1 hSw; have c0 := hSw.cell 0; have c1 := hSw.cell 1; have c2 := hSw.cell 2; have c3 := hSw.cell 3; have c4 := hSw.cell 4; have c5 := hSw.cell 5; go_simp; (try with_reducible rfl)
  (try simp only [Act.put, List.setIfInBounds_toArray, List.set_cons_zero, List.set_cons_succ])
  refine wpAnyH_ready (rs := [5]) (by kernel_rfl) (by simp) ?_
  refine AllReadyH.cons rfl (fun KK hK => ?_) AllReadyH.nil
  go_simp
  refine (l20Reply q0.n RD.out (by omega)).mono ?_
  rintro e w5 ⟨r, rfl, qy, qy0, qy1, hr, hg⟩
  replace KZ := Lib.hid (KZ.out.grown hg (fun e => by injection e with e; omega))
  replace FZ := Lib.hid (FZ.out.grown hg (fun e => by injection e with e; omega))
  replace T5 := Lib.hid (T5.out.grown hg (fun e => by injection e with e; omega))
  replace BA := Lib.hid (BA.out.trans (Below.of_grown hg (by have := BA.out.size; have := LW.out; omega) (fun x hx => by injection hx with hx; omega)))
  replace OA := Lib.hid (OA.out.drawn (by omega) hg)
  replace LW := Lib.hid (Nat.le_trans LW.out hg.size)
  have RD := Lib.hid hr
  clear hr hg
  refine hK.out _ _ T5.out (fun hS => ?_)
  clear hK KK
  (try simp only [Act.put, List.setIfInBounds_toArray, List.set_cons_zero, List.set_cons_succ])
  have z0 : w5.cell? ⟨w.heap.size, 0, none⟩ = some (.int .i64 0) := KZ.out.cell 0
  have z1 : w5.cell? ⟨w.heap.size, 1, none⟩ = some (.int .i64 0) := KZ.out.cell 1
  have z2 : w5.cell? ⟨w.heap.size, 2, none⟩ = some (.int .i64 0) := KZ.out.cell 2
  have z3 : w5.cell? ⟨w.heap.size, 3, none⟩ = some (.int .i64 0) := KZ.out.cell 3
  have z4 : w5.cell? ⟨w.heap.size, 4, none⟩ = some (.int .i64 0) := KZ.out.cell 4
  have z5 : w5.cell? ⟨w.heap.size, 5, none⟩ = some (.slice none 0 0) := KZ.out.cell 5
  have zf := KZ.out.frozen
  have y0 : w5.cell? ⟨w.heap.size + 1, 0, none⟩ = some (.int .i64 0) := FZ.out.cell 0
  have y1 : w5.cell? ⟨w.heap.size + 1, 1, none⟩ = some (.int .i64 0) := FZ.out.cell 1
  have y2 : w5.cell? ⟨w.heap.size + 1, 2, none⟩ = some (.int .i64 0) := FZ.out.cell 2
  have y3 : w5.cell? ⟨w.heap.size + 1, 3, none⟩ = some (.int .i64 0) := FZ.out.cell 3
  have yf := FZ.out.frozen
  have lz := KZ.out.lt
  have ly := FZ.out.lt
  refine wpAnyH_ready (rs := [6]) (by kernel_rfl) (by simp) ?_
  refine AllReadyH.cons rfl (fun KK hK => ?_) AllReadyH.nil
  go_simp
  refine hK.out _ _ ((((((T5.out.far (show p5 ≠ w.heap.size by omega) 0 _).far (show p5 ≠ w.heap.size by omega) 1 _).far (show p5 ≠ w.heap.size by omega) 2 _).far (show p5 ≠ w.heap.size by omega) 3 _).far (show p5 ≠ w.heap.size by omega) 4 _).far (show p5 ≠ w.heap.size by omega) 5 _) (fun hS => ?_)
  clear hK KK
  (try simp only [Act.put, List.setIfInBounds_toArray, List.set_cons_zero, List.set_cons_succ])
  refine wpAnyH_ready (rs := [7]) (by kernel_rfl) (by simp) ?_
  refine AllReadyH.cons rfl (fun KK hK => ?_) AllReadyH.nil
  go_simp
  refine hK.out _ _ ((((((((((T5.out.far (show p5 ≠ w.heap.size by omega) 0 _).far (show p5 ≠ w.heap.size by omega) 1 _).far (show p5 ≠ w.heap.size by omega) 2 _).far (show p5 ≠ w.heap.size by omega) 3 _).far (show p5 ≠ w.heap.size by omega) 4 _).far (show p5 ≠ w.heap.size by omega) 5 _).far (show p5 ≠ w.heap.size + 1 by omega) 0 _).far (show p5 ≠ w.heap.size + 1 by omega) 1 _).far (show p5 ≠ w.heap.size + 1 by omega) 2 _).far (show p5 ≠ w.heap.size + 1 by omega) 3 _) (fun hS => ?_)
  clear hK KK
  (try simp only [Act.put, List.setIfInBounds_toArray, List.set_cons_zero, List.set_cons_succ])
  refine wpAnyH_done (by kernel_rfl) ?_ _
  have OG := Lib.hid (((((((((((OA.out.put (q := w.heap.size) (by omega) 0 (.int .i64 q0.c)).put (q := w.heap.size) (by omega) 1 (.int .i64 q0.n)).put (q := w.heap.size) (by omega) 2 (.int .i64 q0.o)).put (q := w.heap.size) (by omega) 3 (.int .i64 q0.x)).put (q := w.heap.size) (by omega) 4 (.int .i64 q0.y)).put (q := w.heap.size) (by omega) 5 (.slice D1 L.length d)).put (q := w.heap.size + 1) (by omega) 0 (.int .i64 r.f)).put (q := w.heap.size + 1) (by omega) 1 (.int .i64 r.n)).put (q := w.heap.size + 1) (by omega) 2 (.int .i64 r.c)).put (q := w.heap.size + 1) (by omega) 3 (.int .i64 r.s)).base (show w.heap.size ≤ lo by omega))
  have BG := Lib.hid ((((((((((BA.out.setCell (p := ⟨w.heap.size, 0, none⟩) (Nat.le_refl _) (.int .i64 q0.c)).setCell (p := ⟨w.heap.size, 1, none⟩) (Nat.le_refl _) (.int .i64 q0.n)).setCell (p := ⟨w.heap.size, 2, none⟩) (Nat.le_refl _) (.int .i64 q0.o)).setCell (p := ⟨w.heap.size, 3, none⟩) (Nat.le_refl _) (.int .i64 q0.x)).setCell (p := ⟨w.heap.size, 4, none⟩) (Nat.le_refl _) (.int .i64 q0.y)).setCell (p := ⟨w.heap.size, 5, none⟩) (Nat.le_refl _) (.slice D1 L.length d)).setCell (p := ⟨w.heap.size + 1, 0, none⟩) (by simp) (.int .i64 r.f)).setCell (p := ⟨w.heap.size + 1, 1, none⟩) (by simp) (.int .i64 r.n)).setCell (p := ⟨w.heap.size + 1, 2, none⟩) (by simp) (.int .i64 r.c)).setCell (p := ⟨w.heap.size + 1, 3, none⟩) (by simp) (.int .i64 r.s))
  clear OA BA T5 KZ FZ RD
  go_wp2
  refine bodyPost_ret (v := .tuple #[playerV q0 D1 L.length d, r.val]) (by simp [results, Try.results10, go_sem, z0, z1, z2, z3, z4, z5, y0, y1, y2, y3, zf, yf]) rfl ⟨q0, D1, d, L, r, rfl, hL, OG.out, BG.out⟩

set_option maxRecDepth 100000 in
set_option maxHeartbeats 4000000 in
theorem drawPlayerAsk {w : World} {A : Option Addr} {n c : Nat} (hn : n ≤ 1048576) (hc : n ≤ c) (hb : InB w A n) :
    Calls Try.prog 19 #[.slice A n c] w fun e w' => ∃ (q0 : Rq) (D1 : Option Addr) (d : Nat) (L : List Rp) (r : Rq), e = .returned (.tuple #[playerV q0 D1 L.length d, r.val]) ∧ L.length ≤ 6 ∧ OwL w' w.heap.size D1 d L ∧ Below w.heap.size w w' := by
  have HS : w.heap.size + 2 ≤ ((w.alloc (.cells #[.int .i64 0, .int .i64 0, .int .i64 0, .int .i64 0, .int .i64 0, .slice none 0 0] 27)).alloc (.cells #[.int .i64 0, .int .i64 0, .int .i64 0, .int .i64 0, .int .i64 0] 24)).heap.size := by simp
  have hba : Below w.heap.size w ((w.alloc (.cells #[.int .i64 0, .int .i64 0, .int .i64 0, .int .i64 0, .int .i64 0, .slice none 0 0] 27)).alloc (.cells #[.int .i64 0, .int .i64 0, .int .i64 0, .int .i64 0, .int .i64 0] 24)) := below_alloc2 w _ _
  have KZ : Hid (Bkk ((w.alloc (.cells #[.int .i64 0, .int .i64 0, .int .i64 0, .int .i64 0, .int .i64 0, .slice none 0 0] 27)).alloc (.cells #[.int .i64 0, .int .i64 0, .int .i64 0, .int .i64 0, .int .i64 0] 24)) w.heap.size 27 #[.int .i64 0, .int .i64 0, .int .i64 0, .int .i64 0, .int .i64 0, .slice none 0 0]) := (Bkk.new (cs := #[.int .i64 0, .int .i64 0, .int .i64 0, .int .i64 0, .int .i64 0, .slice none 0 0]) (t := 27) w).alloc _
  have FZ : Hid (Bkk ((w.alloc (.cells #[.int .i64 0, .int .i64 0, .int .i64 0, .int .i64 0, .int .i64 0, .slice none 0 0] 27)).alloc (.cells #[.int .i64 0, .int .i64 0, .int .i64 0, .int .i64 0, .int .i64 0] 24)) (w.heap.size + 1) 24 #[.int .i64 0, .int .i64 0, .int .i64 0, .int .i64 0, .int .i64 0]) := by have := Bkk.new (cs := #[.int .i64 0, .int .i64 0, .int .i64 0, .int .i64 0, .int .i64 0]) (t := 24) (w.alloc (.cells #[.int .i64 0, .int .i64 0, .int .i64 0, .int .i64 0, .int .i64 0, .slice none 0 0] 27)); simpa [Hid] using this
  have HB := Lib.hid (in_belowN hb hba)
  have BA := Lib.hid hba
  clear hb hba
  go_enter Try.func19, Try.ntmps19
  go_upto_region 1 with (fail)
  obtain ⟨w0, hw0⟩ : ∃ X, X = ((w.alloc (.cells #[.int .i64 0, .int .i64 0, .int .i64 0, .int .i64 0, .int .i64 0, .slice none 0 0] 27)).alloc (.cells #[.int .i64 0, .int .i64 0, .int .i64 0, .int .i64 0, .int .i64 0] 24)) := ⟨_, rfl⟩
  rw [← hw0] at KZ FZ HB BA HS ⊢
  clear hw0
  go_wp2_with (fail)
  refine (l20Open hn hc HB.out).mono ?_
  rintro e w1 ⟨m, rfl, hr, h1⟩
  have RD := Lib.hid hr
  have BA := Lib.hid (Below.and BA.out h1)
  have KZ := Lib.hid (KZ.out.below h1)
  have FZ := Lib.hid (FZ.out.below h1)
  have hR : w0.heap.size < w1.heap.size := hr.lt
  clear hr h1 HB
  go_wp2_with (fail)
  refine (l20Player RD.out (by omega)).mono ?_
  rintro e w2 ⟨q0, D1, d, L, rfl, hL, oa, q, qa, qb, hr, hg⟩
  obtain ⟨lo, hlo⟩ : ∃ X, X = w1.heap.size := ⟨_, rfl⟩
  obtain ⟨R, hRR⟩ : ∃ X, X = w0.heap.size := ⟨_, rfl⟩
  have LW := Lib.hid (show lo ≤ w2.heap.size by rw [hlo]; exact hg.size)
  have KZ := Lib.hid (KZ.out.grown hg (fun e => by injection e with e; omega))
  have FZ := Lib.hid (FZ.out.grown hg (fun e => by injection e with e; omega))
  have BA := Lib.hid (BA.out.trans (Below.of_grown hg (by omega) (fun x hx => by injection hx with hx; omega)))
  have RD := Lib.hid hr
  rw [← hlo] at oa hR
  rw [← hRR] at RD hR HS ⊢
  have OA := Lib.hid oa
  clear hr hg hlo hRR oa
  have hb : Below w2.heap.size w2 (w2.alloc (.cells #[.int .i64 q0.c, .int .i64 q0.n, .int .i64 q0.o, .int .i64 q0.x, .int .i64 q0.y, .slice D1 L.length d] 27)) := (Below.refl _ _).alloc (Nat.le_refl _) _
  have T5 : Hid (Bkk (w2.alloc (.cells #[.int .i64 q0.c, .int .i64 q0.n, .int .i64 q0.o, .int .i64 q0.x, .int .i64 q0.y, .slice D1 L.length d] 27)) w2.heap.size 27 #[.int .i64 q0.c, .int .i64 q0.n, .int .i64 q0.o, .int .i64 q0.x, .int .i64 q0.y, .slice D1 L.length d]) := Bkk.new _
  have KZ := Lib.hid (KZ.out.below hb)
  have FZ := Lib.hid (FZ.out.below hb)
  have BA := Lib.hid (Below.and BA.out hb)
  have OA := Lib.hid (OA.out.below hb)
  have RD := Lib.hid (RD.out.below hb)
  have LP := LW.out
  have LW := Lib.hid (Nat.le_trans LW.out hb.size)
  clear hb
  go_upto_region 3 with (fail)
  obtain ⟨p5, hp5⟩ : ∃ X, X = w2.heap.size := ⟨_, rfl⟩
  obtain ⟨w3, hw3⟩ : ∃ X, X = w2.alloc (.cells #[.int .i64 q0.c, .int .i64 q0.n, .int .i64 q0.o, .int .i64 q0.x, .int .i64 q0.y, .slice D1 L.length d] 27) := ⟨_, rfl⟩
  rw [← hw3] at T5 KZ FZ BA OA RD LW ⊢
  rw [← hp5] at T5 LP ⊢
  clear hw3 hp5
  go_wp2_with (fail)
  refine (l20AnyReq RD.out (by omega)).mono ?_
  rintro e w5 ⟨g1, g2, g3, g4, g5, rfl, qy, qy0, qy1, hr, hg⟩
  replace KZ := Lib.hid (KZ.out.grown hg (fun e => by injection e with e; omega))
  replace FZ := Lib.hid (FZ.out.grown hg (fun e => by injection e with e; omega))
  replace T5 := Lib.hid (T5.out.grown hg (fun e => by injection e with e; omega))
  replace BA := Lib.hid (BA.out.trans (Below.of_grown hg (by have := BA.out.size; have := LW.out; omega) (fun x hx => by injection hx with hx; omega)))
  replace OA := Lib.hid (OA.out.drawn (by omega) hg)
  replace LW := Lib.hid (Nat.le_trans LW.out hg.size)
  have RD := Lib.hid hr
  clear hr hg
  have hb : Below w5.heap.size w5 (w5.alloc (.cells #[.int .i64 g1, .int .i64 g2, .int .i64 g3, .int .i64 g4, .int .i64 g5] 24)) := (Below.refl _ _).alloc (Nat.le_refl _) _
  have T6 : Hid (Bkk (w5.alloc (.cells #[.int .i64 g1, .int .i64 g2, .int .i64 g3, .int .i64 g4, .int .i64 g5] 24)) w5.heap.size 24 #[.int .i64 g1, .int .i64 g2, .int .i64 g3, .int .i64 g4, .int .i64 g5]) := Bkk.new _
  have L6 := LW.out
  have N56 : p5 < w5.heap.size := T5.out.lt
  replace KZ := Lib.hid (KZ.out.below hb)
  replace FZ := Lib.hid (FZ.out.below hb)
  replace T5 := Lib.hid (T5.out.below hb)
  replace BA := Lib.hid (Below.and BA.out hb)
  replace OA := Lib.hid (OA.out.below hb)
  replace LW := Lib.hid (Nat.le_trans LW.out hb.size)
  have RD := Lib.hid (RD.out.below hb)
  clear hb
  go_upto_region 4 with (fail)
  obtain ⟨p6, hp6⟩ : ∃ X, X = w5.heap.size := ⟨_, rfl⟩
  obtain ⟨w6, hw6⟩ : ∃ X, X = w5.alloc (.cells #[.int .i64 g1, .int .i64 g2, .int .i64 g3, .int .i64 g4, .int .i64 g5] 24) := ⟨_, rfl⟩
  rw [← hw6] at T6 T5 KZ FZ BA OA RD LW ⊢
  rw [← hp6] at T6 L6 N56 ⊢
  clear hw6 hp6
  go_wp2_with (fail)
  refine (pickR 4 RD.out (by omega) (by omega) (by omega)).mono ?_
  rintro e w8 ⟨g, ga, gb, rfl, qz, qz0, qz1, hr, hg⟩
  replace KZ := Lib.hid (KZ.out.grown hg (fun e => by injection e with e; omega))
  replace FZ := Lib.hid (FZ.out.grown hg (fun e => by injection e with e; omega))
  replace T5 := Lib.hid (T5.out.grown hg (fun e => by injection e with e; omega))
  replace T6 := Lib.hid (T6.out.grown hg (fun e => by injection e with e; omega))
  replace BA := Lib.hid (BA.out.trans (Below.of_grown hg (by have := BA.out.size; have := LW.out; omega) (fun x hx => by injection hx with hx; omega)))
  replace OA := Lib.hid (OA.out.drawn (by omega) hg)
  replace LW := Lib.hid (Nat.le_trans LW.out hg.size)
  have RD := Lib.hid hr
  clear hr hg
  by_cases h0 : 0 < g
  · have e0 : decide ((0 : Int) < g) = true := decide_eq_true h0
    have x0 : w8.cell? ⟨p5, 0, none⟩ = some (.int .i64 q0.c) := T5.out.cell 0
    have x1 : w8.cell? ⟨p5, 1, none⟩ = some (.int .i64 q0.n) := T5.out.cell 1
    have x2 : w8.cell? ⟨p5, 2, none⟩ = some (.int .i64 q0.o) := T5.out.cell 2
    have x3 : w8.cell? ⟨p5, 3, none⟩ = some (.int .i64 q0.x) := T5.out.cell 3
    have x4 : w8.cell? ⟨p5, 4, none⟩ = some (.int .i64 q0.y) := T5.out.cell 4
    have x5 : w8.cell? ⟨p5, 5, none⟩ = some (.slice D1 L.length d) := T5.out.cell 5
    have u0 : w8.cell? ⟨p6, 0, none⟩ = some (.int .i64 g1) := T6.out.cell 0
    have u1 : w8.cell? ⟨p6, 1, none⟩ = some (.int .i64 g2) := T6.out.cell 1
    have u2 : w8.cell? ⟨p6, 2, none⟩ = some (.int .i64 g3) := T6.out.cell 2
    have u3 : w8.cell? ⟨p6, 3, none⟩ = some (.int .i64 g4) := T6.out.cell 3
    have u4 : w8.cell? ⟨p6, 4, none⟩ = some (.int .i64 g5) := T6.out.cell 4
    have uf := T6.out.frozen
    have lu := T6.out.lt
    have lx := T5.out.lt
    go_upto_region 6 with (fail)
    replace KZ := Lib.hid (KZ.out.far (show w.heap.size ≠ p6 by omega) 0 (.int .i64 q0.c))
    replace FZ := Lib.hid (FZ.out.far (show w.heap.size + 1 ≠ p6 by omega) 0 (.int .i64 q0.c))
    replace T5 := Lib.hid (T5.out.far (show p5 ≠ p6 by omega) 0 (.int .i64 q0.c))
    replace BA := Lib.hid (BA.out.setCell (p := ⟨p6, 0, none⟩) (by simp; omega) (.int .i64 q0.c))
    replace OA := Lib.hid (OA.out.box T6.out (by decide) 0 (.int .i64 q0.c))
    have T6 : Hid (Bkk (w8.setCell ⟨p6, 0, none⟩ (.int .i64 q0.c)) p6 24 #[.int .i64 q0.c, .int .i64 g2, .int .i64 g3, .int .i64 g4, .int .i64 g5]) := T6.out.set 0 (.int .i64 q0.c)
    obtain ⟨w9, hw9⟩ : ∃ X, X = w8.setCell ⟨p6, 0, none⟩ (.int .i64 q0.c) := ⟨_, rfl⟩
    rw [← hw9] at KZ FZ T5 T6 BA OA ⊢
    clear hw9 x0 x1 x2 x3 x4 x5 u0 u1 u2 u3 u4 uf lu lx
    have x0 : w9.cell? ⟨p5, 0, none⟩ = some (.int .i64 q0.c) := T5.out.cell 0
    have x1 : w9.cell? ⟨p5, 1, none⟩ = some (.int .i64 q0.n) := T5.out.cell 1
    have x2 : w9.cell? ⟨p5, 2, none⟩ = some (.int .i64 q0.o) := T5.out.cell 2
    have x3 : w9.cell? ⟨p5, 3, none⟩ = some (.int .i64 q0.x) := T5.out.cell 3
    have x4 : w9.cell? ⟨p5, 4, none⟩ = some (.int .i64 q0.y) := T5.out.cell 4
    have x5 : w9.cell? ⟨p5, 5, none⟩ = some (.slice D1 L.length d) := T5.out.cell 5
    have u0 : w9.cell? ⟨p6, 0, none⟩ = some (.int .i64 q0.c) := T6.out.cell 0
    have u1 : w9.cell? ⟨p6, 1, none⟩ = some (.int .i64 g2) := T6.out.cell 1
    have u2 : w9.cell? ⟨p6, 2, none⟩ = some (.int .i64 g3) := T6.out.cell 2
    have u3 : w9.cell? ⟨p6, 3, none⟩ = some (.int .i64 g4) := T6.out.cell 3
    have u4 : w9.cell? ⟨p6, 4, none⟩ = some (.int .i64 g5) := T6.out.cell 4
    have uf := T6.out.frozen
    have lu := T6.out.lt
    have lx := T5.out.lt
    go_upto_region 7 with (fail)
    obtain ⟨N1, hN1⟩ : ∃ X, X = wrap64 (q0.n + 1) := ⟨_, rfl⟩
    rw [← hN1]
    clear hN1
    replace KZ := Lib.hid (KZ.out.far (show w.heap.size ≠ p6 by omega) 1 (.int .i64 N1))
    replace FZ := Lib.hid (FZ.out.far (show w.heap.size + 1 ≠ p6 by omega) 1 (.int .i64 N1))
    replace T5 := Lib.hid (T5.out.far (show p5 ≠ p6 by omega) 1 (.int .i64 N1))
    replace BA := Lib.hid (BA.out.setCell (p := ⟨p6, 1, none⟩) (by simp; omega) (.int .i64 N1))
    replace OA := Lib.hid (OA.out.box T6.out (by decide) 1 (.int .i64 N1))
    have T6 : Hid (Bkk (w9.setCell ⟨p6, 1, none⟩ (.int .i64 N1)) p6 24 #[.int .i64 q0.c, .int .i64 N1, .int .i64 g3, .int .i64 g4, .int .i64 g5]) := T6.out.set 1 (.int .i64 N1)
    obtain ⟨wa, hwa⟩ : ∃ X, X = w9.setCell ⟨p6, 1, none⟩ (.int .i64 N1) := ⟨_, rfl⟩
    rw [← hwa] at KZ FZ T5 T6 BA OA ⊢
    clear hwa x0 x1 x2 x3 x4 x5 u0 u1 u2 u3 u4 uf lu lx
    refine wp_region_held_drew (S := fun WS => Bkk WS p5 27 #[.int .i64 q0.c, .int .i64 q0.n, .int .i64 q0.o, .int .i64 q0.x, .int .i64 q0.y, .slice D1 L.length d] ∧ Bkk WS p6 24 #[.int .i64 q0.c, .int .i64 N1, .int .i64 g3, .int .i64 g4, .int .i64 g5]) (by kernel_rfl) ⟨T5.out.below (Below.refl _ _).drew, T6.out.below (Below.refl _ _).drew⟩ (fun hS => ?_)
    have hb : Below wa.heap.size wa wa.drew := (Below.refl _ _).drew
    replace KZ := Lib.hid (KZ.out.below hb)
    replace FZ := Lib.hid (FZ.out.below hb)
    replace T5 := Lib.hid (T5.out.below hb)
    replace T6 := Lib.hid (T6.out.below hb)
    replace BA := Lib.hid (Below.and BA.out hb)
    replace OA := Lib.hid (OA.out.below hb)
    clear hb
    obtain ⟨w7, hw7⟩ : ∃ X, X = wa.drew := ⟨_, rfl⟩
    rw [← hw7] at hS KZ FZ T5 T6 BA OA ⊢
    clear hw7
    refine takeD 0 25 (v := ?_) rfl rfl (by kernel_rfl) (by kernel_rfl) (by kernel_rfl) (fun _ _ _ h => h) (Or.inl ⟨by rfl, ?_⟩) (by assumption) ?_
    rotate_left
    · intro w1 hSw; have c0 := hSw.1.cell 0; have c1 := hSw.1.cell 1; have c2 := hSw.1.cell 2; have c3 := hSw.1.cell 3; have c4 := hSw.1.cell 4; have c5 := hSw.1.cell 5; have d0 := hSw.2.cell 0; have d1 := hSw.2.cell 1; have d2 := hSw.2.cell 2; have d3 := hSw.2.cell 3; have d4 := hSw.2.cell 4; go_simp; (try with_reducible rfl)
    (try simp only [Act.put, List.setIfInBounds_toArray, List.set_cons_zero, List.set_cons_succ])
    refine takeD 1 26 (v := ?_) rfl rfl (by kernel_rfl) (by kernel_rfl) (by kernel_rfl) (fun _ _ _ h => h) (Or.inl ⟨by rfl, ?_⟩) (by assumption) ?_
    rotate_left
    · intro w1 hSw; have c0 := hSw.1.cell 0; have c1 := hSw.1.cell 1; have c2 := hSw.1.cell 2; have c3 := hSw.1.cell 3; have c4 := hSw.1.cell 4; have c5 := hSw.1.cell 5; have d0 := hSw.2.cell 0; have d1 := hSw.2.cell 1; have d2 := hSw.2.cell 2; have d3 := hSw.2.cell 3; have d4 := hSw.2.cell 4; go_simp; (try with_reducible rfl)
    (try simp only [Act.put, List.setIfInBounds_toArray, List.set_cons_zero, List.set_cons_succ])
    have z0 : w7.cell? ⟨w.heap.size, 0, none⟩ = some (.int .i64 0) := KZ.out.cell 0
    have z1 : w7.cell? ⟨w.heap.size, 1, none⟩ = some (.int .i64 0) := KZ.out.cell 1
    have z2 : w7.cell? ⟨w.heap.size, 2, none⟩ = some (.int .i64 0) := KZ.out.cell 2
    have z3 : w7.cell? ⟨w.heap.size, 3, none⟩ = some (.int .i64 0) := KZ.out.cell 3
    have z4 : w7.cell? ⟨w.heap.size, 4, none⟩ = some (.int .i64 0) := KZ.out.cell 4
    have z5 : w7.cell? ⟨w.heap.size, 5, none⟩ = some (.slice none 0 0) := KZ.out.cell 5
    have zf := KZ.out.frozen
    have y0 : w7.cell? ⟨w.heap.size + 1, 0, none⟩ = some (.int .i64 0) := FZ.out.cell 0
    have y1 : w7.cell? ⟨w.heap.size + 1, 1, none⟩ = some (.int .i64 0) := FZ.out.cell 1
    have y2 : w7.cell? ⟨w.heap.size + 1, 2, none⟩ = some (.int .i64 0) := FZ.out.cell 2
    have y3 : w7.cell? ⟨w.heap.size + 1, 3, none⟩ = some (.int .i64 0) := FZ.out.cell 3
    have y4 : w7.cell? ⟨w.heap.size + 1, 4, none⟩ = some (.int .i64 0) := FZ.out.cell 4
    have yf := FZ.out.frozen
    have lz := KZ.out.lt
    have ly := FZ.out.lt
    refine wpAnyH_ready (rs := [2]) (by kernel_rfl) (by simp) ?_
    refine AllReadyH.cons rfl (fun KK hK => ?_) AllReadyH.nil
    go_simp
    refine hK.out _ _ ⟨((((((T5.out.far (show p5 ≠ w.heap.size by omega) 0 _).far (show p5 ≠ w.heap.size by omega) 1 _).far (show p5 ≠ w.heap.size by omega) 2 _).far (show p5 ≠ w.heap.size by omega) 3 _).far (show p5 ≠ w.heap.size by omega) 4 _).far (show p5 ≠ w.heap.size by omega) 5 _), ((((((T6.out.far (show p6 ≠ w.heap.size by omega) 0 _).far (show p6 ≠ w.heap.size by omega) 1 _).far (show p6 ≠ w.heap.size by omega) 2 _).far (show p6 ≠ w.heap.size by omega) 3 _).far (show p6 ≠ w.heap.size by omega) 4 _).far (show p6 ≠ w.heap.size by omega) 5 _)⟩ (fun hS => ?_)
    clear hK KK
    (try simp only [Act.put, List.setIfInBounds_toArray, List.set_cons_zero, List.set_cons_succ])
    refine wpAnyH_ready (rs := [3]) (by kernel_rfl) (by simp) ?_
    refine AllReadyH.cons rfl (fun KK hK => ?_) AllReadyH.nil
    go_simp
    refine hK.out _ _ ⟨(((((((((((T5.out.far (show p5 ≠ w.heap.size by omega) 0 _).far (show p5 ≠ w.heap.size by omega) 1 _).far (show p5 ≠ w.heap.size by omega) 2 _).far (show p5 ≠ w.heap.size by omega) 3 _).far (show p5 ≠ w.heap.size by omega) 4 _).far (show p5 ≠ w.heap.size by omega) 5 _).far (show p5 ≠ w.heap.size + 1 by omega) 0 _).far (show p5 ≠ w.heap.size + 1 by omega) 1 _).far (show p5 ≠ w.heap.size + 1 by omega) 2 _).far (show p5 ≠ w.heap.size + 1 by omega) 3 _).far (show p5 ≠ w.heap.size + 1 by omega) 4 _), (((((((((((T6.out.far (show p6 ≠ w.heap.size by omega) 0 _).far (show p6 ≠ w.heap.size by omega) 1 _).far (show p6 ≠ w.heap.size by omega) 2 _).far (show p6 ≠ w.heap.size by omega) 3 _).far (show p6 ≠ w.heap.size by omega) 4 _).far (show p6 ≠ w.heap.size by omega) 5 _).far (show p6 ≠ w.heap.size + 1 by omega) 0 _).far (show p6 ≠ w.heap.size + 1 by omega) 1 _).far (show p6 ≠ w.heap.size + 1 by omega) 2 _).far (show p6 ≠ w.heap.size + 1 by omega) 3 _).far (show p6 ≠ w.heap.size + 1 by omega) 4 _)⟩ (fun hS => ?_)
    clear hK KK
    (try simp only [Act.put, List.setIfInBounds_toArray, List.set_cons_zero, List.set_cons_succ])
    refine wpAnyH_done (by kernel_rfl) ?_ _
    have OG := Lib.hid ((((((((((((OA.out.put (q := w.heap.size) (by omega) 0 (.int .i64 q0.c)).put (q := w.heap.size) (by omega) 1 (.int .i64 q0.n)).put (q := w.heap.size) (by omega) 2 (.int .i64 q0.o)).put (q := w.heap.size) (by omega) 3 (.int .i64 q0.x)).put (q := w.heap.size) (by omega) 4 (.int .i64 q0.y)).put (q := w.heap.size) (by omega) 5 (.slice D1 L.length d)).put (q := w.heap.size + 1) (by omega) 0 (.int .i64 q0.c)).put (q := w.heap.size + 1) (by omega) 1 (.int .i64 N1)).put (q := w.heap.size + 1) (by omega) 2 (.int .i64 g3)).put (q := w.heap.size + 1) (by omega) 3 (.int .i64 g4)).put (q := w.heap.size + 1) (by omega) 4 (.int .i64 g5)).base (show w.heap.size ≤ lo by omega))
    have BG := Lib.hid (((((((((((BA.out.setCell (p := ⟨w.heap.size, 0, none⟩) (Nat.le_refl _) (.int .i64 q0.c)).setCell (p := ⟨w.heap.size, 1, none⟩) (Nat.le_refl _) (.int .i64 q0.n)).setCell (p := ⟨w.heap.size, 2, none⟩) (Nat.le_refl _) (.int .i64 q0.o)).setCell (p := ⟨w.heap.size, 3, none⟩) (Nat.le_refl _) (.int .i64 q0.x)).setCell (p := ⟨w.heap.size, 4, none⟩) (Nat.le_refl _) (.int .i64 q0.y)).setCell (p := ⟨w.heap.size, 5, none⟩) (Nat.le_refl _) (.slice D1 L.length d)).setCell (p := ⟨w.heap.size + 1, 0, none⟩) (by simp) (.int .i64 q0.c)).setCell (p := ⟨w.heap.size + 1, 1, none⟩) (by simp) (.int .i64 N1)).setCell (p := ⟨w.heap.size + 1, 2, none⟩) (by simp) (.int .i64 g3)).setCell (p := ⟨w.heap.size + 1, 3, none⟩) (by simp) (.int .i64 g4)).setCell (p := ⟨w.heap.size + 1, 4, none⟩) (by simp) (.int .i64 g5))
    clear OA BA T5 KZ FZ RD
    go_wp2
    refine bodyPost_ret (v := .tuple #[playerV q0 D1 L.length d, ((⟨q0.c, N1, g3, g4, g5⟩ : Rq)).val]) (by simp [results, Try.results19, go_sem, z0, z1, z2, z3, z4, z5, y0, y1, y2, y3, y4, zf, yf]) rfl ⟨q0, D1, d, L, ⟨q0.c, N1, g3, g4, g5⟩, rfl, hL, OG.out, BG.out⟩
  · have e0 : decide ((0 : Int) < g) = false := decide_eq_false h0
    go_upto_region 7 with (fail)
    refine wp_region_held_drew (S := fun WS => Bkk WS p5 27 #[.int .i64 q0.c, .int .i64 q0.n, .int .i64 q0.o, .int .i64 q0.x, .int .i64 q0.y, .slice D1 L.length d] ∧ Bkk WS p6 24 #[.int .i64 g1, .int .i64 g2, .int .i64 g3, .int .i64 g4, .int .i64 g5]) (by kernel_rfl) ⟨T5.out.below (Below.refl _ _).drew, T6.out.below (Below.refl _ _).drew⟩ (fun hS => ?_)
    have hb : Below w8.heap.size w8 w8.drew := (Below.refl _ _).drew
    replace KZ := Lib.hid (KZ.out.below hb)
    replace FZ := Lib.hid (FZ.out.below hb)
    replace T5 := Lib.hid (T5.out.below hb)
    replace T6 := Lib.hid (T6.out.below hb)
    replace BA := Lib.hid (Below.and BA.out hb)
    replace OA := Lib.hid (OA.out.below hb)
    clear hb
    obtain ⟨w7, hw7⟩ : ∃ X, X = w8.drew := ⟨_, rfl⟩
    rw [← hw7] at hS KZ FZ T5 T6 BA OA ⊢
    clear hw7
    refine takeD 0 25 (v := ?_) rfl rfl (by kernel_rfl) (by kernel_rfl) (by kernel_rfl) (fun _ _ _ h => h) (Or.inl ⟨by rfl, ?_⟩) (by assumption) ?_
    rotate_left
    · intro w1 hSw; have c0 := hSw.1.cell 0; have c1 := hSw.1.cell 1; have c2 := hSw.1.cell 2; have c3 := hSw.1.cell 3; have c4 := hSw.1.cell 4; have c5 := hSw.1.cell 5; have d0 := hSw.2.cell 0; have d1 := hSw.2.cell 1; have d2 := hSw.2.cell 2; have d3 := hSw.2.cell 3; have d4 := hSw.2.cell 4; go_simp; (try with_reducible rfl)
    (try simp only [Act.put, List.setIfInBounds_toArray, List.set_cons_zero, List.set_cons_succ])
    refine takeD 1 26 (v := ?_) rfl rfl (by kernel_rfl) (by kernel_rfl) (by kernel_rfl) (fun _ _ _ h => h) (Or.inl ⟨by rfl, ?_⟩) (by assumption) ?_
    rotate_left
    · intro w1 hSw; have c0 := hSw.1.cell 0; have c1 := hSw.1.cell 1; have c2 := hSw.1.cell 2; have c3 := hSw.1.cell 3; have c4 := hSw.1.cell 4; have c5 := hSw.1.cell 5; have d0 := hSw.2.cell 0; have d1 := hSw.2.cell 1; have d2 := hSw.2.cell 2; have d3 := hSw.2.cell 3; have d4 := hSw.2.cell 4; go_simp; (try with_reducible rfl)
    (try simp only [Act.put, List.setIfInBounds_toArray, List.set_cons_zero, List.set_cons_succ])
    have z0 : w7.cell? ⟨w.heap.size, 0, none⟩ = some (.int .i64 0) := KZ.out.cell 0
    have z1 : w7.cell? ⟨w.heap.size, 1, none⟩ = some (.int .i64 0) := KZ.out.cell 1
    have z2 : w7.cell? ⟨w.heap.size, 2, none⟩ = some (.int .i64 0) := KZ.out.cell 2
    have z3 : w7.cell? ⟨w.heap.size, 3, none⟩ = some (.int .i64 0) := KZ.out.cell 3
    have z4 : w7.cell? ⟨w.heap.size, 4, none⟩ = some (.int .i64 0) := KZ.out.cell 4
    have z5 : w7.cell? ⟨w.heap.size, 5, none⟩ = some (.slice none 0 0) := KZ.out.cell 5
    have zf := KZ.out.frozen
    have y0 : w7.cell? ⟨w.heap.size + 1, 0, none⟩ = some (.int .i64 0) := FZ.out.cell 0
    have y1 : w7.cell? ⟨w.heap.size + 1, 1, none⟩ = some (.int .i64 0) := FZ.out.cell 1
    have y2 : w7.cell? ⟨w.heap.size + 1, 2, none⟩ = some (.int .i64 0) := FZ.out.cell 2
    have y3 : w7.cell? ⟨w.heap.size + 1, 3, none⟩ = some (.int .i64 0) := FZ.out.cell 3
    have y4 : w7.cell? ⟨w.heap.size + 1, 4, none⟩ = some (.int .i64 0) := FZ.out.cell 4
    have yf := FZ.out.frozen
    have lz := KZ.out.lt
    have ly := FZ.out.lt
    refine wpAnyH_ready (rs := [2]) (by kernel_rfl) (by simp) ?_
    refine AllReadyH.cons rfl (fun KK hK => ?_) AllReadyH.nil
    go_simp
    refine hK.out _ _ ⟨((((((T5.out.far (show p5 ≠ w.heap.size by omega) 0 _).far (show p5 ≠ w.heap.size by omega) 1 _).far (show p5 ≠ w.heap.size by omega) 2 _).far (show p5 ≠ w.heap.size by omega) 3 _).far (show p5 ≠ w.heap.size by omega) 4 _).far (show p5 ≠ w.heap.size by omega) 5 _), ((((((T6.out.far (show p6 ≠ w.heap.size by omega) 0 _).far (show p6 ≠ w.heap.size by omega) 1 _).far (show p6 ≠ w.heap.size by omega) 2 _).far (show p6 ≠ w.heap.size by omega) 3 _).far (show p6 ≠ w.heap.size by omega) 4 _).far (show p6 ≠ w.heap.size by omega) 5 _)⟩ (fun hS => ?_)
    clear hK KK
    (try simp only [Act.put, List.setIfInBounds_toArray, List.set_cons_zero, List.set_cons_succ])
    refine wpAnyH_ready (rs := [3]) (by kernel_rfl) (by simp) ?_
    refine AllReadyH.cons rfl (fun KK hK => ?_) AllReadyH.nil
    go_simp
    refine hK.out _ _ ⟨(((((((((((T5.out.far (show p5 ≠ w.heap.size by omega) 0 _).far (show p5 ≠ w.heap.size by omega) 1 _).far (show p5 ≠ w.heap.size by omega) 2 _).far (show p5 ≠ w.heap.size by omega) 3 _).far (show p5 ≠ w.heap.size by omega) 4 _).far (show p5 ≠ w.heap.size by omega) 5 _).far (show p5 ≠ w.heap.size + 1 by omega) 0 _).far (show p5 ≠ w.heap.size + 1 by omega) 1 _).far (show p5 ≠ w.heap.size + 1 by omega) 2 _).far (show p5 ≠ w.heap.size + 1 by omega) 3 _).far (show p5 ≠ w.heap.size + 1 by omega) 4 _), (((((((((((T6.out.far (show p6 ≠ w.heap.size by omega) 0 _).far (show p6 ≠ w.heap.size by omega) 1 _).far (show p6 ≠ w.heap.size by omega) 2 _).far (show p6 ≠ w.heap.size by omega) 3 _).far (show p6 ≠ w.heap.size by omega) 4 _).far (show p6 ≠ w.heap.size by omega) 5 _).far (show p6 ≠ w.heap.size + 1 by omega) 0 _).far (show p6 ≠ w.heap.size + 1 by omega) 1 _).far (show p6 ≠ w.heap.size + 1 by omega) 2 _).far (show p6 ≠ w.heap.size + 1 by omega) 3 _).far (show p6 ≠ w.heap.size + 1 by omega) 4 _)⟩ (fun hS => ?_)
    clear hK KK
    (try simp only [Act.put, List.setIfInBounds_toArray, List.set_cons_zero, List.set_cons_succ])
    refine wpAnyH_done (by kernel_rfl) ?_ _
    have OG := Lib.hid ((((((((((((OA.out.put (q := w.heap.size) (by omega) 0 (.int .i64 q0.c)).put (q := w.heap.size) (by omega) 1 (.int .i64 q0.n)).put (q := w.heap.size) (by omega) 2 (.int .i64 q0.o)).put (q := w.heap.size) (by omega) 3 (.int .i64 q0.x)).put (q := w.heap.size) (by omega) 4 (.int .i64 q0.y)).put (q := w.heap.size) (by omega) 5 (.slice D1 L.length d)).put (q := w.heap.size + 1) (by omega) 0 (.int .i64 g1)).put (q := w.heap.size + 1) (by omega) 1 (.int .i64 g2)).put (q := w.heap.size + 1) (by omega) 2 (.int .i64 g3)).put (q := w.heap.size + 1) (by omega) 3 (.int .i64 g4)).put (q := w.heap.size + 1) (by omega) 4 (.int .i64 g5)).base (show w.heap.size ≤ lo by omega))
    have BG := Lib.hid (((((((((((BA.out.setCell (p := ⟨w.heap.size, 0, none⟩) (Nat.le_refl _) (.int .i64 q0.c)).setCell (p := ⟨w.heap.size, 1, none⟩) (Nat.le_refl _) (.int .i64 q0.n)).setCell (p := ⟨w.heap.size, 2, none⟩) (Nat.le_refl _) (.int .i64 q0.o)).setCell (p := ⟨w.heap.size, 3, none⟩) (Nat.le_refl _) (.int .i64 q0.x)).setCell (p := ⟨w.heap.size, 4, none⟩) (Nat.le_refl _) (.int .i64 q0.y)).setCell (p := ⟨w.heap.size, 5, none⟩) (Nat.le_refl _) (.slice D1 L.length d)).setCell (p := ⟨w.heap.size + 1, 0, none⟩) (by simp) (.int .i64 g1)).setCell (p := ⟨w.heap.size + 1, 1, none⟩) (by simp) (.int .i64 g2)).setCell (p := ⟨w.heap.size + 1, 2, none⟩) (by simp) (.int .i64 g3)).setCell (p := ⟨w.heap.size + 1, 3, none⟩) (by simp) (.int .i64 g4)).setCell (p := ⟨w.heap.size + 1, 4, none⟩) (by simp) (.int .i64 g5))
    clear OA BA T5 KZ FZ RD
    go_wp2
    refine bodyPost_ret (v := .tuple #[playerV q0 D1 L.length d, ((⟨g1, g2, g3, g4, g5⟩ : Rq)).val]) (by simp [results, Try.results19, go_sem, z0, z1, z2, z3, z4, z5, y0, y1, y2, y3, y4, zf, yf]) rfl ⟨q0, D1, d, L, ⟨g1, g2, g3, g4, g5⟩, rfl, hL, OG.out, BG.out⟩

end Go.Proofs.Ytdpladihacgobaa
