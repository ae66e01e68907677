/- Marks laid over a player, and held against. -/
import Derived.Test.YtdpladihacgobaaNi
namespace Go.Proofs.Ytdpladihacgobaa
open Go.ChangeShapes Go.WideShapes Go.ChangeAt Go.RowKit
set_option linter.unusedVariables false
set_option linter.unusedSimpArgs false

theorem markReply1 {w : World} {base : Nat} {e : TypeId} {g n c : Nat} {k : Int} {xs : List Value} (j : Nat) (hj : j < n) (hx : n * 4 = xs.length)
    (h : w.ownsRow base e 4 (.slice (some ⟨g, 0, none⟩) n c) n (ints (marks k (j * 4)) ++ xs.drop (j * 4))) :
    ((((w.setCell ⟨g, j * 4, none⟩ (.int .i64 (k + 4 * (j : Int)))).setCell ⟨g, j * 4 + 1, none⟩ (.int .i64 (k + 4 * (j : Int) + 1))).setCell ⟨g, j * 4 + 2, none⟩ (.int .i64 (k + 4 * (j : Int) + 1 + 1))).setCell ⟨g, j * 4 + 3, none⟩ (.int .i64 (k + 4 * (j : Int) + 1 + 1 + 1))).ownsRow base e 4 (.slice (some ⟨g, 0, none⟩) n c) n (ints (marks k ((j + 1) * 4)) ++ xs.drop ((j + 1) * 4)) ∧
    w.grownBy ((((w.setCell ⟨g, j * 4, none⟩ (.int .i64 (k + 4 * (j : Int)))).setCell ⟨g, j * 4 + 1, none⟩ (.int .i64 (k + 4 * (j : Int) + 1))).setCell ⟨g, j * 4 + 2, none⟩ (.int .i64 (k + 4 * (j : Int) + 1 + 1))).setCell ⟨g, j * 4 + 3, none⟩ (.int .i64 (k + 4 * (j : Int) + 1 + 1 + 1))) (some g) := by
  obtain ⟨h1, g1⟩ := mark1 (j * 4) (k + 4 * (j : Int)) (by omega) (by omega) hx h
  obtain ⟨h2, g2⟩ := mark1 (j * 4 + 1) (k + 4 * (j : Int) + 1) (by omega) (by omega) hx h1
  obtain ⟨h3, g3⟩ := mark1 (j * 4 + 2) (k + 4 * (j : Int) + 1 + 1) (by omega) (by omega) hx h2
  obtain ⟨h4, g4⟩ := mark1 (j * 4 + 3) (k + 4 * (j : Int) + 1 + 1 + 1) (by omega) (by omega) hx h3
  rw [show (j + 1) * 4 = j * 4 + 3 + 1 from by omega]
  exact ⟨h4, (grownBy_trans (grownBy_trans (grownBy_trans g1 g2) g3) g4)⟩

set_option maxRecDepth 100000 in
set_option maxHeartbeats 1000000 in
theorem markReplyS (base : Nat) (A : Option Addr) (c n : Nat) (xs : List Value) (k : Int) (w : World) (h0 : 0 ≤ k) (h1 : k + 4 * n ≤ 4611686018427387904) (hn : n ≤ maxLen) (hown : w.ownsRow base 29 4 (.slice A n c) n xs) :
    Calls Try.prog 52 #[.slice A n c, .int .i64 k] w fun e w' => e = .returned (.int .i64 (k + 4 * n)) ∧ w'.ownsRow base 29 4 (.slice A n c) n (ints (marks k (n * 4))) ∧ w.grownBy w' (Value.slice A n c).ownBlock := by
  unfold maxLen at hn
  have HO := Lib.hid hown
  have hxl : n * 4 = xs.length := by have := hown.1; omega
  have HX := Lib.hid hxl
  clear hown hxl
  go_enter Try.func52, Try.ntmps52
  go_wp2
  go_loopw [1, 5] (fun kk i wr => ∃ j : Nat, j ≤ n ∧ i = .int .i64 j ∧ kk = .int .i64 (k + 4 * j) ∧ Hid (wr.ownsRow base 29 4 (.slice A n c) n (ints (marks k (j * 4)) ++ xs.drop (j * 4))) ∧ Hid (w.grownBy wr (Value.slice A n c).ownBlock)) (fun _ i _ => n - (intOf i).toNat)
  case atStart => exact ⟨0, Nat.zero_le _, rfl, by simp, by simpa [Hid, marks] using HO.out, World.grownBy.refl _ _⟩
  case round =>
    obtain ⟨j, hj, rfl, rfl, ho, hg⟩ := hrel
    by_cases hlt : j < n
    · obtain ⟨g, rfl, hb, _⟩ := own_some ho.out (by omega)
      have hf := fun p => ho.out.frozenAt p
      have hc : ∀ p, p < 4 → ∃ u, wr.cell? ⟨g, j * 4 + p, none⟩ = some u := fun p hp => ⟨_, (ho.out.cellAt (j * 4 + p) (by omega)).trans (List.getElem?_eq_getElem (by have := HX.out; simp; omega))⟩
      obtain ⟨u0, hu0⟩ := hc 0 (by omega)
      obtain ⟨u1, hu1⟩ := hc 1 (by omega)
      obtain ⟨u2, hu2⟩ := hc 2 (by omega)
      obtain ⟨u3, hu3⟩ := hc 3 (by omega)
      rw [Nat.add_zero] at hu0
      clear hc
      have i0 : (0 : Int) ≤ (j : Int) := by omega
      have i1 : (j : Int) < (n : Int) := by omega
      obtain ⟨m1, m2⟩ := markReply1 (k := k) (xs := xs) j hlt HX.out ho.out
      have M1 := Lib.hid m1
      have M2 := Lib.hid (grownBy_trans hg.out m2)
      clear m1 m2
      go_wp2
      go_roundw
      case rel => exact ⟨j + 1, by omega, by go_num, by go_num, M1.out, M2.out⟩
      case measure => simp [intOf]; omega
    · have hz : j = n := by omega
      have HZ := Lib.hid hz
      clear hz
      go_wp2
      go_ret
      have := ho.out
      rw [HZ.out] at this ⊢
      rw [List.drop_of_length_le (by have := HX.out; omega), List.append_nil] at this
      exact ⟨rfl, this, hg.out⟩

set_option maxRecDepth 100000 in
set_option maxHeartbeats 1000000 in
theorem heldReplyS (A : Option Addr) (c n : Nat) (k : Int) (w : World) (h0 : 0 ≤ k) (h1 : k + 4 * n ≤ 4611686018427387904) (hn : n ≤ maxLen) (hr : RdM w A (n * 4) k) :
    Calls Try.prog 53 #[.slice A n c, .int .i64 k] w fun e w' => e = .returned (.int .i64 (k + 4 * n)) ∧ w' = w := by
  unfold maxLen at hn
  have HR := Lib.hid hr
  clear hr
  go_enter Try.func53, Try.ntmps53
  go_wp2
  go_loop [1, 5] (fun kk i => ∃ j : Nat, j ≤ n ∧ i = .int .i64 j ∧ kk = .int .i64 (k + 4 * j)) (fun _ i => n - (intOf i).toNat)
  case atStart => exact ⟨0, Nat.zero_le _, rfl, by simp⟩
  case round =>
    obtain ⟨j, hj, rfl, rfl⟩ := hrel
    by_cases hlt : j < n
    · obtain ⟨g, rfl, c0⟩ := HR.out (j * 4) (by omega)
      obtain ⟨g1, e1, c1⟩ := HR.out (j * 4 + 1) (by omega)
      obtain ⟨g2, e2, c2⟩ := HR.out (j * 4 + 2) (by omega)
      obtain ⟨g3, e3, c3⟩ := HR.out (j * 4 + 3) (by omega)
      cases e1; cases e2; cases e3
      rw [show k + ((j * 4 : Nat) : Int) = k + 4 * (j : Int) from by omega] at c0
      rw [show k + ((j * 4 + 1 : Nat) : Int) = k + 4 * (j : Int) + 1 from by omega] at c1
      rw [show k + ((j * 4 + 2 : Nat) : Int) = k + 4 * (j : Int) + 1 + 1 from by omega] at c2
      rw [show k + ((j * 4 + 3 : Nat) : Int) = k + 4 * (j : Int) + 1 + 1 + 1 from by omega] at c3
      have i0 : (0 : Int) ≤ (j : Int) := by omega
      have i1 : (j : Int) < (n : Int) := by omega
      go_wp2
      go_round
      case rel => exact ⟨j + 1, by omega, by go_num, by go_num⟩
      case measure => simp [intOf]; omega
    · have hz : j = n := by omega
      have HZ := Lib.hid hz
      clear hz
      go_wp2
      go_ret
      rw [HZ.out]
      exact ⟨rfl, rfl⟩

structure OwQ (w : World) (lo hi : Nat) (A : Option Addr) (a : Nat) (L : List Rp) : Prop where
  own : OwL w lo A a L
  ub : ∀ x, (Value.slice A L.length a).ownBlock = some x → x < hi
theorem OwL.ge {w : World} {lo : Nat} {A : Option Addr} {a : Nat} {L : List Rp} (h : OwL w lo A a L) : ∀ x, (Value.slice A L.length a).ownBlock = some x → lo ≤ x ∧ x < w.heap.size := own_block_ge (show w.ownsRow _ _ _ _ _ _ from h)
theorem OwL.bd {w : World} {lo : Nat} {A : Option Addr} {a : Nat} {L : List Rp} (h : OwL w lo A a L) : OwQ w lo w.heap.size A a L := ⟨h, fun x hx => (h.ge x hx).2⟩
theorem OwQ.below {w : World} {lo hi : Nat} {A : Option Addr} {a : Nat} {L : List Rp} {w' : World} (h : OwQ w lo hi A a L) (hb : Below w.heap.size w w') : OwQ w' lo hi A a L := ⟨h.own.below hb, h.ub⟩
theorem OwQ.box {w : World} {lo hi : Nat} {A : Option Addr} {a : Nat} {L : List Rp} {p : Nat} {t : TypeId} {cs : Array Value} (h : OwQ w lo hi A a L) (hT : Bkk w p t cs) (hne : 29 ≠ t) (o : Nat) (u : Value) : OwQ (w.setCell ⟨p, o, none⟩ u) lo hi A a L := ⟨h.own.box hT hne o u, h.ub⟩
theorem OwQ.mrkd {w : World} {lo hi : Nat} {A : Option Addr} {a : Nat} {L : List Rp} {w' : World} {lo' hi' : Nat} {A' : Option Addr} {a' : Nat} {L' : List Rp} (h : OwQ w lo hi A a L) (h' : OwQ w lo' hi' A' a' L') (hm : w.grownBy w' (Value.slice A' L'.length a').ownBlock) (ho : hi ≤ lo' ∨ hi' ≤ lo) : OwQ w' lo hi A a L :=
  ⟨own_same (show w.ownsRow _ _ _ _ _ _ from h.own) (fun x hx => hm.block x (h.own.ge x hx).2 (fun e => by
    have h1 := (h.own.ge x hx).1; have h2 := h.ub x hx; have h3 := (h'.own.ge x e.symm).1; have h4 := h'.ub x e.symm; omega)), h.ub⟩
theorem OwQ.block {w : World} {lo hi : Nat} {A : Option Addr} {a : Nat} {L : List Rp} {w' : World} (h : OwQ w lo hi A a L) (hm : w.grownBy w' (Value.slice A L.length a).ownBlock) {p : Nat} {t : TypeId} {cs : Array Value} (hT : Bkk w p t cs) (hne : 29 ≠ t) : Bkk w' p t cs := hT.grown hm (fun e => h.own.apart hT hne e.symm)
theorem OwQ.under {w : World} {lo hi : Nat} {A : Option Addr} {a : Nat} {L : List Rp} {w' x : World} (h : OwQ w lo hi A a L) (hm : w.grownBy w' (Value.slice A L.length a).ownBlock) (hx : Below x.heap.size x w) (hl : x.heap.size ≤ lo) : Below x.heap.size x w' := hx.grown hm hx.size (fun k hk => Nat.le_trans hl (h.own.ge k hk).1)

set_option maxRecDepth 100000 in
set_option maxHeartbeats 1000000 in
theorem markPlayer {w : World} {lo : Nat} {A : Option Addr} {a : Nat} {L : List Rp} (q : Rq) (h : OwL w lo A a L) (hL : L.length ≤ 2097152) :
    Calls Try.prog 26 #[playerV q A L.length a, .int .i64 1] w fun e w' => e = .returned (.int .i64 (1 + 4 * (L.length : Int))) ∧ RdM w' A (L.length * 4) 1 ∧ w.grownBy w' (Value.slice A L.length a).ownBlock := by
  have hba : Below w.heap.size w (w.alloc (.cells #[.int .i64 q.c, .int .i64 q.n, .int .i64 q.o, .int .i64 q.x, .int .i64 q.y, .slice A L.length a] 27)) := (Below.refl _ _).alloc (Nat.le_refl _) _
  have H := Lib.hid (h.below hba)
  have BB := Lib.hid hba
  clear h hba
  go_enter Try.func26, Try.ntmps26
  go_wp2_with (fail)
  refine (markReplyS lo A a L.length _ 1 _ (by omega) (by omega) (by unfold maxLen; omega) (show World.ownsRow _ _ _ _ _ _ _ from H.out)).mono ?_
  rintro e w1 ⟨rfl, ho, hg⟩
  have M1 := Lib.hid (RdM.of_own ho)
  have G1 := Lib.hid (grownBy_trans (Below.grownBy BB.out _) hg)
  clear ho hg H BB
  go_wp2
  go_light
  go_ret
  exact ⟨rfl, M1.out, G1.out⟩

set_option maxRecDepth 100000 in
set_option maxHeartbeats 1000000 in
theorem heldPlayer {w : World} {A : Option Addr} {n : Nat} (q : Rq) (a : Nat) (h : RdM w A (n * 4) 1) (hn : n ≤ 2097152) :
    Calls Try.prog 27 #[playerV q A n a, .int .i64 1] w fun e w' => e = .returned (.int .i64 (1 + 4 * (n : Int))) ∧ Below w.heap.size w w' := by
  have hba : Below w.heap.size w (w.alloc (.cells #[.int .i64 q.c, .int .i64 q.n, .int .i64 q.o, .int .i64 q.x, .int .i64 q.y, .slice A n a] 27)) := (Below.refl _ _).alloc (Nat.le_refl _) _
  have H := Lib.hid (h.below hba)
  have BB := Lib.hid hba
  have e1 : decide ((1 : Int) + 4 * (n : Int) < 0) = false := by simp; omega
  clear h hba
  go_enter Try.func27, Try.ntmps27
  go_wp2_with (fail)
  refine (heldReplyS A a n 1 _ (by omega) (by omega) (by unfold maxLen; omega) H.out).mono ?_
  rintro e w1 ⟨rfl, rfl⟩
  go_wp2
  go_light
  go_ret
  exact ⟨rfl, BB.out⟩

end Go.Proofs.Ytdpladihacgobaa
