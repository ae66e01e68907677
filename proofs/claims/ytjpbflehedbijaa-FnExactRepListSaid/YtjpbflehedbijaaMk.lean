/- Marks over requests, claims and votes; what a walk of marks leaves of memory. -/
import Derived.Test.YtjpbflehedbijaaJc
namespace Go.Proofs.Ytjpbflehedbijaa
open Go.ChangeShapes Go.WideShapes Go.ChangeAt Go.RowKit
set_option linter.unusedVariables false
set_option linter.unusedSimpArgs false

/-- Only cells of blocks from lo on, below hi, may have turned; a block keeps its type and its size; there may be new ones. -/
structure Sets (lo hi : Nat) (w w' : World) : Prop where
  keeps : Keeps lo hi w w'
  shape : ∀ (g : Nat) (cs : Array Value) (t : TypeId) (z : Nat × Nat), w.heap[g]? = some (.cells cs t z) → ∃ cs', w'.heap[g]? = some (.cells cs' t z) ∧ cs'.size = cs.size
theorem heap_lt {w : World} {g : Nat} {o : Obj} (h : w.heap[g]? = some o) : g < w.heap.size := by
  rcases Nat.lt_or_ge g w.heap.size with h1 | h1
  · exact h1
  · rw [Array.getElem?_eq_none h1] at h; cases h
theorem Sets.refl (lo hi : Nat) (w : World) : Sets lo hi w w := ⟨Keeps.of_below (Below.refl _ _), fun _ cs _ _ h => ⟨cs, h, rfl⟩⟩
theorem Sets.trans {lo hi : Nat} {a b c : World} (h : Sets lo hi a b) (k : Sets lo hi b c) : Sets lo hi a c :=
  ⟨h.keeps.trans k.keeps, fun g cs t z hg => by
    obtain ⟨cs', h1, h2⟩ := h.shape g cs t z hg
    obtain ⟨cs'', h3, h4⟩ := k.shape g cs' t z h1
    exact ⟨cs'', h3, h4.trans h2⟩⟩
theorem Sets.own {lo hi : Nat} {w w' : World} (s : Sets lo hi w w') {base : Nat} {e : TypeId} {size : Nat} {v : Value} {n : Nat} {xs : List Value} (h : w.ownsRow base e size v n xs) : ∃ xs', w'.ownsRow base e size v n xs' := by
  rcases h.2 with h' | ⟨g, cap, cur, hv, h2, h3, h4, h5, h6, h7⟩
  · exact ⟨xs, h.1, .inl h'⟩
  · obtain ⟨cs', h8, h9⟩ := s.shape g cur e (0, 0) h3
    refine ⟨cs'.toList.take (n * size), ?_, .inr ⟨g, cap, cs', hv, h2, h8, h4, h5, h9.trans h6, rfl⟩⟩
    rw [List.length_take, Array.length_toList, h9, h6]
    exact Nat.min_eq_left (Nat.mul_le_mul_right _ h4)
theorem Sets.of_own {lo hi : Nat} {w w' : World} {base : Nat} {e : TypeId} {size : Nat} {v : Value} {n : Nat} {xs xs' : List Value} (h : w.ownsRow base e size v n xs) (h' : w'.ownsRow base e size v n xs')
    (hg : w.grownBy w' v.ownBlock) (hb : ∀ k, v.ownBlock = some k → lo ≤ k ∧ k < hi) : Sets lo hi w w' := by
  refine ⟨Keeps.of_grown hg hb, fun g cs t z hc => ?_⟩
  by_cases hq : some g = v.ownBlock
  · rcases h.2 with ⟨hv, _⟩ | ⟨g1, cap, cur, hv, _, h3, _, _, h6, _⟩
    · rw [hv] at hq; cases hq
    rcases h'.2 with ⟨hv', _⟩ | ⟨g2, cap', cur', hv', _, h3', _, _, h6', _⟩
    · rw [hv'] at hq; cases hq
    rw [hv] at hv' hq
    cases hv'
    cases hq
    rw [h3] at hc
    cases hc
    exact ⟨cur', h3', h6'.trans h6.symm⟩
  · exact ⟨cs, (hg.block g (heap_lt hc) hq).trans hc, rfl⟩
theorem Sets.mono {lo hi lo' hi' : Nat} {w w' : World} (s : Sets lo hi w w') (h : lo' ≤ lo) (k : hi ≤ hi') : Sets lo' hi' w w' :=
  ⟨⟨s.keeps.os, s.keeps.tape, s.keeps.output, s.keeps.size, fun q hq ho => s.keeps.block q hq (by omega)⟩, s.shape⟩
theorem Sets.below {lo hi B : Nat} {w w' : World} (s : Sets lo hi w w') (hB : B ≤ lo) (hs : B ≤ w.heap.size) : Below B w w' := s.keeps.below hB hs

set_option maxRecDepth 100000 in
set_option maxHeartbeats 1000000 in
theorem markReqS (base : Nat) (A : Option Addr) (c n : Nat) (xs : List Value) (k : Int) (w : World) (h0 : 0 ≤ k) (h1 : k + 5 * n ≤ 4611686018427387904) (hn : n ≤ maxLen) (hown : w.ownsRow base 24 5 (.slice A n c) n xs) :
    Calls Try.prog 27 #[.slice A n c, .int .i64 k] w fun e w' => e = .returned (.int .i64 (k + 5 * n)) ∧ w'.ownsRow base 24 5 (.slice A n c) n (ints (marks k (n * 5))) ∧ w.grownBy w' (Value.slice A n c).ownBlock := by
  unfold maxLen at hn
  have HO := Lib.hid hown
  have hxl : n * 5 = xs.length := by have := hown.1; omega
  have HX := Lib.hid hxl
  clear hown hxl
  go_enter Try.func27, Try.ntmps27
  go_wp2
  go_loopw [1, 5] (fun kk i wr => ∃ j : Nat, j ≤ n ∧ i = .int .i64 j ∧ kk = .int .i64 (k + 5 * j) ∧ Hid (wr.ownsRow base 24 5 (.slice A n c) n (ints (marks k (j * 5)) ++ xs.drop (j * 5))) ∧ Hid (w.grownBy wr (Value.slice A n c).ownBlock)) (fun _ i _ => n - (intOf i).toNat)
  case atStart => exact ⟨0, Nat.zero_le _, rfl, by simp, by simpa [Hid, marks] using HO.out, World.grownBy.refl _ _⟩
  case round =>
    obtain ⟨j, hj, rfl, rfl, ho, hg⟩ := hrel
    by_cases hlt : j < n
    · obtain ⟨g, rfl, hb, _⟩ := own_some ho.out (by omega)
      have hf := fun p => ho.out.frozenAt p
      have hc : ∀ p, p < 5 → ∃ u, wr.cell? ⟨g, j * 5 + p, none⟩ = some u := fun p hp => ⟨_, (ho.out.cellAt (j * 5 + p) (by omega)).trans (List.getElem?_eq_getElem (by have := HX.out; simp; omega))⟩
      obtain ⟨u0, hu0⟩ := hc 0 (by omega)
      obtain ⟨u1, hu1⟩ := hc 1 (by omega)
      obtain ⟨u2, hu2⟩ := hc 2 (by omega)
      obtain ⟨u3, hu3⟩ := hc 3 (by omega)
      obtain ⟨u4, hu4⟩ := hc 4 (by omega)
      rw [Nat.add_zero] at hu0
      clear hc
      have i0 : (0 : Int) ≤ (j : Int) := by omega
      have i1 : (j : Int) < (n : Int) := by omega
      obtain ⟨m1, m2⟩ := mark5 (k := k) (xs := xs) j hlt HX.out ho.out
      have M1 := Lib.hid m1
      have M2 := Lib.hid (grownBy_trans hg.out m2)
      clear m1 m2
      go_wp2
      go_roundw
      case rel => exact ⟨j + 1, by omega, by go_num, by go_num, M1.out, M2.out⟩
      case measure => simp [intOf]; omega
    · have hz : j = n := by omega
      have HZ := Lib.hid hz
      clear hz
      go_wp2
      go_ret
      have := ho.out
      rw [HZ.out] at this ⊢
      rw [List.drop_of_length_le (by have := HX.out; omega), List.append_nil] at this
      exact ⟨rfl, this, hg.out⟩

set_option maxRecDepth 100000 in
set_option maxHeartbeats 1000000 in
theorem heldReqS (A : Option Addr) (c n : Nat) (k : Int) (w : World) (h0 : 0 ≤ k) (h1 : k + 5 * n ≤ 4611686018427387904) (hn : n ≤ maxLen) (hr : RdM w A (n * 5) k) :
    Calls Try.prog 28 #[.slice A n c, .int .i64 k] w fun e w' => e = .returned (.int .i64 (k + 5 * n)) ∧ w' = w := by
  unfold maxLen at hn
  have HR := Lib.hid hr
  clear hr
  go_enter Try.func28, Try.ntmps28
  go_wp2
  go_loop [1, 5] (fun kk i => ∃ j : Nat, j ≤ n ∧ i = .int .i64 j ∧ kk = .int .i64 (k + 5 * j)) (fun _ i => n - (intOf i).toNat)
  case atStart => exact ⟨0, Nat.zero_le _, rfl, by simp⟩
  case round =>
    obtain ⟨j, hj, rfl, rfl⟩ := hrel
    by_cases hlt : j < n
    · obtain ⟨g, rfl, c0⟩ := HR.out (j * 5) (by omega)
      obtain ⟨g1, e1, c1⟩ := HR.out (j * 5 + 1) (by omega)
      obtain ⟨g2, e2, c2⟩ := HR.out (j * 5 + 2) (by omega)
      obtain ⟨g3, e3, c3⟩ := HR.out (j * 5 + 3) (by omega)
      obtain ⟨g4, e4, c4⟩ := HR.out (j * 5 + 4) (by omega)
      cases e1; cases e2; cases e3; cases e4
      rw [show k + ((j * 5 : Nat) : Int) = k + 5 * (j : Int) from by omega] at c0
      rw [show k + ((j * 5 + 1 : Nat) : Int) = k + 5 * (j : Int) + 1 from by omega] at c1
      rw [show k + ((j * 5 + 2 : Nat) : Int) = k + 5 * (j : Int) + 1 + 1 from by omega] at c2
      rw [show k + ((j * 5 + 3 : Nat) : Int) = k + 5 * (j : Int) + 1 + 1 + 1 from by omega] at c3
      rw [show k + ((j * 5 + 4 : Nat) : Int) = k + 5 * (j : Int) + 1 + 1 + 1 + 1 from by omega] at c4
      have i0 : (0 : Int) ≤ (j : Int) := by omega
      have i1 : (j : Int) < (n : Int) := by omega
      go_wp2
      go_round
      case rel => exact ⟨j + 1, by omega, by go_num, by go_num⟩
      case measure => simp [intOf]; omega
    · have hz : j = n := by omega
      have HZ := Lib.hid hz
      clear hz
      go_wp2
      go_ret
      rw [HZ.out]
      exact ⟨rfl, rfl⟩

theorem mark7 {w : World} {base : Nat} {e : TypeId} {g n c : Nat} {k : Int} {xs : List Value} (j : Nat) (hj : j < n) (hx : n * 7 = xs.length)
    (h : w.ownsRow base e 7 (.slice (some ⟨g, 0, none⟩) n c) n (ints (marks k (j * 7)) ++ xs.drop (j * 7))) :
    (((((((w.setCell ⟨g, j * 7, none⟩ (.int .i64 (k + 7 * (j : Int)))).setCell ⟨g, j * 7 + 1, none⟩ (.int .i64 (k + 7 * (j : Int) + 1))).setCell ⟨g, j * 7 + 2, none⟩ (.int .i64 (k + 7 * (j : Int) + 1 + 1))).setCell ⟨g, j * 7 + 3, none⟩ (.int .i64 (k + 7 * (j : Int) + 1 + 1 + 1))).setCell ⟨g, j * 7 + 4, none⟩ (.int .i64 (k + 7 * (j : Int) + 1 + 1 + 1 + 1))).setCell ⟨g, j * 7 + 5, none⟩ (.int .i64 (k + 7 * (j : Int) + 1 + 1 + 1 + 1 + 1))).setCell ⟨g, j * 7 + 6, none⟩ (.int .i64 (k + 7 * (j : Int) + 1 + 1 + 1 + 1 + 1 + 1))).ownsRow base e 7 (.slice (some ⟨g, 0, none⟩) n c) n (ints (marks k ((j + 1) * 7)) ++ xs.drop ((j + 1) * 7)) ∧
    w.grownBy (((((((w.setCell ⟨g, j * 7, none⟩ (.int .i64 (k + 7 * (j : Int)))).setCell ⟨g, j * 7 + 1, none⟩ (.int .i64 (k + 7 * (j : Int) + 1))).setCell ⟨g, j * 7 + 2, none⟩ (.int .i64 (k + 7 * (j : Int) + 1 + 1))).setCell ⟨g, j * 7 + 3, none⟩ (.int .i64 (k + 7 * (j : Int) + 1 + 1 + 1))).setCell ⟨g, j * 7 + 4, none⟩ (.int .i64 (k + 7 * (j : Int) + 1 + 1 + 1 + 1))).setCell ⟨g, j * 7 + 5, none⟩ (.int .i64 (k + 7 * (j : Int) + 1 + 1 + 1 + 1 + 1))).setCell ⟨g, j * 7 + 6, none⟩ (.int .i64 (k + 7 * (j : Int) + 1 + 1 + 1 + 1 + 1 + 1))) (some g) := by
  obtain ⟨h1, g1⟩ := mark1 (j * 7) (k + 7 * (j : Int)) (by omega) (by omega) hx h
  obtain ⟨h2, g2⟩ := mark1 (j * 7 + 1) (k + 7 * (j : Int) + 1) (by omega) (by omega) hx h1
  obtain ⟨h3, g3⟩ := mark1 (j * 7 + 2) (k + 7 * (j : Int) + 1 + 1) (by omega) (by omega) hx h2
  obtain ⟨h4, g4⟩ := mark1 (j * 7 + 3) (k + 7 * (j : Int) + 1 + 1 + 1) (by omega) (by omega) hx h3
  obtain ⟨h5, g5⟩ := mark1 (j * 7 + 4) (k + 7 * (j : Int) + 1 + 1 + 1 + 1) (by omega) (by omega) hx h4
  obtain ⟨h6, g6⟩ := mark1 (j * 7 + 5) (k + 7 * (j : Int) + 1 + 1 + 1 + 1 + 1) (by omega) (by omega) hx h5
  obtain ⟨h7, g7⟩ := mark1 (j * 7 + 6) (k + 7 * (j : Int) + 1 + 1 + 1 + 1 + 1 + 1) (by omega) (by omega) hx h6
  rw [show (j + 1) * 7 = j * 7 + 6 + 1 from by omega]
  exact ⟨h7, (grownBy_trans (grownBy_trans (grownBy_trans (grownBy_trans (grownBy_trans (grownBy_trans g1 g2) g3) g4) g5) g6) g7)⟩

set_option maxRecDepth 100000 in
set_option maxHeartbeats 1000000 in
theorem markClaimS (base : Nat) (A : Option Addr) (c n : Nat) (xs : List Value) (k : Int) (w : World) (h0 : 0 ≤ k) (h1 : k + 7 * n ≤ 4611686018427387904) (hn : n ≤ maxLen) (hown : w.ownsRow base 60 7 (.slice A n c) n xs) :
    Calls Try.prog 60 #[.slice A n c, .int .i64 k] w fun e w' => e = .returned (.int .i64 (k + 7 * n)) ∧ w'.ownsRow base 60 7 (.slice A n c) n (ints (marks k (n * 7))) ∧ w.grownBy w' (Value.slice A n c).ownBlock := by
  unfold maxLen at hn
  have HO := Lib.hid hown
  have hxl : n * 7 = xs.length := by have := hown.1; omega
  have HX := Lib.hid hxl
  clear hown hxl
  go_enter Try.func60, Try.ntmps60
  go_wp2
  go_loopw [1, 5] (fun kk i wr => ∃ j : Nat, j ≤ n ∧ i = .int .i64 j ∧ kk = .int .i64 (k + 7 * j) ∧ Hid (wr.ownsRow base 60 7 (.slice A n c) n (ints (marks k (j * 7)) ++ xs.drop (j * 7))) ∧ Hid (w.grownBy wr (Value.slice A n c).ownBlock)) (fun _ i _ => n - (intOf i).toNat)
  case atStart => exact ⟨0, Nat.zero_le _, rfl, by simp, by simpa [Hid, marks] using HO.out, World.grownBy.refl _ _⟩
  case round =>
    obtain ⟨j, hj, rfl, rfl, ho, hg⟩ := hrel
    by_cases hlt : j < n
    · obtain ⟨g, rfl, hb, _⟩ := own_some ho.out (by omega)
      have hf := fun p => ho.out.frozenAt p
      have hc : ∀ p, p < 7 → ∃ u, wr.cell? ⟨g, j * 7 + p, none⟩ = some u := fun p hp => ⟨_, (ho.out.cellAt (j * 7 + p) (by omega)).trans (List.getElem?_eq_getElem (by have := HX.out; simp; omega))⟩
      obtain ⟨u0, hu0⟩ := hc 0 (by omega)
      obtain ⟨u1, hu1⟩ := hc 1 (by omega)
      obtain ⟨u2, hu2⟩ := hc 2 (by omega)
      obtain ⟨u3, hu3⟩ := hc 3 (by omega)
      obtain ⟨u4, hu4⟩ := hc 4 (by omega)
      obtain ⟨u5, hu5⟩ := hc 5 (by omega)
      obtain ⟨u6, hu6⟩ := hc 6 (by omega)
      rw [Nat.add_zero] at hu0
      clear hc
      have i0 : (0 : Int) ≤ (j : Int) := by omega
      have i1 : (j : Int) < (n : Int) := by omega
      obtain ⟨m1, m2⟩ := mark7 (k := k) (xs := xs) j hlt HX.out ho.out
      have M1 := Lib.hid m1
      have M2 := Lib.hid (grownBy_trans hg.out m2)
      clear m1 m2
      go_wp2
      go_roundw
      case rel => exact ⟨j + 1, by omega, by go_num, by go_num, M1.out, M2.out⟩
      case measure => simp [intOf]; omega
    · have hz : j = n := by omega
      have HZ := Lib.hid hz
      clear hz
      go_wp2
      go_ret
      have := ho.out
      rw [HZ.out] at this ⊢
      rw [List.drop_of_length_le (by have := HX.out; omega), List.append_nil] at this
      exact ⟨rfl, this, hg.out⟩

set_option maxRecDepth 100000 in
set_option maxHeartbeats 1000000 in
theorem heldClaimS (A : Option Addr) (c n : Nat) (k : Int) (w : World) (h0 : 0 ≤ k) (h1 : k + 7 * n ≤ 4611686018427387904) (hn : n ≤ maxLen) (hr : RdM w A (n * 7) k) :
    Calls Try.prog 62 #[.slice A n c, .int .i64 k] w fun e w' => e = .returned (.int .i64 (k + 7 * n)) ∧ w' = w := by
  unfold maxLen at hn
  have HR := Lib.hid hr
  clear hr
  go_enter Try.func62, Try.ntmps62
  go_wp2
  go_loop [1, 5] (fun kk i => ∃ j : Nat, j ≤ n ∧ i = .int .i64 j ∧ kk = .int .i64 (k + 7 * j)) (fun _ i => n - (intOf i).toNat)
  case atStart => exact ⟨0, Nat.zero_le _, rfl, by simp⟩
  case round =>
    obtain ⟨j, hj, rfl, rfl⟩ := hrel
    by_cases hlt : j < n
    · obtain ⟨g, rfl, c0⟩ := HR.out (j * 7) (by omega)
      obtain ⟨g1, e1, c1⟩ := HR.out (j * 7 + 1) (by omega)
      obtain ⟨g2, e2, c2⟩ := HR.out (j * 7 + 2) (by omega)
      obtain ⟨g3, e3, c3⟩ := HR.out (j * 7 + 3) (by omega)
      obtain ⟨g4, e4, c4⟩ := HR.out (j * 7 + 4) (by omega)
      obtain ⟨g5, e5, c5⟩ := HR.out (j * 7 + 5) (by omega)
      obtain ⟨g6, e6, c6⟩ := HR.out (j * 7 + 6) (by omega)
      cases e1; cases e2; cases e3; cases e4; cases e5; cases e6
      rw [show k + ((j * 7 : Nat) : Int) = k + 7 * (j : Int) from by omega] at c0
      rw [show k + ((j * 7 + 1 : Nat) : Int) = k + 7 * (j : Int) + 1 from by omega] at c1
      rw [show k + ((j * 7 + 2 : Nat) : Int) = k + 7 * (j : Int) + 1 + 1 from by omega] at c2
      rw [show k + ((j * 7 + 3 : Nat) : Int) = k + 7 * (j : Int) + 1 + 1 + 1 from by omega] at c3
      rw [show k + ((j * 7 + 4 : Nat) : Int) = k + 7 * (j : Int) + 1 + 1 + 1 + 1 from by omega] at c4
      rw [show k + ((j * 7 + 5 : Nat) : Int) = k + 7 * (j : Int) + 1 + 1 + 1 + 1 + 1 from by omega] at c5
      rw [show k + ((j * 7 + 6 : Nat) : Int) = k + 7 * (j : Int) + 1 + 1 + 1 + 1 + 1 + 1 from by omega] at c6
      have i0 : (0 : Int) ≤ (j : Int) := by omega
      have i1 : (j : Int) < (n : Int) := by omega
      go_wp2
      go_round
      case rel => exact ⟨j + 1, by omega, by go_num, by go_num⟩
      case measure => simp [intOf]; omega
    · have hz : j = n := by omega
      have HZ := Lib.hid hz
      clear hz
      go_wp2
      go_ret
      rw [HZ.out]
      exact ⟨rfl, rfl⟩

def cntV (Q : List VtP) : Nat := (Q.map fun q => 1 + 7 * q.cl.length).sum
theorem cntV_take {Q : List VtP} {j : Nat} (h : j < Q.length) : cntV (Q.take (j + 1)) = cntV (Q.take j) + (1 + 7 * Q[j].cl.length) := by
  unfold cntV
  rw [List.take_succ_eq_append_getElem h, List.map_append, List.sum_append]
  simp
theorem cntV_le (Q : List VtP) (j : Nat) : cntV (Q.take j) ≤ cntV Q := by
  have h : cntV Q = cntV (Q.take j) + cntV (Q.drop j) := by
    unfold cntV
    rw [← List.sum_append, ← List.map_append, List.take_append_drop]
  omega

set_option maxRecDepth 100000 in
set_option maxHeartbeats 2000000 in
theorem markVoteS (g hi : Nat) (Q : List VtP) (k : Int) (w0 w : World) (h0 : 0 ≤ k) (h1 : k + cntV Q ≤ 4611686018427387904) (ho : OwV w0 g Q) (hw : Below w0.heap.size w0 w) (hh : w0.heap.size ≤ hi) :
    Calls Try.prog 85 #[.slice (some ⟨g, 0, none⟩) Q.length Q.length, .int .i64 k] w fun e w' => e = .returned (.int .i64 (k + cntV Q)) ∧ Sets g hi w w' := by
  have hn : Q.length ≤ maxLen := by
    obtain ⟨A, c, hv, hm⟩ := own_form ho.1
    exact hm
  unfold maxLen at hn
  have hg0 : g < hi := by have := (own_block_ge ho.1 g rfl).2; omega
  have HO := Lib.hid ho
  have HW := Lib.hid hw
  have HH := Lib.hid hh
  have R0 : Hid (∃ xs, w.ownsRow g 66 2 (.slice (some ⟨g, 0, none⟩) Q.length Q.length) Q.length xs) := ⟨_, own_below ho.1 hw⟩
  have C0 : Hid (∀ i (h : i < Q.length), w.cell? ⟨g, i * 2 + 1, none⟩ = some (.slice Q[i].A Q[i].cl.length Q[i].c)) := fun i h => by
    obtain ⟨b, off, hA, hc⟩ := Rd.of_own VtP.len (own_below ho.1 hw) rfl i h
    cases hA
    simpa using hc 1 _ rfl
  clear ho hw hh
  go_enter Try.func85, Try.ntmps85
  go_wp2
  go_loopw [1, 5] (fun kk i wr => ∃ j : Nat, j ≤ Q.length ∧ i = .int .i64 j ∧ kk = .int .i64 (k + cntV (Q.take j)) ∧ Hid (∃ xs, wr.ownsRow g 66 2 (.slice (some ⟨g, 0, none⟩) Q.length Q.length) Q.length xs) ∧ Hid (∀ i (h : i < Q.length), wr.cell? ⟨g, i * 2 + 1, none⟩ = some (.slice Q[i].A Q[i].cl.length Q[i].c)) ∧ Hid (Sets g hi w wr)) (fun _ i _ => Q.length - (intOf i).toNat)
  case atStart => exact ⟨0, Nat.zero_le _, rfl, by simp [cntV], R0, C0, Sets.refl _ _ _⟩
  case round =>
    clear R0 C0
    obtain ⟨j, hj, rfl, rfl, hr, hc, hs⟩ := hrel
    have hcl := cntV_le Q j
    by_cases hlt : j < Q.length
    · obtain ⟨xs, hr⟩ := hr.out
      have hx := HO.out.2 Q[j] (List.getElem_mem hlt)
      have hxb : ∀ q, (Value.slice Q[j].A Q[j].cl.length Q[j].c).ownBlock = some q → g < q ∧ q < hi := fun q e => by have := own_block_ge hx q e; have := HH.out; omega
      have hxl : Q[j].cl.length ≤ maxLen := by obtain ⟨_, _, _, hm⟩ := own_form hx; exact hm
      obtain ⟨ys, hy⟩ := hs.out.own (own_below hx HW.out)
      have hct := Lib.hid (cntV_take hlt)
      have hc1 := cntV_take hlt
      have hl1 := cntV_le Q (j + 1)
      have hr1 := hr.1
      have c1 := hc.out j hlt
      obtain ⟨u0, hu0⟩ : ∃ u, wr.cell? ⟨g, j * 2, none⟩ = some u := ⟨_, (hr.cellAt (j * 2) (by omega)).trans (List.getElem?_eq_getElem (by omega))⟩
      have hf := fun p => hr.frozenAt p
      obtain ⟨hr2, hg1⟩ := hr.stored (j * 2) (.int .i64 (k + cntV (Q.take j)))
      have S1 := Sets.of_own (lo := g) (hi := hi) hr hr2 hg1 (fun q e => by cases e; exact ⟨Nat.le_refl _, hg0⟩)
      have hy1 := own_set hy (b := g) (by omega) (j * 2) (.int .i64 (k + cntV (Q.take j)))
      have C1 : ∀ i (h : i < Q.length), (wr.setCell ⟨g, j * 2, none⟩ (.int .i64 (k + cntV (Q.take j)))).cell? ⟨g, i * 2 + 1, none⟩ = some (.slice Q[i].A Q[i].cl.length Q[i].c) := fun i h => by
        have hne : (⟨g, j * 2, none⟩ : Addr) ≠ ⟨g, i * 2 + 1, none⟩ := fun e => by have := congrArg Addr.off e; simp at this; omega
        exact (World.cell?_setCell_other wr _ _ (.int .i64 (k + cntV (Q.take j))) hne).trans (hc.out i h)
      have hq : Hid (∀ w2 xs2, w2.ownsRow (g + 1) 60 7 (.slice Q[j].A Q[j].cl.length Q[j].c) Q[j].cl.length xs2 → (wr.setCell ⟨g, j * 2, none⟩ (.int .i64 (k + cntV (Q.take j)))).grownBy w2 (Value.slice Q[j].A Q[j].cl.length Q[j].c).ownBlock →
          (∃ xs, w2.ownsRow g 66 2 (.slice (some ⟨g, 0, none⟩) Q.length Q.length) Q.length xs) ∧ (∀ i (h : i < Q.length), w2.cell? ⟨g, i * 2 + 1, none⟩ = some (.slice Q[i].A Q[i].cl.length Q[i].c)) ∧ Sets g hi w w2) := by
        intro w2 xs2 ho2 hg2
        have hne : some g ≠ (Value.slice Q[j].A Q[j].cl.length Q[j].c).ownBlock := fun e => by have := hxb g e.symm; omega
        exact ⟨⟨_, hr2.kept hg2 (.inr hne)⟩, fun i h => hg2.cell (C1 i h) hne, (hs.out.trans S1).trans (Sets.of_own hy1 ho2 hg2 fun q e => by have := hxb q e; omega)⟩
      have i0 : (0 : Int) ≤ (j : Int) := by omega
      have i1 : (j : Int) < (Q.length : Int) := by omega
      have HY := Lib.hid hy1
      have HXL := Lib.hid hxl
      have b1 : (k + (cntV (Q.take j) : Int)) + 1 + 7 * (Q[j].cl.length : Int) ≤ 4611686018427387904 := by omega
      have b0 : (0 : Int) ≤ k + (cntV (Q.take j) : Int) := by omega
      clear hx hxb hxl hy hc1 hr1 hr2 hg1 S1 hy1 C1 hr hc hs
      go_wp2_with (fail)
      refine (markClaimS (g + 1) Q[j].A Q[j].c Q[j].cl.length ys _ _ (by omega) (by omega) HXL.out HY.out).mono ?_
      rintro e w2 ⟨rfl, ho2, hg2⟩
      obtain ⟨q1, q2, q3⟩ := hq.out w2 _ ho2 hg2
      have Q1 := Lib.hid q1
      have Q2 := Lib.hid q2
      have Q3 := Lib.hid q3
      clear q1 q2 q3 ho2 hg2 hq HY
      go_wp2
      go_roundw
      case rel => exact ⟨j + 1, by omega, by go_num, by rw [hct.out]; congr 1; omega, Q1, Q2, Q3⟩
      case measure => simp [intOf]; omega
    · have hz : j = Q.length := by omega
      have HZ := Lib.hid hz
      clear hz
      go_wp2
      go_ret
      refine ⟨?_, hs.out⟩
      rw [HZ.out, List.take_length]
      rfl

end Go.Proofs.Ytjpbflehedbijaa
