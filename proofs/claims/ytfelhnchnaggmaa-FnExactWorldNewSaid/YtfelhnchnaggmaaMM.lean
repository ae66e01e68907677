/- Tq, Tr, Ts, Tt -/
import Derived.Test.YtfelhnchnaggmaaMD
/- Draws: a reader kept; a request drawn. -/
namespace Go.Proofs.Ytfelhnchnaggmaa
open Go.ChangeShapes Go.WideShapes Go.ChangeAt Go.RowKit
set_option linter.unusedVariables false

/-- A reader of a code of n bytes, at place p. -/
structure Reader (w : World) (R : Nat) (A : Option Addr) (n c : Nat) (p : Int) : Prop where
  at_ : RdrAt w R A n c p
  bytes : InB w A n
  far : 0 < n → ∀ b off, A = some ⟨b, off, none⟩ → b ≠ R
  lo : 0 ≤ p
  len : n ≤ 2000

section
variable {w w' : World} {R : Nat} {A : Option Addr} {n c : Nat} {p : Int}

theorem Reader.lt (h : Reader w R A n c p) : R < w.heap.size := by
  have := h.at_
  unfold RdrAt at this
  rcases Nat.lt_or_ge R w.heap.size with h1 | h1
  · exact h1
  · rw [Array.getElem?_eq_none h1] at this
    cases this

theorem Reader.grown {row : Option Nat} (h : Reader w R A n c p) (hg : w.grownBy w' row) (hR : row ≠ some R) (hb : ∀ b off, A = some ⟨b, off, none⟩ → row ≠ some b) : Reader w' R A n c p :=
  ⟨(hg.block R h.lt (Ne.symm hR)).trans h.at_, fun i hi => by
    obtain ⟨b, off, u, hA, hc, hu⟩ := h.bytes i hi
    exact ⟨b, off, u, hA, hg.cell hc (Ne.symm (hb b off hA)), hu⟩, h.far, h.lo, h.len⟩

theorem Reader.below (h : Reader w R A n c p) (hb : Below w.heap.size w w') : Reader w' R A n c p := h.grown (Below.grownBy hb none) (by simp) (by simp)

theorem Reader.next (h : Reader w R A n c p) (m : Nat) : Reader ((w.setCell ⟨R, 1, none⟩ (.int .i64 (p + 1))).drewN m) R A n c (p + 1) :=
  ⟨heap_setCell_same w R 1 _ 65 _ h.at_, fun i hi => by
    obtain ⟨b, off, u, hA, hc, hu⟩ := h.bytes i hi
    exact ⟨b, off, u, hA, (grownBy_set w R 1 (.int .i64 (p + 1))).cell hc (by simpa using h.far (by omega) b off hA), hu⟩, h.far, by have := h.lo; omega, h.len⟩

theorem grownBy_drewN {row : Option Nat} (h : w.grownBy w' row) (m : Nat) : w.grownBy (w'.drewN m) row := ⟨h.os, h.tape, h.output, h.size, h.block⟩
end

/-- What a draw leaves: at most K places on, and nothing turned but the reader. -/
def Drawn (w : World) (R : Nat) (A : Option Addr) (n c : Nat) (p K : Int) (w' : World) : Prop := ∃ q, p ≤ q ∧ q ≤ p + K ∧ Reader w' R A n c q ∧ w.grownBy w' (some R)

theorem pickR {w : World} {R : Nat} {A : Option Addr} {n c : Nat} {p : Int} (N : Int) (h : Reader w R A n c p) (hp : p ≤ 100000) (hN : 1 ≤ N) (hN1 : N ≤ 1000) :
    Calls Try.prog 44 #[.pointer (some ⟨R, 0, none⟩), .int .i64 N] w fun e w' => ∃ v : Int, 0 ≤ v ∧ v < N ∧ e = .returned (.int .i64 v) ∧ Drawn w R A n c p 1 w' :=
  ((if h0 : n = 0 then by
      subst h0
      exact pick_none w R A c p N h.lo hp hN hN1 h.at_
    else pick w R A n c p N h.len h.lo hp hN hN1 h.at_ h.bytes (h.far (by omega)) : Calls Try.prog 44 #[.pointer (some ⟨R, 0, none⟩), .int .i64 N] w fun e w' => Picked w R p N e w')).mono fun e w' ⟨v, m, h0, h1, he, hw⟩ => ⟨v, h0, h1, he, by
    subst hw
    exact ⟨p + 1, by omega, by omega, h.next m, grownBy_drewN (grownBy_set w R 1 _) m⟩⟩

/-- One of a list that lies in a block of the call's own. -/
theorem oneR {w : World} {R : Nat} {A : Option Addr} {n c : Nat} {p : Int} (g : Nat) (l : List Int) (h : Reader w R A n c p) (hp : p ≤ 100000) (hl : 0 < l.length) (hl1 : l.length ≤ 1000) (hg : g ≠ R)
    (hc : ∀ i (hi : i < l.length), w.cell? ⟨g, i, none⟩ = some (.int .i64 (l[i]'hi))) :
    Calls Try.prog 21 #[.pointer (some ⟨R, 0, none⟩), .slice (some ⟨g, 0, none⟩) l.length l.length] w fun e w' => ∃ v : Int, e = .returned (.int .i64 v) ∧ Drawn w R A n c p 1 w' := by
  have H := Lib.hid h
  have HC := Lib.hid hc
  clear h hc
  go_enter Try.func21, Try.ntmps21
  go_wp2_with (fail)
  refine (pickR (l.length : Int) H.out hp (by omega) (by omega)).mono ?_
  rintro e w1 ⟨v, v0, v1, rfl, hd⟩
  obtain ⟨j, rfl⟩ := Int.eq_ofNat_of_zero_le v0
  obtain ⟨q, hq0, hq1, hr, hgr⟩ := hd
  have hcell := hgr.cell (HC.out j (by omega)) (by simpa using hg)
  have HD : Hid (Drawn w R A n c p 1 w1) := ⟨q, hq0, hq1, hr, hgr⟩
  clear hr hgr
  generalize l[j] = x at hcell
  go_wp2
  go_light
  go_ret
  exact ⟨x, rfl, HD.out⟩
end Go.Proofs.Ytfelhnchnaggmaa

/- A request drawn. -/
namespace Go.Proofs.Ytfelhnchnaggmaa
open Go.ChangeShapes Go.WideShapes Go.ChangeAt Go.RowKit
set_option linter.unusedVariables false

/-- Block g is just these five cells, none frozen. -/
def Five (w : World) (g : Nat) (t : TypeId) (u0 u1 u2 u3 u4 : Value) : Prop := w.heap[g]? = some (.cells #[u0, u1, u2, u3, u4] t)

section
variable {w w' : World} {g : Nat} {t : TypeId} {u0 u1 u2 u3 u4 : Value}
theorem Five.lt (h : Five w g t u0 u1 u2 u3 u4) : g < w.heap.size := by
  unfold Five at h
  rcases Nat.lt_or_ge g w.heap.size with h1 | h1
  · exact h1
  · rw [Array.getElem?_eq_none h1] at h
    cases h
theorem Five.cells (h : Five w g t u0 u1 u2 u3 u4) : w.cell? ⟨g, 0, none⟩ = some u0 ∧ w.cell? ⟨g, 1, none⟩ = some u1 ∧ w.cell? ⟨g, 2, none⟩ = some u2 ∧ w.cell? ⟨g, 3, none⟩ = some u3 ∧ w.cell? ⟨g, 4, none⟩ = some u4 := by
  have k := fun j => cell_of_row w g j _ t (0, 0) h
  exact ⟨by simpa using k 0, by simpa using k 1, by simpa using k 2, by simpa using k 3, by simpa using k 4⟩
theorem Five.frozen (h : Five w g t u0 u1 u2 u3 u4) (j : Nat) : w.frozen? ⟨g, j, none⟩ = false := frozen_of_row w g j _ t h
theorem Five.new (w : World) : Five (w.alloc (.cells #[u0, u1, u2, u3, u4] t)) w.heap.size t u0 u1 u2 u3 u4 := heap_alloc_new w _
theorem Five.grown {row : Option Nat} (h : Five w g t u0 u1 u2 u3 u4) (hb : w.grownBy w' row) (hg : some g ≠ row) : Five w' g t u0 u1 u2 u3 u4 := (hb.block g h.lt hg).trans h
theorem Five.alloc (h : Five w g t u0 u1 u2 u3 u4) (o : Obj) : Five (w.alloc o) g t u0 u1 u2 u3 u4 := h.grown (World.grownBy_alloc w o none) (by simp)
theorem Five.set0 (h : Five w g t u0 u1 u2 u3 u4) (v : Value) : Five (w.setCell ⟨g, 0, none⟩ v) g t v u1 u2 u3 u4 := heap_setCell_same w g 0 _ t v h
theorem Five.set1 (h : Five w g t u0 u1 u2 u3 u4) (v : Value) : Five (w.setCell ⟨g, 1, none⟩ v) g t u0 v u2 u3 u4 := heap_setCell_same w g 1 _ t v h
theorem Five.set2 (h : Five w g t u0 u1 u2 u3 u4) (v : Value) : Five (w.setCell ⟨g, 2, none⟩ v) g t u0 u1 v u3 u4 := heap_setCell_same w g 2 _ t v h
theorem Five.set3 (h : Five w g t u0 u1 u2 u3 u4) (v : Value) : Five (w.setCell ⟨g, 3, none⟩ v) g t u0 u1 u2 v u4 := heap_setCell_same w g 3 _ t v h
theorem Five.set4 (h : Five w g t u0 u1 u2 u3 u4) (v : Value) : Five (w.setCell ⟨g, 4, none⟩ v) g t u0 u1 u2 u3 v := heap_setCell_same w g 4 _ t v h
end

theorem grown_new {a b c : World} {R x : Nat} (h : a.grownBy b (some R)) (k : b.grownBy c (some x)) (hx : a.heap.size ≤ x) : a.grownBy c (some R) :=
  ⟨k.os.trans h.os, k.tape.trans h.tape, k.output.trans h.output, Nat.le_trans h.size k.size, fun i hi hr => (k.block i (Nat.lt_of_lt_of_le hi h.size) (by simp; omega)).trans (h.block i hi hr)⟩

/-- Behind a store into a block that is none of the reader's. -/
theorem Reader.set {w : World} {R : Nat} {A : Option Addr} {n c : Nat} {p : Int} (h : Reader w R A n c p) (B x j : Nat) (v : Value) (hB : ∀ b off, A = some ⟨b, off, none⟩ → 0 < n → b < B) (hR : R < B) (hx : B ≤ x) : Reader (w.setCell ⟨x, j, none⟩ v) R A n c p := by
  refine ⟨(heap_setCell_other w ⟨x, j, none⟩ R v (by simp; omega)).trans h.at_, fun i hi => ?_, h.far, h.lo, h.len⟩
  obtain ⟨b, off, u, hA, hc, hu⟩ := h.bytes i hi
  have hb := hB b off hA (by omega)
  exact ⟨b, off, u, hA, (grownBy_set w x j v).cell hc (by simp; omega), hu⟩

theorem Reader.old {w : World} {R : Nat} {A : Option Addr} {n c : Nat} {p : Int} (h : Reader w R A n c p) : ∀ b off, A = some ⟨b, off, none⟩ → 0 < n → b < w.heap.size := by
  intro b off hA h0
  obtain ⟨b', off', u, hA', hc, _⟩ := h.bytes 0 h0
  rw [hA] at hA'
  cases hA'
  exact World.block_lt_of_cell? w _ hc

theorem Drawn.alloc {w w' : World} {R : Nat} {A : Option Addr} {n c : Nat} {p K : Int} (h : Drawn w R A n c p K w') (o : Obj) : Drawn w R A n c p K (w'.alloc o) := by
  obtain ⟨q, h0, h1, hr, hg⟩ := h
  exact ⟨q, h0, h1, hr.below ((Below.refl _ _).alloc (Nat.le_refl _) o), grownBy_trans hg (World.grownBy_alloc _ _ _)⟩

/-- The result's five cells written, behind all draws. -/
theorem back5 {w W : World} {R : Nat} {A : Option Addr} {n c : Nat} {p K q : Int} (u0 u1 u2 u3 u4 : Value) (hq0 : p ≤ q) (hq1 : q ≤ p + K) (hr : Reader W R A n c q) (hg : w.grownBy W (some R)) (hOld : ∀ b off, A = some ⟨b, off, none⟩ → 0 < n → b < w.heap.size) (hR : R < w.heap.size) :
    Drawn w R A n c p K (((((W.setCell ⟨w.heap.size, 0, none⟩ u0).setCell ⟨w.heap.size, 1, none⟩ u1).setCell ⟨w.heap.size, 2, none⟩ u2).setCell ⟨w.heap.size, 3, none⟩ u3).setCell ⟨w.heap.size, 4, none⟩ u4) := by
  refine ⟨q, hq0, hq1, ?_, ?_⟩
  · exact ((((hr.set w.heap.size _ 0 u0 hOld hR (Nat.le_refl _)).set w.heap.size _ 1 u1 hOld hR (Nat.le_refl _)).set w.heap.size _ 2 u2 hOld hR (Nat.le_refl _)).set w.heap.size _ 3 u3 hOld hR (Nat.le_refl _)).set w.heap.size _ 4 u4 hOld hR (Nat.le_refl _)
  · exact grown_new (grown_new (grown_new (grown_new (grown_new hg (grownBy_set _ _ 0 u0) (Nat.le_refl _)) (grownBy_set _ _ 1 u1) (Nat.le_refl _)) (grownBy_set _ _ 2 u2) (Nat.le_refl _)) (grownBy_set _ _ 3 u3) (Nat.le_refl _)) (grownBy_set _ _ 4 u4) (Nat.le_refl _)

end Go.Proofs.Ytfelhnchnaggmaa

/- A reader opened. -/
namespace Go.Proofs.Ytfelhnchnaggmaa
open Go.ChangeShapes Go.WideShapes Go.ChangeAt Go.RowKit
set_option linter.unusedVariables false

theorem Reader.opened {w : World} {A : Option Addr} {n c : Nat} (m : Nat) (hmn : m ≤ n) (hm : m ≤ 2000) (hb : InB w A n) :
    Reader (w.alloc (.cells #[.slice A m c, .int .i64 0] 65)) w.heap.size A m c 0 :=
  ⟨heap_alloc_new w _, fun i hi => by
    obtain ⟨b, off, u, h1, h2, h3⟩ := hb i (by omega)
    exact ⟨b, off, u, h1, (World.grownBy_alloc w (.cells #[.slice A m c, .int .i64 0] 65) none).cell h2 (by simp), h3⟩, fun h0 b off h => by
    obtain ⟨b', off', u, h1, h2, h3⟩ := hb 0 (by omega)
    have := World.block_lt_of_cell? w _ h2
    rw [h] at h1
    cases h1
    simp at this
    omega, by omega, hm⟩

theorem l20Open {w : World} {A : Option Addr} {n c : Nat} (hn : n ≤ 1048576) (hc : n ≤ c) (hb : InB w A n) :
    Calls Try.prog 20 #[.slice A n c] w fun e w' => ∃ m : Nat, e = .returned (.pointer (some ⟨w.heap.size, 0, none⟩)) ∧ Reader w' w.heap.size A m c 0 ∧ Below w.heap.size w w' := by
  have HB := Lib.hid hb
  clear hb
  go_enter Try.func20, Try.ntmps20
  by_cases h0 : n ≤ 2000
  · have e0 : (decide ((2000 : Int) < (n : Int))) = false := by simp; omega
    go_wp2
    go_light
    refine bodyPost_ret (v := .pointer (some ⟨w.heap.size, 0, none⟩)) (by simp [results, Try.results20, go_sem]) rfl ⟨n, rfl, ?_, ?_⟩
    · exact Reader.opened n (Nat.le_refl _) h0 HB.out
    · exact (Below.refl w.heap.size w).alloc (Nat.le_refl _) _
  · have e0 : (decide ((2000 : Int) < (n : Int))) = true := by simp; omega
    go_wp2
    go_light
    refine bodyPost_ret (v := .pointer (some ⟨w.heap.size, 0, none⟩)) (by simp [results, Try.results20, go_sem]) rfl ⟨2000, rfl, ?_, ?_⟩
    · exact Reader.opened 2000 (by omega) (Nat.le_refl _) HB.out
    · exact (Below.refl w.heap.size w).alloc (Nat.le_refl _) _
end Go.Proofs.Ytfelhnchnaggmaa
