/- Contracts of the laws' own helpers over games. -/
import Derived.Test.YtephmhgjhjheaaaTe
namespace Go.Proofs.Ytephmhgjhjheaaa
open Go.ChangeShapes Go.WideShapes Go.ChangeAt Go.RowKit
set_option linter.unusedVariables false

theorem boxed2 {w w1 : World} {o o' : Obj} (hb : Below ((w.alloc o).alloc o').heap.size ((w.alloc o).alloc o') w1) (k : Nat) : w1.cell? ⟨w.heap.size, k, none⟩ = ((w.alloc o).alloc o').cell? ⟨w.heap.size, k, none⟩ := hb.cell (by simp; omega)
theorem boxed2' {w w1 : World} {o o' : Obj} (hb : Below ((w.alloc o).alloc o').heap.size ((w.alloc o).alloc o') w1) (k : Nat) : w1.cell? ⟨w.heap.size + 1, k, none⟩ = ((w.alloc o).alloc o').cell? ⟨w.heap.size + 1, k, none⟩ := hb.cell (by simp)

abbrev gameV (A : Option Addr) (n a : Nat) (B : Option Addr) (m b : Nat) (C : Option Addr) (l c : Nat) : Value := .agg #[.slice A n a, .slice B m b, .slice C l c]

theorem below_alloc2 (w : World) (o o' : Obj) : Below w.heap.size w ((w.alloc o).alloc o') := ((Below.refl _ _).alloc (Nat.le_refl _) _).alloc (by simp) _

set_option maxRecDepth 100000 in
theorem eqGame (A B C A' B' C' : Option Addr) (a b c a' b' c' : Nat) (E E' : List Fig) (F F' L L' : List Int) (w : World)
    (hE : E.length ≤ maxLen) (hF : F.length ≤ maxLen) (hF' : F'.length ≤ maxLen) (hL : L.length ≤ maxLen) (hL' : L'.length ≤ maxLen)
    (r1 : RdF w A E) (r2 : RdI w B F) (r3 : RdI w C L) (r1' : RdF w A' E') (r2' : RdI w B' F') (r3' : RdI w C' L') :
    Calls Try.prog 49 #[gameV A E.length a B F.length b C L.length c, gameV A' E'.length a' B' F'.length b' C' L'.length c'] w fun e w' => e = .returned (.bool (decide (E = E' ∧ F = F' ∧ L = L'))) ∧ Below w.heap.size w w' := by
  have H1 := Lib.hid r1; have H2 := Lib.hid r2; have H3 := Lib.hid r3; have H1' := Lib.hid r1'; have H2' := Lib.hid r2'; have H3' := Lib.hid r3'
  clear r1 r2 r3 r1' r2' r3'
  go_enter Try.func49, Try.ntmps49
  go_wp2_with (fail)
  have B0 := below_alloc2 w (.cells #[.slice A E.length a, .slice B F.length b, .slice C L.length c] 32) (.cells #[.slice A' E'.length a', .slice B' F'.length b', .slice C' L'.length c'] 32)
  refine (eqEntS A A' a a' E E' _ hE (RdF.below H1.out B0) (RdF.below H1'.out B0)).mono ?_
  rintro e w1 ⟨rfl, h1⟩
  have k1 := boxed2 h1; have k1' := boxed2' h1
  rcases he : decide (E = E') with _ | _
  · go_wp2
    go_light
    go_ret
    exact ⟨ret_bool (by simp at he; simp [he]), Below.and B0 h1⟩
  have HEE := Lib.hid (of_decide_eq_true he)
  clear he
  go_wp2_with (fail)
  refine (eqIntS B B' b b' F F' _ hF hF' (RdI.below H2.out (Below.and B0 h1)) (RdI.below H2'.out (Below.and B0 h1))).mono ?_
  rintro e w2 ⟨rfl, m2, rfl⟩
  rcases he : decide (F = F') with _ | _
  · go_wp2
    go_light
    go_ret
    exact ⟨ret_bool (by simp at he; simp [he]), Below.drewN (Below.and B0 h1) _⟩
  have HFF := Lib.hid (of_decide_eq_true he)
  clear he
  go_wp2_with (fail)
  refine (eqIntS C C' c c' L L' _ hL hL' ((RdI.below H3.out (Below.and B0 h1)).drewN _) ((RdI.below H3'.out (Below.and B0 h1)).drewN _)).mono ?_
  rintro e w2 ⟨rfl, m3, rfl⟩
  rcases he : decide (L = L') with _ | _
  · go_wp2
    go_light
    go_ret
    exact ⟨ret_bool (by simp at he; simp [he]), by first | exact Below.drewN (Below.drewN (Below.and B0 h1) _) _ | exact Below.drewN (Below.and B0 h1) _⟩
  have HLL := Lib.hid (of_decide_eq_true he)
  clear he
  go_wp2
  go_light
  go_ret
  exact ⟨ret_bool (by rw [decide_eq_true (And.intro HEE.out (And.intro HFF.out HLL.out))]), by first | exact Below.drewN (Below.drewN (Below.and B0 h1) _) _ | exact Below.drewN (Below.and B0 h1) _⟩

theorem boxed1 {w w1 : World} {o : Obj} {row : Option Nat} (hg : (w.alloc o).grownBy w1 row) (hr : row ≠ some w.heap.size) (k : Nat) : w1.cell? ⟨w.heap.size, k, none⟩ = (w.alloc o).cell? ⟨w.heap.size, k, none⟩ :=
  World.cell?_of_block (w := w.alloc o) (hg.block w.heap.size (by simp) (Ne.symm hr))

/-- A game whose rows lie in the blocks from lo on, below hi. -/
structure GameAt (w : World) (lo hi : Nat) (A : Option Addr) (a : Nat) (B : Option Addr) (b : Nat) (C : Option Addr) (c : Nat) (E : List Fig) (F L : List Int) : Prop where
  ents : w.ownsRow lo 114 5 (.slice A E.length a) E.length (figs E)
  floor : w.ownsRow lo 3 1 (.slice B F.length b) F.length (ints F)
  last : w.ownsRow lo 3 1 (.slice C L.length c) L.length (ints L)
  two : ∀ g, (Value.slice B F.length b).ownBlock = some g → (Value.slice C L.length c).ownBlock ≠ some g
  entsHi : ∀ g, (Value.slice A E.length a).ownBlock = some g → g < hi
  floorHi : ∀ g, (Value.slice B F.length b).ownBlock = some g → g < hi
  lastHi : ∀ g, (Value.slice C L.length c).ownBlock = some g → g < hi

section
variable {w w' : World} {lo hi : Nat} {A : Option Addr} {a : Nat} {B : Option Addr} {b : Nat} {C : Option Addr} {c : Nat} {E : List Fig} {F L : List Int}

theorem GameAt.same (h : GameAt w lo hi A a B b C c E F L) (hk : ∀ k, lo ≤ k → k < hi → w'.heap[k]? = w.heap[k]?) : GameAt w' lo hi A a B b C c E F L :=
  ⟨own_same h.ents fun k e => hk k (h.ents.lt k e).1 (h.entsHi k e), own_same h.floor fun k e => hk k (h.floor.lt k e).1 (h.floorHi k e), own_same h.last fun k e => hk k (h.last.lt k e).1 (h.lastHi k e), h.two, h.entsHi, h.floorHi, h.lastHi⟩

theorem GameAt.below (h : GameAt w lo hi A a B b C c E F L) (hb : Below w.heap.size w w') : GameAt w' lo hi A a B b C c E F L :=
  ⟨own_below h.ents hb, own_below h.floor hb, own_below h.last hb, h.two, h.entsHi, h.floorHi, h.lastHi⟩

theorem GameAt.keeps {lo' hi' : Nat} (h : GameAt w lo hi A a B b C c E F L) (hk : Keeps lo' hi' w w') (ho : hi ≤ lo' ∨ hi' ≤ lo) : GameAt w' lo hi A a B b C c E F L :=
  ⟨own_same h.ents fun k e => hk.block k (h.ents.lt k e).2 (by have := (h.ents.lt k e).1; have := h.entsHi k e; omega), own_same h.floor fun k e => hk.block k (h.floor.lt k e).2 (by have := (h.floor.lt k e).1; have := h.floorHi k e; omega),
    own_same h.last fun k e => hk.block k (h.last.lt k e).2 (by have := (h.last.lt k e).1; have := h.lastHi k e; omega), h.two, h.entsHi, h.floorHi, h.lastHi⟩
end

set_option maxRecDepth 100000 in
theorem markGame {w : World} {lo hi : Nat} {A : Option Addr} {a : Nat} {B : Option Addr} {b : Nat} {C : Option Addr} {c : Nat} {E : List Fig} {F L : List Int} (k : Int) (h : GameAt w lo hi A a B b C c E F L)
    (h0 : 0 ≤ k) (h1 : k ≤ 1) (hE : E.length ≤ 1048576) (hF : F.length ≤ 1048576) (hL : L.length ≤ 1048576) (hhi : hi ≤ w.heap.size) :
    Calls Try.prog 50 #[gameV A E.length a B F.length b C L.length c, .int .i64 k] w fun e w' => e = .returned (.int .i64 (k + 5 * E.length + F.length + L.length)) ∧ Keeps lo hi w w' ∧
      RdM w' A (E.length * 5) k ∧ RdM w' B F.length (k + 5 * E.length) ∧ RdM w' C L.length (k + 5 * E.length + F.length) := by
  have H := Lib.hid h
  clear h
  go_enter Try.func50, Try.ntmps50
  go_wp2_with (fail)
  have B0 : Below w.heap.size w (w.alloc (.cells #[.slice A E.length a, .slice B F.length b, .slice C L.length c] 32)) := (Below.refl _ _).alloc (Nat.le_refl _) _
  have H0 := Lib.hid (H.out.below B0)
  refine (markEntS lo A a E.length (figs E) k _ h0 (by omega) (by unfold maxLen; omega) H0.out.ents).mono ?_
  rintro e w1 ⟨rfl, m1, g1⟩
  have M1 := Lib.hid m1
  have G1 := Lib.hid g1
  have k1 := boxed1 g1 (fun e => by have := H.out.entsHi _ e; omega)
  clear m1 g1
  go_wp2_with (fail)
  have hne1 := own_row_ne H0.out.ents H0.out.floor (by decide)
  have hne2 := own_row_ne H0.out.ents H0.out.last (by decide)
  have F1 := Lib.hid (H0.out.floor.kept G1.out (not_row fun g hb e => hne1 g e hb))
  have L1 := Lib.hid (H0.out.last.kept G1.out (not_row fun g hb e => hne2 g e hb))
  have hz1 : w.heap.size < w1.heap.size := by have := G1.out.size; simp at this; omega
  have N1 := Lib.hid hne1
  have N2 := Lib.hid hne2
  clear hne1 hne2
  refine (markIntS lo B b F.length (ints F) (k + 5 * E.length) _ (by omega) (by omega) (by unfold maxLen; omega) F1.out).mono ?_
  rintro e w2 ⟨rfl, m2, g2⟩
  have M2 := Lib.hid m2
  have G2 := Lib.hid g2
  have k2 : ∀ j, w2.cell? ⟨w.heap.size, j, none⟩ = (w.alloc (.cells #[.slice A E.length a, .slice B F.length b, .slice C L.length c] 32)).cell? ⟨w.heap.size, j, none⟩ := fun j =>
    (World.cell?_of_block (w := w1) (G2.out.block w.heap.size hz1 (fun e => by have := H.out.floorHi _ e.symm; omega))).trans (k1 j)
  clear m2 g2
  go_wp2_with (fail)
  have L2 := Lib.hid (L1.out.kept G2.out (not_row fun g hb e => H.out.two g e hb))
  have E2 := Lib.hid (M1.out.kept G2.out (not_row fun g hb e => N1.out g hb e))
  refine (markIntS lo C c L.length (ints L) (k + 5 * E.length + F.length) _ (by omega) (by omega) (by unfold maxLen; omega) L2.out).mono ?_
  rintro e w3 ⟨rfl, m3, g3⟩
  have M3 := Lib.hid m3
  have G3 := Lib.hid g3
  clear m3 g3
  have E3 := Lib.hid (E2.out.kept G3.out (not_row fun g hb e => N2.out g hb e))
  have F3 := Lib.hid (M2.out.kept G3.out (not_row fun g hb e => H.out.two g hb e))
  go_wp2
  go_light
  go_ret
  refine ⟨rfl, ?_, RdM.of_own E3.out, ?_, ?_⟩
  · exact (Keeps.of_below B0).trans ((Keeps.of_grown G1.out fun g e => ⟨(H.out.ents.lt g e).1, H.out.entsHi g e⟩).trans ((Keeps.of_grown G2.out fun g e => ⟨(H.out.floor.lt g e).1, H.out.floorHi g e⟩).trans
      (Keeps.of_grown G3.out fun g e => ⟨(H.out.last.lt g e).1, H.out.lastHi g e⟩)))
  · have := RdM.of_own (size := 1) (n := F.length) (by simpa using F3.out)
    simpa using this
  · have := RdM.of_own (size := 1) (n := L.length) (by simpa using M3.out)
    simpa using this

set_option maxRecDepth 100000 in
theorem heldGame {w : World} {A : Option Addr} {n a : Nat} {B : Option Addr} {m b : Nat} {C : Option Addr} {l c : Nat} (k : Int)
    (h0 : 0 ≤ k) (h1 : k ≤ 1) (hE : n ≤ 1048576) (hF : m ≤ 1048576) (hL : l ≤ 1048576) (r1 : RdM w A (n * 5) k) (r2 : RdM w B m (k + 5 * n)) (r3 : RdM w C l (k + 5 * n + m)) :
    Calls Try.prog 51 #[gameV A n a B m b C l c, .int .i64 k] w fun e w' => e = .returned (.int .i64 (k + 5 * n + m + l)) ∧ Below w.heap.size w w' := by
  have B0 : Below w.heap.size w (w.alloc (.cells #[.slice A n a, .slice B m b, .slice C l c] 32)) := (Below.refl _ _).alloc (Nat.le_refl _) _
  have H1 := Lib.hid (RdM.below r1 B0); have H2 := Lib.hid (RdM.below r2 B0).ints; have H3 := Lib.hid (RdM.below r3 B0).ints
  clear r1 r2 r3
  go_enter Try.func51, Try.ntmps51
  go_wp2_with (fail)
  refine (heldEntS A a n k _ h0 (by omega) (by unfold maxLen; omega) H1.out).mono ?_
  rintro e w1 ⟨rfl, rfl⟩
  have d1 : decide (k + 5 * (n : Int) < 0) = false := by simp; omega
  go_wp2_with (fail)
  refine (heldIntS B b m (k + 5 * n) _ (by omega) (by omega) (by unfold maxLen; omega) H2.out).mono ?_
  rintro e w1 ⟨rfl, rfl⟩
  have d2 : decide (k + 5 * (n : Int) + (m : Int) < 0) = false := by simp; omega
  go_wp2_with (fail)
  refine (heldIntS C c l (k + 5 * n + m) _ (by omega) (by omega) (by unfold maxLen; omega) H3.out).mono ?_
  rintro e w1 ⟨rfl, rfl⟩
  have d3 : decide (k + 5 * (n : Int) + (m : Int) + (l : Int) < 0) = false := by simp; omega
  go_wp2
  go_light
  go_ret
  exact ⟨rfl, B0⟩
end Go.Proofs.Ytephmhgjhjheaaa
