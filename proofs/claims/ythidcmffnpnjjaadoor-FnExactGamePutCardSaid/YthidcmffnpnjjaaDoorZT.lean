/- Tc, Td, Te, Tf, Tg, Th -/
import Derived.Test.YthidcmffnpnjjaaDoorTb
import Derived.Test.YthidcmffnpnjjaaDoorMem
import Derived.RegionTactic
import Derived.Deep.DeepCutAuto
/- Contracts of the laws' own helpers over slices of ints. -/
namespace Go.Proofs.YthidcmffnpnjjaaDoor
open Go.ChangeShapes Go.WideShapes Go.ChangeAt Go.RowKit
set_option linter.unusedVariables false

set_option maxRecDepth 100000 in
theorem eqIntS (A B : Option Addr) (c d : Nat) (la lb : List Int) (w : World) (hA : la.length ≤ maxLen) (hB : lb.length ≤ maxLen) (ha : RdI w A la) (hb : RdI w B lb) :
    Calls Tryd.prog 22 #[.slice A la.length c, .slice B lb.length d] w fun e w' => e = .returned (.bool (decide (la = lb))) ∧ ∃ m, w' = w.drewN m := by
  unfold maxLen at hA hB
  have HA := Lib.hid ha
  have HB := Lib.hid hb
  clear ha hb
  by_cases hl : la.length = lb.length
  · have hl1 : ((la.length : Int) != (lb.length : Int)) = false := by simp [hl]
    have HL := Lib.hid hl
    clear hl
    go_enter Tryd.func22, Tryd.ntmps22
    go_wp2
    go_loopw [5] (fun i wr => ∃ k m : Nat, k ≤ la.length ∧ i = .int .i64 k ∧ wr = w.drewN m ∧ Hid (la.take k = lb.take k)) (fun i _ => la.length - (intOf i).toNat)
    case atStart => exact ⟨0, 0, Nat.zero_le _, rfl, rfl, by simp [Hid]⟩
    case round =>
      obtain ⟨k, m, hk, rfl, rfl, ht⟩ := hrel
      by_cases hlt : k < la.length
      · have hltb : k < lb.length := by have := HL.out; omega
        obtain ⟨g, rfl, hg⟩ := HA.out k hlt
        obtain ⟨g', rfl, hg'⟩ := HB.out k hltb
        obtain ⟨x, hx⟩ : ∃ x, x = la[k] := ⟨_, rfl⟩
        obtain ⟨y, hy⟩ : ∃ y, y = lb[k] := ⟨_, rfl⟩
        rw [← hx] at hg
        rw [← hy] at hg'
        have HX := Lib.hid hx
        have HY := Lib.hid hy
        clear hx hy
        have i0 : (0 : Int) ≤ (k : Int) := by omega
        have i1 : (k : Int) < (la.length : Int) := by omega
        have i2 : (k : Int) < (lb.length : Int) := by omega
        rcases hxy : (x != y) with _ | _
        · go_wp2_with (fail)
          go_quiet (fail)
          go_wp2
          go_roundw
          case rel => exact ⟨k + 1, _, by omega, by go_num, rfl, take_step hlt hltb ht.out (by rw [← HX.out, ← HY.out]; simpa using hxy)⟩
          case measure => simp [intOf]; omega
        · go_wp2_with (fail)
          go_quiet (fail)
          go_wp2
          go_ret
          exact ⟨ret_bool (decide_eq_false (ne_of_at hlt hltb (by rw [← HX.out, ← HY.out]; simpa using hxy))).symm, m + nq, World.drewN_drewN ..⟩
      · have hz : k = la.length := by omega
        have HZ := Lib.hid hz
        clear hz
        go_wp2
        go_ret
        have h1 := ht.out
        rw [HZ.out, List.take_length, HL.out, List.take_length] at h1
        exact ⟨ret_bool (decide_eq_true h1).symm, m, rfl⟩
  · have hl1 : ((la.length : Int) != (lb.length : Int)) = true := by simp; omega
    have HL := Lib.hid hl
    clear hl
    go_enter Tryd.func22, Tryd.ntmps22
    go_wp2
    go_ret
    exact ⟨ret_bool (decide_eq_false (fun e => HL.out (by rw [e]))).symm, 0, rfl⟩

end Go.Proofs.YthidcmffnpnjjaaDoor

/- Contracts of the laws' own helpers over figures. -/
namespace Go.Proofs.YthidcmffnpnjjaaDoor
open Go.ChangeShapes Go.WideShapes Go.ChangeAt Go.RowKit
set_option linter.unusedVariables false

theorem eqEnt (a b : Fig) (w : World) :
    Calls Tryd.prog 34 #[a.val, b.val] w fun e w' => e = .returned (.bool (decide (a = b))) ∧ Below w.heap.size w w' := by
  obtain ⟨c, x, y, l, g⟩ := a
  obtain ⟨c', x', y', l', g'⟩ := b
  go_enter Tryd.func34, Tryd.ntmps34
  go_wp2
  all_goals go_light
  all_goals go_ret
  all_goals refine ⟨ret_bool ?_, ((Below.refl _ _).alloc (Nat.le_refl _) _).alloc (by simp) _⟩
  all_goals (simp_all)

set_option maxRecDepth 100000 in
theorem eqEntS (A B : Option Addr) (c d : Nat) (la lb : List Fig) (w : World) (hA : la.length ≤ maxLen) (ha : RdF w A la) (hb : RdF w B lb) :
    Calls Tryd.prog 21 #[.slice A la.length c, .slice B lb.length d] w fun e w' => e = .returned (.bool (decide (la = lb))) ∧ Below w.heap.size w w' := by
  unfold maxLen at hA
  have HA := Lib.hid ha
  have HB := Lib.hid hb
  clear ha hb
  by_cases hl : la.length = lb.length
  · have hl1 : ((la.length : Int) != (lb.length : Int)) = false := by simp [hl]
    have HL := Lib.hid hl
    clear hl
    go_enter Tryd.func21, Tryd.ntmps21
    go_wp2
    go_loopw [5] (fun i wr => ∃ k : Nat, k ≤ la.length ∧ i = .int .i64 k ∧ Hid (Below w.heap.size w wr) ∧ Hid (la.take k = lb.take k)) (fun i _ => la.length - (intOf i).toNat)
    case atStart => exact ⟨0, Nat.zero_le _, rfl, Below.refl _ _, by simp [Hid]⟩
    case round =>
      obtain ⟨k, hk, rfl, hbw, ht⟩ := hrel
      by_cases hlt : k < la.length
      · have hltb : k < lb.length := by have := HL.out; omega
        obtain ⟨g, rfl, a0, a1, a2, a3, a4⟩ := RdF.below HA.out hbw.out k hlt
        obtain ⟨g', rfl, b0, b1, b2, b3, b4⟩ := RdF.below HB.out hbw.out k hltb
        obtain ⟨x, hx⟩ : ∃ x, x = la[k] := ⟨_, rfl⟩
        obtain ⟨y, hy⟩ : ∃ y, y = lb[k] := ⟨_, rfl⟩
        rw [← hx] at a0 a1 a2 a3 a4
        rw [← hy] at b0 b1 b2 b3 b4
        have HX := Lib.hid hx
        have HY := Lib.hid hy
        clear hx hy
        have i0 : (0 : Int) ≤ (k : Int) := by omega
        have i1 : (k : Int) < (la.length : Int) := by omega
        have i2 : (k : Int) < (lb.length : Int) := by omega
        by_cases hxy : x = y
        · subst hxy
          go_wp2_with (fail)
          refine wp_region_still_tail 8 (by kernel_rfl) (by kernel_rfl) ?_
          change wpStill _ _ (World.drew _) (fun a' => wpList _ _ _ _ a' (World.drew _)) _ _
          simp only [List.take_succ_cons, List.take_zero, List.drop_succ_cons, List.drop_zero]
          repeat still_step
          refine wpStill_nil ?_
          go_wp2_with (fail)
          refine (eqEnt x x _).mono ?_
          rintro e w1 ⟨rfl, h1⟩
          rw [decide_eq_true rfl]
          go_wp2
          go_roundw
          case rel => exact ⟨k + 1, by omega, by go_num, Below.and hbw.out (Below.and (Below.refl _ _).drew h1), take_step hlt hltb ht.out (by rw [← HX.out, ← HY.out])⟩
          case measure => simp [intOf]; omega
        · have hd := Lib.hid hxy
          clear hxy
          go_wp2_with (fail)
          refine wp_region_still_tail 8 (by kernel_rfl) (by kernel_rfl) ?_
          change wpStill _ _ (World.drew _) (fun a' => wpList _ _ _ _ a' (World.drew _)) _ _
          simp only [List.take_succ_cons, List.take_zero, List.drop_succ_cons, List.drop_zero]
          repeat still_step
          refine wpStill_nil ?_
          go_wp2_with (fail)
          refine (eqEnt x y _).mono ?_
          rintro e w1 ⟨rfl, h1⟩
          rw [decide_eq_false hd.out]
          go_wp2
          go_ret
          exact ⟨ret_bool (decide_eq_false (ne_of_at hlt hltb (by rw [← HX.out, ← HY.out]; exact hd.out))).symm, Below.and hbw.out (Below.and (Below.refl _ _).drew h1)⟩
      · have hz : k = la.length := by omega
        have HZ := Lib.hid hz
        clear hz
        go_wp2
        go_ret
        have h1 := ht.out
        rw [HZ.out, List.take_length, HL.out, List.take_length] at h1
        exact ⟨ret_bool (decide_eq_true h1).symm, hbw.out⟩
  · have hl1 : ((la.length : Int) != (lb.length : Int)) = true := by simp; omega
    have HL := Lib.hid hl
    clear hl
    go_enter Tryd.func21, Tryd.ntmps21
    go_wp2
    go_ret
    exact ⟨ret_bool (decide_eq_false (fun e => HL.out (by rw [e]))).symm, Below.refl _ _⟩
end Go.Proofs.YthidcmffnpnjjaaDoor

/- Contracts of the laws' own helpers over games. -/
namespace Go.Proofs.YthidcmffnpnjjaaDoor
open Go.ChangeShapes Go.WideShapes Go.ChangeAt Go.RowKit
set_option linter.unusedVariables false

theorem boxed2 {w w1 : World} {o o' : Obj} (hb : Below ((w.alloc o).alloc o').heap.size ((w.alloc o).alloc o') w1) (k : Nat) : w1.cell? ⟨w.heap.size, k, none⟩ = ((w.alloc o).alloc o').cell? ⟨w.heap.size, k, none⟩ := hb.cell (by simp; omega)
theorem boxed2' {w w1 : World} {o o' : Obj} (hb : Below ((w.alloc o).alloc o').heap.size ((w.alloc o).alloc o') w1) (k : Nat) : w1.cell? ⟨w.heap.size + 1, k, none⟩ = ((w.alloc o).alloc o').cell? ⟨w.heap.size + 1, k, none⟩ := hb.cell (by simp)

abbrev gameV (A : Option Addr) (n a : Nat) (B : Option Addr) (m b : Nat) (C : Option Addr) (l c : Nat) : Value := .agg #[.slice A n a, .slice B m b, .slice C l c]

theorem below_alloc2 (w : World) (o o' : Obj) : Below w.heap.size w ((w.alloc o).alloc o') := ((Below.refl _ _).alloc (Nat.le_refl _) _).alloc (by simp) _

set_option maxRecDepth 100000 in
theorem eqGame (A B C A' B' C' : Option Addr) (a b c a' b' c' : Nat) (E E' : List Fig) (F F' L L' : List Int) (w : World)
    (hE : E.length ≤ maxLen) (hF : F.length ≤ maxLen) (hF' : F'.length ≤ maxLen) (hL : L.length ≤ maxLen) (hL' : L'.length ≤ maxLen)
    (r1 : RdF w A E) (r2 : RdI w B F) (r3 : RdI w C L) (r1' : RdF w A' E') (r2' : RdI w B' F') (r3' : RdI w C' L') :
    Calls Tryd.prog 8 #[gameV A E.length a B F.length b C L.length c, gameV A' E'.length a' B' F'.length b' C' L'.length c'] w fun e w' => e = .returned (.bool (decide (E = E' ∧ F = F' ∧ L = L'))) ∧ Below w.heap.size w w' := by
  have H1 := Lib.hid r1; have H2 := Lib.hid r2; have H3 := Lib.hid r3; have H1' := Lib.hid r1'; have H2' := Lib.hid r2'; have H3' := Lib.hid r3'
  clear r1 r2 r3 r1' r2' r3'
  go_enter Tryd.func8, Tryd.ntmps8
  go_wp2_with (fail)
  have B0 := below_alloc2 w (.cells #[.slice A E.length a, .slice B F.length b, .slice C L.length c] 30) (.cells #[.slice A' E'.length a', .slice B' F'.length b', .slice C' L'.length c'] 30)
  refine (eqEntS A A' a a' E E' _ hE (RdF.below H1.out B0) (RdF.below H1'.out B0)).mono ?_
  rintro e w1 ⟨rfl, h1⟩
  have k1 := boxed2 h1; have k1' := boxed2' h1
  rcases he : decide (E = E') with _ | _
  · go_wp2
    go_light
    go_ret
    exact ⟨ret_bool (by simp at he; simp [he]), Below.and B0 h1⟩
  have HEE := Lib.hid (of_decide_eq_true he)
  clear he
  go_wp2_with (fail)
  refine (eqIntS B B' b b' F F' _ hF hF' (RdI.below H2.out (Below.and B0 h1)) (RdI.below H2'.out (Below.and B0 h1))).mono ?_
  rintro e w2 ⟨rfl, m2, rfl⟩
  rcases he : decide (F = F') with _ | _
  · go_wp2
    go_light
    go_ret
    exact ⟨ret_bool (by simp at he; simp [he]), Below.drewN (Below.and B0 h1) _⟩
  have HFF := Lib.hid (of_decide_eq_true he)
  clear he
  go_wp2_with (fail)
  refine (eqIntS C C' c c' L L' _ hL hL' ((RdI.below H3.out (Below.and B0 h1)).drewN _) ((RdI.below H3'.out (Below.and B0 h1)).drewN _)).mono ?_
  rintro e w2 ⟨rfl, m3, rfl⟩
  rcases he : decide (L = L') with _ | _
  · go_wp2
    go_light
    go_ret
    exact ⟨ret_bool (by simp at he; simp [he]), by first | exact Below.drewN (Below.drewN (Below.and B0 h1) _) _ | exact Below.drewN (Below.and B0 h1) _⟩
  have HLL := Lib.hid (of_decide_eq_true he)
  clear he
  go_wp2
  go_light
  go_ret
  exact ⟨ret_bool (by rw [decide_eq_true (And.intro HEE.out (And.intro HFF.out HLL.out))]), by first | exact Below.drewN (Below.drewN (Below.and B0 h1) _) _ | exact Below.drewN (Below.and B0 h1) _⟩

theorem boxed1 {w w1 : World} {o : Obj} {row : Option Nat} (hg : (w.alloc o).grownBy w1 row) (hr : row ≠ some w.heap.size) (k : Nat) : w1.cell? ⟨w.heap.size, k, none⟩ = (w.alloc o).cell? ⟨w.heap.size, k, none⟩ :=
  World.cell?_of_block (w := w.alloc o) (hg.block w.heap.size (by simp) (Ne.symm hr))

/-- A game whose rows lie in the blocks from lo on, below hi. -/
structure GameAt (w : World) (lo hi : Nat) (A : Option Addr) (a : Nat) (B : Option Addr) (b : Nat) (C : Option Addr) (c : Nat) (E : List Fig) (F L : List Int) : Prop where
  ents : w.ownsRow lo 48 5 (.slice A E.length a) E.length (figs E)
  floor : w.ownsRow lo 3 1 (.slice B F.length b) F.length (ints F)
  last : w.ownsRow lo 3 1 (.slice C L.length c) L.length (ints L)
  two : ∀ g, (Value.slice B F.length b).ownBlock = some g → (Value.slice C L.length c).ownBlock ≠ some g
  entsHi : ∀ g, (Value.slice A E.length a).ownBlock = some g → g < hi
  floorHi : ∀ g, (Value.slice B F.length b).ownBlock = some g → g < hi
  lastHi : ∀ g, (Value.slice C L.length c).ownBlock = some g → g < hi

section
variable {w w' : World} {lo hi : Nat} {A : Option Addr} {a : Nat} {B : Option Addr} {b : Nat} {C : Option Addr} {c : Nat} {E : List Fig} {F L : List Int}

theorem GameAt.same (h : GameAt w lo hi A a B b C c E F L) (hk : ∀ k, lo ≤ k → k < hi → w'.heap[k]? = w.heap[k]?) : GameAt w' lo hi A a B b C c E F L :=
  ⟨own_same h.ents fun k e => hk k (h.ents.lt k e).1 (h.entsHi k e), own_same h.floor fun k e => hk k (h.floor.lt k e).1 (h.floorHi k e), own_same h.last fun k e => hk k (h.last.lt k e).1 (h.lastHi k e), h.two, h.entsHi, h.floorHi, h.lastHi⟩

theorem GameAt.below (h : GameAt w lo hi A a B b C c E F L) (hb : Below w.heap.size w w') : GameAt w' lo hi A a B b C c E F L :=
  ⟨own_below h.ents hb, own_below h.floor hb, own_below h.last hb, h.two, h.entsHi, h.floorHi, h.lastHi⟩

theorem GameAt.keeps {lo' hi' : Nat} (h : GameAt w lo hi A a B b C c E F L) (hk : Keeps lo' hi' w w') (ho : hi ≤ lo' ∨ hi' ≤ lo) : GameAt w' lo hi A a B b C c E F L :=
  ⟨own_same h.ents fun k e => hk.block k (h.ents.lt k e).2 (by have := (h.ents.lt k e).1; have := h.entsHi k e; omega), own_same h.floor fun k e => hk.block k (h.floor.lt k e).2 (by have := (h.floor.lt k e).1; have := h.floorHi k e; omega),
    own_same h.last fun k e => hk.block k (h.last.lt k e).2 (by have := (h.last.lt k e).1; have := h.lastHi k e; omega), h.two, h.entsHi, h.floorHi, h.lastHi⟩
end

end Go.Proofs.YthidcmffnpnjjaaDoor

/- A new game: the program's and the model's. -/
namespace Go.Proofs.YthidcmffnpnjjaaDoor
open Go.ChangeShapes Go.WideShapes Go.ChangeAt Go.RowKit
set_option linter.unusedVariables false

def floorAt : Nat → List Int
  | 0 => List.replicate 16 0
  | k + 1 => (floorAt k).set (5 * k % 16) ((floorAt k).getD (5 * k % 16) 0 + 1)

theorem floorAt_length (k : Nat) : (floorAt k).length = 16 := by
  induction k with
  | zero => rfl
  | succ k ih => simp [floorAt, ih]

theorem floorAt_bd : ∀ k, k < 20 → 0 ≤ (floorAt k).getD (5 * k % 16) 0 ∧ (floorAt k).getD (5 * k % 16) 0 ≤ 20 := by decide

theorem make16 (w : World) : (Instr.makeSlice 23 (.int .i64 16) (.int .i64 16)).run Tryd.prog w = .ok (.slice (some ⟨w.heap.size, 0, none⟩) 16 16) (w.alloc (.cells (List.replicate 16 (.int .i64 0)).toArray 3)) := by kernel_rfl
theorem make4 (w : World) : (Instr.makeSlice 23 (.int .i64 4) (.int .i64 4)).run Tryd.prog w = .ok (.slice (some ⟨w.heap.size, 0, none⟩) 4 4) (w.alloc (.cells #[.int .i64 0, .int .i64 0, .int .i64 0, .int .i64 0] 3)) := by kernel_rfl

def zeros16 : Array Value := (List.replicate 16 (.int .i64 0)).toArray

/-- A game that is new: no figures, gold F on the floor. -/
def NewAt (w : World) (e : Ending) (w' : World) : Prop :=
  ∃ B b C c, e = .returned (gameV none 0 0 B 16 b C 4 c) ∧ GameAt w' w.heap.size w'.heap.size none 0 B b C c [] (floorAt 20) [0, 0, 0, 0] ∧ Below w.heap.size w w'

end Go.Proofs.YthidcmffnpnjjaaDoor

/- The model's new game. -/
namespace Go.Proofs.YthidcmffnpnjjaaDoor
open Go.ChangeShapes Go.WideShapes Go.ChangeAt Go.RowKit
set_option linter.unusedVariables false

def NewMid (w : World) (p : Value) (wx : World) : Prop :=
  ∃ G g4 gl : Nat, p = .pointer (some ⟨G, 0, none⟩) ∧ wx.heap[G]? = some (.cells #[.slice none 0 0, .slice (some ⟨g4, 0, none⟩) 16 16, .slice (some ⟨gl, 0, none⟩) 4 4] 30) ∧ wx.heap[w.heap.size]? = some (.cells #[.slice none 0 0, .slice none 0 0, .slice none 0 0] 30) ∧
    wx.ownsRow (w.heap.size + 1) 3 1 (.slice (some ⟨g4, 0, none⟩) 16 16) 16 (ints (floorAt 0)) ∧ wx.ownsRow (w.heap.size + 1) 3 1 (.slice (some ⟨gl, 0, none⟩) 4 4) 4 (ints [0, 0, 0, 0]) ∧ g4 ≠ gl ∧ w.heap.size < G ∧ Below w.heap.size w wx

theorem grownBy_drew {w w' : World} {row : Option Nat} (h : w.grownBy w' row) : w.grownBy w'.drew row := ⟨h.os, h.tape, h.output, h.size, h.block⟩

theorem own_ne_block {w : World} {base g G : Nat} {e t : TypeId} {size n c : Nat} {xs : List Value} {cs : Array Value} (h : w.ownsRow base e size (.slice (some ⟨g, 0, none⟩) n c) n xs) (hG : w.heap[G]? = some (.cells cs t)) (hne : e ≠ t) : G ≠ g := by
  rintro rfl
  rcases h.2 with ⟨h', _⟩ | ⟨g', cap', cur, h', _, hg, _⟩
  · simp at h'
  · simp only [Value.slice.injEq, Option.some.injEq, Addr.mk.injEq, and_true, true_and] at h'
    obtain ⟨rfl, rfl⟩ := h'
    rw [hG] at hg
    simp only [Option.some.injEq, Obj.cells.injEq] at hg
    exact hne hg.2.1.symm

theorem res_block {w w1 : World} {cs : Array Value} {t : TypeId} (hb : Below (w.alloc (.cells cs t)).heap.size (w.alloc (.cells cs t)) w1) : w1.heap[w.heap.size]? = some (.cells cs t) :=
  (hb.block w.heap.size (by simp)).trans (heap_alloc_new w _)

end Go.Proofs.YthidcmffnpnjjaaDoor
