/- Rows that a call owns, kept over what comes behind. Plain facts of memory; no program. -/
import Derived.WalkKit
import Derived.ProofKit
import Derived.Laws.OwnMore
import Derived.Below
import Derived.OwnWalk
import Derived.Deep.Draws
namespace Go.Proofs.YthidcmffnpnjjaaDoor
open Go.ChangeShapes Go.WideShapes Go.ChangeAt Go.RowKit

theorem Below.grownBy {w w' : World} (h : Below w.heap.size w w') (row : Option Nat) : w.grownBy w' row := ⟨h.os, h.tape, h.output, h.size, fun k hk _ => h.block k hk⟩

theorem grownBy_trans {a b c : World} {row : Option Nat} (h : a.grownBy b row) (k : b.grownBy c row) : a.grownBy c row :=
  ⟨k.os.trans h.os, k.tape.trans h.tape, k.output.trans h.output, Nat.le_trans h.size k.size, fun i hi hr => (k.block i (Nat.lt_of_lt_of_le hi h.size) hr).trans (h.block i hi hr)⟩

/-- A row that the call owns from 'base' on: what was below 'base' stands. -/
theorem Below.of_grown {B : Nat} {w w' : World} {row : Option Nat} (h : w.grownBy w' row) (hB : B ≤ w.heap.size) (hr : ∀ k, row = some k → B ≤ k) : Below B w w' := (Below.refl B w).grown h hB hr

theorem own_below {w w' : World} {base : Nat} {e : TypeId} {size : Nat} {v : Value} {n : Nat} {xs : List Value} (h : w.ownsRow base e size v n xs) (hb : Below w.heap.size w w') : w'.ownsRow base e size v n xs :=
  h.kept (Below.grownBy hb none) (by cases v.ownBlock <;> simp)

theorem own_base {w : World} {base base' : Nat} {e : TypeId} {size : Nat} {v : Value} {n : Nat} {xs : List Value} (h : w.ownsRow base e size v n xs) (hb : base' ≤ base) : w.ownsRow base' e size v n xs := by
  refine ⟨h.1, ?_⟩
  rcases h.2 with h' | ⟨g, cap, cur, h1, h2, h3⟩
  · exact .inl h'
  · exact .inr ⟨g, cap, cur, h1, Nat.le_trans hb h2, h3⟩

theorem own_form {w : World} {base : Nat} {e : TypeId} {size : Nat} {v : Value} {n : Nat} {xs : List Value} (h : w.ownsRow base e size v n xs) : ∃ A c, v = .slice A n c ∧ n ≤ maxLen := by
  rcases h.2 with ⟨rfl, rfl⟩ | ⟨g, cap, cur, rfl, _, _, h1, h2, _⟩
  · exact ⟨none, 0, rfl, Nat.zero_le _⟩
  · exact ⟨_, _, rfl, Nat.le_trans h1 h2⟩

theorem own_some {w : World} {base : Nat} {e : TypeId} {size : Nat} {A : Option Addr} {c : Nat} {n : Nat} {xs : List Value} (h : w.ownsRow base e size (.slice A n c) n xs) (hn : 0 < n) :
    ∃ g : Nat, A = some ⟨g, 0, none⟩ ∧ base ≤ g ∧ g < w.heap.size := by
  rcases h.2 with ⟨_, h0⟩ | ⟨g, cap, cur, h1, h2, h3, _⟩
  · omega
  · simp only [Value.slice.injEq] at h1
    refine ⟨g, h1.1, h2, ?_⟩
    rcases Nat.lt_or_ge g w.heap.size with h | h
    · exact h
    · rw [Array.getElem?_eq_none h] at h3
      cases h3

/-- The slice at A reads as the ints l. -/
def RdI (w : World) (A : Option Addr) (l : List Int) : Prop := ∀ i (h : i < l.length), ∃ g : Nat, A = some ⟨g, 0, none⟩ ∧ w.cell? ⟨g, i, none⟩ = some (.int .i64 (l[i]'h))

abbrev ints (l : List Int) : List Value := l.map (Value.int .i64)

theorem RdI.of_own {w : World} {base : Nat} {e : TypeId} {A : Option Addr} {c n : Nat} {l : List Int} (h : w.ownsRow base e 1 (.slice A n c) n (ints l)) : RdI w A l := by
  intro i hi
  have hn : n = l.length := by have := h.1; simp at this; omega
  obtain ⟨g, rfl, _, _⟩ := own_some h (by omega)
  refine ⟨g, rfl, ?_⟩
  rw [h.cellAt i (by omega)]
  simp [hi]

theorem RdI.drewN {w : World} {A : Option Addr} {l : List Int} (h : RdI w A l) (m : Nat) : RdI (w.drewN m) A l := h

def marks (k : Int) (n : Nat) : List Int := (List.range n).map fun i : Nat => k + (i : Int)

@[simp] theorem marks_length (k : Int) (n : Nat) : (marks k n).length = n := by simp [marks]
theorem marks_succ (k : Int) (n : Nat) : marks k (n + 1) = marks k n ++ [k + (n : Int)] := by simp [marks, List.range_succ]
theorem marks_at (k : Int) (n i : Nat) (h : i < (marks k n).length) : (marks k n)[i] = k + (i : Int) := by simp [marks]

theorem set_marks (k : Int) (j : Nat) (xs : List Value) (hj : j < xs.length) : (ints (marks k j) ++ xs.drop j).set j (.int .i64 (k + (j : Int))) = ints (marks k (j + 1)) ++ xs.drop (j + 1) := by
  rw [marks_succ, List.set_append_right _ _ (by simp)]
  simp only [List.length_map, marks_length, Nat.sub_self, List.map_append, List.map_cons, List.map_nil, List.append_assoc, List.singleton_append]
  rw [List.drop_eq_getElem_cons hj, List.set_cons_zero]

theorem Below.drewN {B : Nat} {a w : World} (h : Below B a w) (n : Nat) : Below B a (w.drewN n) := ⟨h.os, h.tape, h.output, h.size, h.block⟩

theorem take_step {α : Type} {la lb : List α} {k : Nat} (ha : k < la.length) (hb : k < lb.length) (h : la.take k = lb.take k) (he : la[k] = lb[k]) : la.take (k + 1) = lb.take (k + 1) := by
  rw [List.take_succ_eq_append_getElem ha, List.take_succ_eq_append_getElem hb, h, he]

theorem ne_of_at {α : Type} {la lb : List α} {k : Nat} (ha : k < la.length) (hb : k < lb.length) (he : la[k] ≠ lb[k]) : la ≠ lb := by
  rintro rfl
  exact he rfl

/-- A figure. -/
structure Fig where
  c : Int
  x : Int
  y : Int
  l : Int
  g : Int
  deriving DecidableEq

abbrev Fig.val (e : Fig) : Value := .agg #[.int .i64 e.c, .int .i64 e.x, .int .i64 e.y, .int .i64 e.l, .int .i64 e.g]
def Fig.cells (e : Fig) : List Value := [.int .i64 e.c, .int .i64 e.x, .int .i64 e.y, .int .i64 e.l, .int .i64 e.g]
def figs (E : List Fig) : List Value := E.flatMap Fig.cells

theorem figs_length (E : List Fig) : (figs E).length = E.length * 5 := by
  induction E with
  | nil => rfl
  | cons e E ih => simp only [figs, List.flatMap_cons, List.length_append, List.length_cons] at ih ⊢; rw [ih]; simp [Fig.cells]; omega

theorem figs_at (E : List Fig) (i j : Nat) (h : i < E.length) (hj : j < 5) : (figs E)[i * 5 + j]? = (E[i].cells)[j]? := by
  induction E generalizing i with
  | nil => simp at h
  | cons e E ih =>
    have hc : e.cells.length = 5 := rfl
    rcases i with _ | i
    · simp only [figs, List.flatMap_cons, Nat.zero_mul, Nat.zero_add, List.getElem_cons_zero]
      rw [List.getElem?_append_left (by omega)]
    · simp only [figs, List.flatMap_cons, List.getElem_cons_succ]
      rw [List.getElem?_append_right (by omega), hc, show (i + 1) * 5 + j - 5 = i * 5 + j from by omega]
      exact ih i (by simpa using h)

/-- The slice at A reads as the figures E. -/
def RdF (w : World) (A : Option Addr) (E : List Fig) : Prop := ∀ i (h : i < E.length), ∃ g : Nat, A = some ⟨g, 0, none⟩ ∧
  w.cell? ⟨g, i * 5, none⟩ = some (.int .i64 (E[i]'h).c) ∧ w.cell? ⟨g, i * 5 + 1, none⟩ = some (.int .i64 (E[i]'h).x) ∧ w.cell? ⟨g, i * 5 + 2, none⟩ = some (.int .i64 (E[i]'h).y) ∧
  w.cell? ⟨g, i * 5 + 3, none⟩ = some (.int .i64 (E[i]'h).l) ∧ w.cell? ⟨g, i * 5 + 4, none⟩ = some (.int .i64 (E[i]'h).g)

theorem RdF.of_own {w : World} {base : Nat} {e : TypeId} {A : Option Addr} {c n : Nat} {E : List Fig} (h : w.ownsRow base e 5 (.slice A n c) n (figs E)) : RdF w A E := by
  intro i hi
  have hn : n = E.length := by have := h.1; rw [figs_length] at this; omega
  obtain ⟨g, rfl, _, _⟩ := own_some h (by omega)
  refine ⟨g, rfl, ?_, ?_, ?_, ?_, ?_⟩
  · rw [h.cellAt _ (by omega)]; exact (figs_at E i 0 hi (by omega)).trans rfl
  · rw [h.cellAt _ (by omega), figs_at E i 1 hi (by omega)]; rfl
  · rw [h.cellAt _ (by omega), figs_at E i 2 hi (by omega)]; rfl
  · rw [h.cellAt _ (by omega), figs_at E i 3 hi (by omega)]; rfl
  · rw [h.cellAt _ (by omega), figs_at E i 4 hi (by omega)]; rfl

theorem cell_kept {w w' : World} {a : Addr} {u : Value} (hb : Below w.heap.size w w') (h : w.cell? a = some u) : w'.cell? a = some u := (hb.cell (World.block_lt_of_cell? w a h)).trans h

theorem RdF.below {w w' : World} {A : Option Addr} {E : List Fig} (h : RdF w A E) (hb : Below w.heap.size w w') : RdF w' A E := by
  intro i hi
  obtain ⟨g, rfl, h0, h1, h2, h3, h4⟩ := h i hi
  exact ⟨g, rfl, cell_kept hb h0, cell_kept hb h1, cell_kept hb h2, cell_kept hb h3, cell_kept hb h4⟩

theorem RdI.below {w w' : World} {A : Option Addr} {l : List Int} (h : RdI w A l) (hb : Below w.heap.size w w') : RdI w' A l := by
  intro i hi
  obtain ⟨g, rfl, h0⟩ := h i hi
  exact ⟨g, rfl, cell_kept hb h0⟩

theorem Below.and {a b c : World} (h : Below a.heap.size a b) (k : Below b.heap.size b c) : Below a.heap.size a c := h.trans (k.mono h.size)

theorem mark1 {w : World} {base : Nat} {e : TypeId} {size g n c : Nat} {k : Int} {xs : List Value} (p : Nat) (v : Int) (hv : v = k + (p : Int)) (hp : p < n * size) (hx : n * size = xs.length)
    (h : w.ownsRow base e size (.slice (some ⟨g, 0, none⟩) n c) n (ints (marks k p) ++ xs.drop p)) :
    (w.setCell ⟨g, p, none⟩ (.int .i64 v)).ownsRow base e size (.slice (some ⟨g, 0, none⟩) n c) n (ints (marks k (p + 1)) ++ xs.drop (p + 1)) ∧ w.grownBy (w.setCell ⟨g, p, none⟩ (.int .i64 v)) (some g) := by
  subst hv
  have := h.stored p (.int .i64 (k + (p : Int)))
  rwa [set_marks k p xs (by omega)] at this

theorem mark5 {w : World} {base : Nat} {e : TypeId} {g n c : Nat} {k : Int} {xs : List Value} (j : Nat) (hj : j < n) (hx : n * 5 = xs.length)
    (h : w.ownsRow base e 5 (.slice (some ⟨g, 0, none⟩) n c) n (ints (marks k (j * 5)) ++ xs.drop (j * 5))) :
    (((((w.setCell ⟨g, j * 5, none⟩ (.int .i64 (k + 5 * (j : Int)))).setCell ⟨g, j * 5 + 1, none⟩ (.int .i64 (k + 5 * (j : Int) + 1))).setCell ⟨g, j * 5 + 2, none⟩ (.int .i64 (k + 5 * (j : Int) + 1 + 1))).setCell
      ⟨g, j * 5 + 3, none⟩ (.int .i64 (k + 5 * (j : Int) + 1 + 1 + 1))).setCell ⟨g, j * 5 + 4, none⟩ (.int .i64 (k + 5 * (j : Int) + 1 + 1 + 1 + 1))).ownsRow base e 5 (.slice (some ⟨g, 0, none⟩) n c) n (ints (marks k ((j + 1) * 5)) ++ xs.drop ((j + 1) * 5)) ∧
    w.grownBy (((((w.setCell ⟨g, j * 5, none⟩ (.int .i64 (k + 5 * (j : Int)))).setCell ⟨g, j * 5 + 1, none⟩ (.int .i64 (k + 5 * (j : Int) + 1))).setCell ⟨g, j * 5 + 2, none⟩ (.int .i64 (k + 5 * (j : Int) + 1 + 1))).setCell
      ⟨g, j * 5 + 3, none⟩ (.int .i64 (k + 5 * (j : Int) + 1 + 1 + 1))).setCell ⟨g, j * 5 + 4, none⟩ (.int .i64 (k + 5 * (j : Int) + 1 + 1 + 1 + 1))) (some g) := by
  obtain ⟨h1, g1⟩ := mark1 (j * 5) (k + 5 * (j : Int)) (by omega) (by omega) hx h
  obtain ⟨h2, g2⟩ := mark1 (j * 5 + 1) (k + 5 * (j : Int) + 1) (by omega) (by omega) hx h1
  obtain ⟨h3, g3⟩ := mark1 (j * 5 + 2) (k + 5 * (j : Int) + 1 + 1) (by omega) (by omega) hx h2
  obtain ⟨h4, g4⟩ := mark1 (j * 5 + 3) (k + 5 * (j : Int) + 1 + 1 + 1) (by omega) (by omega) hx h3
  obtain ⟨h5, g5⟩ := mark1 (j * 5 + 4) (k + 5 * (j : Int) + 1 + 1 + 1 + 1) (by omega) (by omega) hx h4
  rw [show (j + 1) * 5 = j * 5 + 4 + 1 from by omega]
  exact ⟨h5, grownBy_trans (grownBy_trans (grownBy_trans (grownBy_trans g1 g2) g3) g4) g5⟩

/-- The row at A, of n elements of 'size' cells, holds marks. -/
def RdM (w : World) (A : Option Addr) (m : Nat) (k : Int) : Prop := ∀ p, p < m → ∃ g : Nat, A = some ⟨g, 0, none⟩ ∧ w.cell? ⟨g, p, none⟩ = some (.int .i64 (k + (p : Int)))

theorem RdM.of_own {w : World} {base : Nat} {e : TypeId} {size : Nat} {A : Option Addr} {c n : Nat} {k : Int} (h : w.ownsRow base e size (.slice A n c) n (ints (marks k (n * size)))) : RdM w A (n * size) k := by
  intro p hp
  have hn : 0 < n := by
    rcases Nat.eq_zero_or_pos n with h0 | h0
    · subst h0
      omega
    · exact h0
  obtain ⟨g, rfl, _, _⟩ := own_some h hn
  refine ⟨g, rfl, ?_⟩
  rw [h.cellAt p hp, List.getElem?_eq_getElem (by simpa using hp)]
  simp [marks]

theorem RdM.ints {w : World} {A : Option Addr} {n : Nat} {k : Int} (h : RdM w A n k) : RdI w A (marks k n) := by
  intro i hi
  obtain ⟨g, hA, hc⟩ := h i (by simpa using hi)
  exact ⟨g, hA, by rw [marks_at]; exact hc⟩

/-- Only blocks from lo on, below hi, may have turned; there may be new ones. -/
structure Keeps (lo hi : Nat) (w w' : World) : Prop where
  os : w'.os = w.os
  tape : w'.tape = w.tape
  output : w'.output = w.output
  size : w.heap.size ≤ w'.heap.size
  block : ∀ k, k < w.heap.size → (k < lo ∨ hi ≤ k) → w'.heap[k]? = w.heap[k]?

theorem Keeps.of_grown {lo hi : Nat} {w w' : World} {row : Option Nat} (h : w.grownBy w' row) (hr : ∀ k, row = some k → lo ≤ k ∧ k < hi) : Keeps lo hi w w' :=
  ⟨h.os, h.tape, h.output, h.size, fun k hk ho => h.block k hk (fun e => by have := hr k e.symm; omega)⟩
theorem Keeps.of_below {lo hi : Nat} {w w' : World} (h : Below w.heap.size w w') : Keeps lo hi w w' := ⟨h.os, h.tape, h.output, h.size, fun k hk _ => h.block k hk⟩
theorem Keeps.trans {lo hi : Nat} {a b c : World} (h : Keeps lo hi a b) (k : Keeps lo hi b c) : Keeps lo hi a c :=
  ⟨k.os.trans h.os, k.tape.trans h.tape, k.output.trans h.output, Nat.le_trans h.size k.size, fun i hi ho => (k.block i (Nat.lt_of_lt_of_le hi h.size) ho).trans (h.block i hi ho)⟩
theorem Keeps.below {lo hi B : Nat} {w w' : World} (h : Keeps lo hi w w') (hB : B ≤ lo) (hs : B ≤ w.heap.size) : Below B w w' := ⟨h.os, h.tape, h.output, h.size, fun k hk => h.block k (by omega) (.inl (by omega))⟩

theorem own_same {w w' : World} {base : Nat} {e : TypeId} {size : Nat} {v : Value} {n : Nat} {xs : List Value} (h : w.ownsRow base e size v n xs) (hk : ∀ k, v.ownBlock = some k → w'.heap[k]? = w.heap[k]?) : w'.ownsRow base e size v n xs := by
  refine ⟨h.1, ?_⟩
  rcases h.2 with h' | ⟨g, cap, cur, rfl, h2, h3, h4⟩
  · exact .inl h'
  · exact .inr ⟨g, cap, cur, rfl, h2, (hk g rfl).trans h3, h4⟩

theorem own_row_ne {w : World} {base base' : Nat} {e e' : TypeId} {size size' : Nat} {v v' : Value} {n n' : Nat} {xs xs' : List Value} (h : w.ownsRow base e size v n xs) (h' : w.ownsRow base' e' size' v' n' xs') (hne : e ≠ e') :
    ∀ k, v.ownBlock = some k → v'.ownBlock ≠ some k := by
  intro k hk hk'
  rcases h.2 with ⟨rfl, _⟩ | ⟨g, cap, cur, rfl, _, h3, _⟩
  · simp [Value.ownBlock] at hk
  rcases h'.2 with ⟨rfl, _⟩ | ⟨g', cap', cur', rfl, _, h3', _⟩
  · simp [Value.ownBlock] at hk'
  simp only [Value.ownBlock, Option.some.injEq] at hk hk'
  subst hk
  subst hk'
  rw [h3] at h3'
  simp only [Option.some.injEq, Obj.cells.injEq] at h3'
  exact hne h3'.2.1

theorem own_block_ge {w : World} {base : Nat} {e : TypeId} {size : Nat} {v : Value} {n : Nat} {xs : List Value} (h : w.ownsRow base e size v n xs) : ∀ k, v.ownBlock = some k → base ≤ k ∧ k < w.heap.size := h.lt

theorem RdM.below {w w' : World} {A : Option Addr} {m : Nat} {k : Int} (h : RdM w A m k) (hb : Below w.heap.size w w') : RdM w' A m k := by
  intro p hp
  obtain ⟨g, rfl, hc⟩ := h p hp
  exact ⟨g, rfl, cell_kept hb hc⟩

theorem not_row {o r : Option Nat} (h : ∀ g, o = some g → r ≠ some g) : o = none ∨ o ≠ r := by
  rcases o with _ | g
  · exact .inl rfl
  · exact .inr fun e => h g rfl e.symm

theorem grownBy_set (w : World) (b o : Nat) (u : Value) : w.grownBy (w.setCell ⟨b, o, none⟩ u) (some b) :=
  ⟨rfl, rfl, rfl, by simp, fun k _ hk => heap_setCell_other w ⟨b, o, none⟩ k u (fun e => hk (by simp [e]))⟩

theorem grownBy_set3 (w : World) (b : Nat) (u0 u1 u2 : Value) : w.grownBy (((w.setCell ⟨b, 0, none⟩ u0).setCell ⟨b, 1, none⟩ u1).setCell ⟨b, 2, none⟩ u2) (some b) :=
  grownBy_trans (grownBy_trans (grownBy_set w b 0 u0) (grownBy_set _ b 1 u1)) (grownBy_set _ b 2 u2)

theorem four_at (w : World) (o0 o1 o2 o3 : Obj) : ((((w.alloc o0).alloc o1).alloc o2).alloc o3).drew.heap[w.heap.size]? = some o0 ∧ ((((w.alloc o0).alloc o1).alloc o2).alloc o3).drew.heap[w.heap.size + 1]? = some o1 ∧
    ((((w.alloc o0).alloc o1).alloc o2).alloc o3).drew.heap[w.heap.size + 1 + 1]? = some o2 ∧ ((((w.alloc o0).alloc o1).alloc o2).alloc o3).drew.heap[w.heap.size + 1 + 1 + 1]? = some o3 := by
  have h0 : (w.alloc o0).heap[w.heap.size]? = some o0 := heap_alloc_new w o0
  have h1 : ((w.alloc o0).alloc o1).heap[w.heap.size + 1]? = some o1 := by have := heap_alloc_new (w.alloc o0) o1; simpa using this
  have h2 : (((w.alloc o0).alloc o1).alloc o2).heap[w.heap.size + 1 + 1]? = some o2 := by have := heap_alloc_new ((w.alloc o0).alloc o1) o2; simpa using this
  have h3 : ((((w.alloc o0).alloc o1).alloc o2).alloc o3).heap[w.heap.size + 1 + 1 + 1]? = some o3 := by have := heap_alloc_new (((w.alloc o0).alloc o1).alloc o2) o3; simpa using this
  show ((((w.alloc o0).alloc o1).alloc o2).alloc o3).heap[w.heap.size]? = some o0 ∧ ((((w.alloc o0).alloc o1).alloc o2).alloc o3).heap[w.heap.size + 1]? = some o1 ∧
    ((((w.alloc o0).alloc o1).alloc o2).alloc o3).heap[w.heap.size + 1 + 1]? = some o2 ∧ ((((w.alloc o0).alloc o1).alloc o2).alloc o3).heap[w.heap.size + 1 + 1 + 1]? = some o3
  refine ⟨?_, ?_, ?_, h3⟩
  · rw [Below.heap_alloc _ _ _ (by simp <;> omega), Below.heap_alloc _ _ _ (by simp <;> omega), Below.heap_alloc _ _ _ (by simp <;> omega), h0]
  · rw [Below.heap_alloc _ _ _ (by simp <;> omega), Below.heap_alloc _ _ _ (by simp <;> omega), h1]
  · rw [Below.heap_alloc _ _ _ (by simp <;> omega), h2]

theorem own_of_block {w : World} {base g : Nat} {e : TypeId} {cur : Array Value} {n : Nat} {xs : List Value} (h : w.heap[g]? = some (.cells cur e)) (hb : base ≤ g) (hn : n ≤ maxLen) (hs : cur.size = n) (hx : cur.toList = xs) :
    w.ownsRow base e 1 (.slice (some ⟨g, 0, none⟩) n n) n xs :=
  ⟨by rw [← hx]; simp [hs], .inr ⟨g, n, cur, rfl, hb, h, Nat.le_refl _, hn, by simp [hs], by rw [List.take_of_length_le (by simp [hs]), hx]⟩⟩

theorem below_four (w : World) (o0 o1 o2 o3 : Obj) : Below w.heap.size w ((((w.alloc o0).alloc o1).alloc o2).alloc o3).drew :=
  (((((Below.refl _ _).alloc (Nat.le_refl _) _).alloc (by simp <;> omega) _).alloc (by simp <;> omega) _).alloc (by simp <;> omega) _).drew
end Go.Proofs.YthidcmffnpnjjaaDoor
