/- Tc, Td, Te, Tf, Tg, Th, Tj, Tk, Tl, Tm, Tn, Ti, To -/
import Derived.Test.YtgbnoemoangofaaMB
import Derived.Test.YtgbnoemoangofaaMA
import Derived.RegionTactic
import Derived.Deep.DeepCutAuto
import Derived.Deep.Slices
import Derived.Lib.SmallJoins
import Derived.IntWalk
import Derived.Deep.RegionHeld3
/- Contracts of the laws' own helpers over games. -/
namespace Go.Proofs.Ytgbnoemoangofaa
open Go.ChangeShapes Go.WideShapes Go.ChangeAt Go.RowKit
set_option linter.unusedVariables false

theorem boxed2 {w w1 : World} {o o' : Obj} (hb : Below ((w.alloc o).alloc o').heap.size ((w.alloc o).alloc o') w1) (k : Nat) : w1.cell? ⟨w.heap.size, k, none⟩ = ((w.alloc o).alloc o').cell? ⟨w.heap.size, k, none⟩ := hb.cell (by simp; omega)
theorem boxed2' {w w1 : World} {o o' : Obj} (hb : Below ((w.alloc o).alloc o').heap.size ((w.alloc o).alloc o') w1) (k : Nat) : w1.cell? ⟨w.heap.size + 1, k, none⟩ = ((w.alloc o).alloc o').cell? ⟨w.heap.size + 1, k, none⟩ := hb.cell (by simp)

abbrev gameV (A : Option Addr) (n a : Nat) (B : Option Addr) (m b : Nat) (C : Option Addr) (l c : Nat) : Value := .agg #[.slice A n a, .slice B m b, .slice C l c]

theorem below_alloc2 (w : World) (o o' : Obj) : Below w.heap.size w ((w.alloc o).alloc o') := ((Below.refl _ _).alloc (Nat.le_refl _) _).alloc (by simp) _

theorem boxed1 {w w1 : World} {o : Obj} {row : Option Nat} (hg : (w.alloc o).grownBy w1 row) (hr : row ≠ some w.heap.size) (k : Nat) : w1.cell? ⟨w.heap.size, k, none⟩ = (w.alloc o).cell? ⟨w.heap.size, k, none⟩ :=
  World.cell?_of_block (w := w.alloc o) (hg.block w.heap.size (by simp) (Ne.symm hr))

section
variable {w w' : World} {lo hi : Nat} {A : Option Addr} {a : Nat} {B : Option Addr} {b : Nat} {C : Option Addr} {c : Nat} {E : List Fig} {F L : List Int}

end

end Go.Proofs.Ytgbnoemoangofaa

/- A new game: the program's and the model's. -/
namespace Go.Proofs.Ytgbnoemoangofaa
open Go.ChangeShapes Go.WideShapes Go.ChangeAt Go.RowKit
set_option linter.unusedVariables false

def floorAt : Nat → List Int
  | 0 => List.replicate 16 0
  | k + 1 => (floorAt k).set (5 * k % 16) ((floorAt k).getD (5 * k % 16) 0 + 1)

theorem floorAt_length (k : Nat) : (floorAt k).length = 16 := by
  induction k with
  | zero => rfl
  | succ k ih => simp [floorAt, ih]

theorem floorAt_bd : ∀ k, k < 20 → 0 ≤ (floorAt k).getD (5 * k % 16) 0 ∧ (floorAt k).getD (5 * k % 16) 0 ≤ 20 := by decide

theorem make16 (w : World) : (Instr.makeSlice 67 (.int .i64 16) (.int .i64 16)).run Try.prog w = .ok (.slice (some ⟨w.heap.size, 0, none⟩) 16 16) (w.alloc (.cells (List.replicate 16 (.int .i64 0)).toArray 3)) := by kernel_rfl
theorem make4 (w : World) : (Instr.makeSlice 67 (.int .i64 4) (.int .i64 4)).run Try.prog w = .ok (.slice (some ⟨w.heap.size, 0, none⟩) 4 4) (w.alloc (.cells #[.int .i64 0, .int .i64 0, .int .i64 0, .int .i64 0] 3)) := by kernel_rfl

def zeros16 : Array Value := (List.replicate 16 (.int .i64 0)).toArray

end Go.Proofs.Ytgbnoemoangofaa

/- The model's new game. -/
namespace Go.Proofs.Ytgbnoemoangofaa
open Go.ChangeShapes Go.WideShapes Go.ChangeAt Go.RowKit
set_option linter.unusedVariables false

theorem grownBy_drew {w w' : World} {row : Option Nat} (h : w.grownBy w' row) : w.grownBy w'.drew row := ⟨h.os, h.tape, h.output, h.size, h.block⟩

theorem own_ne_block {w : World} {base g G : Nat} {e t : TypeId} {size n c : Nat} {xs : List Value} {cs : Array Value} (h : w.ownsRow base e size (.slice (some ⟨g, 0, none⟩) n c) n xs) (hG : w.heap[G]? = some (.cells cs t)) (hne : e ≠ t) : G ≠ g := by
  rintro rfl
  rcases h.2 with ⟨h', _⟩ | ⟨g', cap', cur, h', _, hg, _⟩
  · simp at h'
  · simp only [Value.slice.injEq, Option.some.injEq, Addr.mk.injEq, and_true, true_and] at h'
    obtain ⟨rfl, rfl⟩ := h'
    rw [hG] at hg
    simp only [Option.some.injEq, Obj.cells.injEq] at hg
    exact hne hg.2.1.symm

theorem res_block {w w1 : World} {cs : Array Value} {t : TypeId} (hb : Below (w.alloc (.cells cs t)).heap.size (w.alloc (.cells cs t)) w1) : w1.heap[w.heap.size]? = some (.cells cs t) :=
  (hb.block w.heap.size (by simp)).trans (heap_alloc_new w _)

end Go.Proofs.Ytgbnoemoangofaa

/- What came in, made the program's own. -/
namespace Go.Proofs.Ytgbnoemoangofaa
open Go.ChangeShapes Go.WideShapes Go.ChangeAt Go.RowKit
set_option linter.unusedVariables false

theorem info3 : (Try.prog.info? 3).map (fun i => (i.zero, i.size, i.bytes)) = some (some (.int .i64 0), 1, 8) := by kernel_rfl
end Go.Proofs.Ytgbnoemoangofaa

/- The size of what came in; a game that came in, opened. -/
namespace Go.Proofs.Ytgbnoemoangofaa
open Go.ChangeShapes Go.WideShapes Go.ChangeAt Go.RowKit
set_option linter.unusedVariables false

def szOf (n m l : Nat) : Int := if n + m + l ≤ 1048576 then 1048576 - (n : Int) - (m : Int) - (l : Int) else -1

section
variable {H : Type} {enc : TypeId × Value → H} {w : World} {base : Nat} {spare : Nat → Bool} {held : Bool}

theorem addr_of {a : Addr} {u : Value} (h : w.cell? a = some u) : a = ⟨a.block, a.off, none⟩ := by
  obtain ⟨b, o, s⟩ := a
  unfold World.cell? at h
  split at h
  · cases s with
    | none => rfl
    | some _ => simp at h
  · cases h

theorem add_eq (b o n : Nat) : (⟨b, o, none⟩ : Addr).add n = ⟨b, o + n, none⟩ := by
  unfold Addr.add
  split
  · next h => subst h; rfl
  · rfl

/-- A slice of ints that came in. -/
theorem in_ints {t e : TypeId} {fuel : Nat} {cs : List Value} {x : DataW H × List MemPlace} (ht : Try.prog.underlying t = some (.slice e)) (he : Try.prog.underlying e = some (.int .i64)) (hc : Try.prog.cellsOf e = 1)
    (h : DataW.trod enc Try.prog w base spare held fuel t cs = some x) : ∃ (A : Option Addr) (c : Nat) (l : List Int), cs = [.slice A l.length c] ∧ l.length ≤ maxLen ∧ InI w A l := by
  rcases open_ints ht he hc h with ⟨rfl, _⟩ | ⟨a, len, cap, zs, rfl, _, hl, hm, hz, _, hcell, _⟩
  · exact ⟨none, 0, [], rfl, Nat.zero_le _, fun i hi => absurd hi (by simp)⟩
  · have hzl : len ≤ zs.length := by rw [hz]; split <;> omega
    refine ⟨some a, cap, zs.take len, by rw [List.length_take, Nat.min_eq_left hzl], by rw [List.length_take, Nat.min_eq_left hzl]; omega, fun i hi => ?_⟩
    rw [List.length_take, Nat.min_eq_left hzl] at hi
    have h0 := hcell 0 (by omega)
    rw [show a.add 0 = a from by simp [Addr.add]] at h0
    have ha := addr_of h0
    refine ⟨a.block, a.off, by rw [← ha], ?_⟩
    have hi' := hcell i (by omega)
    rw [ha, add_eq] at hi'
    rw [hi', List.getElem_take]
    simp [List.getD_eq_getElem?_getD, List.getElem?_eq_getElem (show i < zs.length by omega)]

/-- The cells of a struct whose fields are all ints. -/
theorem ints_of_cells {P : Program} {t : TypeId} {fs : Array Field} {fuel : Nat} {cl : List Value} {x : DataW H × List MemPlace} (hs : P.underlying t = some (.struct fs)) (hone : Go.Deep.oneCellFields P fs = true) (hcl : cl.length = fs.size)
    (hall : fs.toList.map (fun f => P.underlying f.type) = List.replicate fs.size (some (.int .i64))) (h : DataW.trod enc P w base spare held fuel t cl = some x) : ∃ l : List Int, cl = l.map (Value.int .i64) := by
  have hint : ∀ (i : Nat) (f : Field), fs[i]? = some f → P.underlying f.type = some (.int .i64) := by
    intro i f hf
    have h1 : (fs.toList.map (fun f => P.underlying f.type))[i]? = some (P.underlying f.type) := by
      rw [List.getElem?_map]
      simp [hf]
    rw [hall, List.getElem?_replicate] at h1
    split at h1
    · exact (Option.some.inj h1).symm
    · cases h1
  obtain ⟨xs, n, _, _, _, hlen, hg⟩ := DataW.trod_struct hs h
  have key : ∀ (i : Nat) (hi : i < cl.length), ∃ m : Int, cl[i] = .int .i64 m := by
    intro i hi
    have hfi : fs[i]? = some (fs[i]'(by omega)) := Array.getElem?_eq_getElem (by omega)
    obtain ⟨ho, hk⟩ := Go.Deep.hone_of hone i _ hfi
    have h1 := hg i _ hfi
    rw [ho, hk] at h1
    have h2 : (cl.drop i).take 1 = [cl[i]] := by
      rw [List.drop_eq_getElem_cons hi]
      rfl
    rw [h2, show xs[i]? = some (xs[i]'(by omega)) from List.getElem?_eq_getElem (by omega)] at h1
    obtain ⟨m, hm, _, _⟩ := DataW.trod_int (hint i _ hfi) h1
    exact ⟨m, by simpa using hm⟩
  refine ⟨cl.map intOf, ?_⟩
  rw [List.map_map]
  apply List.ext_getElem
  · simp
  · intro i h1 h2
    obtain ⟨m, hm⟩ := key i h1
    simp [hm, intOf]

theorem pick_list {α : Type} {Q : Nat → α → Prop} (n : Nat) (h : ∀ i, i < n → ∃ x, Q i x) : ∃ l : List α, l.length = n ∧ ∀ (i : Nat) (hi : i < l.length), Q i (l[i]'hi) := by
  induction n with
  | zero => exact ⟨[], rfl, fun i hi => absurd hi (by simp)⟩
  | succ k ih =>
    obtain ⟨l, hl, hat⟩ := ih fun i hi => h i (by omega)
    obtain ⟨x, hx⟩ := h k (by omega)
    refine ⟨l ++ [x], by simp [hl], fun i hi => ?_⟩
    rcases Nat.lt_or_ge i l.length with h1 | h1
    · rw [List.getElem_append_left h1]
      exact hat i h1
    · have hik : i = k := by simp at hi; omega
      subst hik
      rw [List.getElem_append_right h1]
      simpa using hx

/-- A slice of figures that came in. -/
theorem in_figs {t e : TypeId} {fs : Array Field} {fuel : Nat} {cs : List Value} {x : DataW H × List MemPlace} (ht : Try.prog.underlying t = some (.slice e)) (he : Try.prog.underlying e = some (.struct fs)) (hone : Go.Deep.oneCellFields Try.prog fs = true)
    (hsz : fs.size = 5) (hC : Try.prog.cellsOf e = 5) (hall : fs.toList.map (fun f => Try.prog.underlying f.type) = List.replicate fs.size (some (.int .i64)))
    (h : DataW.trod enc Try.prog w base spare held fuel t cs = some x) : ∃ (A : Option Addr) (c : Nat) (l : List Fig), cs = [.slice A l.length c] ∧ l.length ≤ maxLen ∧ InF w A l := by
  rcases Go.Deep.open_slice ht h with ⟨rfl, _⟩ | ⟨a, len, cap, m, n, D, Pl, rfl, _, hl, hm, hmm, _, hi⟩
  · exact ⟨none, 0, [], rfl, Nat.zero_le _, fun i hi => absurd hi (by simp)⟩
  · have hml : len ≤ m := by rw [hmm]; split <;> omega
    have each : ∀ i, i < len → ∃ f : Fig, ∀ (j : Nat) (u : Value), f.cells[j]? = some u → w.cell? (a.add (i * 5 + j)) = some u := by
      intro i hilt
      obtain ⟨cs', hcs, htr⟩ := hi i (by omega)
      rw [hC] at hcs
      obtain ⟨_, hlen, hat⟩ := World.cells?_some hcs
      obtain ⟨li, rfl⟩ := ints_of_cells he hone (by omega) hall htr
      obtain ⟨n0, n1, n2, n3, n4, rfl⟩ := five_of li (by simpa using hlen)
      refine ⟨⟨n0, n1, n2, n3, n4⟩, fun j u hu => ?_⟩
      have hj : j < 5 := by
        rcases Nat.lt_or_ge j 5 with h | h
        · exact h
        · rw [List.getElem?_eq_none (by simp [Fig.cells]; omega)] at hu; cases hu
      have := hat j hj
      rw [Go.Deep.add_add] at this
      rw [this]
      exact hu
    have hc0 : 0 < len → a = ⟨a.block, a.off, none⟩ := by
      intro h0
      obtain ⟨f, hf⟩ := each 0 h0
      have := hf 0 _ rfl
      rw [show a.add (0 * 5 + 0) = a from by simp [Addr.add]] at this
      exact addr_of this
    obtain ⟨E, hE, hat⟩ := pick_list len each
    refine ⟨some a, cap, E, by rw [hE], by omega, fun i hi' => ?_⟩
    have ha := hc0 (by omega)
    have c0 := hat i hi' 0 _ rfl
    have c1 := hat i hi' 1 _ rfl
    have c2 := hat i hi' 2 _ rfl
    have c3 := hat i hi' 3 _ rfl
    have c4 := hat i hi' 4 _ rfl
    rw [ha, add_eq] at c0 c1 c2 c3 c4
    exact ⟨a.block, a.off, by rw [← ha], c0, by rw [Nat.add_assoc]; exact c1, by rw [Nat.add_assoc]; exact c2, by rw [Nat.add_assoc]; exact c3, by rw [Nat.add_assoc]; exact c4⟩

end
end Go.Proofs.Ytgbnoemoangofaa

/- Whether a game is ok: the program's own check. -/
namespace Go.Proofs.Ytgbnoemoangofaa
open Go.ChangeShapes Go.WideShapes Go.ChangeAt Go.RowKit
set_option linter.unusedVariables false

def onB (x y : Int) : Bool := inB x 0 3 && inB y 0 3
def entB (e : Fig) : Bool := inB e.c 1 4 && (onB e.x e.y && (inB e.l 0 3 && inB e.g 0 20))
def entsB : Int → List Fig → Bool
  | _, [] => true
  | p, e :: t => decide (p < e.c) && (entB e && entsB e.c t)
def allB (l : List Int) (hi : Int) : Bool := l.all fun n => inB n 0 hi
def goldE (E : List Fig) : Int := (E.map fun e => e.g).sum

theorem sum_step (l : List Int) (k : Nat) (h : k < l.length) : (l.take (k + 1)).sum = (l.take k).sum + l[k] := by
  rw [List.take_succ_eq_append_getElem h, List.sum_append]
  simp

theorem gold_step (E : List Fig) (k : Nat) (h : k < E.length) : goldE (E.take (k + 1)) = goldE (E.take k) + E[k].g := by
  unfold goldE
  rw [List.take_succ_eq_append_getElem h, List.map_append, List.sum_append]
  simp

theorem gold_bd : ∀ (E : List Fig), (∀ (i : Nat) (h : i < E.length), 0 ≤ (E[i]'h).g ∧ (E[i]'h).g ≤ 20) → 0 ≤ goldE E ∧ goldE E ≤ 20 * (E.length : Int) := by
  intro E
  induction E with
  | nil => intro _; simp [goldE]
  | cons e t ih =>
    intro h
    have h0 := h 0 (by simp)
    simp only [List.getElem_cons_zero] at h0
    have h1 := ih (fun i hi => by have := h (i + 1) (by simp; omega); simpa using this)
    have e1 : goldE (e :: t) = e.g + goldE t := by simp [goldE]
    rw [e1, List.length_cons]
    omega
theorem sum_bd : ∀ (F : List Int), (∀ (i : Nat) (h : i < F.length), 0 ≤ F[i]'h ∧ F[i]'h ≤ 20) → 0 ≤ F.sum ∧ F.sum ≤ 20 * (F.length : Int) := by
  intro F
  induction F with
  | nil => intro _; simp
  | cons e t ih =>
    intro h
    have h0 := h 0 (by simp)
    simp only [List.getElem_cons_zero] at h0
    have h1 := ih (fun i hi => by have := h (i + 1) (by simp; omega); simpa using this)
    rw [List.sum_cons, List.length_cons]
    omega
end Go.Proofs.Ytgbnoemoangofaa

/- Whether a game is ok: the program's GameOk. -/
namespace Go.Proofs.Ytgbnoemoangofaa
open Go.ChangeShapes Go.WideShapes Go.ChangeAt Go.RowKit
set_option linter.unusedVariables false

def gokB (E : List Fig) (F L : List Int) : Bool :=
  decide (F.length = 16) && (decide (L.length = 4) && (entsB 0 E && (allB F 20 && (allB L 30 && decide (F.sum + goldE E = 20)))))

theorem takeD {P : Program} {ops : Array Oper} {Q : Exit → Act → World → Prop} {md : Region.Mode} {S : World → Prop} (i : Nat) (d : Tmp) {oi : Oper} {v : Value} {fuel : Nat} {listed : Array Bool} {a : Act} {w : World} (hi : ops[i]? = some oi) (hd : oi.dst = some d)
    (hs : Region.noSelect ops = true) (hf : Region.free md ops listed i = true) (hr : (Region.ready md ops listed).contains i = true)
    (hQ : ∀ c a w, Q (.panic c) (a.put (some d) v) w → Q (.panic c) a w) (hy : YieldsIf P ops S oi v a) (hS : S w)
    (h : wpAnyH P md ops Q S fuel (listed.setIfInBounds i true) (a.put (some d) v) w) : wpAnyH P md ops Q S (fuel + 1) listed a w :=
  wpAnyH_take hi hs hf hr (by rw [hd]; exact hQ) hy hS (by rw [hd]; exact h)

theorem entsB_gold : ∀ (E : List Fig) (p : Int), entsB p E = true → ∀ (i : Nat) (h : i < E.length), 0 ≤ (E[i]'h).g ∧ (E[i]'h).g ≤ 20 := by
  intro E
  induction E with
  | nil => intro p _ i h; simp at h
  | cons e t ih =>
    intro p hp i h
    simp only [entsB, entB, inB, Bool.and_eq_true, decide_eq_true_eq] at hp
    rcases i with _ | i
    · simp only [List.getElem_cons_zero]; omega
    · simp only [List.getElem_cons_succ]; exact ih e.c hp.2.2 i (by simpa using h)

theorem allB_at {l : List Int} {hi : Int} (h : allB l hi = true) (i : Nat) (hl : i < l.length) : 0 ≤ l[i]'hl ∧ l[i]'hl ≤ hi := by
  unfold allB at h
  rw [List.all_eq_true] at h
  have := h _ (List.getElem_mem hl)
  simpa [inB] using this

theorem boxed1b {w w1 : World} {o : Obj} (hb : Below (w.alloc o).heap.size (w.alloc o) w1) : w1.heap[w.heap.size]? = (w.alloc o).heap[w.heap.size]? := hb.block w.heap.size (by simp)

/-- Numbers that read so, wherever their row begins. -/
def RdJ (w : World) (A : Option Addr) (l : List Int) : Prop := ∀ i (h : i < l.length), ∃ g o : Nat, A = some ⟨g, o, none⟩ ∧ w.cell? ⟨g, o + i, none⟩ = some (.int .i64 (l[i]'h))
theorem RdI.j {w : World} {A : Option Addr} {l : List Int} (h : RdI w A l) : RdJ w A l := by
  intro i hi
  obtain ⟨g, hA, hc⟩ := h i hi
  exact ⟨g, 0, hA, by simpa using hc⟩
theorem RdJ.below {w w' : World} {A : Option Addr} {l : List Int} (h : RdJ w A l) (hb : Below w.heap.size w w') : RdJ w' A l := by
  intro i hi
  obtain ⟨g, o, rfl, h0⟩ := h i hi
  exact ⟨g, o, rfl, cell_kept hb h0⟩

end Go.Proofs.Ytgbnoemoangofaa

/- Whether a game is ok: the model's check. -/
namespace Go.Proofs.Ytgbnoemoangofaa
open Go.ChangeShapes Go.WideShapes Go.ChangeAt Go.RowKit
set_option linter.unusedVariables false

theorem entB_bd {f : Fig} (h : entB f = true) : 1 ≤ f.c ∧ 0 ≤ f.g ∧ f.g ≤ 20 := by
  simp only [entB, onB, inB, Bool.and_eq_true, decide_eq_true_eq] at h
  omega

end Go.Proofs.Ytgbnoemoangofaa

/- The exact law of a new game, walked. -/
namespace Go.Proofs.Ytgbnoemoangofaa
open Go.ChangeShapes Go.WideShapes Go.ChangeAt Go.RowKit
set_option linter.unusedVariables false

theorem alloc_size (w : World) (o : Obj) : (w.alloc o).heap.size = w.heap.size + 1 := by simp

theorem at_old {w : World} {g : Nat} {cs : Array Value} {t : TypeId} (h : w.heap[g]? = some (.cells cs t)) (o : Obj) : (w.alloc o).heap[g]? = some (.cells cs t) := by
  have hlt : g < w.heap.size := by
    rcases Nat.lt_or_ge g w.heap.size with h1 | h1
    · exact h1
    · rw [Array.getElem?_eq_none h1] at h
      cases h
  rw [Below.heap_alloc _ _ _ hlt, h]

theorem three_cells {w : World} {g : Nat} {u0 u1 u2 : Value} {t : TypeId} (h : w.heap[g]? = some (.cells #[u0, u1, u2] t)) :
    w.cell? ⟨g, 0, none⟩ = some u0 ∧ w.cell? ⟨g, 1, none⟩ = some u1 ∧ w.cell? ⟨g, 2, none⟩ = some u2 := by
  have k := fun j => cell_of_row w g j _ t (0, 0) h
  exact ⟨by simpa using k 0, by simpa using k 1, by simpa using k 2⟩

/-- A game's cells hold marks, in order, from 1 on. -/
structure Marked (w : World) (A B C : Option Addr) (n m l : Nat) : Prop where
  ents : RdM w A (n * 5) 1
  floor : RdM w B m (1 + 5 * (n : Int))
  last : RdM w C l (1 + 5 * (n : Int) + (m : Int))

theorem Marked.below {w w' : World} {A B C : Option Addr} {n m l : Nat} (h : Marked w A B C n m l) (hb : Below w.heap.size w w') : Marked w' A B C n m l := ⟨h.ents.below hb, h.floor.below hb, h.last.below hb⟩

end Go.Proofs.Ytgbnoemoangofaa
