/- Rows of structs, read and owned, whatever their fields; letters as data. Plain facts of memory; no program. -/
import Derived.Test.YthidcmffnpnjjaaDoorMem2
namespace Go.Proofs.YthidcmffnpnjjaaDoor
open Go.ChangeShapes Go.WideShapes Go.ChangeAt Go.RowKit

section
variable {α : Type}

theorem rows_length (k : Nat) (f : α → List Value) (hf : ∀ a, (f a).length = k) (P : List α) : (P.flatMap f).length = P.length * k := by
  induction P with
  | nil => simp
  | cons a P ih => rw [List.flatMap_cons, List.length_append, ih, hf, List.length_cons, Nat.succ_mul]; omega

theorem rows_at (k : Nat) (f : α → List Value) (hf : ∀ a, (f a).length = k) (P : List α) (i j : Nat) (h : i < P.length) (hj : j < k) : (P.flatMap f)[i * k + j]? = (f P[i])[j]? := by
  induction P generalizing i with
  | nil => simp at h
  | cons a P ih =>
    rcases i with _ | i
    · rw [List.flatMap_cons, Nat.zero_mul, Nat.zero_add, List.getElem_cons_zero, List.getElem?_append_left (by rw [hf]; exact hj)]
    · rw [List.flatMap_cons, List.getElem_cons_succ, List.getElem?_append_right (by rw [hf, Nat.succ_mul]; omega), hf, show (i + 1) * k + j - k = i * k + j from by rw [Nat.succ_mul]; omega]
      exact ih i (by simpa using h)

/-- The slice at A, wherever it lies, reads as the rows P, k cells each. -/
def Rd (k : Nat) (f : α → List Value) (w : World) (A : Option Addr) (P : List α) : Prop :=
  ∀ i (h : i < P.length), ∃ b off : Nat, A = some ⟨b, off, none⟩ ∧ ∀ (j : Nat) (u : Value), (f (P[i]'h))[j]? = some u → w.cell? ⟨b, off + i * k + j, none⟩ = some u

theorem Rd.below {k : Nat} {f : α → List Value} {w w' : World} {A : Option Addr} {P : List α} (h : Rd k f w A P) (hb : Below w.heap.size w w') : Rd k f w' A P := by
  intro i hi
  obtain ⟨b, off, hA, hc⟩ := h i hi
  exact ⟨b, off, hA, fun j u hu => cell_kept hb (hc j u hu)⟩

theorem Rd.of_own {k : Nat} {f : α → List Value} (hf : ∀ a, (f a).length = k) {w : World} {base : Nat} {e : TypeId} {A : Option Addr} {c n : Nat} {P : List α} (h : w.ownsRow base e k (.slice A n c) n (P.flatMap f)) (hn : P.length = n) : Rd k f w A P := by
  intro i hi
  obtain ⟨g, rfl, _, _⟩ := own_some h (by omega)
  refine ⟨g, 0, rfl, fun j u hu => ?_⟩
  have hj : j < k := by
    have := (List.getElem?_eq_some_iff.1 hu).1
    rw [hf] at this; exact this
  have hik : i * k + j < n * k := by
    have h1 : (i + 1) * k ≤ n * k := Nat.mul_le_mul_right _ (by omega)
    rw [Nat.succ_mul] at h1; omega
  rw [Nat.zero_add, h.cellAt _ hik, rows_at k f hf P i j hi hj]
  exact hu

/-- One row more, stored cell by cell. -/
def storeAll (w : World) (g p : Nat) : List Value → World
  | [] => w
  | a :: as => storeAll (w.setCell ⟨g, p, none⟩ a) g (p + 1) as

theorem store_all {e : TypeId} {size g n c : Nat} {base : Nat} {xs : List Value} (as : List Value) : ∀ {w : World} {pre : List Value} (p : Nat), pre.length = p → p + as.length ≤ xs.length →
    w.ownsRow base e size (.slice (some ⟨g, 0, none⟩) n c) n (pre ++ xs.drop p) →
    (storeAll w g p as).ownsRow base e size (.slice (some ⟨g, 0, none⟩) n c) n ((pre ++ as) ++ xs.drop (p + as.length)) ∧ w.grownBy (storeAll w g p as) (some g) := by
  induction as with
  | nil => intro w pre p hp hx h; exact ⟨by simpa [storeAll] using h, World.grownBy.refl _ _⟩
  | cons a as ih =>
    intro w pre p hp hx h
    simp only [List.length_cons] at hx
    obtain ⟨h1, g1⟩ := store1 p a hp (by omega) h
    obtain ⟨h2, g2⟩ := ih (w := w.setCell ⟨g, p, none⟩ a) (pre := pre ++ [a]) (p + 1) (by simp [hp]) (by omega) h1
    refine ⟨?_, grownBy_trans g1 g2⟩
    simp only [storeAll, List.length_cons]
    rw [show p + (as.length + 1) = p + 1 + as.length from by omega, show pre ++ a :: as = pre ++ [a] ++ as from by simp]
    exact h2
end

/-- Below a world's heap all cells and marks read as before. -/
theorem bcell {W w1 : World} (hb : Below W.heap.size W w1) : (∀ b o, b < W.heap.size → w1.cell? ⟨b, o, none⟩ = W.cell? ⟨b, o, none⟩) ∧ (∀ b o, b < W.heap.size → w1.frozen? ⟨b, o, none⟩ = W.frozen? ⟨b, o, none⟩) :=
  ⟨fun b o h => hb.cell (p := ⟨b, o, none⟩) h, fun b o h => hb.frozen (p := ⟨b, o, none⟩) h⟩

theorem below_box3 {w w1 : World} {o o' o'' : Obj} (hb : Below (((w.alloc o).alloc o').alloc o'').heap.size (((w.alloc o).alloc o').alloc o'') w1) : Below w.heap.size w w1 :=
  ((((Below.refl _ _).alloc (Nat.le_refl _) _).alloc (by simp) _).alloc (by simp; omega) _).trans (hb.mono (by simp; omega))

/-- A request. -/
structure Rq where
  c : Int
  n : Int
  o : Int
  x : Int
  y : Int
  deriving DecidableEq
def Rq.cells (r : Rq) : List Value := [.int .i64 r.c, .int .i64 r.n, .int .i64 r.o, .int .i64 r.x, .int .i64 r.y]
abbrev Rq.val (r : Rq) : Value := .agg #[.int .i64 r.c, .int .i64 r.n, .int .i64 r.o, .int .i64 r.x, .int .i64 r.y]

/-- A claim. -/
structure Cl where
  s : Int
  v : Int
  r : Rq
  deriving DecidableEq
def Cl.cells (c : Cl) : List Value := [.int .i64 c.s, .int .i64 c.v, .int .i64 c.r.c, .int .i64 c.r.n, .int .i64 c.r.o, .int .i64 c.r.x, .int .i64 c.r.y]
abbrev Cl.val (c : Cl) : Value := .agg #[.int .i64 c.s, .int .i64 c.v, .int .i64 c.r.c, .int .i64 c.r.n, .int .i64 c.r.o, .int .i64 c.r.x, .int .i64 c.r.y]
theorem Cl.len (c : Cl) : c.cells.length = 7 := rfl
theorem Rq.len (c : Rq) : c.cells.length = 5 := rfl

/-- A vote as it lies in memory, and as it reads. -/
structure VtP where
  f : Int
  A : Option Addr
  c : Nat
  cl : List Cl
structure Vt where
  f : Int
  cl : List Cl
  deriving DecidableEq
def VtP.cells (v : VtP) : List Value := [.int .i64 v.f, .slice v.A v.cl.length v.c]
abbrev VtP.val (v : VtP) : Value := .agg #[.int .i64 v.f, .slice v.A v.cl.length v.c]
theorem VtP.len (c : VtP) : c.cells.length = 2 := rfl
def VtP.vt (v : VtP) : Vt := ⟨v.f, v.cl⟩

abbrev RdC (w : World) (A : Option Addr) (l : List Cl) : Prop := Rd 7 Cl.cells w A l
/-- What lies behind a vote reads. -/
def VtP.rd (w : World) (p : VtP) : Prop := p.cl.length ≤ maxLen ∧ RdC w p.A p.cl
/-- The slice at A reads as the votes P. -/
def RdV (w : World) (A : Option Addr) (P : List VtP) : Prop := Rd 2 VtP.cells w A P ∧ ∀ p ∈ P, p.rd w

theorem VtP.rd.below {w w' : World} {p : VtP} (h : p.rd w) (hb : Below w.heap.size w w') : p.rd w' := ⟨h.1, h.2.below hb⟩
theorem RdV.below {w w' : World} {A : Option Addr} {P : List VtP} (h : RdV w A P) (hb : Below w.heap.size w w') : RdV w' A P := ⟨h.1.below hb, fun p hp => (h.2 p hp).below hb⟩

/-- A letter as it lies in memory, and as it reads. -/
structure MgP where
  k : Int
  f : Int
  v : Int
  s : Int
  r : Rq
  A : Option Addr
  a : Nat
  cl : List Cl
  B : Option Addr
  b : Nat
  vt : List VtP
structure Mg where
  k : Int
  f : Int
  v : Int
  s : Int
  r : Rq
  cl : List Cl
  vt : List Vt
  deriving DecidableEq
def MgP.cells (m : MgP) : List Value := [.int .i64 m.k, .int .i64 m.f, .int .i64 m.v, .int .i64 m.s, .int .i64 m.r.c, .int .i64 m.r.n, .int .i64 m.r.o, .int .i64 m.r.x, .int .i64 m.r.y, .slice m.A m.cl.length m.a, .slice m.B m.vt.length m.b]
abbrev MgP.val (m : MgP) : Value := .agg #[.int .i64 m.k, .int .i64 m.f, .int .i64 m.v, .int .i64 m.s, .int .i64 m.r.c, .int .i64 m.r.n, .int .i64 m.r.o, .int .i64 m.r.x, .int .i64 m.r.y, .slice m.A m.cl.length m.a, .slice m.B m.vt.length m.b]
theorem MgP.len (c : MgP) : c.cells.length = 11 := rfl
def MgP.mg (m : MgP) : Mg := ⟨m.k, m.f, m.v, m.s, m.r, m.cl, m.vt.map VtP.vt⟩
/-- What lies behind a letter reads. -/
def MgP.rd (w : World) (m : MgP) : Prop := m.cl.length ≤ maxLen ∧ m.vt.length ≤ maxLen ∧ RdC w m.A m.cl ∧ RdV w m.B m.vt
def RdMs (w : World) (A : Option Addr) (P : List MgP) : Prop := Rd 11 MgP.cells w A P ∧ ∀ p ∈ P, p.rd w
theorem MgP.rd.below {w w' : World} {p : MgP} (h : p.rd w) (hb : Below w.heap.size w w') : p.rd w' := ⟨h.1, h.2.1, h.2.2.1.below hb, h.2.2.2.below hb⟩
theorem RdMs.below {w w' : World} {A : Option Addr} {P : List MgP} (h : RdMs w A P) (hb : Below w.heap.size w w') : RdMs w' A P := ⟨h.1.below hb, fun p hp => (h.2 p hp).below hb⟩
end Go.Proofs.YthidcmffnpnjjaaDoor
