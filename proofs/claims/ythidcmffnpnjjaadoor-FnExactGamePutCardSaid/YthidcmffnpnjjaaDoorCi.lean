/- A game as a text: as lists of bytes. -/
import Derived.Test.YthidcmffnpnjjaaDoorPn
import Derived.Test.YthidcmffnpnjjaaDoorTn
namespace Go.Proofs.YthidcmffnpnjjaaDoor
open Go.ChangeShapes Go.WideShapes Go.ChangeAt Go.RowKit
set_option linter.unusedVariables false
set_option linter.unusedSimpArgs false

def rowT (l : List Int) : List UInt8 := l.flatMap fun n => decs n ++ [44]
def entT (e : Fig) : List UInt8 := decs e.c ++ [44] ++ decs e.x ++ [44] ++ decs e.y ++ [44] ++ decs e.l ++ [44] ++ decs e.g
def entsT (E : List Fig) : List UInt8 := E.flatMap fun e => [47] ++ entT e
def gameT (E : List Fig) (F L : List Int) : List UInt8 := rowT F ++ [47] ++ rowT L ++ entsT E
def putG (E : List Fig) (F L : List Int) : List UInt8 := if gokB E F L = true then gameT E F L else []
theorem putG_yes {E : List Fig} {F L : List Int} (h : gokB E F L = true) : putG E F L = gameT E F L := by unfold putG; rw [if_pos h]
theorem putG_no {E : List Fig} {F L : List Int} (h : gokB E F L = false) : putG E F L = [] := by unfold putG; rw [h]; rfl
theorem rowT_take (l : List Int) (j : Nat) (h : j < l.length) : rowT (l.take (j + 1)) = rowT (l.take j) ++ decs (l[j]'h) ++ [44] := by
  unfold rowT
  rw [List.take_succ_eq_append_getElem h, List.flatMap_append]
  simp
theorem entsT_take (E : List Fig) (j : Nat) (h : j < E.length) : entsT (E.take (j + 1)) = entsT (E.take j) ++ [47] ++ entT (E[j]'h) := by
  unfold entsT
  rw [List.take_succ_eq_append_getElem h, List.flatMap_append]
  simp
/-- Numbers of a game: small. -/
def Sm (n : Int) : Prop := -1000 ≤ n ∧ n ≤ 1000
theorem Sm.i64 {n : Int} (h : Sm n) : I64 n := ⟨by have := h.1; omega, by have := h.2; omega⟩
theorem rowT_len : ∀ (l : List Int), (∀ n ∈ l, Sm n) → (rowT l).length ≤ 22 * l.length
  | [], _ => by simp [rowT]
  | n :: t, h => by
    have h1 := rowT_len t (fun m hm => h m (List.mem_cons_of_mem _ hm))
    have h2 := decs_len n (h n (by simp)).i64
    have e : rowT (n :: t) = decs n ++ [44] ++ rowT t := by simp [rowT]
    rw [e, List.length_append, List.length_append, List.length_cons, List.length_cons, List.length_nil]
    omega
structure SmF (e : Fig) : Prop where
  c : Sm e.c
  x : Sm e.x
  y : Sm e.y
  l : Sm e.l
  g : Sm e.g
theorem entT_len (e : Fig) (h : SmF e) : (entT e).length ≤ 109 := by
  have h1 := decs_len e.c h.c.i64
  have h2 := decs_len e.x h.x.i64
  have h3 := decs_len e.y h.y.i64
  have h4 := decs_len e.l h.l.i64
  have h5 := decs_len e.g h.g.i64
  unfold entT
  simp only [List.length_append, List.length_cons, List.length_nil]
  omega
theorem entsT_len : ∀ (E : List Fig), (∀ e ∈ E, SmF e) → (entsT E).length ≤ 110 * E.length
  | [], _ => by simp [entsT]
  | e :: t, h => by
    have h1 := entsT_len t (fun m hm => h m (List.mem_cons_of_mem _ hm))
    have h2 := entT_len e (h e (by simp))
    have e1 : entsT (e :: t) = [47] ++ entT e ++ entsT t := by simp [entsT]
    rw [e1, List.length_append, List.length_append, List.length_cons, List.length_cons, List.length_nil]
    omega
theorem allB_sm {l : List Int} {hi : Int} (h : allB l hi = true) (h1 : hi ≤ 1000) : ∀ n ∈ l, Sm n := by
  intro n hn
  unfold allB at h
  rw [List.all_eq_true] at h
  have h2 := h n hn
  unfold inB at h2
  simp only [Bool.and_eq_true, decide_eq_true_eq] at h2
  exact ⟨by omega, by omega⟩
theorem ents_sm : ∀ (E : List Fig) (p : Int), entsB p E = true → ∀ e ∈ E, SmF e := by
  intro E
  induction E with
  | nil => intro p _ e he; cases he
  | cons x t ih =>
    intro p h e he
    unfold entsB at h
    simp only [Bool.and_eq_true, decide_eq_true_eq] at h
    rcases List.mem_cons.1 he with rfl | hm
    · have h2 := h.2.1
      simp only [entB, onB, inB, Bool.and_eq_true, decide_eq_true_eq] at h2
      refine ⟨⟨?_, ?_⟩, ⟨?_, ?_⟩, ⟨?_, ?_⟩, ⟨?_, ?_⟩, ⟨?_, ?_⟩⟩ <;> omega
    · exact ih x.c h.2.2 e hm
theorem ents_four : ∀ (E : List Fig) (p : Int), entsB p E = true → p + E.length ≤ 4 ∨ E = [] := by
  intro E
  induction E with
  | nil => intro p _; exact .inr rfl
  | cons x t ih =>
    intro p h
    unfold entsB at h
    simp only [Bool.and_eq_true, decide_eq_true_eq] at h
    have h2 := h.2.1
    simp only [entB, onB, inB, Bool.and_eq_true, decide_eq_true_eq] at h2
    refine .inl ?_
    rw [List.length_cons]
    rcases ih x.c h.2.2 with h3 | h3
    · omega
    · subst h3; simp; omega
structure GSm (E : List Fig) (F L : List Int) : Prop where
  f : F.length = 16
  l : L.length = 4
  e : E.length ≤ 4
  sf : ∀ n ∈ F, Sm n
  sl : ∀ n ∈ L, Sm n
  se : ∀ e ∈ E, SmF e
theorem gok_sm {E : List Fig} {F L : List Int} (h : gokB E F L = true) : GSm E F L := by
  unfold gokB at h
  simp only [Bool.and_eq_true, decide_eq_true_eq] at h
  obtain ⟨h1, h2, h3, h4, h5, _⟩ := h
  refine ⟨h1, h2, ?_, allB_sm h4 (by omega), allB_sm h5 (by omega), ents_sm E 0 h3⟩
  rcases ents_four E 0 h3 with h6 | h6
  · omega
  · subst h6; simp

end Go.Proofs.YthidcmffnpnjjaaDoor
