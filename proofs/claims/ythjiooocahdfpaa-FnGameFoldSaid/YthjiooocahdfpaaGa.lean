/- A game's step, as lists: what the program and the model both compute. -/
import Derived.Test.YthjiooocahdfpaaMC
import Derived.Test.YthjiooocahdfpaaMH
import Derived.Test.YthjiooocahdfpaaAp
namespace Go.Proofs.Ythjiooocahdfpaa
open Go.ChangeShapes Go.WideShapes Go.ChangeAt Go.RowKit
set_option linter.unusedVariables false
set_option linter.unusedSimpArgs false

/-- Figures that are ok. -/
structure OkE (E : List Fig) : Prop where
  len : E.length ≤ 4
  bd : ∀ i (h : i < E.length), 1 ≤ (E[i]'h).c ∧ (E[i]'h).c ≤ 4 ∧ 0 ≤ (E[i]'h).x ∧ (E[i]'h).x ≤ 3 ∧ 0 ≤ (E[i]'h).y ∧ (E[i]'h).y ≤ 3 ∧ 0 ≤ (E[i]'h).l ∧ (E[i]'h).l ≤ 3 ∧ 0 ≤ (E[i]'h).g ∧ (E[i]'h).g ≤ 20
  asc : ∀ i j (hi : i < E.length) (hj : j < E.length), i < j → (E[i]'hi).c < (E[j]'hj).c

theorem ents_len (E : List Fig) : ∀ p : Int, p ≤ 4 → entsB p E = true → (E.length : Int) ≤ 4 - p := by
  induction E with
  | nil => intro p hp _; simp; omega
  | cons e t ih =>
    intro p hp h
    simp only [entsB, entB, inB, Bool.and_eq_true, decide_eq_true_eq] at h
    have := ih e.c h.2.1.1.2 h.2.2
    simp; omega
theorem ents_bd (E : List Fig) : ∀ p : Int, entsB p E = true → ∀ i (h : i < E.length), p < (E[i]'h).c ∧ 1 ≤ (E[i]'h).c ∧ (E[i]'h).c ≤ 4 ∧ 0 ≤ (E[i]'h).x ∧ (E[i]'h).x ≤ 3 ∧ 0 ≤ (E[i]'h).y ∧ (E[i]'h).y ≤ 3 ∧ 0 ≤ (E[i]'h).l ∧ (E[i]'h).l ≤ 3 ∧ 0 ≤ (E[i]'h).g ∧ (E[i]'h).g ≤ 20 := by
  induction E with
  | nil => intro p _ i h; simp at h
  | cons e t ih =>
    intro p h i hi
    simp only [entsB, entB, onB, inB, Bool.and_eq_true, decide_eq_true_eq] at h
    rcases i with _ | i
    · simp only [List.getElem_cons_zero]; omega
    · simp only [List.getElem_cons_succ]
      have := ih e.c h.2.2 i (by simpa using hi)
      omega
theorem ents_asc (E : List Fig) : ∀ p : Int, entsB p E = true → ∀ i j (hi : i < E.length) (hj : j < E.length), i < j → (E[i]'hi).c < (E[j]'hj).c := by
  induction E with
  | nil => intro p _ i j h; simp at h
  | cons e t ih =>
    intro p h i j hi hj hij
    have h2 : entsB e.c t = true := by simp only [entsB, Bool.and_eq_true] at h; exact h.2.2
    rcases j with _ | j
    · omega
    rcases i with _ | i
    · simp only [List.getElem_cons_zero, List.getElem_cons_succ]
      exact (ents_bd t e.c h2 j (by simpa using hj)).1
    · simp only [List.getElem_cons_succ]
      exact ih e.c h2 i j (by simpa using hi) (by simpa using hj) (by omega)
theorem okE_of {E : List Fig} (h : entsB 0 E = true) : OkE E :=
  ⟨by have := ents_len E 0 (by omega) h; omega, fun i hi => (ents_bd E 0 h i hi).2, ents_asc E 0 h⟩

/-- A game that is ok. -/
structure OkG (E : List Fig) (F L : List Int) : Prop where
  e : OkE E
  f : F.length = 16
  l : L.length = 4
  fb : ∀ i (h : i < F.length), 0 ≤ F[i]'h ∧ F[i]'h ≤ 20
  lb : ∀ i (h : i < L.length), 0 ≤ L[i]'h ∧ L[i]'h ≤ 30
theorem okG_of {E : List Fig} {F L : List Int} (h : gokB E F L = true) : OkG E F L := by
  simp only [gokB, Bool.and_eq_true, decide_eq_true_eq] at h
  exact ⟨okE_of h.2.2.1, h.1, h.2.1, allB_at h.2.2.2.1, allB_at h.2.2.2.2.1⟩

/-- Where a client's figure stands among the figures. -/
def atF (c : Int) (E : List Fig) : Option Nat := E.findIdx? fun e => e.c == c
theorem atF_some {c : Int} {E : List Fig} {k : Nat} (h : atF c E = some k) : ∃ hk : k < E.length, (E[k]'hk).c = c ∧ ∀ j (hj : j < k), (E[j]'(by omega)).c ≠ c := by
  unfold atF at h
  rw [List.findIdx?_eq_some_iff_getElem] at h
  obtain ⟨hk, h1, h2⟩ := h
  exact ⟨hk, by simpa using h1, fun j hj => by simpa using h2 j hj⟩
theorem atF_none {c : Int} {E : List Fig} (h : atF c E = none) : ∀ j (hj : j < E.length), (E[j]'hj).c ≠ c := by
  unfold atF at h
  rw [List.findIdx?_eq_none_iff] at h
  intro j hj
  simpa using h _ (List.getElem_mem hj)
theorem atF_of {c : Int} {E : List Fig} (ha : OkE E) {k : Nat} (hk : k < E.length) (hc : (E[k]'hk).c = c) : atF c E = some k := by
  unfold atF
  rw [List.findIdx?_eq_some_iff_getElem]
  refine ⟨hk, by simpa using hc, fun j hj => ?_⟩
  have := ha.asc j k (by omega) hk hj
  simp; omega
/-- How many figures stand ahead of a client's. -/
def ltF (c : Int) : List Fig → Nat
  | [] => 0
  | e :: E => if e.c < c then ltF c E + 1 else 0
theorem ltF_le (c : Int) (E : List Fig) : ltF c E ≤ E.length := by
  induction E with
  | nil => exact Nat.le_refl _
  | cons e E ih => unfold ltF; split <;> simp <;> omega
theorem ltF_of (c : Int) : ∀ (E : List Fig) (k : Nat), k ≤ E.length → (∀ j (hj : j < E.length), j < k → (E[j]'hj).c < c) → (∀ hk : k < E.length, ¬ (E[k]'hk).c < c) → ltF c E = k := by
  intro E
  induction E with
  | nil => intro k hk _ _; simp at hk; simp [ltF, hk]
  | cons e E ih =>
    intro k hk h1 h2
    rcases k with _ | k
    · unfold ltF
      rw [if_neg (show ¬ e.c < c from h2 (by simp))]
    · unfold ltF
      rw [if_pos (show e.c < c from h1 0 (by simp) (by omega)), ih k (by simpa using hk) (fun j hj hjk => h1 (j + 1) (by simpa using hj) (by omega)) (fun hk' => h2 (by simpa using hk'))]

def nearB (a b : Fig) : Bool := inB (a.x - b.x) (-1) 1 && inB (a.y - b.y) (-1) 1
def sq (e : Fig) : Nat := (e.y * 4 + e.x).toNat
abbrev Gm := List Fig × List Int × List Int
/-- What becomes of a game when a figure on the board acts. -/
def actG (E : List Fig) (F L : List Int) (k : Nat) (e : Fig) (r : Rq) : Gm × Int :=
  if r.o = 2 then (if onB (e.x + r.x) (e.y + r.y) = true then ((E.set k ⟨e.c, e.x + r.x, e.y + r.y, e.l, e.g⟩, F, L), 0) else ((E, F, L), 6))
  else if r.o = 3 then (if F.getD (sq e) 0 = 0 then ((E, F, L), 7) else ((E.set k ⟨e.c, e.x, e.y, e.l, e.g + 1⟩, F.set (sq e) (F.getD (sq e) 0 - 1), L), 0))
  else match atF r.x E with
    | none => ((E, F, L), 8)
    | some n => match E[n]? with
      | none => ((E, F, L), 8)
      | some f =>
        if n = k ∨ nearB e f = false then ((E, F, L), 8)
        else if r.o = 4 then (if f.l - 1 ≤ 0 then ((E.eraseIdx n, F.set (sq f) (F.getD (sq f) 0 + f.g), L), 0) else ((E.set n ⟨f.c, f.x, f.y, f.l - 1, f.g⟩, F, L), 0))
        else if e.g < r.y then ((E, F, L), 7) else (((E.set n ⟨f.c, f.x, f.y, f.l, f.g + r.y⟩).set k ⟨e.c, e.x, e.y, e.l, e.g - r.y⟩, F, L), 0)
/-- What becomes of a game when a request is done, and how it went. -/
def doG (E : List Fig) (F L : List Int) (r : Rq) : Gm × Int :=
  if nullB r = true then ((E, F, L), 2)
  else if r.n ≤ L.getD (r.c - 1).toNat 0 then ((E, F, L), 3)
  else let L' := L.set (r.c - 1).toNat r.n
    if r.o = 1 then match atF r.c E with
      | some _ => ((E, F, L'), 4)
      | none => ((E.take (ltF r.c E) ++ ⟨r.c, r.c - 1, r.c - 1, 3, 0⟩ :: E.drop (ltF r.c E), F, L'), 0)
    else match atF r.c E with
      | none => ((E, F, L'), 5)
      | some k => match E[k]? with
        | none => ((E, F, L'), 5)
        | some e => actG E F L' k e r
end Go.Proofs.Ythjiooocahdfpaa
