import Derived.Test.YtameldhdegcpoaaGw
namespace Go.Proofs.Ytameldhdegcpoaa
open Go.ChangeShapes Go.WideShapes Go.ChangeAt Go.RowKit
set_option linter.unusedVariables false
set_option linter.unusedSimpArgs false
def stepG (E : List Fig) (F L : List Int) (r : Rq) : Gm × Int :=
 if gokB E F L = true ∧ okB r = true then doG E F L r else (([], [], []), 1)
theorem GmR.nil (w : World) : GmR w none 0 none 0 none 0 [] [] [] :=
 ⟨(fun i h => by simp at h), (fun i h => by simp at h), (fun i h => by simp at h), Nat.le_refl _, Nat.le_refl _, Nat.le_refl _, .inl ⟨rfl, rfl⟩, .inl ⟨rfl, rfl⟩, .inl ⟨rfl, rfl⟩, (fun x h => by cases h), (fun x h => by cases h), (fun x h => by cases h)⟩
theorem GmR.box {w : World} {A : Option Addr} {a : Nat} {B : Option Addr} {b : Nat} {C : Option Addr} {d : Nat} {E : List Fig} {F L : List Int} (h : GmR w A a B b C d E F L) {p : Nat} {A0 : Option Addr} {n0 c0 : Nat} (hp : w.cell? ⟨p, 0, none⟩ = some (.slice A0 n0 c0)) (o : Nat) (v : Value) : GmR (w.setCell ⟨p, o, none⟩ v) A a B b C d E F L := by
 refine ⟨fun i hi => ?_, fun i hi => ?_, fun i hi => ?_, h.cA, h.cB, h.cC, h.nA, h.nB, h.nC, fun x hx => by simpa using h.lA x hx, fun x hx => by simpa using h.lB x hx, fun x hx => by simpa using h.lC x hx⟩
 · obtain ⟨g, hg, a0, a1, a2, a3, a4⟩ := h.rE i hi
   have hn : g ≠ p := fun e => by
    obtain ⟨g', hg', b0, _⟩ := h.rE 0 (by omega)
    rw [hg] at hg'
    cases hg'
    rw [e, show 0 * 5 = 0 from rfl, hp] at b0
    cases b0
   exact ⟨g, hg, cell_far a0 hn, cell_far a1 hn, cell_far a2 hn, cell_far a3 hn, cell_far a4 hn⟩
 · obtain ⟨g, hg, a0⟩ := h.rF i hi
   have hn : g ≠ p := fun e => by
    obtain ⟨g', hg', b0⟩ := h.rF 0 (by omega)
    rw [hg] at hg'
    cases hg'
    rw [e, hp] at b0
    cases b0
   exact ⟨g, hg, cell_far a0 hn⟩
 · obtain ⟨g, hg, a0⟩ := h.rL i hi
   have hn : g ≠ p := fun e => by
    obtain ⟨g', hg', b0⟩ := h.rL 0 (by omega)
    rw [hg] at hg'
    cases hg'
    rw [e, hp] at b0
    cases b0
   exact ⟨g, hg, cell_far a0 hn⟩
end Go.Proofs.Ytameldhdegcpoaa
