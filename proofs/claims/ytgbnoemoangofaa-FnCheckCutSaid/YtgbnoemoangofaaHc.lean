/- What is done ahead: laid anew, held against its like, sized; as it came in. -/
import Derived.Test.YtgbnoemoangofaaHb
import Derived.Test.YtgbnoemoangofaaME
import Derived.Test.YtgbnoemoangofaaBk
namespace Go.Proofs.Ytgbnoemoangofaa
open Go.ChangeShapes Go.WideShapes Go.ChangeAt Go.RowKit
set_option linter.unusedVariables false
set_option linter.unusedSimpArgs false

theorem ret_set {w : World} {g j : Nat} (v : Value) {B : Nat} (h : B ≤ g) {x : World} (hb : Below B x w) : Below B x (w.setCell ⟨g, j, none⟩ v) := hb.setCell h v

def szOfA (n m : Nat) : Int := if n + m ≤ 1048576 then 1048576 - (n : Int) - (m : Int) else -1
section
variable {H : Type} {enc : TypeId × Value → H} {w : World} {base : Nat} {spare : Nat → Bool} {held : Bool}
/-- A slice of structs that came in. -/
theorem in_rowsH {P : Program} {α : Type} {f : α → List Value} {Q : α → Prop} {k : Nat} {t e : TypeId} {fuel : Nat} {cs : List Value} {x : DataW H × List MemPlace} (ht : P.underlying t = some (.slice e)) (hC : P.cellsOf e = k)
    (hk : 0 < k) (hf : ∀ p, (f p).length = k) (hq : ∀ (n : Nat) (cl : List Value) (y : DataW H × List MemPlace), cl.length = k → DataW.trod enc P w base spare held n e cl = some y → ∃ p, cl = f p ∧ Q p)
    (h : DataW.trod enc P w base spare held fuel t cs = some x) : ∃ (A : Option Addr) (c : Nat) (l : List α), cs = [.slice A l.length c] ∧ l.length ≤ maxLen ∧ l.length ≤ c ∧ Rd k f w A l ∧ ∀ p ∈ l, Q p := by
  rcases Go.Deep.open_slice ht h with ⟨rfl, _⟩ | ⟨a, len, cap, m, n, D, Pl, rfl, _, hl, hm, hmm, _, hi⟩
  · exact ⟨none, 0, [], rfl, Nat.zero_le _, Nat.zero_le _, fun i hi => absurd hi (by simp), fun p hp => by cases hp⟩
  · have hml : len ≤ m := by rw [hmm]; split <;> omega
    have each : ∀ i, i < len → ∃ p : α, Q p ∧ ∀ (j : Nat) (u : Value), (f p)[j]? = some u → w.cell? (a.add (i * k + j)) = some u := by
      intro i hilt
      obtain ⟨cs', hcs, htr⟩ := hi i (by omega)
      rw [hC] at hcs
      obtain ⟨_, hlen, hat⟩ := World.cells?_some hcs
      obtain ⟨p, rfl, hp⟩ := hq _ _ _ hlen htr
      refine ⟨p, hp, fun j u hu => ?_⟩
      have hj : j < k := by have := (List.getElem?_eq_some_iff.1 hu).1; rw [hf] at this; exact this
      have := hat j hj
      rw [Go.Deep.add_add] at this
      rw [this]
      exact hu
    have hc0 : 0 < len → a = ⟨a.block, a.off, none⟩ := by
      intro h0
      obtain ⟨p, _, hp⟩ := each 0 h0
      have h1 : (f p)[0]? = some ((f p)[0]'(by rw [hf]; exact hk)) := List.getElem?_eq_getElem _
      have := hp 0 _ h1
      rw [show a.add (0 * k + 0) = a from by simp [Addr.add]] at this
      exact addr_of this
    obtain ⟨E, hE, hat⟩ := pick_list len each
    refine ⟨some a, cap, E, by rw [hE], by omega, by omega, fun i hi' => ?_, fun p hp => ?_⟩
    · have ha := hc0 (by omega)
      refine ⟨a.block, a.off, by rw [← ha], fun j u hu => ?_⟩
      have := (hat i hi').2 j u hu
      rw [ha, add_eq] at this
      rw [Nat.add_assoc]
      exact this
    · obtain ⟨i, hi', rfl⟩ := List.getElem_of_mem hp
      exact (hat i hi').1

theorem fieldOf {P : Program} {t : TypeId} {fs : Array Field} {fuel : Nat} {cl : List Value} {x : DataW H × List MemPlace} (hs : P.underlying t = some (.struct fs)) (h : DataW.trod enc P w base spare held fuel t cl = some x)
    (i : Nat) {tp off k : Nat} (ht : (fs[i]?).map (fun f => f.type) = some tp) (ho : (fs[i]?).map (fun f => f.offset) = some off) (hk : P.cellsOf tp = k) : ∃ n y, DataW.trod enc P w base spare held n tp ((cl.drop off).take k) = some y := by
  obtain ⟨xs, n, _, _, _, hlen, hg⟩ := DataW.trod_struct hs h
  rcases hf : fs[i]? with _ | f
  · rw [hf] at ht; cases ht
  · rw [hf] at ht ho
    simp only [Option.map_some, Option.some.injEq] at ht ho
    have h1 := hg i f hf
    have hi : i < fs.size := (Array.getElem?_eq_some_iff.1 hf).1
    rw [ht, ho, hk, List.getElem?_eq_getElem (by omega)] at h1
    exact ⟨n, _, h1⟩
end

end Go.Proofs.Ytgbnoemoangofaa
