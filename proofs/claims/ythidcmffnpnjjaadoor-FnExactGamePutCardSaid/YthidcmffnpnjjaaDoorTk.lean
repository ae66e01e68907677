/- The size of what came in; a game that came in, opened. -/
import Derived.Test.YthidcmffnpnjjaaDoorTj
import Derived.Test.YthidcmffnpnjjaaDoorRq
import Derived.Deep.Slices
import Derived.Lib.SmallJoins
namespace Go.Proofs.YthidcmffnpnjjaaDoor
open Go.ChangeShapes Go.WideShapes Go.ChangeAt Go.RowKit
set_option linter.unusedVariables false

theorem szEntS (A : Option Addr) (n c : Nat) (left : Int) (w : World) (hn : n ≤ maxLen) (h0 : 0 ≤ left) (h1 : left ≤ 1048576) :
    Calls Tryd.prog 9 #[.slice A n c, .int .i64 left] w fun e w' => e = .returned (.int .i64 (if left - n < 0 then -1 else left - n)) ∧ w = w' := by
  unfold maxLen at hn
  go_enter Tryd.func9, Tryd.ntmps9
  by_cases h : left - (n : Int) < 0
  all_goals go_wp2
  all_goals go_ret
  all_goals first | exact ⟨rfl, rfl⟩ | exact ⟨ret_int (if_pos h).symm, rfl⟩ | exact ⟨ret_int (if_neg h).symm, rfl⟩

theorem szIntS (A : Option Addr) (n c : Nat) (left : Int) (w : World) (hn : n ≤ maxLen) (h0 : 0 ≤ left) (h1 : left ≤ 1048576) :
    Calls Tryd.prog 10 #[.slice A n c, .int .i64 left] w fun e w' => e = .returned (.int .i64 (if left - n < 0 then -1 else left - n)) ∧ w = w' := by
  unfold maxLen at hn
  go_enter Tryd.func10, Tryd.ntmps10
  by_cases h : left - (n : Int) < 0
  all_goals go_wp2
  all_goals go_ret
  all_goals first | exact ⟨rfl, rfl⟩ | exact ⟨ret_int (if_pos h).symm, rfl⟩ | exact ⟨ret_int (if_neg h).symm, rfl⟩

def szOf (n m l : Nat) : Int := if n + m + l ≤ 1048576 then 1048576 - (n : Int) - (m : Int) - (l : Int) else -1

theorem szGame (A : Option Addr) (n a : Nat) (B : Option Addr) (m b : Nat) (C : Option Addr) (l c : Nat) (w : World) (hn : n ≤ maxLen) (hm : m ≤ maxLen) (hl : l ≤ maxLen) :
    Calls Tryd.prog 4 #[gameV A n a B m b C l c, .int .i64 1048576] w fun e w' => e = .returned (.int .i64 (szOf n m l)) ∧ Below w.heap.size w w' := by
  go_enter Tryd.func4, Tryd.ntmps4
  go_wp2_with (fail)
  refine (szEntS A n a 1048576 _ hn (by omega) (by omega)).mono ?_
  rintro e w1 ⟨rfl, rfl⟩
  by_cases h1 : (1048576 : Int) - n < 0
  · rw [if_pos h1]
    go_wp2
    go_light
    go_ret
    exact ⟨ret_int (by unfold szOf; rw [if_neg (by omega)]), (Below.refl _ _).alloc (Nat.le_refl _) _⟩
  rw [if_neg h1]
  have d1 : decide ((1048576 : Int) - n < 0) = false := by simp; omega
  go_wp2_with (fail)
  refine (szIntS B m b (1048576 - n) _ hm (by omega) (by omega)).mono ?_
  rintro e w1 ⟨rfl, rfl⟩
  by_cases h2 : (1048576 : Int) - n - m < 0
  · rw [if_pos h2]
    go_wp2
    go_light
    go_ret
    exact ⟨ret_int (by unfold szOf; rw [if_neg (by omega)]), (Below.refl _ _).alloc (Nat.le_refl _) _⟩
  rw [if_neg h2]
  have d2 : decide ((1048576 : Int) - n - m < 0) = false := by simp; omega
  go_wp2_with (fail)
  refine (szIntS C l c (1048576 - n - m) _ hl (by omega) (by omega)).mono ?_
  rintro e w1 ⟨rfl, rfl⟩
  by_cases h3 : (1048576 : Int) - n - m - l < 0
  · rw [if_pos h3]
    go_wp2
    go_light
    go_ret
    exact ⟨ret_int (by unfold szOf; rw [if_neg (by omega)]), (Below.refl _ _).alloc (Nat.le_refl _) _⟩
  rw [if_neg h3]
  have d3 : decide ((1048576 : Int) - n - m - l < 0) = false := by simp; omega
  go_wp2
  go_light
  go_ret
  exact ⟨ret_int (by unfold szOf; rw [if_pos (by omega)]), (Below.refl _ _).alloc (Nat.le_refl _) _⟩

section
variable {H : Type} {enc : TypeId × Value → H} {w : World} {base : Nat} {spare : Nat → Bool} {held : Bool}

theorem addr_of {a : Addr} {u : Value} (h : w.cell? a = some u) : a = ⟨a.block, a.off, none⟩ := by
  obtain ⟨b, o, s⟩ := a
  unfold World.cell? at h
  split at h
  · cases s with
    | none => rfl
    | some _ => simp at h
  · cases h

theorem add_eq (b o n : Nat) : (⟨b, o, none⟩ : Addr).add n = ⟨b, o + n, none⟩ := by
  unfold Addr.add
  split
  · next h => subst h; rfl
  · rfl

/-- A slice of ints that came in. -/
theorem in_ints {t e : TypeId} {fuel : Nat} {cs : List Value} {x : DataW H × List MemPlace} (ht : Tryd.prog.underlying t = some (.slice e)) (he : Tryd.prog.underlying e = some (.int .i64)) (hc : Tryd.prog.cellsOf e = 1)
    (h : DataW.trod enc Tryd.prog w base spare held fuel t cs = some x) : ∃ (A : Option Addr) (c : Nat) (l : List Int), cs = [.slice A l.length c] ∧ l.length ≤ maxLen ∧ InI w A l := by
  rcases open_ints ht he hc h with ⟨rfl, _⟩ | ⟨a, len, cap, zs, rfl, _, hl, hm, hz, _, hcell, _⟩
  · exact ⟨none, 0, [], rfl, Nat.zero_le _, fun i hi => absurd hi (by simp)⟩
  · have hzl : len ≤ zs.length := by rw [hz]; split <;> omega
    refine ⟨some a, cap, zs.take len, by rw [List.length_take, Nat.min_eq_left hzl], by rw [List.length_take, Nat.min_eq_left hzl]; omega, fun i hi => ?_⟩
    rw [List.length_take, Nat.min_eq_left hzl] at hi
    have h0 := hcell 0 (by omega)
    rw [show a.add 0 = a from by simp [Addr.add]] at h0
    have ha := addr_of h0
    refine ⟨a.block, a.off, by rw [← ha], ?_⟩
    have hi' := hcell i (by omega)
    rw [ha, add_eq] at hi'
    rw [hi', List.getElem_take]
    simp [List.getD_eq_getElem?_getD, List.getElem?_eq_getElem (show i < zs.length by omega)]

/-- The cells of a struct whose fields are all ints. -/
theorem ints_of_cells {P : Program} {t : TypeId} {fs : Array Field} {fuel : Nat} {cl : List Value} {x : DataW H × List MemPlace} (hs : P.underlying t = some (.struct fs)) (hone : Go.Deep.oneCellFields P fs = true) (hcl : cl.length = fs.size)
    (hall : fs.toList.map (fun f => P.underlying f.type) = List.replicate fs.size (some (.int .i64))) (h : DataW.trod enc P w base spare held fuel t cl = some x) : ∃ l : List Int, cl = l.map (Value.int .i64) := by
  have hint : ∀ (i : Nat) (f : Field), fs[i]? = some f → P.underlying f.type = some (.int .i64) := by
    intro i f hf
    have h1 : (fs.toList.map (fun f => P.underlying f.type))[i]? = some (P.underlying f.type) := by
      rw [List.getElem?_map]
      simp [hf]
    rw [hall, List.getElem?_replicate] at h1
    split at h1
    · exact (Option.some.inj h1).symm
    · cases h1
  obtain ⟨xs, n, _, _, _, hlen, hg⟩ := DataW.trod_struct hs h
  have key : ∀ (i : Nat) (hi : i < cl.length), ∃ m : Int, cl[i] = .int .i64 m := by
    intro i hi
    have hfi : fs[i]? = some (fs[i]'(by omega)) := Array.getElem?_eq_getElem (by omega)
    obtain ⟨ho, hk⟩ := Go.Deep.hone_of hone i _ hfi
    have h1 := hg i _ hfi
    rw [ho, hk] at h1
    have h2 : (cl.drop i).take 1 = [cl[i]] := by
      rw [List.drop_eq_getElem_cons hi]
      rfl
    rw [h2, show xs[i]? = some (xs[i]'(by omega)) from List.getElem?_eq_getElem (by omega)] at h1
    obtain ⟨m, hm, _, _⟩ := DataW.trod_int (hint i _ hfi) h1
    exact ⟨m, by simpa using hm⟩
  refine ⟨cl.map intOf, ?_⟩
  rw [List.map_map]
  apply List.ext_getElem
  · simp
  · intro i h1 h2
    obtain ⟨m, hm⟩ := key i h1
    simp [hm, intOf]

theorem pick_list {α : Type} {Q : Nat → α → Prop} (n : Nat) (h : ∀ i, i < n → ∃ x, Q i x) : ∃ l : List α, l.length = n ∧ ∀ (i : Nat) (hi : i < l.length), Q i (l[i]'hi) := by
  induction n with
  | zero => exact ⟨[], rfl, fun i hi => absurd hi (by simp)⟩
  | succ k ih =>
    obtain ⟨l, hl, hat⟩ := ih fun i hi => h i (by omega)
    obtain ⟨x, hx⟩ := h k (by omega)
    refine ⟨l ++ [x], by simp [hl], fun i hi => ?_⟩
    rcases Nat.lt_or_ge i l.length with h1 | h1
    · rw [List.getElem_append_left h1]
      exact hat i h1
    · have hik : i = k := by simp at hi; omega
      subst hik
      rw [List.getElem_append_right h1]
      simpa using hx

/-- A slice of figures that came in. -/
theorem in_figs {t e : TypeId} {fs : Array Field} {fuel : Nat} {cs : List Value} {x : DataW H × List MemPlace} (ht : Tryd.prog.underlying t = some (.slice e)) (he : Tryd.prog.underlying e = some (.struct fs)) (hone : Go.Deep.oneCellFields Tryd.prog fs = true)
    (hsz : fs.size = 5) (hC : Tryd.prog.cellsOf e = 5) (hall : fs.toList.map (fun f => Tryd.prog.underlying f.type) = List.replicate fs.size (some (.int .i64)))
    (h : DataW.trod enc Tryd.prog w base spare held fuel t cs = some x) : ∃ (A : Option Addr) (c : Nat) (l : List Fig), cs = [.slice A l.length c] ∧ l.length ≤ maxLen ∧ InF w A l := by
  rcases Go.Deep.open_slice ht h with ⟨rfl, _⟩ | ⟨a, len, cap, m, n, D, Pl, rfl, _, hl, hm, hmm, _, hi⟩
  · exact ⟨none, 0, [], rfl, Nat.zero_le _, fun i hi => absurd hi (by simp)⟩
  · have hml : len ≤ m := by rw [hmm]; split <;> omega
    have each : ∀ i, i < len → ∃ f : Fig, ∀ (j : Nat) (u : Value), f.cells[j]? = some u → w.cell? (a.add (i * 5 + j)) = some u := by
      intro i hilt
      obtain ⟨cs', hcs, htr⟩ := hi i (by omega)
      rw [hC] at hcs
      obtain ⟨_, hlen, hat⟩ := World.cells?_some hcs
      obtain ⟨li, rfl⟩ := ints_of_cells he hone (by omega) hall htr
      obtain ⟨n0, n1, n2, n3, n4, rfl⟩ := five_of li (by simpa using hlen)
      refine ⟨⟨n0, n1, n2, n3, n4⟩, fun j u hu => ?_⟩
      have hj : j < 5 := by
        rcases Nat.lt_or_ge j 5 with h | h
        · exact h
        · rw [List.getElem?_eq_none (by simp [Fig.cells]; omega)] at hu; cases hu
      have := hat j hj
      rw [Go.Deep.add_add] at this
      rw [this]
      exact hu
    have hc0 : 0 < len → a = ⟨a.block, a.off, none⟩ := by
      intro h0
      obtain ⟨f, hf⟩ := each 0 h0
      have := hf 0 _ rfl
      rw [show a.add (0 * 5 + 0) = a from by simp [Addr.add]] at this
      exact addr_of this
    obtain ⟨E, hE, hat⟩ := pick_list len each
    refine ⟨some a, cap, E, by rw [hE], by omega, fun i hi' => ?_⟩
    have ha := hc0 (by omega)
    have c0 := hat i hi' 0 _ rfl
    have c1 := hat i hi' 1 _ rfl
    have c2 := hat i hi' 2 _ rfl
    have c3 := hat i hi' 3 _ rfl
    have c4 := hat i hi' 4 _ rfl
    rw [ha, add_eq] at c0 c1 c2 c3 c4
    exact ⟨a.block, a.off, by rw [← ha], c0, by rw [Nat.add_assoc]; exact c1, by rw [Nat.add_assoc]; exact c2, by rw [Nat.add_assoc]; exact c3, by rw [Nat.add_assoc]; exact c4⟩

set_option maxRecDepth 100000 in
/-- A game that came in. -/
theorem in_game {r : Reach} {b0 : Nat} {v : Value} {d : DataW H} {p : List MemPlace} (hv : Value.okWide Tryd.prog w r b0 25 v) (h : DataW.Trod enc Tryd.prog w base spare held 25 v d p) :
    ∃ A a B b C c, ∃ (E : List Fig) (F L : List Int), v = gameV A E.length a B F.length b C L.length c ∧ E.length ≤ maxLen ∧ F.length ≤ maxLen ∧ L.length ≤ maxLen ∧ InF w A E ∧ InI w B F ∧ InI w C L := by
  obtain ⟨v0, v1, v2, y0, y1, y2, n, rfl, _, _, h0, h1, h2⟩ := Go.Joins.open_agg3 Tryd.underlying25 (by kernel_rfl) (by kernel_rfl) hv h
  obtain ⟨A, a, E, hA, mE, rE⟩ := in_figs Tryd.underlying22 Tryd.underlying59 (by kernel_rfl) (by kernel_rfl) (by kernel_rfl) (by kernel_rfl) h0
  obtain ⟨B, b, F, hB, mF, rF⟩ := in_ints Tryd.underlying23 Tryd.underlying3 (by kernel_rfl) h1
  obtain ⟨C, c, L, hC, mL, rL⟩ := in_ints Tryd.underlying23 Tryd.underlying3 (by kernel_rfl) h2
  cases hA; cases hB; cases hC
  exact ⟨A, a, B, b, C, c, E, F, L, rfl, mE, mF, mL, rE, rF, rL⟩
end
end Go.Proofs.YthidcmffnpnjjaaDoor
