/- The exact laws of dice, walked. -/
import Derived.Test.YtkhneligclhgaaaFg
import Derived.Test.YtkhneligclhgaaaMC
import Derived.Carry
import Derived.ChangeSlices
import Derived.OpenShut
namespace Go.Proofs.Ytkhneligclhgaaa
open Go.ChangeShapes Go.WideShapes Go.ChangeAt Go.RowKit
set_option linter.unusedVariables false
set_option linter.unusedSimpArgs false

section
variable {w : World} {base : Nat} {spare : Nat → Bool} {held : Bool} {H : Type} {enc : TypeId × Value → H}
theorem ints_inD {t e : TypeId} {r : Reach} {b0 : Nat} {v : Value} {d : DataW H} {p : List MemPlace} (ht : Try.prog.underlying t = some (.slice e)) (he : Try.prog.underlying e = some (.int .i64)) (hc : Try.prog.cellsOf e = 1)
    (hv : Value.okWide Try.prog w r b0 t v) (h : DataW.Trod enc Try.prog w base spare held t v d p) : ∃ (A : Option Addr) (c : Nat) (l : List Int), v = .slice A l.length c ∧ l.length ≤ maxLen ∧ InI w A l := by
  obtain ⟨a0, len, cap, rfl⟩ := okWide_slice ht hv
  obtain ⟨fuel, hf⟩ := h
  rcases open_ints ht he hc hf with ⟨h0, _⟩ | ⟨a, len', cap', zs, h0, _, hl, hm, hz, _, hcell, hwf⟩
  · simp only [Value.cells, List.cons.injEq, and_true, Value.slice.injEq] at h0
    obtain ⟨rfl, rfl, rfl⟩ := h0
    exact ⟨none, 0, [], rfl, Nat.zero_le _, fun i hi => absurd hi (by simp)⟩
  · simp only [Value.cells, List.cons.injEq, and_true, Value.slice.injEq] at h0
    obtain ⟨rfl, rfl, rfl⟩ := h0
    have hzl : len ≤ zs.length := by rw [hz]; split <;> omega
    refine ⟨some a, cap, zs.take len, by rw [List.length_take, Nat.min_eq_left hzl], by rw [List.length_take, Nat.min_eq_left hzl]; omega, fun i hi => ?_⟩
    rw [List.length_take, Nat.min_eq_left hzl] at hi
    have h0 := hcell 0 (by omega)
    rw [show a.add 0 = a from by simp [Addr.add]] at h0
    have ha := addr_of h0
    refine ⟨a.block, a.off, by rw [← ha], ?_⟩
    have hi' := hcell i (by omega)
    rw [ha, add_eq] at hi'
    rw [hi', List.getElem_take]
    simp [List.getD_eq_getElem?_getD, List.getElem?_eq_getElem (show i < zs.length by omega)]
end
theorem InI.belD {w w' : World} {A : Option Addr} {l : List Int} (h : InI w A l) (hb : Below w.heap.size w w') : InI w' A l := fun i hi => by
  obtain ⟨g, o, e, hc⟩ := h i hi
  exact ⟨g, o, e, cell_kept hb hc⟩
structure OwJ (w : World) (lo hi : Nat) (A : Option Addr) (a : Nat) (D : List Int) : Prop where
  own : OwD w lo A a D
  ub : ∀ k, (Value.slice A D.length a).ownBlock = some k → k < hi
theorem OwJ.bk {w : World} {lo hi : Nat} {A : Option Addr} {a : Nat} {D : List Int} (h : OwJ w lo hi A a D) : ∀ k, (Value.slice A D.length a).ownBlock = some k → lo ≤ k ∧ k < hi := fun k hk => ⟨(h.own.ge k hk).1, h.ub k hk⟩
theorem OwD.bd {w : World} {lo : Nat} {A : Option Addr} {a : Nat} {D : List Int} (h : OwD w lo A a D) : OwJ w lo w.heap.size A a D := ⟨h, fun k hk => (h.ge k hk).2⟩
theorem OwJ.below {w w' : World} {lo hi : Nat} {A : Option Addr} {a : Nat} {D : List Int} (h : OwJ w lo hi A a D) (hb : Below w.heap.size w w') : OwJ w' lo hi A a D := ⟨h.own.below hb, h.ub⟩
theorem OwJ.rdI {w : World} {lo hi : Nat} {A : Option Addr} {a : Nat} {D : List Int} (h : OwJ w lo hi A a D) : RdI w A D := h.own.rdI
theorem OwJ.grown {w w' : World} {lo hi : Nat} {A : Option Addr} {a : Nat} {D : List Int} {row : Option Nat} (h : OwJ w lo hi A a D) (hg : w.grownBy w' row) (hr : ∀ k, row = some k → k < lo ∨ hi ≤ k) : OwJ w' lo hi A a D := by
  refine ⟨own_same (show w.ownsRow _ _ _ _ _ _ from h.own) (fun k hk => hg.block k (h.own.ge k hk).2 (fun e => ?_)), h.ub⟩
  have h1 := h.bk k hk
  rcases hr k e.symm with h2 | h2 <;> omega
theorem bel_drewN {w w' : World} (h : ∃ m, w' = w.drewN m) : Below w.heap.size w w' := by
  obtain ⟨m, rfl⟩ := h
  exact Below.drewN (Below.refl _ _) m
theorem marks_rd {w : World} {base n c : Nat} {A : Option Addr} (h : w.ownsRow base 3 1 (.slice A n c) n (ints (marks 1 n))) : RdI w A (marks 1 n) := RdI.of_own h
theorem implShuf (A : Option Addr) (a : Nat) (L : List Int) (s : Int) (w : World) (hl : L.length ≤ 1048576) (hA : A = none → a = 0) (hr : RdI w A L) : Calls Try.prog 23 #[.slice A L.length a, .int .i64 s] w (DoS (shufI L s) w) := by
  rcases h : shB L s with _ | _
  · rw [shufI_no h]
    exact implShufNo A a L s w hl h
  · obtain ⟨n, rfl, _, _⟩ := shB_nat h
    exact implShufYes A a L n w hA hr h
theorem specShuf (A : Option Addr) (a : Nat) (L : List Int) (s : Int) (w : World) (hl : L.length ≤ 1048576) (hA : A = none → a = 0) (hr : RdI w A L) : Calls Try.prog 25 #[.slice A L.length a, .int .i64 s] w (DoS (shufI L s) w) := by
  rcases h : shB L s with _ | _
  · rw [shufI_no h]
    exact specShufNo A a L s w hl h
  · obtain ⟨n, rfl, _, _⟩ := shB_nat h
    exact specShufYes A a L n w hA hr h
theorem implBack (A : Option Addr) (a : Nat) (L : List Int) (s : Int) (w : World) (hl : L.length ≤ 1048576) (hA : A = none → a = 0) (hr : RdI w A L) : Calls Try.prog 26 #[.slice A L.length a, .int .i64 s] w (DoS (backI L s) w) := by
  rcases h : shB L s with _ | _
  · rw [backI_no h]
    exact implBackNo A a L s w hl h
  · obtain ⟨n, rfl, _, _⟩ := shB_nat h
    exact implBackYes A a L n w hA hr h
theorem specBack (A : Option Addr) (a : Nat) (L : List Int) (s : Int) (w : World) (hl : L.length ≤ 1048576) (hA : A = none → a = 0) (hr : RdI w A L) : Calls Try.prog 28 #[.slice A L.length a, .int .i64 s] w (DoS (backI L s) w) := by
  rcases h : shB L s with _ | _
  · rw [backI_no h]
    exact specBackNo A a L s w hl h
  · obtain ⟨n, rfl, _, _⟩ := shB_nat h
    exact specBackYes A a L n w hA hr h
set_option maxRecDepth 100000 in
set_option maxHeartbeats 2000000 in
theorem exactDiceNext (s : Int) (w : World) :
    Calls Try.prog 8 #[.int .i64 s] w fun e w' => e = .returned (.bool true) ∧ Below w.heap.size w w' := by
  obtain ⟨x, hx⟩ : ∃ x, dNxI s = x := ⟨_, rfl⟩
  have hb : (x != x) = false := by simp
  have HX := Lib.hid hx
  go_enter Try.func8, Try.ntmps8
  go_wp2_with (first | (go_at_call 15; refine (specNext _ _).mono ?_; rintro e w' ⟨rfl, rfl⟩; rw [HX.out]) | (go_at_call 14; refine (implNext _ _).mono ?_; rintro e w' ⟨rfl, rfl⟩; rw [HX.out]))
  go_light
  go_ret
  exact ⟨rfl, Below.refl _ _⟩

set_option maxRecDepth 100000 in
set_option maxHeartbeats 2000000 in
theorem exactDiceRoll (s k : Int) (w : World) :
    Calls Try.prog 9 #[.int .i64 s, .int .i64 k] w fun e w' => e = .returned (.bool true) ∧ Below w.heap.size w w' := by
  obtain ⟨⟨x, y⟩, hx⟩ : ∃ x, dRl s k = x := ⟨_, rfl⟩
  have hb : (x != x) = false := by simp
  have hb2 : (y != y) = false := by simp
  have HX := Lib.hid hx
  go_enter Try.func9, Try.ntmps9
  go_wp2_with (first | (go_at_call 18; refine (specRoll _ _ _).mono ?_; rintro e w' ⟨rfl, rfl⟩; rw [HX.out]) | (go_at_call 17; refine (implRoll _ _ _).mono ?_; rintro e w' ⟨rfl, rfl⟩; rw [HX.out]))
  go_light
  go_ret
  exact ⟨rfl, Below.refl _ _⟩

end Go.Proofs.Ytkhneligclhgaaa
