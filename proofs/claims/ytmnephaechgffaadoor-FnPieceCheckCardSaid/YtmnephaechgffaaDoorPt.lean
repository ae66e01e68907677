/- The exact law of PieceCheck, walked; five parameters opened. -/
import Derived.Test.YtmnephaechgffaaDoorZR
import Derived.Test.YtmnephaechgffaaDoorZT
import Derived.Test.YtmnephaechgffaaDoorTj
import Derived.Test.YtmnephaechgffaaDoorTk
import Derived.Carry
import Derived.ChangeSlices
import Derived.OpenShut
namespace Go.Proofs.YtmnephaechgffaaDoor
open Go.ChangeShapes Go.WideShapes Go.ChangeAt Go.RowKit
set_option linter.unusedVariables false
set_option linter.unusedSimpArgs false

section
variable {w : World} {base : Nat} {spare : Nat → Bool} {held : Bool} {H : Type} {enc : TypeId × Value → H}
theorem in_ints64 {t e : TypeId} {fuel : Nat} {cs : List Value} {x : DataW H × List MemPlace} (ht : Tryd.prog.underlying t = some (.slice e)) (he : Tryd.prog.underlying e = some (.int .i64)) (hc : Tryd.prog.cellsOf e = 1)
    (h : DataW.trod enc Tryd.prog w base spare held fuel t cs = some x) : ∃ (A : Option Addr) (c : Nat) (l : List Int), cs = [.slice A l.length c] ∧ l.length ≤ maxLen ∧ InI w A l ∧ ∀ y ∈ l, I64 y := by
  rcases open_ints ht he hc h with ⟨rfl, _⟩ | ⟨a, len, cap, zs, rfl, _, hl, hm, hz, _, hcell, hwf⟩
  · exact ⟨none, 0, [], rfl, Nat.zero_le _, fun i hi => absurd hi (by simp), fun y hy => by cases hy⟩
  · have hzl : len ≤ zs.length := by rw [hz]; split <;> omega
    refine ⟨some a, cap, zs.take len, by rw [List.length_take, Nat.min_eq_left hzl], by rw [List.length_take, Nat.min_eq_left hzl]; omega, fun i hi => ?_, fun y hy => ?_⟩
    · rw [List.length_take, Nat.min_eq_left hzl] at hi
      have h0 := hcell 0 (by omega)
      rw [show a.add 0 = a from by simp [Addr.add]] at h0
      have ha := addr_of h0
      refine ⟨a.block, a.off, by rw [← ha], ?_⟩
      have hi' := hcell i (by omega)
      rw [ha, add_eq] at hi'
      rw [hi', List.getElem_take]
      simp [List.getD_eq_getElem?_getD, List.getElem?_eq_getElem (show i < zs.length by omega)]
    · have := hwf y (List.mem_of_mem_take hy)
      simp only [Lit.wf, IntKind.i64, Bool.and_eq_true, decide_eq_true_eq] at this
      have e1 : IntKind.i64.min = -9223372036854775808 := by decide
      have e2 : IntKind.i64.max = 9223372036854775807 := by decide
      rw [e1, e2] at this
      exact ⟨by omega, by omega⟩
set_option maxRecDepth 100000 in
theorem ints64_in {t e : TypeId} {r : Reach} {b0 : Nat} {v : Value} {d : DataW H} {p : List MemPlace} (ht : Tryd.prog.underlying t = some (.slice e)) (he : Tryd.prog.underlying e = some (.int .i64)) (hc : Tryd.prog.cellsOf e = 1)
    (hv : Value.okWide Tryd.prog w r b0 t v) (h : DataW.Trod enc Tryd.prog w base spare held t v d p) : ∃ (A : Option Addr) (c : Nat) (l : List Int), v = .slice A l.length c ∧ l.length ≤ maxLen ∧ InI w A l ∧ ∀ y ∈ l, I64 y := by
  obtain ⟨a0, len, cap, rfl⟩ := okWide_slice ht hv
  obtain ⟨fuel, hf⟩ := h
  obtain ⟨A, c, l, hcs, h1, h2, h3⟩ := in_ints64 ht he hc hf
  simp only [Value.cells, List.cons.injEq] at hcs
  exact ⟨A, c, l, hcs.1, h1, h2, h3⟩
theorem trodAll_five {P : Program} {t t' t'' t3 t4 : TypeId} {args : Array Value} {ds : List (DataW H)} {ps : List MemPlace} (h : DataW.TrodAll enc P w base spare held [t, t', t'', t3, t4] args.toList ds ps) :
    ∃ v v' v'' v3 v4 d d' d'' d3 d4 p p' p'' p3 p4, args = #[v, v', v'', v3, v4] ∧ ds = [d, d', d'', d3, d4] ∧ ps = p ++ p' ++ p'' ++ p3 ++ p4 ∧ DataW.Trod enc P w base spare held t v d p ∧ DataW.Trod enc P w base spare held t' v' d' p' ∧ DataW.Trod enc P w base spare held t'' v'' d'' p'' ∧ DataW.Trod enc P w base spare held t3 v3 d3 p3 ∧ DataW.Trod enc P w base spare held t4 v4 d4 p4 := by
  obtain ⟨v, vs, d, ds', p, q, hargs, rfl, rfl, hd, hrest⟩ := trodAll_cons h
  obtain ⟨v', vs', d', ds'', p', q', rfl, rfl, rfl, hd', hrest'⟩ := trodAll_cons hrest
  obtain ⟨v'', vs'', d'', ds''', p'', q'', rfl, rfl, rfl, hd'', hrest''⟩ := trodAll_cons hrest'
  obtain ⟨v3, vs3, d3, ds3, p3, q3, rfl, rfl, rfl, hd3, hrest3⟩ := trodAll_cons hrest''
  obtain ⟨v4, vs4, d4, ds4, p4, q4, rfl, rfl, rfl, hd4, hrest4⟩ := trodAll_cons hrest3
  obtain ⟨rfl, rfl, rfl⟩ := trodAll_nil hrest4
  exact ⟨v, v', v'', v3, v4, d, d', d'', d3, d4, p, p', p'', p3, p4, by cases args; simp_all, rfl, by simp, hd, hd', hd'', hd3, hd4⟩
end

theorem RdI.inI' {w : World} {A : Option Addr} {l : List Int} (h : RdI w A l) : InI w A l := fun i hi => by
  obtain ⟨g, e, hc⟩ := h i hi
  exact ⟨g, 0, e, by rw [Nat.zero_add]; exact hc⟩
theorem InI.bel {w w' : World} {A : Option Addr} {l : List Int} (h : InI w A l) (hb : Below w.heap.size w w') : InI w' A l := fun i hi => by
  obtain ⟨g, o, e, hc⟩ := h i hi
  exact ⟨g, o, e, cell_kept hb hc⟩

set_option maxRecDepth 100000 in
set_option maxHeartbeats 4000000 in
theorem exactPieceCheck (root m0 a0 : Int) (s : ByteArray) (A : Option Addr) (c : Nat) (P : List Int) (w : World) (hr : InI w A P) (hi : ∀ x ∈ P, I64 x) (ht : Tab w) :
    Calls Tryd.prog 3 #[.int .i64 root, .int .i64 m0, .int .i64 a0, .string s, .slice A P.length c] w fun e w' => e = .returned (.bool true) ∧ Below w.heap.size w w' := by
  have HR := Lib.hid hr
  have HI := Lib.hid hi
  have HT := Lib.hid ht
  clear hr hi ht
  by_cases hs : ¬ s.size ≤ 1048576
  · have i1 : (1048576 : Int) < (s.size : Int) := by omega
    clear hs
    go_enter Tryd.func3, Tryd.ntmps3
    go_wp2
    go_light
    go_ret
    exact ⟨rfl, Below.refl _ _⟩
  have i1 : ¬ (1048576 : Int) < (s.size : Int) := by omega
  have hs : s.size ≤ 1048576 := by omega
  have HS := Lib.hid hs
  clear hs
  obtain ⟨pl, hpl⟩ : ∃ n, n = P.length := ⟨_, rfl⟩
  have HPL := Lib.hid hpl
  rw [← hpl]
  by_cases hl : ¬ pl ≤ 1048576
  · have i2 : (1048576 : Int) < (pl : Int) := by omega
    clear hl hpl
    go_enter Tryd.func3, Tryd.ntmps3
    go_wp2
    go_light
    go_ret
    exact ⟨rfl, Below.refl _ _⟩
  have i2 : ¬ (1048576 : Int) < (pl : Int) := by omega
  have hl : P.length ≤ 1048576 := by omega
  have HL := Lib.hid hl
  clear hl hpl
  obtain ⟨cb, hcb⟩ : ∃ x, x = checkB root m0 a0 s P := ⟨_, rfl⟩
  have HCB := Lib.hid hcb
  clear hcb
  go_enter Tryd.func3, Tryd.ntmps3
  go_wp2_with (fail)
  rw [HPL.out]
  refine (toIntS A c P _ HL.out HR.out).mono ?_
  rintro e w1 ⟨g1, rfl, hg1, o1, h1⟩
  have R1 := Lib.hid (RdI.inI' (RdI.of_own o1))
  have Z1 := Lib.hid h1
  rw [← HPL.out]
  clear hg1 o1 h1
  go_wp2_with (fail)
  rw [HPL.out]
  refine (specPieceCheck root m0 a0 s _ P.length P _ HS.out HL.out R1.out HI.out).mono ?_
  rintro e w2 ⟨rfl, h2⟩
  rw [← HCB.out, ← HPL.out]
  have Z2 := Lib.hid (Below.and Z1.out h2)
  clear h2 R1 Z1
  go_wp2_with (fail)
  rw [HPL.out]
  refine (toIntS A c P _ HL.out (InI.bel HR.out Z2.out)).mono ?_
  rintro e w3 ⟨g3, rfl, hg3, o3, h3⟩
  have R3 := Lib.hid (RdI.of_own o3)
  have Z3 := Lib.hid (Below.and Z2.out h3)
  rw [← HPL.out]
  clear hg3 o3 h3 Z2
  go_wp2_with (fail)
  rw [HPL.out]
  refine (implPieceCheck root m0 a0 s _ P.length P _ HS.out HL.out (Nat.le_refl _) (RdI.inI' R3.out) HI.out (Tab.below HT.out Z3.out)).mono ?_
  rintro e w4 ⟨rfl, h4⟩
  rw [← HCB.out, ← HPL.out]
  have R4 := Lib.hid (RdI.below R3.out h4)
  have Z4 := Lib.hid (Below.and Z3.out h4)
  have bb : (cb != cb) = false := by simp
  clear h4 R3 Z3
  go_wp2_with (fail)
  rw [HPL.out]
  refine (toIntS A c P _ HL.out (InI.bel HR.out Z4.out)).mono ?_
  rintro e w5 ⟨g5, rfl, hg5, o5, h5⟩
  have R5 := Lib.hid (RdI.of_own o5)
  have R4 := Lib.hid (RdI.below R4.out h5)
  have Z5 := Lib.hid (Below.and Z4.out h5)
  rw [← HPL.out]
  clear hg5 o5 h5 Z4
  go_wp2_with (fail)
  rw [HPL.out]
  refine (eqIntS _ _ _ _ P P _ (by have := HL.out; unfold maxLen; omega) (by have := HL.out; unfold maxLen; omega) R4.out R5.out).mono ?_
  rintro e w6 ⟨rfl, k, rfl⟩
  have hd : decide (P = P) = true := by simp
  rw [hd]
  have Z6 := Lib.hid (Below.drewN Z5.out k)
  clear R4 R5 Z5 hd
  go_wp2
  go_light
  go_ret
  exact ⟨rfl, Z6.out⟩
end Go.Proofs.YtmnephaechgffaaDoor
