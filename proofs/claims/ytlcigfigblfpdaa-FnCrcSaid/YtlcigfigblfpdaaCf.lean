/- A text drawn of a code. -/
import Derived.Test.YtlcigfigblfpdaaCe
import Derived.Test.YtlcigfigblfpdaaMM
import Derived.Test.YtlcigfigblfpdaaTu
namespace Go.Proofs.Ytlcigfigblfpdaa
open Go.ChangeShapes Go.WideShapes Go.ChangeAt Go.RowKit
set_option linter.unusedVariables false
set_option linter.unusedSimpArgs false

set_option maxRecDepth 100000 in
set_option maxHeartbeats 2000000 in
theorem ofRun {w : World} {R B : Nat} {A : Option Addr} {n c : Nat} {p : Int} {L0 L1 L2 L3 : ByteArray} (h : Reader w R A n c p) (hp : p ≤ 90000) (hB : w.heap[B]? = some (.cells #[.string L0, .string L1, .string L2, .string L3] 9)) (hR : B ≠ R) :
    Calls Try.prog 9 #[.pointer (some ⟨R, 0, none⟩), .slice (some ⟨B, 0, none⟩) 4 4] w fun e w' => ∃ s : ByteArray, (s = L0 ∨ s = L1 ∨ s = L2 ∨ s = L3) ∧ e = .returned (.string s) ∧ w.grownBy w' (some R) := by
  have RD := Lib.hid h
  have lB : B < w.heap.size := by
    rcases Nat.lt_or_ge B w.heap.size with h1 | h1
    · exact h1
    · rw [Array.getElem?_eq_none h1] at hB; cases hB
  have HB := Lib.hid hB
  clear h hB
  go_enter Try.func9, Try.ntmps9
  go_wp2_with (fail)
  refine (pickR 4 RD.out (by omega) (by omega) (by omega)).mono ?_
  rintro e w1 ⟨v, v0, v1, rfl, q, q0, q1, r1, hg⟩
  have hB1 : w1.heap[B]? = some (.cells #[.string L0, .string L1, .string L2, .string L3] 9) := (hg.block B lB (fun e => hR (by injection e))).trans HB.out
  obtain ⟨i, rfl⟩ := Int.eq_ofNat_of_zero_le v0
  have i4 : i < 4 := by omega
  have HG := Lib.hid hg
  obtain ⟨s, hs, hc⟩ : ∃ s : ByteArray, (s = L0 ∨ s = L1 ∨ s = L2 ∨ s = L3) ∧ w1.cell? ⟨B, i, none⟩ = some (.string s) := by
    have hx := cell_of_row w1 B i _ 9 (0, 0) hB1
    match i, i4 with
    | 0, _ => exact ⟨L0, .inl rfl, hx⟩
    | 1, _ => exact ⟨L1, .inr (.inl rfl), hx⟩
    | 2, _ => exact ⟨L2, .inr (.inr (.inl rfl)), hx⟩
    | 3, _ => exact ⟨L3, .inr (.inr (.inr rfl)), hx⟩
  clear hB1 hg r1
  go_wp2
  go_light
  go_ret
  exact ⟨s, hs, rfl, HG.out⟩

set_option maxRecDepth 100000 in
set_option maxHeartbeats 2000000 in
theorem drawCrc {w : World} {A : Option Addr} {n c : Nat} (hn : n ≤ 1048576) (hc : n ≤ c) (hb : InB w A n) :
    Calls Try.prog 5 #[.slice A n c] w fun e w' => ∃ s : ByteArray, s.size ≤ 1000 ∧ e = .returned (.string s) ∧ Below w.heap.size w w' := by
  have HB := Lib.hid hb
  clear hb
  go_enter Try.func5, Try.ntmps5
  go_wp2_with (fail)
  refine (l20Open hn hc HB.out).mono ?_
  rintro e w1 ⟨m, rfl, hr, hb⟩
  have RD := Lib.hid hr
  have ZB := Lib.hid hb
  have l1 : w.heap.size < w1.heap.size := hr.lt
  clear hr hb
  go_wp2_with (fail)
  refine (l20Req RD.out (by omega)).mono ?_
  rintro e w2 ⟨a, b, o, x, y, rfl, q, q0, q1, hr, hg⟩
  have RD := Lib.hid hr
  have ZB := Lib.hid (Below.trans ZB.out (Below.of_grown hg (Nat.le_of_lt l1) (fun k e => by injection e with e; omega)))
  have hsz : w1.heap.size ≤ w2.heap.size := hg.size
  clear hr hg
  go_wp2_with (fail)
  refine (specReqPut ⟨a, b, o, x, y⟩ _).mono ?_
  rintro e w3 ⟨rfl, hb⟩
  have RD := Lib.hid (RD.out.below hb)
  have ZB := Lib.hid (Below.and ZB.out hb)
  have hl := putT_len ⟨a, b, o, x, y⟩
  obtain ⟨l, hl2⟩ : ∃ l, l = putT ⟨a, b, o, x, y⟩ := ⟨_, rfl⟩
  rw [← hl2] at hl ⊢
  have HL := Lib.hid hl
  have hs3 : w.heap.size < w3.heap.size := by have := hb.size; omega
  clear hb hl hl2
  have hba : Below w3.heap.size w3 (w3.alloc (.cells #[.string ⟨#[]⟩, .string ⟨#[49, 50, 51, 52, 53, 54, 55, 56, 57]⟩, .string ⟨#[97]⟩, .string ⟨l.toArray⟩] 9)) := (Below.refl _ _).alloc (Nat.le_refl _) _
  have RD := Lib.hid (RD.out.below hba)
  have ZB := Lib.hid (Below.and ZB.out hba)
  have HS := Lib.hid (Nat.le_of_lt hs3)
  have HN := Lib.hid (show w3.heap.size ≠ w.heap.size by omega)
  have HQ := Lib.hid (show q ≤ 90000 by omega)
  have h3 : Hid (w.heap.size ≤ (w3.alloc (.cells #[.string ⟨#[]⟩, .string ⟨#[49, 50, 51, 52, 53, 54, 55, 56, 57]⟩, .string ⟨#[97]⟩, .string ⟨l.toArray⟩] 9)).heap.size) := by show _ ≤ _; simp; omega
  clear hba
  go_wp2_with (fail)
  refine (ofRun RD.out HQ.out (heap_alloc_new w3 _) HN.out).mono ?_
  rintro e w4 ⟨s, hs, rfl, hg⟩
  have ZB := Lib.hid (Below.trans ZB.out (Below.of_grown hg h3.out (fun k e => by injection e with e; omega)))
  have h1 : Hid (s.size ≤ 1000) := by
    rcases hs with rfl | rfl | rfl | rfl
    · show _ ≤ _; decide
    · show _ ≤ _; decide
    · show _ ≤ _; decide
    · have := HL.out; show l.toArray.size ≤ 1000; simpa using this
  clear hs hg
  go_wp2
  go_light
  go_ret
  exact ⟨s, h1.out, rfl, ZB.out⟩

end Go.Proofs.Ytlcigfigblfpdaa
