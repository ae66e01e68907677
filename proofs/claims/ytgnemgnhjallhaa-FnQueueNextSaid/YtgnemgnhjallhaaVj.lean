/- Things with times that came in; the exact law of QueueOk, walked. -/
import Derived.Test.YtgnemgnhjallhaaVi
import Derived.Test.YtgnemgnhjallhaaHc
namespace Go.Proofs.Ytgnemgnhjallhaa
open Go.ChangeShapes Go.WideShapes Go.ChangeAt Go.RowKit
set_option linter.unusedVariables false
set_option linter.unusedSimpArgs false

theorem three_of (l : List Value) (h : l.length = 3) : ∃ a b c, l = [a, b, c] := by
  match l, h with
  | [a, b, c], _ => exact ⟨a, b, c, rfl⟩
theorem threeI_of (l : List Int) (h : l.length = 3) : ∃ a b c, l = [a, b, c] := by
  match l, h with
  | [a, b, c], _ => exact ⟨a, b, c, rfl⟩
section
variable {H : Type} {enc : TypeId × Value → H} {w : World} {base : Nat} {spare : Nat → Bool} {held : Bool}
set_option maxRecDepth 100000 in
theorem cells_timedV {n : Nat} {cl : List Value} {y : DataW H × List MemPlace} (hl : cl.length = 3) (h : DataW.trod enc Try.prog w base spare held n 46 cl = some y) : ∃ r : Tm, cl = r.cells := by
  obtain ⟨l, rfl⟩ := ints_of_cells Try.underlying46 (by kernel_rfl) (by rw [hl]; kernel_rfl) (by kernel_rfl) h
  obtain ⟨a, b, c, rfl⟩ := threeI_of l (by simpa using hl)
  exact ⟨⟨a, b, c⟩, rfl⟩
set_option maxRecDepth 100000 in
theorem in_timedsG {fuel : Nat} {cs : List Value} {x : DataW H × List MemPlace} (h : DataW.trod enc Try.prog w base spare held fuel 42 cs = some x) :
    ∃ (A : Option Addr) (c : Nat) (l : List Tm), cs = [.slice A l.length c] ∧ l.length ≤ maxLen ∧ Rd 3 Tm.cells w A l := by
  obtain ⟨A, c, l, h1, h2, h3, h4, _⟩ := in_rowsH (f := Tm.cells) (Q := fun _ => True) (k := 3) Try.underlying42 (by kernel_rfl) (by omega) (fun _ => rfl) (fun n cl y hl h => by
    obtain ⟨r, hr⟩ := cells_timedV hl h
    exact ⟨r, hr, trivial⟩) h
  exact ⟨A, c, l, h1, h2, h4⟩
set_option maxRecDepth 100000 in
theorem in_timeds {r : Reach} {b0 : Nat} {v : Value} {d : DataW H} {p : List MemPlace} (hv : Value.okWide Try.prog w r b0 42 v) (h : DataW.Trod enc Try.prog w base spare held 42 v d p) :
    ∃ (A : Option Addr) (c : Nat) (l : List Tm), v = .slice A l.length c ∧ l.length ≤ maxLen ∧ Rd 3 Tm.cells w A l := by
  obtain ⟨fuel, hf⟩ := h
  obtain ⟨A, c, l, h1, h2, h4⟩ := in_timedsG hf
  obtain ⟨A0, c0, n0, rfl⟩ := okWide_slice Try.underlying42 hv
  have h1' : [Value.slice A0 c0 n0] = [.slice A l.length c] := h1
  injection h1' with h1' _
  exact ⟨A, c, l, h1', h2, h4⟩
set_option maxRecDepth 100000 in
theorem in_timed {r : Reach} {b0 : Nat} {v : Value} {d : DataW H} {p : List MemPlace} (hv : Value.okWide Try.prog w r b0 46 v) (h : DataW.Trod enc Try.prog w base spare held 46 v d p) : ∃ r : Tm, v = r.val := by
  obtain ⟨cs, rfl, hsz⟩ := okWide_struct Try.underlying46 hv
  obtain ⟨cl⟩ := cs
  obtain ⟨fuel, hf⟩ := h
  have h3 : Try.prog.cellsOf 46 = 3 := by kernel_rfl
  rw [h3] at hsz
  have hl : cl.length = 3 := by simpa using hsz
  obtain ⟨r, rfl⟩ := cells_timedV hl (show DataW.trod enc Try.prog w base spare held fuel 46 cl = some _ from hf)
  exact ⟨r, rfl⟩
end

theorem specQueueOk (A : Option Addr) (a : Nat) (L : List Tm) (w : World) (hl : L.length ≤ 2097152) (hr : Rd 3 Tm.cells w A L) :
    Calls Try.prog 17 #[.slice A L.length a] w fun e w' => e = .returned (.bool (okQ L)) ∧ Below w.heap.size w w' := by
  have K := Lib.hid (l13Ok A a L w hl hr)
  clear hr
  go_enter Try.func17, Try.ntmps17
  go_wp2_with (fail)
  refine K.out.mono ?_
  rintro e w1 ⟨rfl, hb⟩
  go_wp2
  go_light
  go_ret
  exact ⟨rfl, hb⟩

theorem eqTimedS_rd (A B : Option Addr) (c d : Nat) (L : List Tm) (w : World) (hL : L.length ≤ 2097152) (ha : Rd 3 Tm.cells w A L) (hb : Rd 3 Tm.cells w B L) :
    Calls Try.prog 30 #[.slice A L.length c, .slice B L.length d] w fun e w' => e = .returned (.bool true) ∧ Below w.heap.size w w' := by
  refine (eqTimedS A B c d L L w (by unfold maxLen; omega) ha hb).mono ?_
  rintro e w' ⟨rfl, h⟩
  exact ⟨by simp, h⟩
theorem szTimedS_at (A : Option Addr) (n c : Nat) (w : World) (hn : n ≤ maxLen) :
    Calls Try.prog 28 #[.slice A n c, .int .i64 1048576] w fun e w' => e = .returned (.int .i64 (if (1048576 : Int) - n < 0 then -1 else 1048576 - n)) ∧ w = w' := szTimedS A n c 1048576 w hn (by omega) (by omega)

set_option maxRecDepth 100000 in
set_option maxHeartbeats 2000000 in
theorem exactQueueOk (A : Option Addr) (a : Nat) (L : List Tm) (w : World) (mL : L.length ≤ maxLen) (rL : Rd 3 Tm.cells w A L) :
    Calls Try.prog 7 #[.slice A L.length a] w fun e w' => e = .returned (.bool true) ∧ Below w.heap.size w w' := by
  have HL := Lib.hid rL
  clear rL
  go_enter Try.func7, Try.ntmps7
  go_wp2_with (fail)
  refine (szTimedS_at A L.length a _ mL).mono ?_
  rintro e w1 ⟨rfl, rfl⟩
  by_cases hs : (1048576 : Int) - L.length < 0
  · rw [if_pos hs]
    go_wp2
    go_light
    go_ret
    exact ⟨rfl, Below.refl _ _⟩
  rw [if_neg hs]
  have hL : L.length ≤ 1048576 := by omega
  have e0 : decide ((1048576 : Int) - (L.length : Int) < 0) = false := by simp; omega
  obtain ⟨b, hb⟩ : ∃ b, okQ L = b := ⟨_, rfl⟩
  have HQ := Lib.hid hb
  have nx : (b != b) = false := by simp
  clear mL hs hb
  go_wp2_with (fail)
  refine (toTimedS A a L _ hL HL.out).mono ?_
  rintro e w2 ⟨g, rfl, hg, o1, hb⟩
  clear hg
  have O1 := Lib.hid (show OwT w2 w.heap.size (some ⟨g, 0, none⟩) L.length L from o1)
  have Z := Lib.hid hb
  clear o1 hb
  go_wp2_with (fail)
  refine (specQueueOk _ _ L _ (by omega) O1.out.rd).mono ?_
  rw [HQ.out]
  rintro e w3 ⟨rfl, hb⟩
  replace Z := Lib.hid (Below.and Z.out hb)
  clear hb O1
  go_wp2_with (fail)
  refine (toTimedS A a L _ hL (Rd.below HL.out Z.out)).mono ?_
  rintro e w4 ⟨g2, rfl, hg, o1, hb⟩
  clear hg
  have O2 := Lib.hid (show OwT w4 w3.heap.size (some ⟨g2, 0, none⟩) L.length L from o1)
  replace Z := Lib.hid (Below.and Z.out hb)
  clear o1 hb
  go_wp2_with (fail)
  refine (implQueueOk _ _ L _ (by omega) O2.out.rdT).mono ?_
  rw [HQ.out]
  rintro e w5 ⟨rfl, hb⟩
  replace O2 := Lib.hid (O2.out.below hb)
  replace Z := Lib.hid (Below.and Z.out hb)
  clear hb
  go_wp2_with (fail)
  refine (toTimedS A a L _ hL (Rd.below HL.out Z.out)).mono ?_
  rintro e w6 ⟨g3, rfl, hg, o1, hb⟩
  clear hg
  have O3 := Lib.hid (show OwT w6 w5.heap.size (some ⟨g3, 0, none⟩) L.length L from o1)
  replace O2 := Lib.hid (O2.out.below hb)
  replace Z := Lib.hid (Below.and Z.out hb)
  clear o1 hb
  go_wp2_with (fail)
  refine (eqTimedS_rd _ _ _ _ L _ (by omega) O2.out.rd O3.out.rd).mono ?_
  rintro e w7 ⟨rfl, hb⟩
  replace Z := Lib.hid (Below.and Z.out hb)
  clear hb
  go_wp2
  go_light
  go_ret
  exact ⟨rfl, Z.out⟩

end Go.Proofs.Ytgnemgnhjallhaa
