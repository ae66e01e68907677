/- Checksums that came in; the exact laws of CheckOk, CheckStable, CheckCut, walked. -/
import Derived.Test.YtgbnoemoangofaaYh
import Derived.Test.YtgbnoemoangofaaHc
namespace Go.Proofs.Ytgbnoemoangofaa
open Go.ChangeShapes Go.WideShapes Go.ChangeAt Go.RowKit
set_option linter.unusedVariables false
set_option linter.unusedSimpArgs false

theorem three_ofK (l : List Value) (h : l.length = 3) : ∃ a b c, l = [a, b, c] := by
  match l, h with
  | [a, b, c], _ => exact ⟨a, b, c, rfl⟩
theorem threeI_ofK (l : List Int) (h : l.length = 3) : ∃ a b c, l = [a, b, c] := by
  match l, h with
  | [a, b, c], _ => exact ⟨a, b, c, rfl⟩
section
variable {H : Type} {enc : TypeId × Value → H} {w : World} {base : Nat} {spare : Nat → Bool} {held : Bool}
set_option maxRecDepth 100000 in
theorem cells_checkK {n : Nat} {cl : List Value} {y : DataW H × List MemPlace} (hl : cl.length = 3) (h : DataW.trod enc Try.prog w base spare held n 43 cl = some y) : ∃ r : Ck, cl = r.cells := by
  obtain ⟨l, rfl⟩ := ints_of_cells Try.underlying43 (by kernel_rfl) (by rw [hl]; kernel_rfl) (by kernel_rfl) h
  obtain ⟨a, b, c, rfl⟩ := threeI_ofK l (by simpa using hl)
  exact ⟨⟨a, b, c⟩, rfl⟩
set_option maxRecDepth 100000 in
theorem in_checksG {fuel : Nat} {cs : List Value} {x : DataW H × List MemPlace} (h : DataW.trod enc Try.prog w base spare held fuel 39 cs = some x) :
    ∃ (A : Option Addr) (c : Nat) (l : List Ck), cs = [.slice A l.length c] ∧ l.length ≤ maxLen ∧ Rd 3 Ck.cells w A l := by
  obtain ⟨A, c, l, h1, h2, h3, h4, _⟩ := in_rowsH (f := Ck.cells) (Q := fun _ => True) (k := 3) Try.underlying39 (by kernel_rfl) (by omega) (fun _ => rfl) (fun n cl y hl h => by
    obtain ⟨r, hr⟩ := cells_checkK hl h
    exact ⟨r, hr, trivial⟩) h
  exact ⟨A, c, l, h1, h2, h4⟩
set_option maxRecDepth 100000 in
theorem in_checks {r : Reach} {b0 : Nat} {v : Value} {d : DataW H} {p : List MemPlace} (hv : Value.okWide Try.prog w r b0 39 v) (h : DataW.Trod enc Try.prog w base spare held 39 v d p) :
    ∃ (A : Option Addr) (c : Nat) (l : List Ck), v = .slice A l.length c ∧ l.length ≤ maxLen ∧ Rd 3 Ck.cells w A l := by
  obtain ⟨fuel, hf⟩ := h
  obtain ⟨A, c, l, h1, h2, h4⟩ := in_checksG hf
  obtain ⟨A0, c0, n0, rfl⟩ := okWide_slice Try.underlying39 hv
  have h1' : [Value.slice A0 c0 n0] = [.slice A l.length c] := h1
  injection h1' with h1' _
  exact ⟨A, c, l, h1', h2, h4⟩
set_option maxRecDepth 100000 in
theorem in_check {r : Reach} {b0 : Nat} {v : Value} {d : DataW H} {p : List MemPlace} (hv : Value.okWide Try.prog w r b0 43 v) (h : DataW.Trod enc Try.prog w base spare held 43 v d p) : ∃ r : Ck, v = r.val := by
  obtain ⟨cs, rfl, hsz⟩ := okWide_struct Try.underlying43 hv
  obtain ⟨cl⟩ := cs
  obtain ⟨fuel, hf⟩ := h
  have h3 : Try.prog.cellsOf 43 = 3 := by kernel_rfl
  rw [h3] at hsz
  have hl : cl.length = 3 := by simpa using hsz
  obtain ⟨r, rfl⟩ := cells_checkK hl (show DataW.trod enc Try.prog w base spare held fuel 43 cl = some _ from hf)
  exact ⟨r, rfl⟩
end
theorem eqCheckS_rd (A B : Option Addr) (c d : Nat) (L : List Ck) (w : World) (hL : L.length ≤ 2097152) (ha : Rd 3 Ck.cells w A L) (hb : Rd 3 Ck.cells w B L) :
    Calls Try.prog 24 #[.slice A L.length c, .slice B L.length d] w fun e w' => e = .returned (.bool true) ∧ Below w.heap.size w w' := by
  refine (eqCheckS A B c d L L w (by unfold maxLen; omega) ha hb).mono ?_
  rintro e w' ⟨rfl, h⟩
  exact ⟨by simp, h⟩
theorem szCheckS_at (A : Option Addr) (n c : Nat) (w : World) (hn : n ≤ maxLen) :
    Calls Try.prog 22 #[.slice A n c, .int .i64 1048576] w fun e w' => e = .returned (.int .i64 (if (1048576 : Int) - n < 0 then -1 else 1048576 - n)) ∧ w = w' := szCheckS A n c 1048576 w hn (by omega) (by omega)
set_option maxRecDepth 100000 in
set_option maxHeartbeats 4000000 in
theorem exactCheckOk (A : Option Addr) (a : Nat) (L : List Ck) (w : World) (mL : L.length ≤ maxLen) (rL : Rd 3 Ck.cells w A L) :
    Calls Try.prog 6 #[.slice A L.length a] w fun e w' => e = .returned (.bool true) ∧ Below w.heap.size w w' := by
  have HL := Lib.hid rL
  have Z : Hid (Below w.heap.size w w) := Below.refl _ _
  clear rL
  go_enter Try.func6, Try.ntmps6
  go_wp2_with (fail)
  refine (szCheckS_at A L.length a _ mL).mono ?_
  rintro e w1 ⟨rfl, rfl⟩
  by_cases hs : (1048576 : Int) - L.length < 0
  · rw [if_pos hs]
    go_wp2
    go_light
    go_ret
    exact ⟨rfl, Z.out⟩
  rw [if_neg hs]
  have hL : L.length ≤ 1048576 := by omega
  have e0 : decide ((1048576 : Int) - (L.length : Int) < 0) = false := by simp; omega
  clear mL hs
  obtain ⟨b, hb⟩ : ∃ b, okC L = b := ⟨_, rfl⟩
  have HQ := Lib.hid hb
  have nx : (b != b) = false := by simp
  clear hb
  go_wp2_with (fail)
  refine (toCheckS A a L _ hL (Rd.below HL.out Z.out)).mono ?_
  rintro e w2 ⟨g1, rfl, hg, o1, hb⟩
  clear hg
  replace Z := Lib.hid (Below.and Z.out hb)
  have OA := Lib.hid (OwK.bd (show OwK w2 w.heap.size (some ⟨g1, 0, none⟩) L.length L from o1))
  have SOA := Lib.hid hb.size
  clear o1 hb
  go_wp2_with (fail)
  refine (specCheckOk _ _ L _ (by omega) OA.out.own.rd).mono ?_
  rw [HQ.out]
  rintro e w3 ⟨rfl, hb⟩
  replace Z := Lib.hid (Below.and Z.out hb)
  clear hb OA
  go_wp2_with (fail)
  refine (toCheckS A a L _ hL (Rd.below HL.out Z.out)).mono ?_
  rintro e w4 ⟨g2, rfl, hg, o1, hb⟩
  clear hg
  replace Z := Lib.hid (Below.and Z.out hb)
  have OX := Lib.hid (OwK.bd (show OwK w4 w3.heap.size (some ⟨g2, 0, none⟩) L.length L from o1))
  have SOX := Lib.hid hb.size
  clear o1 hb
  go_wp2_with (fail)
  refine (implCheckOk _ _ L _ (by omega) OX.out.own.rd).mono ?_
  rw [HQ.out]
  rintro e w5 ⟨rfl, hb⟩
  replace OX := Lib.hid (OX.out.below hb)
  replace Z := Lib.hid (Below.and Z.out hb)
  clear hb
  go_wp2_with (fail)
  refine (toCheckS A a L _ hL (Rd.below HL.out Z.out)).mono ?_
  rintro e w6 ⟨g3, rfl, hg, o1, hb⟩
  clear hg
  replace OX := Lib.hid (OX.out.below hb)
  replace Z := Lib.hid (Below.and Z.out hb)
  have OY := Lib.hid (OwK.bd (show OwK w6 w5.heap.size (some ⟨g3, 0, none⟩) L.length L from o1))
  have SOY := Lib.hid hb.size
  clear o1 hb
  go_wp2_with (fail)
  refine (eqCheckS_rd _ _ _ _ _ _ (by omega) OX.out.own.rd OY.out.own.rd).mono ?_
  rintro e w7 ⟨rfl, hb⟩
  replace OX := Lib.hid (OX.out.below hb)
  replace Z := Lib.hid (Below.and Z.out hb)
  clear hb
  go_wp2
  go_light
  go_ret
  exact ⟨rfl, Z.out⟩

set_option maxRecDepth 100000 in
set_option maxHeartbeats 4000000 in
theorem exactCheckStable (A : Option Addr) (a : Nat) (L : List Ck) (w : World) (mL : L.length ≤ maxLen) (rL : Rd 3 Ck.cells w A L) :
    Calls Try.prog 8 #[.slice A L.length a] w fun e w' => e = .returned (.bool true) ∧ Below w.heap.size w w' := by
  have HL := Lib.hid rL
  have Z : Hid (Below w.heap.size w w) := Below.refl _ _
  clear rL
  go_enter Try.func8, Try.ntmps8
  go_wp2_with (fail)
  refine (szCheckS_at A L.length a _ mL).mono ?_
  rintro e w1 ⟨rfl, rfl⟩
  by_cases hs : (1048576 : Int) - L.length < 0
  · rw [if_pos hs]
    go_wp2
    go_light
    go_ret
    exact ⟨rfl, Z.out⟩
  rw [if_neg hs]
  have hL : L.length ≤ 1048576 := by omega
  have e0 : decide ((1048576 : Int) - (L.length : Int) < 0) = false := by simp; omega
  clear mL hs
  obtain ⟨⟨rf, rn, rb⟩, hb⟩ : ∃ r, stC L = r := ⟨_, rfl⟩
  have HS : Hid (∀ (wx : World) (A' : Option Addr), Rd 3 Ck.cells wx A' L → Calls Try.prog 18 #[.slice A' L.length L.length] wx (DoST (rf, rn, rb) wx)) := fun wx A' h => by rw [← hb]; exact specCheckStable A' L.length L wx (by omega) h
  have HI : Hid (∀ (wx : World) (A' : Option Addr), Rd 3 Ck.cells wx A' L → Calls Try.prog 16 #[.slice A' L.length L.length] wx (DoST (rf, rn, rb) wx)) := fun wx A' h => by rw [← hb]; exact implCheckStable A' L.length L wx (by omega) h
  have n1 : (rf != rf) = false := by simp
  have n2 : (rn != rn) = false := by simp
  have n3 : (rb != rb) = false := by simp
  clear hb
  go_wp2_with (fail)
  refine (toCheckS A a L _ hL (Rd.below HL.out Z.out)).mono ?_
  rintro e w2 ⟨g1, rfl, hg, o1, hb⟩
  clear hg
  replace Z := Lib.hid (Below.and Z.out hb)
  have OA := Lib.hid (OwK.bd (show OwK w2 w.heap.size (some ⟨g1, 0, none⟩) L.length L from o1))
  have SOA := Lib.hid hb.size
  clear o1 hb
  go_wp2_with (fail)
  refine (HS.out _ _ OA.out.own.rd).mono ?_
  rintro e w3 ⟨rfl, hb⟩
  replace Z := Lib.hid (Below.and Z.out hb)
  clear hb OA
  go_wp2_with (fail)
  refine (toCheckS A a L _ hL (Rd.below HL.out Z.out)).mono ?_
  rintro e w4 ⟨g2, rfl, hg, o1, hb⟩
  clear hg
  replace Z := Lib.hid (Below.and Z.out hb)
  have OX := Lib.hid (OwK.bd (show OwK w4 w3.heap.size (some ⟨g2, 0, none⟩) L.length L from o1))
  have SOX := Lib.hid hb.size
  clear o1 hb
  go_wp2_with (fail)
  refine (HI.out _ _ OX.out.own.rd).mono ?_
  rintro e w5 ⟨rfl, hb⟩
  replace OX := Lib.hid (OX.out.below hb)
  replace Z := Lib.hid (Below.and Z.out hb)
  clear hb
  go_wp2_with (fail)
  refine (toCheckS A a L _ hL (Rd.below HL.out Z.out)).mono ?_
  rintro e w6 ⟨g3, rfl, hg, o1, hb⟩
  clear hg
  replace OX := Lib.hid (OX.out.below hb)
  replace Z := Lib.hid (Below.and Z.out hb)
  have OY := Lib.hid (OwK.bd (show OwK w6 w5.heap.size (some ⟨g3, 0, none⟩) L.length L from o1))
  have SOY := Lib.hid hb.size
  clear o1 hb
  go_wp2_with (fail)
  refine (eqCheckS_rd _ _ _ _ _ _ (by omega) OX.out.own.rd OY.out.own.rd).mono ?_
  rintro e w7 ⟨rfl, hb⟩
  replace OX := Lib.hid (OX.out.below hb)
  replace Z := Lib.hid (Below.and Z.out hb)
  clear hb
  go_wp2
  go_light
  go_ret
  exact ⟨rfl, Z.out⟩

set_option maxRecDepth 100000 in
set_option maxHeartbeats 4000000 in
theorem exactCheckCut (A : Option Addr) (a : Nat) (L : List Ck) (t : Int) (w : World) (mL : L.length ≤ maxLen) (rL : Rd 3 Ck.cells w A L) :
    Calls Try.prog 9 #[.slice A L.length a, .int .i64 t] w fun e w' => e = .returned (.bool true) ∧ Below w.heap.size w w' := by
  have HL := Lib.hid rL
  have Z : Hid (Below w.heap.size w w) := Below.refl _ _
  clear rL
  go_enter Try.func9, Try.ntmps9
  go_wp2_with (fail)
  refine (szCheckS_at A L.length a _ mL).mono ?_
  rintro e w1 ⟨rfl, rfl⟩
  by_cases hs : (1048576 : Int) - L.length < 0
  · rw [if_pos hs]
    go_wp2
    go_light
    go_ret
    exact ⟨rfl, Z.out⟩
  rw [if_neg hs]
  have hL : L.length ≤ 1048576 := by omega
  have e0 : decide ((1048576 : Int) - (L.length : Int) < 0) = false := by simp; omega
  clear mL hs
  obtain ⟨R, hR⟩ : ∃ R, cutC L t = R := ⟨_, rfl⟩
  have hRL : R.length ≤ L.length := by rw [← hR]; exact cutC_len L t
  have HS : Hid (∀ (wx : World) (A' : Option Addr), Rd 3 Ck.cells wx A' L → Calls Try.prog 21 #[.slice A' L.length L.length, .int .i64 t] wx (DoKC R wx)) := fun wx A' h => by rw [← hR]; exact specCheckCut A' L.length L t wx (by omega) h
  have HI : Hid (∀ (wx : World) (A' : Option Addr), Rd 3 Ck.cells wx A' L → Calls Try.prog 20 #[.slice A' L.length L.length, .int .i64 t] wx (DoKC R wx)) := fun wx A' h => by rw [← hR]; exact implCheckCut A' L.length L t wx (by omega) h
  clear hR
  go_wp2_with (fail)
  refine (toCheckS A a L _ hL (Rd.below HL.out Z.out)).mono ?_
  rintro e w2 ⟨g1, rfl, hg, o1, hb⟩
  clear hg
  replace Z := Lib.hid (Below.and Z.out hb)
  have OA := Lib.hid (OwK.bd (show OwK w2 w.heap.size (some ⟨g1, 0, none⟩) L.length L from o1))
  have SOA := Lib.hid hb.size
  clear o1 hb
  go_wp2_with (fail)
  refine (HS.out _ _ OA.out.own.rd).mono ?_
  rintro e w3 ⟨AW, AWc, rfl, o2, hb⟩
  have OW := Lib.hid (OwK.bd o2)
  replace OA := Lib.hid (OA.out.below hb)
  replace Z := Lib.hid (Below.and Z.out hb)
  have SOW := Lib.hid hb.size
  clear o2 hb
  clear OA SOA SOW
  have GE3 := Lib.hid (show w.heap.size ≤ w3.heap.size from Z.out.size)
  go_wp2_with (fail)
  refine (toCheckS A a L _ hL (Rd.below HL.out Z.out)).mono ?_
  rintro e w4 ⟨g2, rfl, hg, o1, hb⟩
  clear hg
  replace OW := Lib.hid (OW.out.below hb)
  replace Z := Lib.hid (Below.and Z.out hb)
  have OX := Lib.hid (OwK.bd (show OwK w4 w3.heap.size (some ⟨g2, 0, none⟩) L.length L from o1))
  have SOX := Lib.hid hb.size
  clear o1 hb
  go_wp2_with (fail)
  refine (HI.out _ _ OX.out.own.rd).mono ?_
  rintro e w5 ⟨AG, AGc, rfl, o2, hb⟩
  have OG := Lib.hid (OwK.bd o2)
  replace OW := Lib.hid (OW.out.below hb)
  replace OX := Lib.hid (OX.out.below hb)
  replace Z := Lib.hid (Below.and Z.out hb)
  have SOG := Lib.hid hb.size
  clear o2 hb
  go_wp2_with (fail)
  refine (eqCheckS_rd _ _ _ _ _ _ (by omega) OG.out.own.rd OW.out.own.rd).mono ?_
  rintro e w6 ⟨rfl, hb⟩
  replace OW := Lib.hid (OW.out.below hb)
  replace OX := Lib.hid (OX.out.below hb)
  replace OG := Lib.hid (OG.out.below hb)
  replace Z := Lib.hid (Below.and Z.out hb)
  clear hb
  go_wp2_with (fail)
  refine (toCheckS A a L _ hL (Rd.below HL.out Z.out)).mono ?_
  rintro e w7 ⟨g3, rfl, hg, o1, hb⟩
  clear hg
  replace OW := Lib.hid (OW.out.below hb)
  replace OX := Lib.hid (OX.out.below hb)
  replace OG := Lib.hid (OG.out.below hb)
  replace Z := Lib.hid (Below.and Z.out hb)
  have OY := Lib.hid (OwK.bd (show OwK w7 w6.heap.size (some ⟨g3, 0, none⟩) L.length L from o1))
  have SOY := Lib.hid hb.size
  clear o1 hb
  go_wp2_with (fail)
  refine (eqCheckS_rd _ _ _ _ _ _ (by omega) OX.out.own.rd OY.out.own.rd).mono ?_
  rintro e w8 ⟨rfl, hb⟩
  replace OW := Lib.hid (OW.out.below hb)
  replace OX := Lib.hid (OX.out.below hb)
  replace OG := Lib.hid (OG.out.below hb)
  replace Z := Lib.hid (Below.and Z.out hb)
  clear hb
  clear OY SOY
  have ngL : decide ((1 : Int) + 3 * (L.length : Int) < 0) = false := by simp; omega
  have nnL : ((1 : Int) + 3 * (L.length : Int) != 1 + 3 * (L.length : Int)) = false := by simp
  have ngR : decide ((1 : Int) + 3 * (R.length : Int) < 0) = false := by simp; omega
  have nnR : ((1 : Int) + 3 * (R.length : Int) != 1 + 3 * (R.length : Int)) = false := by simp
  go_wp2_with (fail)
  refine (markCheckS _ _ _ L.length _ 1 _ (by omega) (by omega) (by unfold maxLen; omega) (show World.ownsRow _ _ _ _ _ _ _ from OX.out.own)).mono ?_
  rintro e w9 ⟨rfl, hm, hg⟩
  have hbk := OX.out.bk
  replace OW := Lib.hid (OW.out.grown hg (fun k hk => by have h1 := hbk k hk; omega))
  replace OG := Lib.hid (OG.out.grown hg (fun k hk => by have h1 := hbk k hk; omega))
  replace Z := Lib.hid (Z.out.grown hg Z.out.size (fun k hk => by have h1 := hbk k hk; have := GE3.out; omega))
  have MOX := Lib.hid (RdM.of_own hm)
  clear hm hg hbk OX
  go_wp2_with (fail)
  refine (eqCheckS_rd _ _ _ _ _ _ (by omega) OG.out.own.rd OW.out.own.rd).mono ?_
  rintro e wA ⟨rfl, hb⟩
  replace OW := Lib.hid (OW.out.below hb)
  replace OG := Lib.hid (OG.out.below hb)
  replace Z := Lib.hid (Below.and Z.out hb)
  clear hb
  go_wp2_with (fail)
  refine (markCheckS _ _ _ R.length _ 1 _ (by omega) (by omega) (by unfold maxLen; omega) (show World.ownsRow _ _ _ _ _ _ _ from OG.out.own)).mono ?_
  rintro e wB ⟨rfl, hm, hg⟩
  have hbk := OG.out.bk
  replace OW := Lib.hid (OW.out.grown hg (fun k hk => by have h1 := hbk k hk; have := SOX.out; omega))
  replace Z := Lib.hid (Z.out.grown hg Z.out.size (fun k hk => by have h1 := hbk k hk; have := GE3.out; have := SOX.out; omega))
  have MOG := Lib.hid (RdM.of_own hm)
  clear hm hg hbk OG
  go_wp2_with (fail)
  refine (heldCheckS _ _ R.length 1 _ (by omega) (by omega) (by unfold maxLen; omega) MOG.out).mono ?_
  rintro e wC ⟨rfl, rfl⟩
  go_wp2_with (fail)
  refine (toCheckS A a L _ hL (Rd.below HL.out Z.out)).mono ?_
  rintro e wD ⟨g4, rfl, hg, o1, hb⟩
  clear hg
  replace OW := Lib.hid (OW.out.below hb)
  replace Z := Lib.hid (Below.and Z.out hb)
  have OA := Lib.hid (OwK.bd (show OwK wD wC.heap.size (some ⟨g4, 0, none⟩) L.length L from o1))
  replace MOG := Lib.hid (RdM.below MOG.out hb)
  have SOA := Lib.hid hb.size
  clear o1 hb
  go_wp2_with (fail)
  refine (HI.out _ _ OA.out.own.rd).mono ?_
  rintro e wE ⟨AH, AHc, rfl, o2, hb⟩
  have OH := Lib.hid (OwK.bd o2)
  replace OW := Lib.hid (OW.out.below hb)
  replace Z := Lib.hid (Below.and Z.out hb)
  replace MOG := Lib.hid (RdM.below MOG.out hb)
  have SOH := Lib.hid hb.size
  clear o2 hb
  go_wp2_with (fail)
  refine (eqCheckS_rd _ _ _ _ _ _ (by omega) OH.out.own.rd OW.out.own.rd).mono ?_
  rintro e wF ⟨rfl, hb⟩
  replace OW := Lib.hid (OW.out.below hb)
  replace OH := Lib.hid (OH.out.below hb)
  replace Z := Lib.hid (Below.and Z.out hb)
  replace MOG := Lib.hid (RdM.below MOG.out hb)
  clear hb
  go_wp2_with (fail)
  refine (heldCheckS _ _ R.length 1 _ (by omega) (by omega) (by unfold maxLen; omega) MOG.out).mono ?_
  rintro e wG ⟨rfl, rfl⟩
  go_wp2
  go_light
  go_ret
  exact ⟨rfl, Z.out⟩

end Go.Proofs.Ytgbnoemoangofaa
