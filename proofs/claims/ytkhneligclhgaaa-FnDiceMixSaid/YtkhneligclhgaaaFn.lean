/- The law of dice: numbers mix in any order. -/
import Derived.Test.YtkhneligclhgaaaFl
namespace Go.Proofs.Ytkhneligclhgaaa
open Go.ChangeShapes Go.WideShapes Go.ChangeAt Go.RowKit
set_option linter.unusedVariables false
set_option linter.unusedSimpArgs false

set_option maxRecDepth 100000 in
set_option maxHeartbeats 8000000 in
theorem lawDiceMix (A : Option Addr) (c n : Nat) (w : World) (hn : n ≤ maxLen) (hc : n ≤ c) (hb : InB w A n) :
    Calls Try.prog 5 #[.slice A n c] w fun e w' => e = .returned (.bool true) ∧ Below w.heap.size w w' := by
  obtain ⟨I, hi, hz0, hz1, hz2⟩ := infoParts
  have I1 := Lib.hid hi
  have I2 := Lib.hid hz0
  have I3 := Lib.hid hz1
  have I4 := Lib.hid hz2
  clear hi hz0 hz1 hz2
  have HB := Lib.hid hb
  have Z : Hid (Below w.heap.size w w) := Below.refl _ _
  clear hb hn
  go_enter Try.func5, Try.ntmps5
  by_cases h1 : (1048576 : Int) < n
  · go_wp2
    go_light
    go_ret
    exact ⟨rfl, Z.out⟩
  go_wp2_with (fail)
  refine (drawDiceMix (by omega) hc HB.out).mono ?_
  rintro e w1 ⟨D, B, d, rfl, hD, oD, nB, hz⟩
  replace Z := Lib.hid hz
  have OD := Lib.hid oD
  have NB := Lib.hid nB
  clear hz HB h1 hc oD nB
  obtain ⟨x, hx⟩ : ∃ x, mixI D = x := ⟨_, rfl⟩
  have HX := Lib.hid hx
  have e0 : (x != x) = false := by simp
  have e1 : (x == x) = true := by simp
  by_cases hneg : x < 0
  · clear hx
    go_wp2_with (fail)
    refine (implMix _ _ D _ (by omega) OD.out.rdI).mono ?_
    rintro e w2 ⟨rfl, hb⟩
    replace OD := Lib.hid (OD.out.below hb)
    replace Z := Lib.hid (Below.and Z.out hb)
    clear hb
    rw [HX.out]
    go_wp2_with (fail)
    refine (specMix _ _ D _ (by omega) OD.out.rdI).mono ?_
    rintro e w3 ⟨rfl, hb⟩
    replace OD := Lib.hid (OD.out.below hb)
    replace Z := Lib.hid (Below.and Z.out hb)
    clear hb
    rw [HX.out]
    go_wp2_with (fail)
    refine (specMix _ _ D _ (by omega) OD.out.rdI).mono ?_
    rintro e w4 ⟨rfl, hb⟩
    replace OD := Lib.hid (OD.out.below hb)
    replace Z := Lib.hid (Below.and Z.out hb)
    clear hb
    rw [HX.out]
    go_wp2
    go_light
    go_ret
    exact ⟨rfl, Z.out⟩
  have hB : mixB D = true := mixI_ge (by omega)
  have l1 : x ≤ 2147483647 := by rw [← hx]; exact mixI_le hB
  have HR := Lib.hid (show mixI D.reverse = x by rw [mixI_rev, hx])
  have HT := Lib.hid (show mixI (D.reverse ++ D) = 0 from mixI_two hB)
  have HO := Lib.hid (show mixI [x] = x by rw [← hx]; exact mixI_one hB)
  clear hx hB
  go_wp2_with (fail)
  refine (implMix _ _ D _ (by omega) OD.out.rdI).mono ?_
  rintro e w2 ⟨rfl, hb⟩
  replace OD := Lib.hid (OD.out.below hb)
  replace Z := Lib.hid (Below.and Z.out hb)
  clear hb
  rw [HX.out]
  go_wp2_with (fail)
  refine (specMix _ _ D _ (by omega) OD.out.rdI).mono ?_
  rintro e w3 ⟨rfl, hb⟩
  replace OD := Lib.hid (OD.out.below hb)
  replace Z := Lib.hid (Below.and Z.out hb)
  clear hb
  rw [HX.out]
  have LW := Lib.hid (show w.heap.size ≤ w3.heap.size from Z.out.size)
  have hba : Below w3.heap.size w3 (w3.alloc (.cells #[] 3)) := (Below.refl _ _).alloc (Nat.le_refl _) _
  have OT : Hid (OwD (w3.alloc (.cells #[] 3)) w3.heap.size (some ⟨w3.heap.size, 0, none⟩) 0 []) := own_nil_newD w3 3 1 rfl
  have HBD := Lib.hid (show ∀ k, (Value.slice B D.length d).ownBlock = some k → k < w3.heap.size from fun k hk => (OD.out.ge k hk).2)
  replace OD := Lib.hid (OD.out.below hba)
  replace Z := Lib.hid (Below.and Z.out hba)
  have GE0 := Lib.hid hba.size
  clear hba
  have ew : IntKind.i64.wrap ((D.length : Int) - 1) = (D.length : Int) - 1 := IntWalk.i64_in _ (by omega)
  go_upto_region 8 with (fail)
  obtain ⟨w0, hw0⟩ : ∃ X, X = w3.alloc (.cells #[] 3) := ⟨_, rfl⟩
  obtain ⟨T0, hT0⟩ : ∃ X : Option Addr, X = some ⟨w3.heap.size, 0, none⟩ := ⟨_, rfl⟩
  rw [← hw0] at OT OD Z GE0 ⊢
  rw [← hT0] at OT ⊢
  clear hw0 hT0
  go_wp2
  go_loopw [5, 6] (fun u v wr => ∃ (k : Nat) (T : List Int) (P : Option Addr) (p : Nat), k ≤ D.length ∧ u = .slice P T.length p ∧ v = .int .i64 ((k : Int) - 1) ∧ Hid (T = (D.drop k).reverse) ∧ T.length ≤ 5 ∧ Hid (OwD wr w3.heap.size P p T) ∧ Hid (OwD wr w.heap.size B d D) ∧ Hid (Below w.heap.size w wr) ∧ Hid (w3.heap.size ≤ wr.heap.size)) (fun _ v _ => (intOf v + 1).toNat)
  case atStart => exact ⟨D.length, [], T0, 0, Nat.le_refl _, rfl, rfl, by simp [Hid], by simp, OT.out, OD.out, Z.out, GE0.out⟩
  case round =>
    clear OT OD Z ew
    obtain ⟨k, T, P, p, hk, rfl, rfl, hT, hTl, OT, OD, Z, GE⟩ := hrel
    rcases k with _ | k
    · have i0 : ¬ (0 : Int) ≤ ((0 : Nat) : Int) - 1 := by omega
      obtain ⟨z, hz⟩ : ∃ z, ((0 : Nat) : Int) - 1 = z := ⟨_, rfl⟩
      rw [hz] at i0 ⊢
      have hTD : T = D.reverse := by have := hT.out; simpa using this
      subst hTD
      have hDl : D.reverse.length ≤ 5 := hTl
      obtain ⟨TR, hTR⟩ : ∃ TR, D.reverse = TR := ⟨_, rfl⟩
      rw [hTR] at OT HR HT hDl ⊢
      clear hz hTR hT hTl hk
      go_wp2_with (fail)
      refine (implMix _ _ TR _ (by omega) OT.out.rdI).mono ?_
      rintro e w5 ⟨rfl, hb⟩
      replace OT := Lib.hid (OT.out.below hb)
      replace OD := Lib.hid (OD.out.below hb)
      replace Z := Lib.hid (Below.and Z.out hb)
      have LE := Lib.hid (show w3.heap.size ≤ w5.heap.size from Nat.le_trans GE.out hb.size)
      clear hb
      rw [HR.out]
      go_wp2_with (at_builtin; go_loud (refine list_appG (f := cD) (fun _ => rfl) rfl _ _ 30 rfl w3.heap.size 3 I (.int .i64 0) 8 Try.underlying30 I1.out I2.out I3.out I4.out rfl (by decide) _ TR.length (ints TR) rfl OT.out _ _ D.length D rfl rfl OD.out.rdI.rd NB.out (cD_one _) (by unfold maxLen; omega) (by omega) LE.out ?_))
      intro v6 w6 ho hg hp
      have hge := own_block_ge (show World.ownsRow _ _ _ _ _ _ _ from OT.out)
      replace Z := Lib.hid (Z.out.grown hg Z.out.size (fun q hq => by have := (hge q hq).1; have := LW.out; omega))
      obtain ⟨P6, p6, rfl⟩ := own_formD ho
      have OU : Hid (OwD w6 w3.heap.size P6 p6 (TR ++ D)) := by
        show World.ownsRow _ _ _ _ _ _ _
        have e : ints (TR ++ D) = ints TR ++ D.flatMap cD := by rw [flat_cD]; simp [ints]
        rw [e, List.length_append]
        exact ho
      have hUl : (TR ++ D).length = TR.length + D.length := List.length_append
      obtain ⟨U, hU⟩ : ∃ U, TR ++ D = U := ⟨_, rfl⟩
      rw [hU] at OU HT hUl
      rw [← hUl]
      have hU10 : U.length ≤ 10 := by omega
      clear ho hg hp hge hU hUl OT OD LE
      go_wp2_with (fail)
      refine (implMix _ _ U _ (by omega) OU.out.rdI).mono ?_
      rintro e w7 ⟨rfl, hb⟩
      replace Z := Lib.hid (Below.and Z.out hb)
      clear hb
      rw [HT.out]
      have hba : Below w7.heap.size w7 (w7.alloc (.cells #[.int .i64 x] 3)) := (Below.refl _ _).alloc (Nat.le_refl _) _
      have HRw := Lib.hid (show RdI (w7.alloc (.cells #[.int .i64 x] 3)) (some ⟨w7.heap.size, 0, none⟩) [x] from fun i hi => by
        have hi0 : i = 0 := by simpa using hi
        subst hi0
        refine ⟨w7.heap.size, rfl, ?_⟩
        rw [cell_of_row _ _ _ _ 3 (0, 0) (heap_alloc_new w7 _)]
        rfl)
      replace Z := Lib.hid (Below.and Z.out hba)
      clear hba OU
      go_wp2_with (fail)
      refine (implMix _ _ [x] _ (by simp) HRw.out).mono ?_
      rintro e w8 ⟨rfl, hb⟩
      rw [HO.out]
      replace Z := Lib.hid (Below.and Z.out hb)
      clear hb HRw
      go_wp2
      go_light
      go_ret
      exact ⟨rfl, Z.out⟩
    · have hlt : k < D.length := by omega
      have i0 : (0 : Int) ≤ ((k + 1 : Nat) : Int) - 1 := by omega
      have hz : ((k + 1 : Nat) : Int) - 1 = (k : Int) := by omega
      rw [hz] at i0 ⊢
      obtain ⟨g, rfl, hg1, hg2⟩ := OD.out.one (by omega)
      have c0 := OD.out.cellG k hlt
      have HN := Lib.hid (show T ++ [D.getD k 0] = (D.drop k).reverse by
        rw [List.drop_eq_getElem_cons hlt, List.reverse_cons, hT.out, getD_at D k hlt])
      have hTl2 : (T ++ [D.getD k 0]).length ≤ 5 := by rw [HN.out, List.length_reverse, List.length_drop]; omega
      generalize D.getD k 0 = y at c0 HN hTl2
      have ew : IntKind.i64.wrap ((k : Int) - 1) = (k : Int) - 1 := IntWalk.i64_in _ (by omega)
      have k1 : (k : Int) < (D.length : Int) := by omega
      have hba : Below wr.heap.size wr (wr.alloc (.cells #[.int .i64 y] 3)) := (Below.refl _ _).alloc (Nat.le_refl _) _
      have HRw := Lib.hid (int_rowD wr y)
      have LE := Lib.hid (show w3.heap.size ≤ (wr.alloc (.cells #[.int .i64 y] 3)).heap.size by have := GE.out; have := hba.size; omega)
      replace OT := Lib.hid (OT.out.below hba)
      replace OD := Lib.hid (OD.out.below hba)
      replace Z := Lib.hid (Below.and Z.out hba)
      clear hba hz hg1 hg2 hk hTl
      go_wp2_with (at_builtin; go_loud (refine list_app (f := cD) (fun _ => rfl) rfl _ _ 30 rfl w3.heap.size 3 I (.int .i64 0) 8 Try.underlying30 I1.out I2.out I3.out I4.out rfl (by decide) _ T.length (ints T) rfl OT.out _ _ 1 [y] rfl rfl HRw.out (fun h => by cases h) (cD_one _) (by simp at hTl2; unfold maxLen; omega) (by simp at hTl2; omega) LE.out ?_))
      intro v6 w6 ho hg hp
      have hge := own_block_ge (show World.ownsRow _ _ _ _ _ _ _ from OT.out)
      replace Z := Lib.hid (Z.out.grown hg Z.out.size (fun q hq => by have := (hge q hq).1; have := LW.out; omega))
      replace OD := Lib.hid (OD.out.kept hg (fun e => by
        have h2 := HBD.out g rfl
        have h3 := (hge g (e.symm.trans rfl)).1
        omega))
      obtain ⟨P6, p6, rfl, oa⟩ := OwD.pushD ho
      replace OT := Lib.hid oa
      have GE6 := Lib.hid (show w3.heap.size ≤ w6.heap.size from Nat.le_trans LE.out hg.size)
      clear ho hg hp hge HRw oa LE c0
      go_wp2
      go_roundw
      case rel => exact ⟨k, _, P6, p6, by omega, rfl, by go_num, HN.out, hTl2, OT.out, OD.out, Z.out, GE6.out⟩
      case measure => (simp [intOf]; try omega)

end Go.Proofs.Ytkhneligclhgaaa
