/- A list is shuffled and shuffled back: the model's way, and the program's way back. -/
import Derived.Test.YtkhneligclhgaaaFd
namespace Go.Proofs.Ytkhneligclhgaaa
open Go.ChangeShapes Go.WideShapes Go.ChangeAt Go.RowKit
set_option linter.unusedVariables false
set_option linter.unusedSimpArgs false

theorem madeZ (n : Nat) : (madeCells #[Value.int .i64 0] n).toList = ints (List.replicate n 0) := by
  rw [toList_madeCells_one]
  simp [ints]
theorem getD_set (D : List Int) (i j : Nat) (x : Int) (hj : j < D.length) : (D.set i x).getD j 0 = if i = j then x else D.getD j 0 := by
  simp only [List.getD_eq_getElem?_getD, List.getElem?_set]
  by_cases e : i = j
  · subst e; simp [hj]
  · simp [e]
theorem OwD.cellG {w : World} {lo g a : Nat} {D : List Int} (h : OwD w lo (some ⟨g, 0, none⟩) a D) (j : Nat) (hj : j < D.length) : w.cell? ⟨g, j, none⟩ = some (.int .i64 (D.getD j 0)) := by
  rw [World.ownsRow.cellAt (show w.ownsRow _ _ _ _ _ _ from h) j (by omega)]
  simp [List.getD_eq_getElem?_getD, hj]
theorem OwD.put {w : World} {lo g a : Nat} {D : List Int} (h : OwD w lo (some ⟨g, 0, none⟩) a D) (j : Nat) (x : Int) : OwD (w.setCell ⟨g, j, none⟩ (.int .i64 x)) lo (some ⟨g, 0, none⟩) a (D.set j x) ∧ w.grownBy (w.setCell ⟨g, j, none⟩ (.int .i64 x)) (some g) := by
  have h1 := World.ownsRow.stored (show w.ownsRow _ _ _ _ _ _ from h) j (.int .i64 x)
  refine ⟨?_, h1.2⟩
  show World.ownsRow _ _ _ _ _ _ _
  rw [List.length_set]
  have e : ints (D.set j x) = (ints D).set j (.int .i64 x) := by simp only [ints, List.map_set]
  rw [e]
  exact h1.1
theorem OwD.one {w : World} {lo a : Nat} {A : Option Addr} {D : List Int} (h : OwD w lo A a D) (hn : 0 < D.length) : ∃ g : Nat, A = some ⟨g, 0, none⟩ ∧ lo ≤ g ∧ g < w.heap.size := own_some (show w.ownsRow _ _ _ _ _ _ from h) hn
theorem OwD.far {w w' : World} {lo g g' a : Nat} {D : List Int} (h : OwD w lo (some ⟨g, 0, none⟩) a D) (hg : w.grownBy w' (some g')) (hne : g ≠ g') : OwD w' lo (some ⟨g, 0, none⟩) a D :=
  OwD.kept h hg (by simpa [Value.ownBlock] using hne)
theorem getD_at (D : List Int) (j : Nat) (hj : j < D.length) : D[j] = D.getD j 0 := by simp [List.getD_eq_getElem?_getD, hj]
theorem infoParts : ∃ I : TypeInfo, Try.prog.info? 3 = some I ∧ I.zero = some (.int .i64 0) ∧ I.size = 1 ∧ I.bytes = 8 := parts_ofD infoInt

set_option maxRecDepth 100000 in
set_option maxHeartbeats 2000000 in
theorem l16Picks (m n : Nat) (w : World) (hm : m ≤ 20) (hn : n ≤ 2147483647) :
    Calls Try.prog 43 #[.int .i64 (m : Int), .int .i64 (n : Int)] w fun e w' => ∃ g, e = .returned (.slice (some ⟨g, 0, none⟩) m m) ∧ ∃ P : List Int, P.length = m ∧ (∀ j, j < m - 1 → P.getD (m - 1 - j) 0 = ((dTo m n j : Nat) : Int)) ∧ OwD w' w.heap.size (some ⟨g, 0, none⟩) m P ∧ Below w.heap.size w w' := by
  obtain ⟨I, hi, hz0, hz1, hz2⟩ := infoParts
  have I1 := Lib.hid hi
  have I2 := Lib.hid hz0
  have I3 := Lib.hid hz1
  have I4 := Lib.hid hz2
  clear hi hz0 hz1 hz2
  have HN := Lib.hid hn
  go_enter Try.func43, Try.ntmps43
  go_wp2_with (at_make; refine wpList_make_full _ rfl _ _ 30 rfl w.heap.size 3 I (.int .i64 0) 1 Try.underlying30 I1.out I2.out I3.out .i64 .i64 _ _ m rfl rfl rfl rfl (by rw [I4.out]; omega) (by unfold maxLen; omega) (Nat.le_refl _) ?_)
  intro w1 ho hg
  rw [madeZ] at ho
  have hb : Below w.heap.size w w1 := (Below.refl _ _).grown hg (Nat.le_refl _) (fun q hq => by cases hq)
  have HO := Lib.hid (show OwD w1 w.heap.size (some ⟨w.heap.size, 0, none⟩) m (List.replicate m 0) by show World.ownsRow _ _ _ _ _ _ _; rw [List.length_replicate]; exact ho)
  have hg0 := (HO.out.ge _ rfl).2
  obtain ⟨g, hgg⟩ : ∃ g, w.heap.size = g := ⟨_, rfl⟩
  have Z := Lib.hid hb
  clear ho hg hb
  have HO := Lib.hid (show OwD w1 w.heap.size (some ⟨g, 0, none⟩) m (List.replicate m 0) by have := HO.out; rwa [hgg] at this ⊢)
  have HGE := Lib.hid (show w.heap.size ≤ g by omega)
  rw [hgg]
  have ew : IntKind.i64.wrap ((m : Int) - 1) = (m : Int) - 1 := IntWalk.i64_in _ (by omega)
  go_wp2
  go_loopw [1, 6] (fun q p wr => ∃ (j : Nat) (P : List Int), j ≤ m - 1 ∧ p = .int .i64 ((m : Int) - 1 - (j : Int)) ∧ q = .int .i64 ((dIt n j : Nat) : Int) ∧ Hid (P.length = m) ∧ Hid (∀ i, i < j → P.getD (m - 1 - i) 0 = ((dTo m n i : Nat) : Int)) ∧ Hid (OwD wr w.heap.size (some ⟨g, 0, none⟩) m P) ∧ Hid (Below w.heap.size w wr)) (fun _ p _ => (intOf p).toNat)
  case atStart => exact ⟨0, List.replicate m 0, Nat.zero_le _, by simp, rfl, by simp [Hid], by simp [Hid], HO.out, Z.out⟩
  case round =>
    clear HO Z ew hg0 hgg
    obtain ⟨j, P, hj, rfl, rfl, hP, hA, HO, HZ⟩ := hrel
    by_cases hlt : j < m - 1
    · obtain ⟨a, ha⟩ : ∃ a : Nat, a = m - 1 - j := ⟨_, rfl⟩
      have ez : (m : Int) - 1 - (j : Int) = (a : Int) := by omega
      have HZ2 := Lib.hid (show (m : Int) - 1 - ((j + 1 : Nat) : Int) = (a : Int) - 1 by omega)
      have HRL := Lib.hid (show dRl ((dIt n j : Nat) : Int) ((a : Int) + 1) = (((dTo m n j : Nat) : Int), ((dIt n (j + 1) : Nat) : Int)) by
        have h3 := dRl_nat (dIt_lt HN.out j) (show 1 ≤ a + 1 by omega) (show a + 1 ≤ 20 by omega)
        have h4 : m - j = a + 1 := by omega
        unfold dTo
        rw [h4]
        exact h3)
      rw [ez]
      obtain ⟨sn, hsn⟩ : ∃ sn, dIt n (j + 1) = sn := ⟨_, rfl⟩
      rw [hsn] at HRL
      have HSN := Lib.hid hsn
      obtain ⟨to, hto⟩ : ∃ to, dTo m n j = to := ⟨_, rfl⟩
      rw [hto] at HRL
      have HTO := Lib.hid hto
      clear hsn hto
      generalize dIt n j = sj at HRL
      have c0 := HO.out.cellG a (by have := hP.out; omega)
      have f0 := World.ownsRow.frozenAt (show wr.ownsRow _ _ _ _ _ _ from HO.out) a
      have hs := HO.out.put a (to : Int)
      have H1 := Lib.hid hs.1
      have H2 := Lib.hid (HZ.out.grown hs.2 HZ.out.size (fun q hq => by injection hq with hq; rw [← hq]; exact HGE.out))
      have H3 := Lib.hid (show (P.set a (to : Int)).length = m by rw [List.length_set]; exact hP.out)
      have H4 := Lib.hid (show ∀ i, i < j + 1 → (P.set a (to : Int)).getD (m - 1 - i) 0 = ((dTo m n i : Nat) : Int) by
        intro i hi
        rw [getD_set _ _ _ _ (by have := hP.out; omega)]
        by_cases e : i = j
        · subst e; rw [if_pos ha, HTO.out]
        · rw [if_neg (by omega)]; exact hA.out i (by omega))
      generalize P.getD a 0 = u at c0
      have ew : IntKind.i64.wrap ((a : Int) - 1) = (a : Int) - 1 := IntWalk.i64_in _ (by omega)
      have ew2 : IntKind.i64.wrap ((a : Int) + 1) = (a : Int) + 1 := IntWalk.i64_in _ (by omega)
      have i1 : (0 : Int) < (a : Int) := by omega
      have i0 : (0 : Int) ≤ (a : Int) := by omega
      have i2 : (a : Int) < (m : Int) := by omega
      clear ha ez hs
      go_wp2_with (fail)
      refine (specRoll _ _ _).mono ?_
      rintro e w' ⟨rfl, rfl⟩
      rw [HRL.out]
      go_wp2
      go_roundw
      case rel => exact ⟨j + 1, _, by omega, by rw [HZ2.out], by rw [HSN.out], H3.out, H4.out, H1.out, H2.out⟩
      case measure => (simp [intOf]; try omega)
    · have i1 : ¬ ((0 : Int) < (m : Int) - 1 - (j : Int)) := by omega
      obtain ⟨z, hz⟩ : ∃ z, (m : Int) - 1 - (j : Int) = z := ⟨_, rfl⟩
      rw [hz] at i1 ⊢
      have HA := Lib.hid (show ∀ i, i < m - 1 → P.getD (m - 1 - i) 0 = ((dTo m n i : Nat) : Int) from fun i hi => hA.out i (by omega))
      clear hz
      go_wp2
      go_ret
      exact ⟨g, rfl, P, hP.out, HA.out, HO.out, HZ.out⟩

theorem own_nil_newD (w : World) (e : TypeId) (size : Nat) (h : (#[] : Array Value).size = 0 * size) : (w.alloc (.cells #[] e)).ownsRow w.heap.size e size (.slice (some ⟨w.heap.size, 0, none⟩) 0 0) 0 [] := by
  have := World.ownsRow_lit (base := w.heap.size) (e := e) (size := size) w #[] 0 (Nat.le_refl _) (by unfold maxLen; omega) h
  simpa using this

set_option maxRecDepth 100000 in
set_option maxHeartbeats 2000000 in
theorem specShufNo (A : Option Addr) (a : Nat) (L : List Int) (s : Int) (w : World) (hl : L.length ≤ 1048576) (h : shB L s = false) :
    Calls Try.prog 25 #[.slice A L.length a, .int .i64 s] w (DoS [] w) := by
  go_enter Try.func25, Try.ntmps25
  go_wp2_with (go_at_call 42; refine (l16Ok A a L s _ (by omega)).mono ?_; rintro e w' ⟨rfl, rfl⟩; rw [h])
  go_ret
  exact ⟨none, 0, rfl, OwD.nil _ _, Below.refl _ _⟩

set_option maxRecDepth 100000 in
set_option maxHeartbeats 4000000 in
theorem specShufYes (A : Option Addr) (a : Nat) (L : List Int) (n : Nat) (w : World) (hA : A = none → a = 0) (hr : RdI w A L) (h : shB L (n : Int) = true) :
    Calls Try.prog 25 #[.slice A L.length a, .int .i64 (n : Int)] w (DoS (shufI L (n : Int)) w) := by
  obtain ⟨n', hn', hn, h20⟩ := shB_nat h
  obtain rfl : n = n' := by omega
  have HA := Lib.hid hA
  have HX := Lib.hid (shufI_yes h)
  have HH := Lib.hid h
  obtain ⟨I, hi, hz0, hz1, hz2⟩ := infoParts
  have I1 := Lib.hid hi
  have I2 := Lib.hid hz0
  have I3 := Lib.hid hz1
  have I4 := Lib.hid hz2
  clear hi hz0 hz1 hz2
  have hba : Below w.heap.size w (w.alloc (.cells #[] 3)) := (Below.refl _ _).alloc (Nat.le_refl _) _
  have HR := Lib.hid (hr.below hba).rd
  have OE : Hid ((w.alloc (.cells #[] 3)).ownsRow w.heap.size 3 1 (.slice (some ⟨w.heap.size, 0, none⟩) 0 0) 0 []) := own_nil_newD w 3 1 rfl
  have LE := Lib.hid hba.size
  clear hr hA hn' h hba
  go_enter Try.func25, Try.ntmps25
  go_wp2_with (fail)
  refine (l16Ok A a L _ _ (by omega)).mono ?_
  rintro e w' ⟨rfl, rfl⟩
  rw [HH.out]
  go_wp2_with (at_builtin; go_loud (refine list_app (f := cD) (fun _ => rfl) rfl _ _ 30 rfl w.heap.size 3 I (.int .i64 0) 8 Try.underlying30 I1.out I2.out I3.out I4.out rfl (by decide) (.slice (some ⟨w.heap.size, 0, none⟩) 0 0) 0 [] rfl OE.out A a L.length L rfl rfl HR.out HA.out (cD_one _) (by unfold maxLen; omega) (by omega) LE.out ?_))
  intro v3 wp ho hg hp
  (try simp only [Nat.zero_add, List.nil_append] at ho)
  rw [flat_cD] at ho
  obtain ⟨A1, a1, rfl⟩ := own_formD ho
  have hge := own_block_ge (show World.ownsRow _ _ _ _ _ _ _ from OE.out)
  have Z := Lib.hid (((Below.refl w.heap.size w).alloc (Nat.le_refl _) (.cells #[] 3)).grown hg LE.out (fun q hq => (hge q hq).1))
  have OA := Lib.hid (show OwD wp w.heap.size A1 a1 L from ho)
  have HGA := Lib.hid (show ∀ g, A1 = some ⟨g, 0, none⟩ → g < wp.heap.size from fun g e => by subst e; exact (OA.out.ge _ rfl).2)
  clear ho hg hp hge OE LE
  go_wp2_with (fail)
  refine (l16Picks L.length n _ h20 hn).mono ?_
  rintro e wq ⟨gp, rfl, P, hP, hPA, op, hb⟩
  have OP := Lib.hid (show OwD wq wp.heap.size (some ⟨gp, 0, none⟩) L.length P from op)
  replace OA := Lib.hid (OA.out.below hb)
  replace Z := Lib.hid (Below.and Z.out hb)
  have HPL := Lib.hid hP
  have HPA := Lib.hid hPA
  have HGP := Lib.hid (show wp.heap.size ≤ gp from (op.ge _ rfl).1)
  clear hP hPA op hb
  have ew : IntKind.i64.wrap ((L.length : Int) - 1) = (L.length : Int) - 1 := IntWalk.i64_in _ (by omega)
  go_wp2
  go_loopw [7] (fun p wr => ∃ (j : Nat) (D : List Int), j ≤ L.length - 1 ∧ p = .int .i64 ((L.length : Int) - 1 - (j : Int)) ∧ Hid (D.length = L.length) ∧ Hid (dRun (dUps L.length n j) L = D) ∧ Hid (OwD wr w.heap.size A1 a1 D) ∧ Hid (OwD wr wp.heap.size (some ⟨gp, 0, none⟩) L.length P) ∧ Hid (Below w.heap.size w wr)) (fun p _ => (intOf p).toNat)
  case atStart => exact ⟨0, L, Nat.zero_le _, by simp, rfl, rfl, OA.out, OP.out, Z.out⟩
  case round =>
    clear OA OP Z ew
    obtain ⟨j, D, h1, rfl, HD, hrun, OA, OP, HZ⟩ := hrel
    by_cases hlt : j < L.length - 1
    · obtain ⟨a, ha⟩ : ∃ a : Nat, a = L.length - 1 - j := ⟨_, rfl⟩
      obtain ⟨to, hto⟩ : ∃ to, dTo L.length n j = to := ⟨_, rfl⟩
      have hkt : to < L.length := by rw [← hto]; exact dTo_lt (by omega)
      have HPP := Lib.hid (show P.getD a 0 = (to : Int) by rw [ha, HPA.out j (by omega), hto])
      have HNX := Lib.hid (show dRun (dUps L.length n (j + 1)) L = dSw D (a, to) by
        show dRun (dUps L.length n j ++ [(L.length - 1 - j, dTo L.length n j)]) L = _
        rw [dRun_snoc, hrun.out, ← ha, hto])
      have ez : (L.length : Int) - 1 - (j : Int) = (a : Int) := by omega
      have HZ2 := Lib.hid (show (L.length : Int) - 1 - ((j + 1 : Nat) : Int) = (a : Int) - 1 by omega)
      rw [ez]
      have ha1 : 1 ≤ a := by omega
      have haL : a < L.length := by omega
      clear hto hrun ez ha
      have hal : a < D.length := by have := HD.out; omega
      have hkl : to < D.length := by have := HD.out; omega
      obtain ⟨g, hg0, hg1, hg2⟩ := OA.out.one (by omega)
      subst hg0
      have hgg := HGA.out g rfl
      have hgp := HGP.out
      have n1 : ¬ g = gp := by omega
      have n2 : ¬ gp = g := by omega
      have ca := OA.out.cellG a hal
      have ck := OA.out.cellG to hkl
      have cp := OP.out.cellG a (by have := HPL.out; omega)
      rw [HPP.out] at cp
      have fz : ∀ o, wr.frozen? ⟨g, o, none⟩ = false := fun o => World.ownsRow.frozenAt (show wr.ownsRow _ _ _ _ _ _ from OA.out) o
      have hs1 := OA.out.put a (D.getD to 0)
      have hs2 := hs1.1.put to (D.getD a 0)
      have cz := hs1.1.cellG to (by rw [List.length_set]; exact hkl)
      have H1 := Lib.hid (show OwD _ _ _ _ (dSw D (a, to)) from hs2.1)
      have H2 := Lib.hid ((OP.out.far hs1.2 n2).far hs2.2 n2)
      have H3 := Lib.hid ((HZ.out.setCell (p := ⟨g, a, none⟩) hg1 (.int .i64 (D.getD to 0))).setCell (p := ⟨g, to, none⟩) hg1 (.int .i64 (D.getD a 0)))
      have H4 := Lib.hid (show (dSw D (a, to)).length = L.length by rw [dSw_len]; exact HD.out)
      generalize D.getD a 0 = u at ca H1 H2 H3 hs1 cz
      generalize D.getD to 0 = v at ck H1 H2 H3 hs1 cz
      generalize (D.set a v).getD to 0 = z at cz
      have i0 : (0 : Int) ≤ (a : Int) := by omega
      have i2 : (a : Int) < (L.length : Int) := by omega
      have k0 : (0 : Int) ≤ (to : Int) := by omega
      have k1 : (to : Int) < (L.length : Int) := by omega
      have ew : IntKind.i64.wrap ((a : Int) - 1) = (a : Int) - 1 := IntWalk.i64_in _ (by omega)
      have i1 : (0 : Int) < (a : Int) := by omega
      clear hs1 hs2 hgg hgp hg1 hg2 hal hkl
      go_wp2
      go_roundw
      case rel => exact ⟨j + 1, dSw D (a, to), by omega, by rw [HZ2.out], H4.out, HNX.out, H1.out, H2.out, H3.out⟩
      case measure => (simp [intOf]; try omega)
    · have i1 : ¬ ((0 : Int) < (L.length : Int) - 1 - (j : Int)) := by omega
      obtain ⟨z, hz⟩ : ∃ z, (L.length : Int) - 1 - (j : Int) = z := ⟨_, rfl⟩
      rw [hz] at i1 ⊢
      have hD : D = shufI L (n : Int) := by rw [HX.out, ← hrun.out, show j = L.length - 1 by omega]; rfl
      obtain ⟨R, hR⟩ : ∃ R, shufI L (n : Int) = R := ⟨_, rfl⟩
      rw [hR] at hD
      have HSH := Lib.hid hR
      have HF := Lib.hid (show OwD wr w.heap.size A1 a1 R by rw [← hD]; exact OA.out)
      have HL := Lib.hid (show L.length = R.length by rw [← hD]; exact HD.out.symm)
      clear hD hz hR
      go_wp2
      go_light
      go_ret
      rw [HSH.out, HL.out]
      exact ⟨A1, a1, rfl, HF.out, HZ.out⟩

set_option maxRecDepth 100000 in
set_option maxHeartbeats 2000000 in
theorem specBackNo (A : Option Addr) (a : Nat) (L : List Int) (s : Int) (w : World) (hl : L.length ≤ 1048576) (h : shB L s = false) :
    Calls Try.prog 28 #[.slice A L.length a, .int .i64 s] w (DoS [] w) := by
  go_enter Try.func28, Try.ntmps28
  go_wp2_with (go_at_call 42; refine (l16Ok A a L s _ (by omega)).mono ?_; rintro e w' ⟨rfl, rfl⟩; rw [h])
  go_ret
  exact ⟨none, 0, rfl, OwD.nil _ _, Below.refl _ _⟩

set_option maxRecDepth 100000 in
set_option maxHeartbeats 4000000 in
theorem specBackYes (A : Option Addr) (a : Nat) (L : List Int) (n : Nat) (w : World) (hA : A = none → a = 0) (hr : RdI w A L) (h : shB L (n : Int) = true) :
    Calls Try.prog 28 #[.slice A L.length a, .int .i64 (n : Int)] w (DoS (backI L (n : Int)) w) := by
  obtain ⟨n', hn', hn, h20⟩ := shB_nat h
  obtain rfl : n = n' := by omega
  have HA := Lib.hid hA
  have HX := Lib.hid (backI_yes h)
  have HH := Lib.hid h
  obtain ⟨I, hi, hz0, hz1, hz2⟩ := infoParts
  have I1 := Lib.hid hi
  have I2 := Lib.hid hz0
  have I3 := Lib.hid hz1
  have I4 := Lib.hid hz2
  clear hi hz0 hz1 hz2
  have hba : Below w.heap.size w (w.alloc (.cells #[] 3)) := (Below.refl _ _).alloc (Nat.le_refl _) _
  have HR := Lib.hid (hr.below hba).rd
  have OE : Hid ((w.alloc (.cells #[] 3)).ownsRow w.heap.size 3 1 (.slice (some ⟨w.heap.size, 0, none⟩) 0 0) 0 []) := own_nil_newD w 3 1 rfl
  have LE := Lib.hid hba.size
  clear hr hA hn' h hba
  go_enter Try.func28, Try.ntmps28
  go_wp2_with (fail)
  refine (l16Ok A a L _ _ (by omega)).mono ?_
  rintro e w' ⟨rfl, rfl⟩
  rw [HH.out]
  go_wp2_with (at_builtin; go_loud (refine list_app (f := cD) (fun _ => rfl) rfl _ _ 30 rfl w.heap.size 3 I (.int .i64 0) 8 Try.underlying30 I1.out I2.out I3.out I4.out rfl (by decide) (.slice (some ⟨w.heap.size, 0, none⟩) 0 0) 0 [] rfl OE.out A a L.length L rfl rfl HR.out HA.out (cD_one _) (by unfold maxLen; omega) (by omega) LE.out ?_))
  intro v3 wp ho hg hp
  (try simp only [Nat.zero_add, List.nil_append] at ho)
  rw [flat_cD] at ho
  obtain ⟨A1, a1, rfl⟩ := own_formD ho
  have hge := own_block_ge (show World.ownsRow _ _ _ _ _ _ _ from OE.out)
  have Z := Lib.hid (((Below.refl w.heap.size w).alloc (Nat.le_refl _) (.cells #[] 3)).grown hg LE.out (fun q hq => (hge q hq).1))
  have OA := Lib.hid (show OwD wp w.heap.size A1 a1 L from ho)
  have HGA := Lib.hid (show ∀ g, A1 = some ⟨g, 0, none⟩ → g < wp.heap.size from fun g e => by subst e; exact (OA.out.ge _ rfl).2)
  clear ho hg hp hge OE LE
  go_wp2_with (fail)
  refine (l16Picks L.length n _ h20 hn).mono ?_
  rintro e wq ⟨gp, rfl, P, hP, hPA, op, hb⟩
  have OP := Lib.hid (show OwD wq wp.heap.size (some ⟨gp, 0, none⟩) L.length P from op)
  replace OA := Lib.hid (OA.out.below hb)
  replace Z := Lib.hid (Below.and Z.out hb)
  have HPL := Lib.hid hP
  have HPA := Lib.hid hPA
  have HGP := Lib.hid (show wp.heap.size ≤ gp from (op.ge _ rfl).1)
  clear hP hPA op hb
  obtain ⟨R, hR⟩ : ∃ R, dRun (dAll L.length n).reverse L = R := ⟨_, rfl⟩
  have HR0 := Lib.hid (show dRun (dUps L.length n (L.length - 1)).reverse L = R from hR)
  rw [hR] at HX
  clear hR
  go_wp2
  go_loopw [7] (fun p wr => ∃ (i : Nat) (D : List Int), 1 ≤ i ∧ (i ≤ L.length ∨ i = 1) ∧ p = .int .i64 (i : Int) ∧ Hid (D.length = L.length) ∧ Hid (dRun (dUps L.length n (L.length - i)).reverse D = R) ∧ Hid (OwD wr w.heap.size A1 a1 D) ∧ Hid (OwD wr wp.heap.size (some ⟨gp, 0, none⟩) L.length P) ∧ Hid (Below w.heap.size w wr)) (fun p _ => L.length - (intOf p).toNat)
  case atStart => exact ⟨1, L, Nat.le_refl _, .inr rfl, rfl, rfl, HR0.out, OA.out, OP.out, Z.out⟩
  case round =>
    clear OA OP Z HR0
    obtain ⟨a, D, h1, h2, rfl, HD, hrun, OA, OP, HZ⟩ := hrel
    by_cases hlt : a < L.length
    · obtain ⟨k, hk⟩ : ∃ k, k + 1 = L.length - a := ⟨L.length - a - 1, by omega⟩
      have hka : L.length - 1 - k = a := by omega
      obtain ⟨to, hto⟩ : ∃ to, dTo L.length n k = to := ⟨_, rfl⟩
      have hkt : to < L.length := by rw [← hto]; exact dTo_lt (by omega)
      have HPP := Lib.hid (show P.getD a 0 = (to : Int) by rw [← hka, HPA.out k (by omega), hto])
      have HNX := Lib.hid (show dRun (dUps L.length n (L.length - (a + 1))).reverse (dSw D (a, to)) = R by
        have h3 := hrun.out
        rw [← hk] at h3
        rw [show L.length - (a + 1) = k by omega]
        have e : (dUps L.length n (k + 1)).reverse = (a, to) :: (dUps L.length n k).reverse := by
          show (dUps L.length n k ++ [(L.length - 1 - k, dTo L.length n k)]).reverse = _
          rw [List.reverse_append, hka, hto]
          rfl
        rw [e] at h3
        exact h3)
      clear hto hka hk hrun
      have hal : a < D.length := by have := HD.out; omega
      have hkl : to < D.length := by have := HD.out; omega
      obtain ⟨g, hg0, hg1, hg2⟩ := OA.out.one (by omega)
      subst hg0
      have hgg := HGA.out g rfl
      have hgp := HGP.out
      have n1 : ¬ g = gp := by omega
      have n2 : ¬ gp = g := by omega
      have ca := OA.out.cellG a hal
      have ck := OA.out.cellG to hkl
      have cp := OP.out.cellG a (by have := HPL.out; omega)
      rw [HPP.out] at cp
      have fz : ∀ o, wr.frozen? ⟨g, o, none⟩ = false := fun o => World.ownsRow.frozenAt (show wr.ownsRow _ _ _ _ _ _ from OA.out) o
      have hs1 := OA.out.put a (D.getD to 0)
      have hs2 := hs1.1.put to (D.getD a 0)
      have cz := hs1.1.cellG to (by rw [List.length_set]; exact hkl)
      have H1 := Lib.hid (show OwD _ _ _ _ (dSw D (a, to)) from hs2.1)
      have H2 := Lib.hid ((OP.out.far hs1.2 n2).far hs2.2 n2)
      have H3 := Lib.hid ((HZ.out.setCell (p := ⟨g, a, none⟩) hg1 (.int .i64 (D.getD to 0))).setCell (p := ⟨g, to, none⟩) hg1 (.int .i64 (D.getD a 0)))
      have H4 := Lib.hid (show (dSw D (a, to)).length = L.length by rw [dSw_len]; exact HD.out)
      generalize D.getD a 0 = u at ca H1 H2 H3 hs1 cz
      generalize D.getD to 0 = v at ck H1 H2 H3 hs1 cz
      generalize (D.set a v).getD to 0 = z at cz
      have i0 : (0 : Int) ≤ (a : Int) := by omega
      have i2 : (a : Int) < (L.length : Int) := by omega
      have k0 : (0 : Int) ≤ (to : Int) := by omega
      have k1 : (to : Int) < (L.length : Int) := by omega
      have hl9 : L.length ≤ 20 := h20
      clear hs1 hs2 hgg hgp hg1 hg2 hal hkl
      go_wp2
      go_roundw
      case rel => exact ⟨a + 1, dSw D (a, to), by omega, .inl (by omega), by go_num, H4.out, HNX.out, H1.out, H2.out, H3.out⟩
      case measure => (simp [intOf]; try omega)
    · have i1 : ¬ ((a : Int) < (L.length : Int)) := by omega
      have i1b : ¬ ((a : Int) < (D.length : Int)) := by rw [HD.out]; exact i1
      have hD : D = R := by have := hrun.out; rw [show L.length - a = 0 by omega] at this; exact this
      have HF := Lib.hid (show OwD wr w.heap.size A1 a1 R by rw [← hD]; exact OA.out)
      have HL := Lib.hid (show L.length = R.length by rw [← hD]; exact HD.out.symm)
      clear hD
      go_wp2
      go_light
      go_ret
      rw [HX.out, HL.out]
      exact ⟨A1, a1, rfl, HF.out, HZ.out⟩

end Go.Proofs.Ytkhneligclhgaaa
