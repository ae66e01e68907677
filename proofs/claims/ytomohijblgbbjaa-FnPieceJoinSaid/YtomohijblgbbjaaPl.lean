/- What is joined is pieces again: the law. -/
import Derived.Test.YtomohijblgbbjaaPk
import Derived.Laws.OwnMore
namespace Go.Proofs.Ytomohijblgbbjaa
open Go.ChangeShapes Go.WideShapes Go.ChangeAt Go.RowKit
set_option linter.unusedVariables false
set_option linter.unusedSimpArgs false

theorem flat_set (D : List ByteArray) (j : Nat) (b : ByteArray) : (D.flatMap cS).set j (.string b) = (D.set j b).flatMap cS := by
  induction D generalizing j with
  | nil => rfl
  | cons x D ih =>
    rcases j with _ | j
    · rfl
    · simp only [List.set_cons_succ, List.flatMap_cons, cS, List.cons_append, List.nil_append]
      rw [← ih j]
set_option maxRecDepth 100000 in
set_option maxHeartbeats 4000000 in
theorem l20Pieces {w : World} {R : Nat} {A : Option Addr} {n c : Nat} {p : Int} (h : Reader w R A n c p) (hp : p ≤ 80000) :
    Calls Try.prog 16 #[.pointer (some ⟨R, 0, none⟩)] w fun e w' => ∃ (D : List ByteArray) (B : Option Addr) (d : Nat), e = .returned (.slice B D.length d) ∧ D.length ≤ 18 ∧ OwS w' w.heap.size B d D ∧ Drawn w R A n c p 210 w' := by
  obtain ⟨I, hi, hz0, hz1, hz2⟩ := parts_ofS infoStrS
  have I1 := Lib.hid hi
  have I2 := Lib.hid hz0
  have I3 := Lib.hid hz1
  have I4 := Lib.hid hz2
  clear hi hz0 hz1 hz2
  have hRlt := h.lt
  have HOld := Lib.hid h.old
  have RD := Lib.hid h
  clear h
  go_enter Try.func16, Try.ntmps16
  go_wp2_with (fail)
  refine (l20Long RD.out hp).mono ?_
  rintro e w1 ⟨s, rfl, hs, q1, q10, q11, hr, hg⟩
  replace RD := Lib.hid hr
  have GR := Lib.hid hg
  clear hr hg
  go_wp2_with (fail)
  refine (specPieceOf s _ (by omega)).mono ?_
  obtain ⟨D, hD⟩ : ∃ D, D = pcs s := ⟨_, rfl⟩
  have hl : D.length ≤ 17 := by rw [hD]; exact pcs_len s
  rw [← hD]
  clear hD
  rintro e w2 ⟨B, d, rfl, oo, hb⟩
  have OO := Lib.hid (oo.baseS GR.out.size)
  replace RD := Lib.hid (RD.out.below hb)
  replace GR := Lib.hid (grownBy_trans GR.out (Below.grownBy hb (some R)))
  clear oo hb
  go_wp2_with (fail)
  refine (pickR 10 RD.out (by omega) (by omega) (by omega)).mono ?_
  rintro e w3 ⟨g, g0, g1, rfl, q2, q20, q21, hr, hg⟩
  replace OO := Lib.hid (OO.out.drawn hRlt hg)
  replace RD := Lib.hid hr
  replace GR := Lib.hid (grownBy_trans GR.out hg)
  clear hr hg
  by_cases h0 : g = 0
  · subst h0
    have hsz := GR.out.size
    have hb0 : Below w3.heap.size w3 (w3.alloc (.cells #[.string ⟨#[]⟩, .string ⟨#[120]⟩] 9)) := (Below.refl _ _).alloc (Nat.le_refl _) _
    replace RD := Lib.hid (RD.out.below hb0)
    replace GR := Lib.hid (grownBy_trans GR.out (Below.grownBy hb0 (some R)))
    replace OO := Lib.hid (OO.out.below hb0)
    clear hb0
    go_wp2_with (fail)
    refine (ofP w3.heap.size [⟨#[]⟩, ⟨#[120]⟩] RD.out (by omega) (by simp) (by simp) (by omega) (lit_textsP w3 9 [⟨#[]⟩, ⟨#[120]⟩])).mono ?_
    rintro e w4 ⟨x, hx, rfl, q3, q30, q31, hr, hg⟩
    replace OO := Lib.hid (OO.out.drawn hRlt hg)
    replace RD := Lib.hid hr
    replace GR := Lib.hid (grownBy_trans GR.out hg)
    clear hr hg hx hsz
    have hba : Below w4.heap.size w4 (w4.alloc (.cells #[.string x] 9)) := (Below.refl _ _).alloc (Nat.le_refl _) _
    have OB := Lib.hid (OO.out.below hba)
    have RB := Lib.hid (RD.out.below hba)
    have GB := Lib.hid (grownBy_trans GR.out (Below.grownBy hba (some R)))
    have HRd := Lib.hid (str_one w4 x)
    have hsz := GB.out.size
    go_wp2_with (at_builtin; go_loud (refine list_app (f := cS) (fun _ => rfl) rfl _ _ 24 rfl w.heap.size 9 I (.string ⟨#[]⟩) 16 Try.underlying24 I1.out I2.out I3.out I4.out rfl (by decide) _ D.length (D.flatMap cS) rfl (show World.ownsRow _ _ _ _ _ _ _ from OB.out) _ _ 1 [x] rfl rfl HRd.out (fun h => by cases h) (strs_one _) (by unfold maxLen; omega) (by omega) hsz ?_))
    intro v5 w5 ho hg hp9
    have HL := Lib.hid (show (D ++ [x]).length ≤ 18 by simp; omega)
    have DR : Hid (Drawn w R A n c p 210 w5) := ⟨q3, by omega, by omega, RB.out.rowP hg hRlt HOld.out (fun k hk => (OB.out.ge k hk).1), grown_rowP GB.out hg (fun k hk => (OB.out.ge k hk).1)⟩
    obtain ⟨B5, d5, rfl, oa⟩ := OwS.push ho
    have O5 := Lib.hid oa
    clear ho hg hp9 oa hba OB RB GB HRd hsz RD GR OO
    go_wp2
    go_light
    go_ret
    exact ⟨D ++ [x], B5, d5, rfl, HL.out, O5.out, DR.out⟩
  have e0 : (g == 0) = false := by simpa using h0
  by_cases h1 : g = 1
  · subst h1
    clear e0 h0
    by_cases hpos : 0 < D.length
    · have i1 : (0 : Int) < (D.length : Int) := by omega
      go_wp2_with (fail)
      refine (pickR (D.length : Int) RD.out (by omega) (by omega) (by omega)).mono ?_
      rintro e w4 ⟨v, v0, v1, rfl, q3, q30, q31, hr, hg⟩
      obtain ⟨j, rfl⟩ := Int.eq_ofNat_of_zero_le v0
      replace OO := Lib.hid (OO.out.drawn hRlt hg)
      replace RD := Lib.hid hr
      replace GR := Lib.hid (grownBy_trans GR.out hg)
      clear hr hg
      obtain ⟨gB, rfl, hb0, _⟩ := own_some (show World.ownsRow _ _ _ _ _ _ _ from OO.out) (by omega)
      have hf := fun p => World.ownsRow.frozenAt (show World.ownsRow _ _ _ _ _ _ _ from OO.out) p
      have hfl : (D.flatMap cS).length = D.length := by rw [rows_length 1 cS (fun _ => rfl)]; omega
      obtain ⟨u0, hu0⟩ : ∃ u, w4.cell? ⟨gB, j, none⟩ = some u := ⟨_, (World.ownsRow.cellAt (show World.ownsRow _ _ _ _ _ _ _ from OO.out) j (by omega)).trans (List.getElem?_eq_getElem (by omega))⟩
      have st := World.ownsRow.stored (show World.ownsRow _ _ _ _ _ _ _ from OO.out) j (.string ⟨#[115, 104, 111, 114, 116]⟩)
      have HO : Hid (OwS (w4.setCell ⟨gB, j, none⟩ (.string ⟨#[115, 104, 111, 114, 116]⟩)) w.heap.size (some ⟨gB, 0, none⟩) d (D.set j ⟨#[115, 104, 111, 114, 116]⟩)) := by
        have h9 := st.1
        rw [flat_set] at h9
        show World.ownsRow _ _ _ _ _ _ _
        rw [List.length_set]
        exact h9
      have DR : Hid (Drawn w R A n c p 210 (w4.setCell ⟨gB, j, none⟩ (.string ⟨#[115, 104, 111, 114, 116]⟩))) := ⟨q3, by omega, by omega, RD.out.set w.heap.size gB j _ HOld.out hRlt hb0, grown_new GR.out (grownBy_set w4 gB j _) hb0⟩
      have HL := Lib.hid (show (D.set j ⟨#[115, 104, 111, 114, 116]⟩).length ≤ 18 by rw [List.length_set]; omega)
      have HE := Lib.hid (show (D.set j (⟨#[115, 104, 111, 114, 116]⟩ : ByteArray)).length = D.length from List.length_set)
      have j0 : (0 : Int) ≤ (j : Int) := by omega
      clear st RD GR OO hfl
      go_wp2
      go_light
      go_ret
      exact ⟨D.set j ⟨#[115, 104, 111, 114, 116]⟩, some ⟨gB, 0, none⟩, d, by rw [HE.out]; rfl, HL.out, HO.out, DR.out⟩
    · have i1 : ¬ (0 : Int) < (D.length : Int) := by omega
      have DR : Hid (Drawn w R A n c p 210 w3) := ⟨q2, by omega, by omega, RD.out, GR.out⟩
      clear RD GR
      go_wp2
      go_light
      go_ret
      exact ⟨D, B, d, rfl, by omega, OO.out, DR.out⟩
  have e1 : (g == 1) = false := by simpa using h1
  have DR : Hid (Drawn w R A n c p 210 w3) := ⟨q2, by omega, by omega, RD.out, GR.out⟩
  clear RD GR h0 h1
  go_wp2
  go_light
  go_ret
  exact ⟨D, B, d, rfl, by omega, OO.out, DR.out⟩

set_option maxRecDepth 100000 in
set_option maxHeartbeats 2000000 in
theorem drawPieceJoin {w : World} {A : Option Addr} {n c : Nat} (hn : n ≤ 1048576) (hc : n ≤ c) (hb : InB w A n) :
    Calls Try.prog 10 #[.slice A n c] w fun e w' => ∃ (D : List ByteArray) (B : Option Addr) (d : Nat), e = .returned (.slice B D.length d) ∧ D.length ≤ 18 ∧ OwS w' w.heap.size B d D ∧ Below w.heap.size w w' := by
  have HB := Lib.hid hb
  clear hb
  go_enter Try.func10, Try.ntmps10
  go_wp2_with (fail)
  refine (l20Open hn hc HB.out).mono ?_
  rintro e w1 ⟨m, rfl, hr, h1⟩
  have RD := Lib.hid hr
  have BA := Lib.hid h1
  clear hr h1
  go_wp2_with (fail)
  refine (l20Pieces RD.out (by omega)).mono ?_
  rintro e w2 ⟨D, B, d, rfl, hl, oo, q, q0, q1, hr, hg⟩
  have OO := Lib.hid (oo.baseS BA.out.size)
  have BB := Lib.hid (BA.out.trans (Below.of_grown hg BA.out.size (fun x hx => by injection hx with hx; omega)))
  clear hr hg RD BA oo
  go_wp2
  go_light
  go_ret
  exact ⟨D, B, d, rfl, hl, OO.out, BB.out⟩

set_option maxRecDepth 100000 in
set_option maxHeartbeats 4000000 in
theorem lawPieceJoin (A : Option Addr) (c n : Nat) (w : World) (hn : n ≤ maxLen) (hc : n ≤ c) (hb : InB w A n) :
    Calls Try.prog 4 #[.slice A n c] w fun e w' => e = .returned (.bool true) ∧ Below w.heap.size w w' := by
  have HB := Lib.hid hb
  clear hb
  go_enter Try.func4, Try.ntmps4
  by_cases h : n > 1048576
  · go_wp2
    go_light
    go_ret
    exact ⟨rfl, Below.refl _ _⟩
  go_wp2_with (fail)
  refine (drawPieceJoin (by omega) hc HB.out).mono ?_
  rintro e w1 ⟨D, B, d, rfl, hl, oo, hb⟩
  have OO := Lib.hid oo
  have Z := Lib.hid hb
  clear hb HB h oo
  obtain ⟨⟨y, u⟩, hy⟩ : ∃ Y, Y = joinR D := ⟨_, rfl⟩
  have HY := Lib.hid hy
  clear hy
  go_wp2_with (fail)
  refine (implPieceJoin D B d _ (by omega) OO.out.cap OO.out.rd).mono ?_
  rw [← HY.out]
  rintro e w2 ⟨rfl, hb⟩
  replace OO := Lib.hid (OO.out.below hb)
  replace Z := Lib.hid (Below.and Z.out hb)
  clear hb
  go_wp2_with (fail)
  refine (specPieceJoin D B d _ (by omega) OO.out.cap OO.out.rd).mono ?_
  rw [← HY.out]
  rintro e w3 ⟨rfl, hb⟩
  replace OO := Lib.hid (OO.out.below hb)
  replace Z := Lib.hid (Below.and Z.out hb)
  clear hb
  rcases u with _ | _
  · go_wp2
    go_light
    go_ret
    exact ⟨rfl, Z.out⟩
  have hw : wfB D = true := by
    rcases hw : wfB D with _ | _
    · have := HY.out
      unfold joinR at this
      rw [hw] at this
      cases this
    · rfl
  have hyl : y = joinL D := by
    have := HY.out
    unfold joinR at this
    rw [hw] at this
    injection this
  have HP := Lib.hid (show pcs y = D by rw [hyl]; exact pcs_of hw)
  have hys : y.size ≤ 1048576 := by
    obtain ⟨_, h2, h3⟩ := wfB_small hw
    have := joinL_len D 12 h3
    rw [hyl]
    omega
  clear hyl hw HY
  go_wp2_with (fail)
  refine (implPieceOf y _ hys).mono ?_
  rw [HP.out]
  rintro e w4 ⟨B4, d4, rfl, o4, hb⟩
  have O4 := Lib.hid o4
  replace OO := Lib.hid (OO.out.below hb)
  replace Z := Lib.hid (Below.and Z.out hb)
  clear hb o4
  go_wp2_with (fail)
  refine (wpTexts_rd B4 B d4 d D _ (by omega) O4.out.rd OO.out.rd).mono ?_
  rintro e w5 ⟨rfl, hb⟩
  replace Z := Lib.hid (Below.and Z.out hb)
  clear hb
  go_wp2
  go_light
  go_ret
  exact ⟨rfl, Z.out⟩

end Go.Proofs.Ytomohijblgbbjaa
