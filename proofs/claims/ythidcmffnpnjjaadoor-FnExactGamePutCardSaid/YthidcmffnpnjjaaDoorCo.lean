/- A game as a text: both ways. -/
import Derived.Test.YthidcmffnpnjjaaDoorCn
import Derived.Test.YthidcmffnpnjjaaDoorCk
namespace Go.Proofs.YthidcmffnpnjjaaDoor
open Go.ChangeShapes Go.WideShapes Go.ChangeAt Go.RowKit
set_option linter.unusedVariables false
set_option linter.unusedSimpArgs false

set_option maxRecDepth 100000 in
set_option maxHeartbeats 4000000 in
theorem implGamePut (A : Option Addr) (a : Nat) (B : Option Addr) (b : Nat) (C : Option Addr) (c : Nat) (E : List Fig) (F L : List Int) (w : World) (hE : E.length ≤ 1048576) (hF : F.length ≤ 1048576) (hL : L.length ≤ 1048576) (rE : RdF w A E) (rF : RdI w B F) (rL : RdI w C L) (ht : Tab w) :
    Calls Tryd.prog 7 #[gameV A E.length a B F.length b C L.length c] w fun e w' => e = .returned (bsV (putG E F L)) ∧ Below w.heap.size w w' := by
  have HT := Lib.hid ht
  clear ht
  have Z : Hid (Below w.heap.size w (w.alloc (.cells #[.slice A E.length a, .slice B F.length b, .slice C L.length c] 30))) := (Below.refl _ _).alloc (Nat.le_refl _) _
  have K : Hid (Bkk (w.alloc (.cells #[.slice A E.length a, .slice B F.length b, .slice C L.length c] 30)) w.heap.size 30 #[.slice A E.length a, .slice B F.length b, .slice C L.length c]) := Bkk.new _
  have RE := Lib.hid rE
  have RF := Lib.hid rF
  have RL := Lib.hid rL
  clear rE rF rL
  go_enter Tryd.func7, Tryd.ntmps7
  go_upto_region 1 with (fail)
  obtain ⟨w1, hw1⟩ : ∃ X, X = w.alloc (.cells #[.slice A E.length a, .slice B F.length b, .slice C L.length c] 30) := ⟨_, rfl⟩
  rw [← hw1] at K Z ⊢
  clear hw1
  have k0 : w1.cell? ⟨w.heap.size, 0, none⟩ = some (.slice A E.length a) := K.out.cell 0
  have k1 : w1.cell? ⟨w.heap.size, 1, none⟩ = some (.slice B F.length b) := K.out.cell 1
  have k2 : w1.cell? ⟨w.heap.size, 2, none⟩ = some (.slice C L.length c) := K.out.cell 2
  have lk := K.out.lt
  go_wp2_with (fail)
  refine (gameOk A a B b C c E F L _ hE hF hL (RE.out.below Z.out) (RF.out.below Z.out) (RL.out.below Z.out)).mono ?_
  rintro e w2 ⟨rfl, hb⟩
  replace K := Lib.hid (K.out.below hb)
  replace Z := Lib.hid (Below.and Z.out hb)
  clear hb k0 k1 k2 lk
  rcases hg : gokB E F L with _ | _
  · have HX := Lib.hid (putG_no hg)
    clear hg
    go_wp2
    go_light
    go_ret
    exact ⟨ret_bs HX.out.symm, Z.out⟩
  have HX := Lib.hid (putG_yes hg)
  have G := gok_sm hg
  have HSF := Lib.hid G.sf
  have HSL := Lib.hid G.sl
  have HSE := Lib.hid G.se
  have f16 : F.length ≤ 16 := by have := G.f; omega
  have l16 : L.length ≤ 16 := by have := G.l; omega
  have e4 := G.e
  clear G hg
  have LZ := Lib.hid (show w.heap.size ≤ w2.heap.size from Z.out.size)
  have T2 := Lib.hid (HT.out.below Z.out)
  have rF2 := Lib.hid (RdI.below RF.out Z.out)
  have rL2 := Lib.hid (RdI.below RL.out Z.out)
  have rE2 := Lib.hid (RdF.below RE.out Z.out)
  have HBd := Lib.hid (Lib.fresh_isBuilder 42 5 w2)
  have hba : Below w2.heap.size w2 (w2.alloc (.cells #[.pointer none, .slice none 0 0] 42)) := (Below.refl _ _).alloc (Nat.le_refl _) _
  have Y := Lib.hid hba
  have K3 := Lib.hid (K.out.below hba)
  clear hba
  go_upto_region 4 with (fail)
  obtain ⟨w3, hw3⟩ : ∃ X, X = w2.alloc (.cells #[.pointer none, .slice none 0 0] 42) := ⟨_, rfl⟩
  rw [← hw3] at HBd Y K3 ⊢
  clear hw3
  have k0 : w3.cell? ⟨w.heap.size, 0, none⟩ = some (.slice A E.length a) := K3.out.cell 0
  have k1 : w3.cell? ⟨w.heap.size, 1, none⟩ = some (.slice B F.length b) := K3.out.cell 1
  have k2 : w3.cell? ⟨w.heap.size, 2, none⟩ = some (.slice C L.length c) := K3.out.cell 2
  have lk := K3.out.lt
  go_wp2_with (fail)
  refine (writeRow w2.heap.size B b F [] w2 _ HSF.out f16 (by simp) rF2.out Y.out HBd.out T2.out).mono ?_
  rintro e w4 ⟨rfl, h4, hb⟩
  replace HBd := Lib.hid h4
  replace Y := Lib.hid (Y.out.trans hb)
  have K4 := Lib.hid (K.out.below Y.out)
  clear h4 hb k0 k1 k2 lk
  have hl1 : (rowT F).length ≤ 352 := by have := rowT_len F HSF.out; omega
  have hl2 : (rowT L).length ≤ 352 := by have := rowT_len L HSL.out; omega
  have HG4 := Lib.hid (show w2.heap.size ≤ w4.heap.size from Y.out.size)
  go_wp2_with (fail)
  refine (writeByte w2.heap.size w2.heap.size ([] ++ rowT F) 47 _ HBd.out (by simp; omega) HG4.out).mono ?_
  rintro e w5 ⟨rfl, h4, hb⟩
  replace HBd := Lib.hid h4
  replace Y := Lib.hid (Y.out.trans hb)
  have K5 := Lib.hid (K.out.below Y.out)
  clear h4 hb
  have k0 : w5.cell? ⟨w.heap.size, 0, none⟩ = some (.slice A E.length a) := K5.out.cell 0
  have k1 : w5.cell? ⟨w.heap.size, 1, none⟩ = some (.slice B F.length b) := K5.out.cell 1
  have k2 : w5.cell? ⟨w.heap.size, 2, none⟩ = some (.slice C L.length c) := K5.out.cell 2
  have lk := K5.out.lt
  go_wp2_with (fail)
  refine (writeRow w2.heap.size C c L ([] ++ rowT F ++ [47]) w2 _ HSL.out l16 (by simp; omega) rL2.out Y.out (.inr HBd.out) T2.out).mono ?_
  rintro e w6 ⟨rfl, h4, hb⟩
  have HB6 := Lib.hid h4
  replace Y := Lib.hid (Y.out.trans hb)
  have K6 := Lib.hid (K.out.below Y.out)
  clear h4 hb HBd k0 k1 k2 lk
  have HP := Lib.hid (show [] ++ rowT F ++ [47] ++ rowT L = rowT F ++ [47] ++ rowT L by simp)
  have hpl : ([] ++ rowT F ++ [47] ++ rowT L).length ≤ 1000 := by simp; omega
  obtain ⟨P, hP⟩ : ∃ P, [] ++ rowT F ++ [47] ++ rowT L = P := ⟨_, rfl⟩
  rw [hP] at HB6 HP hpl
  clear hP hl1 hl2 f16 l16
  have k0 : w6.cell? ⟨w.heap.size, 0, none⟩ = some (.slice A E.length a) := K6.out.cell 0
  have k1 : w6.cell? ⟨w.heap.size, 1, none⟩ = some (.slice B F.length b) := K6.out.cell 1
  have k2 : w6.cell? ⟨w.heap.size, 2, none⟩ = some (.slice C L.length c) := K6.out.cell 2
  have lk := K6.out.lt
  go_wp2
  clear k0 k1 k2 lk
  go_loopw [5, 19] (fun u v wr => ∃ j : Nat, j ≤ E.length ∧ v = .int .i64 (j : Int) ∧ Hid (Lib.IsBuilder 42 5 w2.heap.size w2.heap.size (Lib.byteCells (P ++ entsT (E.take j))) wr) ∧ Hid (Below w2.heap.size w2 wr)) (fun _ v _ => E.length - (intOf v).toNat)
  case atStart => exact ⟨0, Nat.zero_le _, rfl, by simpa [Hid, entsT] using HB6.out, Y.out⟩
  case round =>
    obtain ⟨j, hj, rfl, HBj, hY⟩ := hrel
    have HG := Lib.hid (show w2.heap.size ≤ wr.heap.size from hY.out.size)
    by_cases hlt : j < E.length
    · obtain ⟨g, hg, c0, c1, c2, c3, c4⟩ := RdF.below rE2.out hY.out j hlt
      subst hg
      have hXl := ent_tx_len (P := P) j e4 HSE.out hpl
      have hsm := HSE.out _ (List.getElem_mem hlt)
      obtain ⟨e, he⟩ : ∃ e, E[j] = e := ⟨_, rfl⟩
      rw [he] at c0 c1 c2 c3 c4 hsm
      have HE := Lib.hid (show P ++ entsT (E.take j) ++ [47] ++ entT e = P ++ entsT (E.take (j + 1)) by rw [entsT_take E j hlt, he]; simp)
      have hel := entT_len e hsm
      obtain ⟨X, hX⟩ : ∃ X, P ++ entsT (E.take j) = X := ⟨_, rfl⟩
      rw [hX] at HBj HE hXl
      have HM := Lib.hid hsm
      have i0 : (0 : Int) ≤ (j : Int) := by omega
      have i1 : (j : Int) < (E.length : Int) := by omega
      have hba : Below wr.heap.size wr (wr.alloc (.cells #[.int .i64 e.c, .int .i64 e.x, .int .i64 e.y, .int .i64 e.l, .int .i64 e.g] 48)) := (Below.refl _ _).alloc (Nat.le_refl _) _
      have KE : Hid (Bkk (wr.alloc (.cells #[.int .i64 e.c, .int .i64 e.x, .int .i64 e.y, .int .i64 e.l, .int .i64 e.g] 48)) wr.heap.size 48 #[.int .i64 e.c, .int .i64 e.x, .int .i64 e.y, .int .i64 e.l, .int .i64 e.g]) := Bkk.new _
      have HBa := Lib.hid (isb_below HBj.out hba)
      have YA := Lib.hid (hY.out.trans (hba.mono HG.out))
      have HGa := Lib.hid (show w2.heap.size ≤ (wr.alloc (.cells #[.int .i64 e.c, .int .i64 e.x, .int .i64 e.y, .int .i64 e.l, .int .i64 e.g] 48)).heap.size from Nat.le_trans HG.out hba.size)
      have HL := Lib.hid (show X.length + 1 ≤ 100000 ∧ (X ++ [47]).length + (entT e).length ≤ 100000 by rw [List.length_append]; simp; omega)
      have hne : wr.heap.size ≠ w2.heap.size := by
        have hl := (show w2.heap.size < wr.heap.size by rcases HBj.out with h | h <;> exact h.lt)
        omega
      have HNE := Lib.hid hne
      clear hX he hsm hXl hel hba hne HBj
      go_upto_region 10 with (fail)
      obtain ⟨wq, hwq⟩ : ∃ X, X = wr.alloc (.cells #[.int .i64 e.c, .int .i64 e.x, .int .i64 e.y, .int .i64 e.l, .int .i64 e.g] 48) := ⟨_, rfl⟩
      obtain ⟨eb, heb⟩ : ∃ X, X = wr.heap.size := ⟨_, rfl⟩
      rw [← hwq] at KE HBa YA HGa ⊢
      rw [← heb] at KE HNE ⊢
      clear hwq heb c0 c1 c2 c3 c4
      go_wp2_with (fail)
      refine (writeByteK w2.heap.size w2.heap.size X 47 _ HBa.out HL.out.1 HGa.out).mono ?_
      rintro e' w7 ⟨rfl, h7, hb, hk⟩
      have KF := Lib.hid (hk eb _ _ HNE.out (by decide) KE.out)
      have HB7 := Lib.hid h7
      have Y7 := Lib.hid (YA.out.trans hb)
      have HG7 := Lib.hid (Nat.le_trans HGa.out hb.size)
      clear h7 hb hk KE HBa
      have x0 : w7.cell? ⟨eb, 0, none⟩ = some (.int .i64 e.c) := KF.out.cell 0
      have x1 : w7.cell? ⟨eb, 1, none⟩ = some (.int .i64 e.x) := KF.out.cell 1
      have x2 : w7.cell? ⟨eb, 2, none⟩ = some (.int .i64 e.y) := KF.out.cell 2
      have x3 : w7.cell? ⟨eb, 3, none⟩ = some (.int .i64 e.l) := KF.out.cell 3
      have x4 : w7.cell? ⟨eb, 4, none⟩ = some (.int .i64 e.g) := KF.out.cell 4
      have lx := KF.out.lt
      go_wp2_with (fail)
      refine (entText e _ HM.out (T2.out.below Y7.out)).mono ?_
      rintro e' w8 ⟨rfl, hb⟩
      have HB8 := Lib.hid (isb_below (.inr HB7.out) hb)
      have Y8 := Lib.hid (Y7.out.trans (hb.mono HG7.out))
      have HG8 := Lib.hid (Nat.le_trans HG7.out hb.size)
      clear hb x0 x1 x2 x3 x4 lx HB7
      go_wp2_with (fail)
      refine (writeString w2.heap.size w2.heap.size (X ++ [47]) (entT e) _ HB8.out HL.out.2 HG8.out).mono ?_
      rintro e' w9 ⟨rfl, h9, hb⟩
      have HB9 := Lib.hid h9
      have Y9 := Lib.hid (Y8.out.trans hb)
      clear h9 hb HB8
      go_wp2
      go_roundw
      case rel => exact ⟨j + 1, by omega, by go_num, by rw [← HE.out]; exact .inr HB9.out, Y9.out⟩
      case measure => (simp [intOf]; try omega)
    · have i1 : ¬ (j : Int) < (E.length : Int) := by omega
      obtain rfl : j = E.length := by omega
      have HR := Lib.hid (show P ++ entsT E = putG E F L by rw [HX.out, HP.out]; rfl)
      clear hlt hj
      go_wp2_with (fail)
      refine (Tryd.Builder_String_any w2.heap.size w2.heap.size _ _ HBj.out HG.out).mono ?_
      rintro e' w7 ⟨rfl, hb⟩
      have Y7 := Lib.hid (Below.and Z.out (Below.refl _ _))
      have YY := Lib.hid (Z.out.trans ((hY.out.trans hb).mono LZ.out))
      clear hb
      go_wp2
      go_light
      go_ret
      exact ⟨ret_bs HR.out, YY.out⟩

set_option maxRecDepth 100000 in
set_option maxHeartbeats 4000000 in
theorem specGamePut (A : Option Addr) (a : Nat) (B : Option Addr) (b : Nat) (C : Option Addr) (c : Nat) (E : List Fig) (F L : List Int) (w : World) (hE : E.length ≤ 1048576) (hF : F.length ≤ 1048576) (hL : L.length ≤ 1048576) (rE : RdF w A E) (rF : RdI w B F) (rL : RdI w C L) :
    Calls Tryd.prog 5 #[gameV A E.length a B F.length b C L.length c] w fun e w' => e = .returned (bsV (putG E F L)) ∧ Below w.heap.size w w' := by
  have Z : Hid (Below w.heap.size w (w.alloc (.cells #[.slice A E.length a, .slice B F.length b, .slice C L.length c] 30))) := (Below.refl _ _).alloc (Nat.le_refl _) _
  have K : Hid (Bkk (w.alloc (.cells #[.slice A E.length a, .slice B F.length b, .slice C L.length c] 30)) w.heap.size 30 #[.slice A E.length a, .slice B F.length b, .slice C L.length c]) := Bkk.new _
  have RE := Lib.hid rE
  have RF := Lib.hid rF
  have RL := Lib.hid rL
  clear rE rF rL
  go_enter Tryd.func5, Tryd.ntmps5
  go_upto_region 1 with (fail)
  obtain ⟨w1, hw1⟩ : ∃ X, X = w.alloc (.cells #[.slice A E.length a, .slice B F.length b, .slice C L.length c] 30) := ⟨_, rfl⟩
  rw [← hw1] at K Z ⊢
  clear hw1
  have k0 : w1.cell? ⟨w.heap.size, 0, none⟩ = some (.slice A E.length a) := K.out.cell 0
  have k1 : w1.cell? ⟨w.heap.size, 1, none⟩ = some (.slice B F.length b) := K.out.cell 1
  have k2 : w1.cell? ⟨w.heap.size, 2, none⟩ = some (.slice C L.length c) := K.out.cell 2
  have lk := K.out.lt
  go_wp2_with (fail)
  refine (l2Ok A a B b C c E F L _ hE hF hL (RE.out.below Z.out) (RF.out.below Z.out) (RL.out.below Z.out)).mono ?_
  rintro e w2 ⟨rfl, hb⟩
  replace K := Lib.hid (K.out.below hb)
  replace Z := Lib.hid (Below.and Z.out hb)
  clear hb k0 k1 k2 lk
  rcases hg : gokB E F L with _ | _
  · have HX := Lib.hid (putG_no hg)
    clear hg
    go_wp2
    go_light
    go_ret
    exact ⟨ret_bs HX.out.symm, Z.out⟩
  have HX := Lib.hid (putG_yes hg)
  have HG := Lib.hid (gok_sm hg)
  clear hg
  have k0 : w2.cell? ⟨w.heap.size, 0, none⟩ = some (.slice A E.length a) := K.out.cell 0
  have k1 : w2.cell? ⟨w.heap.size, 1, none⟩ = some (.slice B F.length b) := K.out.cell 1
  have k2 : w2.cell? ⟨w.heap.size, 2, none⟩ = some (.slice C L.length c) := K.out.cell 2
  have lk := K.out.lt
  go_wp2_with (fail)
  refine (l2Put A a B b C c E F L _ HG.out (RE.out.below Z.out) (RF.out.below Z.out) (RL.out.below Z.out)).mono ?_
  rintro e w3 ⟨rfl, hb⟩
  replace Z := Lib.hid (Below.and Z.out hb)
  clear hb k0 k1 k2 lk
  go_wp2
  go_light
  go_ret
  exact ⟨ret_bs HX.out.symm, Z.out⟩

end Go.Proofs.YthidcmffnpnjjaaDoor
