/- Those of later places: the model's way. -/
import Derived.Test.YtgbnoemoangofaaYe
namespace Go.Proofs.Ytgbnoemoangofaa
open Go.ChangeShapes Go.WideShapes Go.ChangeAt Go.RowKit
set_option linter.unusedVariables false
set_option linter.unusedSimpArgs false

set_option maxRecDepth 100000 in
set_option maxHeartbeats 4000000 in
theorem specCheckCut (A : Option Addr) (a : Nat) (L : List Ck) (t : Int) (w : World) (hL : L.length ≤ 1048577) (h : Rd 3 Ck.cells w A L) :
    Calls Try.prog 21 #[.slice A L.length a, .int .i64 t] w (DoKC (cutC L t) w) := by
  obtain ⟨I, hi, hz0, hz1, hz2⟩ := parts_ofH infoCheck
  have I1 := Lib.hid hi
  have I2 := Lib.hid hz0
  have I3 := Lib.hid hz1
  have I4 := Lib.hid hz2
  clear hi hz0 hz1 hz2
  have HR := Lib.hid h
  have hba : Below w.heap.size w (w.alloc (.cells #[] 25)) := (Below.refl _ _).alloc (Nat.le_refl _) _
  have OQ : Hid (OwK (w.alloc (.cells #[] 25)) w.heap.size (some ⟨w.heap.size, 0, none⟩) 0 []) := own_nil_newH w 25 3 rfl
  have Z := Lib.hid hba
  have GE := Lib.hid hba.size
  clear h hba
  by_cases hok : okC L = false
  · have HX := Lib.hid (cutC_no (s := t) hok)
    have HOK := Lib.hid hok
    clear hok
    go_enter Try.func21, Try.ntmps21
    go_upto_region 2 with (fail)
    obtain ⟨w1, hw1⟩ : ∃ X, X = w.alloc (.cells #[] 25) := ⟨_, rfl⟩
    rw [← hw1] at OQ Z ⊢
    clear hw1 GE
    go_wp2
    go_loopw [5, 6] (fun u v wr => u = .slice (some ⟨w.heap.size, 0, none⟩) 0 0 ∧ v = .int .i64 0 ∧ Hid (OwK wr w.heap.size (some ⟨w.heap.size, 0, none⟩) 0 []) ∧ Hid (Below w.heap.size w wr)) (fun _ v _ => 0)
    case atStart => exact ⟨rfl, rfl, OQ.out, Z.out⟩
    case round =>
      clear OQ Z
      obtain ⟨rfl, rfl, OQ, Z⟩ := hrel
      by_cases h0 : 0 < L.length
      · have i1 : (0 : Int) < (L.length : Int) := by omega
        go_wp2_with (fail)
        refine (l15Ok A a L _ (by omega) (Rd.below HR.out Z.out)).mono ?_
        rintro e w2 ⟨rfl, hb⟩
        rw [HOK.out]
        replace OQ := Lib.hid (OQ.out.below hb)
        replace Z := Lib.hid (Below.and Z.out hb)
        clear hb
        go_wp2
        go_light
        go_ret
        rw [HX.out]
        exact ⟨_, _, rfl, OQ.out, Z.out⟩
      · have i1 : ¬ (0 : Int) < (L.length : Int) := by omega
        go_wp2
        go_light
        go_ret
        rw [HX.out]
        exact ⟨_, _, rfl, OQ.out, Z.out⟩
  replace hok : okC L = true := by simpa using hok
  have HX := Lib.hid (cutC_yes (s := t) hok)
  have h24 := (okC_iff.1 hok).len
  have HOK := Lib.hid hok
  clear hok
  go_enter Try.func21, Try.ntmps21
  go_upto_region 2 with (fail)
  obtain ⟨w1, hw1⟩ : ∃ X, X = w.alloc (.cells #[] 25) := ⟨_, rfl⟩
  obtain ⟨B0, hB0⟩ : ∃ B : Option Addr, B = some ⟨w.heap.size, 0, none⟩ := ⟨_, rfl⟩
  rw [← hw1] at OQ Z GE ⊢
  rw [← hB0] at OQ ⊢
  clear hw1 hB0
  go_wp2
  go_loopw [5, 6] (fun u v wr => ∃ (j : Nat) (Q : List Ck) (B : Option Addr) (b : Nat), j ≤ L.length ∧ u = .slice B Q.length b ∧ v = .int .i64 (j : Int) ∧ Hid (Q = (L.take j).filter (fun y => decide (t < y.f))) ∧ Q.length ≤ j ∧ Hid (OwK wr w.heap.size B b Q) ∧ Hid (Below w.heap.size w wr) ∧ Hid (w.heap.size ≤ wr.heap.size)) (fun _ v _ => L.length - (intOf v).toNat)
  case atStart => exact ⟨0, [], B0, 0, Nat.zero_le _, rfl, rfl, by simp [Hid], by simp, OQ.out, Z.out, GE.out⟩
  case round =>
    clear OQ Z GE
    obtain ⟨j, Q, B, b, hj, rfl, rfl, hQ, hQl, OQ, Z, GE⟩ := hrel
    by_cases hlt : j < L.length
    · have i0 : (0 : Int) ≤ (j : Int) := by omega
      have i1 : (j : Int) < (L.length : Int) := by omega
      have HT := Lib.hid (List.take_succ_eq_append_getElem hlt)
      go_wp2_with (fail)
      refine (l15Ok A a L _ (by omega) (Rd.below HR.out Z.out)).mono ?_
      rintro e w2 ⟨rfl, hb⟩
      rw [HOK.out]
      replace OQ := Lib.hid (OQ.out.below hb)
      replace Z := Lib.hid (Below.and Z.out hb)
      replace GE := Lib.hid (Nat.le_trans GE.out hb.size)
      clear hb
      obtain ⟨g, o, hg, xc⟩ := Rd.below HR.out Z.out j hlt
      subst hg
      generalize L[j] = x at xc HT
      have x0 : w2.cell? ⟨g, o + j * 3, none⟩ = some (.int .i64 x.a) := xc 0 _ rfl
      have x1 : w2.cell? ⟨g, o + j * 3 + 1, none⟩ = some (.int .i64 x.f) := xc 1 _ rfl
      have x2 : w2.cell? ⟨g, o + j * 3 + 2, none⟩ = some (.int .i64 x.n) := xc 2 _ rfl
      clear xc
      have lx : g < w2.heap.size := World.block_lt_of_cell? w2 _ x0
      by_cases hc : t < x.f
      · have HN := Lib.hid (show Q ++ [x] = (L.take (j + 1)).filter (fun y => decide (t < y.f)) by rw [HT.out, filter_snoc, if_pos hc, hQ.out])
        have hba : Below w2.heap.size w2 (w2.alloc (.cells (ckCs x) 25)) := (Below.refl _ _).alloc (Nat.le_refl _) _
        have HRw := Lib.hid (ckR w2 x)
        replace OQ := Lib.hid (OQ.out.below hba)
        replace Z := Lib.hid (Below.and Z.out hba)
        replace GE := Lib.hid (Nat.le_trans GE.out hba.size)
        clear hba hQ HT
        go_wp2_with (at_builtin; go_loud (refine list_app (f := Ck.cells) (fun _ => rfl) rfl _ _ 23 rfl w.heap.size 25 I (.agg #[.int .i64 0, .int .i64 0, .int .i64 0]) 24 Try.underlying23 I1.out I2.out I3.out I4.out rfl (by decide) _ Q.length (Q.flatMap Ck.cells) rfl OQ.out _ _ 1 [x] rfl rfl HRw.out (fun h => by cases h) (ck_one _) (by unfold maxLen; omega) (by omega) GE.out ?_))
        intro v5 w5 ho hg hp
        have hge := own_block_ge (show World.ownsRow _ _ _ _ _ _ _ from OQ.out)
        replace Z := Lib.hid (Z.out.grown hg Z.out.size (fun q hq => by have h1 := (hge q hq).1; omega))
        replace GE := Lib.hid (Nat.le_trans GE.out hg.size)
        obtain ⟨A5, a5, rfl, oa⟩ := OwK.push ho
        have OQ := Lib.hid oa
        clear ho hg hp hge oa HRw
        go_wp2
        go_roundw
        case rel => exact ⟨j + 1, _, A5, a5, by omega, rfl, by go_num, HN.out, by simp; omega, OQ.out, Z.out, GE.out⟩
        case measure => (simp [intOf]; try omega)
      · have HN := Lib.hid (show Q = (L.take (j + 1)).filter (fun y => decide (t < y.f)) by rw [HT.out, filter_snoc, if_neg hc, List.append_nil, hQ.out])
        clear hQ HT
        go_wp2
        go_roundw
        case rel => exact ⟨j + 1, Q, B, b, by omega, rfl, by go_num, HN.out, by omega, OQ.out, Z.out, GE.out⟩
        case measure => (simp [intOf]; try omega)
    · obtain rfl : j = L.length := by omega
      have HF := Lib.hid (show cutC L t = Q by rw [HX.out, hQ.out, List.take_length])
      have i1 : ¬ (L.length : Int) < (L.length : Int) := by omega
      go_wp2
      go_light
      go_ret
      rw [HF.out]
      exact ⟨B, b, rfl, OQ.out, Z.out⟩

end Go.Proofs.Ytgbnoemoangofaa
