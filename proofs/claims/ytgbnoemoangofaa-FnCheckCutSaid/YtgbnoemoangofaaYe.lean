/- One checksum more, and those of later places: the program's way. -/
import Derived.Test.YtgbnoemoangofaaYd
import Derived.Test.YtgbnoemoangofaaApb
namespace Go.Proofs.Ytgbnoemoangofaa
open Go.ChangeShapes Go.WideShapes Go.ChangeAt Go.RowKit
set_option linter.unusedVariables false
set_option linter.unusedSimpArgs false

def DoKA (X : List Ck × Bool) (w : World) (e : Ending) (w' : World) : Prop := ∃ A a, e = .returned (.tuple #[.slice A X.1.length a, .bool X.2]) ∧ OwK w' w.heap.size A a X.1 ∧ Below w.heap.size w w'
def DoKC (R : List Ck) (w : World) (e : Ending) (w' : World) : Prop := ∃ A a, e = .returned (.slice A R.length a) ∧ OwK w' w.heap.size A a R ∧ Below w.heap.size w w'
theorem ckR (w : World) (x : Ck) : Rd 3 Ck.cells (w.alloc (.cells (ckCs x) 25)) (some ⟨w.heap.size, 0, none⟩) [x] := ck_row w 25 x
set_option maxRecDepth 100000 in
set_option maxHeartbeats 4000000 in
theorem implCheckAdd (A : Option Addr) (a : Nat) (L : List Ck) (x : Ck) (w : World) (hL : L.length ≤ 1048577) (h : RdK w A a L) :
    Calls Try.prog 11 #[.slice A L.length a, x.val] w (DoKA (addC L x) w) := by
  obtain ⟨I, hi, hz0, hz1, hz2⟩ := parts_ofH infoCheck
  have I1 := Lib.hid hi
  have I2 := Lib.hid hz0
  have I3 := Lib.hid hz1
  have I4 := Lib.hid hz2
  clear hi hz0 hz1 hz2
  have KX : Hid (Bkk (w.alloc (.cells (ckCs x) 25)) w.heap.size 25 (ckCs x)) := Bkk.new _
  have Z : Hid (Below w.heap.size w (w.alloc (.cells (ckCs x) 25))) := (Below.refl _ _).alloc (Nat.le_refl _) _
  have HR := Lib.hid h
  clear h
  go_enter Try.func11, Try.ntmps11
  go_wp2_with (fail)
  obtain ⟨w0, hw0⟩ : ∃ X, X = (w.alloc (.cells (ckCs x) 25)) := ⟨_, rfl⟩
  rw [← hw0] at KX Z ⊢
  clear hw0
  refine (implCheckOk A a L _ (by omega) (HR.out.below Z.out).r).mono ?_
  rintro e w1 ⟨rfl, hb⟩
  replace KX := Lib.hid (KX.out.below hb)
  replace Z := Lib.hid (Below.and Z.out hb)
  clear hb
  rcases hok : okC L with _ | _
  · have HX := Lib.hid (addC_bad (x := x) hok)
    clear hok
    go_wp2
    go_light
    go_ret2
    rw [HX.out]
    exact ⟨none, 0, rfl, OwK.nil _ _, Z.out⟩
  have HOK := Lib.hid hok
  have h24 := (okC_iff.1 hok).len
  clear hok
  have LZ := Lib.hid (show w.heap.size ≤ w1.heap.size from Z.out.size)
  have LKX := Lib.hid (show w.heap.size < w1.heap.size from KX.out.lt)
  go_wp2_with (at_builtin; go_loud (refine list_app (f := Ck.cells) (fun _ => rfl) rfl _ _ 23 rfl w1.heap.size 25 I (.agg #[.int .i64 0, .int .i64 0, .int .i64 0]) 24 Try.underlying23 I1.out I2.out I3.out I4.out rfl (by decide) (.slice none 0 0) 0 [] rfl (World.ownsRow_nil _ _ _ _) A a L.length L rfl rfl (HR.out.below Z.out).r HR.out.nA (ck_one _) (by unfold maxLen; omega) (by omega) (Nat.le_refl _) ?_))
  intro v3 w3 ho hg hp
  (try simp only [Nat.zero_add, List.nil_append] at ho)
  obtain ⟨A1, a1, rfl⟩ := own_formH ho
  have OA := Lib.hid (show OwK w3 w1.heap.size A1 a1 L from ho)
  replace KX := Lib.hid (KX.out.grownK hg (fun e => by cases e))
  replace Z := Lib.hid (Z.out.grown hg Z.out.size (fun q hq => by cases hq))
  have L3 := Lib.hid (show w1.heap.size ≤ w3.heap.size from hg.size)
  clear ho hg hp
  have hba : Below w3.heap.size w3 (w3.alloc (.cells (ckCs x) 25)) := (Below.refl _ _).alloc (Nat.le_refl _) _
  have HRw := Lib.hid (ckR w3 x)
  have x0 : w3.cell? ⟨w.heap.size, 0, none⟩ = some (.int .i64 x.a) := KX.out.cell 0
  have x1 : w3.cell? ⟨w.heap.size, 1, none⟩ = some (.int .i64 x.f) := KX.out.cell 1
  have x2 : w3.cell? ⟨w.heap.size, 2, none⟩ = some (.int .i64 x.n) := KX.out.cell 2
  have lx := KX.out.lt
  have xf := KX.out.frozen
  replace OA := Lib.hid (OA.out.below hba)
  replace Z := Lib.hid (Below.and Z.out hba)
  have LE := Lib.hid (Nat.le_trans L3.out hba.size)
  clear hba
  go_wp2_with (at_builtin; go_loud (refine list_app2 (f := Ck.cells) (fun _ => rfl) rfl _ _ 23 rfl w1.heap.size 25 I (.agg #[.int .i64 0, .int .i64 0, .int .i64 0]) 24 Try.underlying23 I1.out I2.out I3.out I4.out rfl (by decide) A1 a1 L.length (L.flatMap Ck.cells) rfl OA.out _ _ 1 [x] rfl rfl HRw.out (fun h => by cases h) (ck_one _) (by unfold maxLen; omega) (by omega) LE.out ?_))
  intro v5 w5 ho ho2 hB hg
  replace Z := Lib.hid (Z.out.trans (hB.mono LZ.out))
  have O1 := Lib.hid (show OwK w5 w1.heap.size A1 a1 L from ho2)
  obtain ⟨A5, a5, rfl, oa⟩ := OwK.push ho
  have O2 := Lib.hid oa
  clear ho ho2 hB hg oa HRw LE OA KX x0 x1 x2 lx xf L3 LKX
  obtain ⟨M, hM⟩ : ∃ M, L ++ [x] = M := ⟨_, rfl⟩
  have hMl : M.length ≤ 25 := by rw [← hM]; simp; omega
  have HM := Lib.hid hM
  rw [hM] at O2 ⊢
  clear hM
  go_wp2_with (fail)
  refine (implCheckOk A5 a5 M _ (by omega) O2.out.rd).mono ?_
  rintro e w6 ⟨rfl, hb⟩
  replace O1 := Lib.hid (O1.out.below hb)
  replace O2 := Lib.hid (O2.out.below hb)
  replace Z := Lib.hid (Below.and Z.out hb)
  clear hb
  rcases hok : okC M with _ | _
  · have HX := Lib.hid (show addC L x = (L, false) from addC_no HOK.out (by rw [HM.out]; exact hok))
    clear hok
    go_wp2
    go_light
    go_ret2
    rw [HX.out]
    exact ⟨A1, a1, rfl, O1.out.base LZ.out, Z.out⟩
  · have HX := Lib.hid (show addC L x = (M, true) by rw [← HM.out]; exact addC_yes HOK.out (by rw [HM.out]; exact hok))
    clear hok
    go_wp2
    go_light
    go_ret2
    rw [HX.out]
    exact ⟨A5, a5, rfl, O2.out.base LZ.out, Z.out⟩

theorem filter_snoc (L : List Ck) (x : Ck) (t : Int) : (L ++ [x]).filter (fun y => decide (t < y.f)) = L.filter (fun y => decide (t < y.f)) ++ (if t < x.f then [x] else []) := by
  rw [List.filter_append]
  congr 1
  by_cases h : t < x.f <;> simp [h]

set_option maxRecDepth 100000 in
set_option maxHeartbeats 4000000 in
theorem implCheckCut (A : Option Addr) (a : Nat) (L : List Ck) (t : Int) (w : World) (hL : L.length ≤ 1048577) (h : Rd 3 Ck.cells w A L) :
    Calls Try.prog 20 #[.slice A L.length a, .int .i64 t] w (DoKC (cutC L t) w) := by
  obtain ⟨I, hi, hz0, hz1, hz2⟩ := parts_ofH infoCheck
  have I1 := Lib.hid hi
  have I2 := Lib.hid hz0
  have I3 := Lib.hid hz1
  have I4 := Lib.hid hz2
  clear hi hz0 hz1 hz2
  have HR := Lib.hid h
  have Z : Hid (Below w.heap.size w w) := Below.refl _ _
  clear h
  go_enter Try.func20, Try.ntmps20
  go_wp2_with (fail)
  refine (implCheckOk A a L _ (by omega) HR.out).mono ?_
  rintro e w1 ⟨rfl, hb⟩
  replace Z := Lib.hid hb
  clear hb
  rcases hok : okC L with _ | _
  · have HX := Lib.hid (cutC_no (s := t) hok)
    clear hok
    go_wp2
    go_light
    go_ret
    rw [HX.out]
    exact ⟨none, 0, rfl, OwK.nil _ _, Z.out⟩
  have HX := Lib.hid (cutC_yes (s := t) hok)
  have h24 := (okC_iff.1 hok).len
  have LZ := Lib.hid (show w.heap.size ≤ w1.heap.size from Z.out.size)
  clear hok
  obtain ⟨B0, hB0⟩ : ∃ B : Option Addr, B = none := ⟨_, rfl⟩
  have OQ : Hid (OwK w1 w1.heap.size B0 0 []) := by rw [hB0]; exact OwK.nil _ _
  have GE := Lib.hid (Nat.le_refl w1.heap.size)
  go_wp2
  rw [← hB0]
  clear hB0
  go_loopw [5, 13] (fun u v wr => ∃ (j : Nat) (Q : List Ck) (B : Option Addr) (b : Nat), j ≤ L.length ∧ u = .slice B Q.length b ∧ v = .int .i64 (j : Int) ∧ Hid (Q = (L.take j).filter (fun y => decide (t < y.f))) ∧ Q.length ≤ j ∧ Hid (OwK wr w1.heap.size B b Q) ∧ Hid (Below w.heap.size w wr) ∧ Hid (w1.heap.size ≤ wr.heap.size)) (fun _ v _ => L.length - (intOf v).toNat)
  case atStart => exact ⟨0, [], B0, 0, Nat.zero_le _, rfl, rfl, by simp [Hid], by simp, OQ.out, Z.out, GE.out⟩
  case round =>
    clear OQ Z GE
    obtain ⟨j, Q, B, b, hj, rfl, rfl, hQ, hQl, OQ, Z, GE⟩ := hrel
    by_cases hlt : j < L.length
    · have i0 : (0 : Int) ≤ (j : Int) := by omega
      have i1 : (j : Int) < (L.length : Int) := by omega
      have HT := Lib.hid (List.take_succ_eq_append_getElem hlt)
      obtain ⟨g, o, hg, xc⟩ := Rd.below HR.out Z.out j hlt
      subst hg
      generalize L[j] = x at xc HT
      have x0 : wr.cell? ⟨g, o + j * 3, none⟩ = some (.int .i64 x.a) := xc 0 _ rfl
      have x1 : wr.cell? ⟨g, o + j * 3 + 1, none⟩ = some (.int .i64 x.f) := xc 1 _ rfl
      have x2 : wr.cell? ⟨g, o + j * 3 + 2, none⟩ = some (.int .i64 x.n) := xc 2 _ rfl
      clear xc
      have lx : g < wr.heap.size := World.block_lt_of_cell? wr _ x0
      have hba : Below wr.heap.size wr (wr.alloc (.cells (ckCs x) 25)) := (Below.refl _ _).alloc (Nat.le_refl _) _
      have KX : Hid (Bkk (wr.alloc (.cells (ckCs x) 25)) wr.heap.size 25 (ckCs x)) := Bkk.new _
      replace OQ := Lib.hid (OQ.out.below hba)
      replace Z := Lib.hid (Below.and Z.out hba)
      replace GE := Lib.hid (Nat.le_trans GE.out hba.size)
      clear hba
      go_upto_region 7 with (fail)
      obtain ⟨xb, hxb⟩ : ∃ X, X = wr.heap.size := ⟨_, rfl⟩
      obtain ⟨w2, hw2⟩ : ∃ X, X = wr.alloc (.cells (ckCs x) 25) := ⟨_, rfl⟩
      rw [← hw2] at OQ KX Z GE ⊢
      rw [← hxb] at KX ⊢
      clear hw2 hxb x0 x1 x2 lx
      have y0 : w2.cell? ⟨xb, 0, none⟩ = some (.int .i64 x.a) := KX.out.cell 0
      have y1 : w2.cell? ⟨xb, 1, none⟩ = some (.int .i64 x.f) := KX.out.cell 1
      have y2 : w2.cell? ⟨xb, 2, none⟩ = some (.int .i64 x.n) := KX.out.cell 2
      have ly := KX.out.lt
      have yf := KX.out.frozen
      by_cases hc : t < x.f
      · have HN := Lib.hid (show Q ++ [x] = (L.take (j + 1)).filter (fun y => decide (t < y.f)) by rw [HT.out, filter_snoc, if_pos hc, hQ.out])
        have hba : Below w2.heap.size w2 (w2.alloc (.cells (ckCs x) 25)) := (Below.refl _ _).alloc (Nat.le_refl _) _
        have HRw := Lib.hid (ckR w2 x)
        replace OQ := Lib.hid (OQ.out.below hba)
        replace Z := Lib.hid (Below.and Z.out hba)
        replace GE := Lib.hid (Nat.le_trans GE.out hba.size)
        clear hba hQ HT
        go_wp2_with (at_builtin; go_loud (refine list_app (f := Ck.cells) (fun _ => rfl) rfl _ _ 23 rfl w1.heap.size 25 I (.agg #[.int .i64 0, .int .i64 0, .int .i64 0]) 24 Try.underlying23 I1.out I2.out I3.out I4.out rfl (by decide) _ Q.length (Q.flatMap Ck.cells) rfl OQ.out _ _ 1 [x] rfl rfl HRw.out (fun h => by cases h) (ck_one _) (by unfold maxLen; omega) (by omega) GE.out ?_))
        intro v5 w5 ho hg hp
        have hge := own_block_ge (show World.ownsRow _ _ _ _ _ _ _ from OQ.out)
        replace Z := Lib.hid (Z.out.grown hg Z.out.size (fun q hq => by have h1 := (hge q hq).1; have := LZ.out; omega))
        replace GE := Lib.hid (Nat.le_trans GE.out hg.size)
        obtain ⟨A5, a5, rfl, oa⟩ := OwK.push ho
        have OQ := Lib.hid oa
        clear ho hg hp hge oa HRw
        go_wp2
        go_roundw
        case rel => exact ⟨j + 1, _, A5, a5, by omega, rfl, by go_num, HN.out, by simp; omega, OQ.out, Z.out, GE.out⟩
        case measure => (simp [intOf]; try omega)
      · have HN := Lib.hid (show Q = (L.take (j + 1)).filter (fun y => decide (t < y.f)) by rw [HT.out, filter_snoc, if_neg hc, List.append_nil, hQ.out])
        clear hQ HT
        go_wp2
        go_roundw
        case rel => exact ⟨j + 1, Q, B, b, by omega, rfl, by go_num, HN.out, by omega, OQ.out, Z.out, GE.out⟩
        case measure => (simp [intOf]; try omega)
    · obtain rfl : j = L.length := by omega
      have HF := Lib.hid (show cutC L t = Q by rw [HX.out, hQ.out, List.take_length])
      have i1 : ¬ (L.length : Int) < (L.length : Int) := by omega
      go_wp2
      go_light
      go_ret
      rw [HF.out]
      exact ⟨B, b, rfl, OQ.out.base LZ.out, Z.out⟩

end Go.Proofs.Ytgbnoemoangofaa
