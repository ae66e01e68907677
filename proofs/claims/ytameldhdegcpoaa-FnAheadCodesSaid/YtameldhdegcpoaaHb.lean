import Derived.Test.YtameldhdegcpoaaHa
import Derived.Test.YtameldhdegcpoaaMC
import Derived.Test.YtameldhdegcpoaaMM
import Derived.Deep.Cut
namespace Go.Proofs.Ytameldhdegcpoaa
open Go.ChangeShapes Go.WideShapes Go.ChangeAt Go.RowKit
set_option linter.unusedVariables false
set_option linter.unusedSimpArgs false
set_option maxRecDepth 100000 in
set_option maxHeartbeats 4000000 in
theorem l8Ok (A : Option Addr) (a : Nat) (B : Option Addr) (b : Nat) (D W : List Rq) (k : Int) (w : World) (hD : D.length ≤ 1048576) (hW : W.length ≤ 1048576) (rD : Rd 5 Rq.cells w A D) (rW : Rd 5 Rq.cells w B W) :
 Calls Try.prog 45 #[aheadV A D.length a B W.length b k] w fun e w' => e = .returned (.bool (ahB D W k)) ∧ Below w.heap.size w w' := by
 have z0 : Below w.heap.size w (w.alloc (.cells #[.slice A D.length a, .slice B W.length b, .int .i64 k] 33)) := (Below.refl _ _).alloc (Nat.le_refl _) _
 have HD := Lib.hid rD
 have HW := Lib.hid rW
 have K0 := Lib.hid (Three.new (u0 := .slice A D.length a) (u1 := .slice B W.length b) (u2 := .int .i64 k) (t := 33) w)
 have B0 := Lib.hid z0
 have ew : IntKind.i64.wrap ((D.length : Int) + (W.length : Int)) = (D.length : Int) + (W.length : Int) := IntWalk.i64_in _ (by omega)
 clear rD rW z0
 go_enter Try.func45, Try.ntmps45
 go_wp2
 go_loopw [3] (fun v wr => ∃ j : Nat, j ≤ D.length + W.length ∧ v = .int .i64 (j : Int) ∧ Hid (((D ++ W).take j).all okB = true) ∧ Hid (Three wr w.heap.size 33 (.slice A D.length a) (.slice B W.length b) (.int .i64 k)) ∧ Hid (Below w.heap.size w wr)) (fun v _ => D.length + W.length - (intOf v).toNat)
 case atStart => exact ⟨0, Nat.zero_le _, rfl, by simp [Hid], K0.out, B0.out⟩
 case round =>
  clear K0 B0
  obtain ⟨j, hj, rfl, ha, KA, hb⟩ := hrel
  obtain ⟨q0, q1, q2⟩ := KA.out.cells
  have lq := KA.out.lt
  by_cases hlt : j < D.length + W.length
  · have e0 : decide ((j : Int) < (D.length : Int) + (W.length : Int)) = true := by simp; omega
    have hlt' : j < (D ++ W).length := by simpa using hlt
    have HT := Lib.hid (List.take_succ_eq_append_getElem hlt')
    have HM := Lib.hid (List.getElem_mem hlt')
    by_cases hd : j < D.length
    · obtain ⟨g, o, rfl, ca⟩ := Rd.below HD.out hb.out j hd
      have hx : (D ++ W)[j] = D[j] := List.getElem_append_left hd
      rw [hx] at HT HM
      clear hx
      generalize D[j] = x at ca HT HM
      have xr0 : wr.cell? ⟨g, o + j * 5, none⟩ = some (.int .i64 x.c) := ca 0 _ rfl
      have xr1 : wr.cell? ⟨g, o + j * 5 + 1, none⟩ = some (.int .i64 x.n) := ca 1 _ rfl
      have xr2 : wr.cell? ⟨g, o + j * 5 + 2, none⟩ = some (.int .i64 x.o) := ca 2 _ rfl
      have xr3 : wr.cell? ⟨g, o + j * 5 + 3, none⟩ = some (.int .i64 x.x) := ca 3 _ rfl
      have xr4 : wr.cell? ⟨g, o + j * 5 + 4, none⟩ = some (.int .i64 x.y) := ca 4 _ rfl
      clear ca
      have lx : g < wr.heap.size := World.block_lt_of_cell? wr _ xr0
      have i0 : (0 : Int) ≤ (j : Int) := by omega
      have i1 : (j : Int) < (D.length : Int) := by omega
      go_upto_region 8 with (fail)
      have hba : Below wr.heap.size wr (wr.alloc (.cells #[.int .i64 x.c, .int .i64 x.n, .int .i64 x.o, .int .i64 x.x, .int .i64 x.y] 49)) := (Below.refl _ _).alloc (Nat.le_refl _) _
      have BB := Lib.hid (Below.and hb.out hba)
      have KA := Lib.hid (Three.below KA.out hba KA.out.lt)
      have KX := Lib.hid (Five.new (u0 := .int .i64 x.c) (u1 := .int .i64 x.n) (u2 := .int .i64 x.o) (u3 := .int .i64 x.x) (u4 := .int .i64 x.y) (t := 49) wr)
      clear hba
      obtain ⟨y0, y1, y2, y3, y4⟩ := KX.out.cells
      go_wp2_with (fail)
      refine (l1Ok x.c x.n x.o x.x x.y _).mono ?_
      rintro e w1 ⟨rfl, h1⟩
      have BB1 := Lib.hid (Below.and BB.out h1)
      have KA := Lib.hid (Three.below KA.out h1 KA.out.lt)
      have KX := Lib.hid (KX.out.grown (Below.grownBy h1 none) (by simp))
      clear h1
      rcases hq : reqB x.c x.n x.o x.x x.y with _ | _
      · obtain ⟨y0, y1, y2, y3, y4⟩ := KX.out.cells
        go_wp2_with (fail)
        refine (l1None x _).mono ?_
        rintro e w2 ⟨rfl, h2⟩
        have BB2 := Lib.hid (Below.and BB1.out h2)
        have KA := Lib.hid (Three.below KA.out h2 KA.out.lt)
        clear h2
        rcases hn : nullB x with _ | _
        · have HF : Hid ((D ++ W).all okB = false) := by
           show _ = _
           rw [List.all_eq_false]
           exact ⟨x, HM.out, by simp [okB, rqB, hq, hn]⟩
          have HG := Lib.hid (show ahB D W k = false by unfold ahB; rw [← List.all_append, HF.out]; simp)
          clear hq hn
          go_wp2
          go_light
          go_ret
          exact ⟨ret_bool (by rw [HG.out]), BB2.out⟩
        · have HN : Hid (((D ++ W).take (j + 1)).all okB = true) := by
           show _ = _
           rw [HT.out, List.all_append, ha.out]
           simp [okB, hn]
          clear hq hn
          go_wp2
          go_roundw
          case rel => exact ⟨j + 1, by omega, by go_num, HN.out, KA.out, BB2.out⟩
          case measure => (simp [intOf]; try omega)
      · have HN : Hid (((D ++ W).take (j + 1)).all okB = true) := by
         show _ = _
         rw [HT.out, List.all_append, ha.out]
         simp [okB, rqB, hq]
        clear hq
        go_wp2
        go_roundw
        case rel => exact ⟨j + 1, by omega, by go_num, HN.out, KA.out, BB1.out⟩
        case measure => (simp [intOf]; try omega)
    · obtain ⟨m, hjm⟩ : ∃ m, j = D.length + m := ⟨j - D.length, by omega⟩
      have hm : m < W.length := by omega
      obtain ⟨g, o, rfl, ca⟩ := Rd.below HW.out hb.out m hm
      have hx : (D ++ W)[j] = W[m] := by
       subst hjm
       rw [List.getElem_append_right (by omega)]
       simp
      rw [hx] at HT HM
      clear hx
      generalize W[m] = x at ca HT HM
      have xr0 : wr.cell? ⟨g, o + m * 5, none⟩ = some (.int .i64 x.c) := ca 0 _ rfl
      have xr1 : wr.cell? ⟨g, o + m * 5 + 1, none⟩ = some (.int .i64 x.n) := ca 1 _ rfl
      have xr2 : wr.cell? ⟨g, o + m * 5 + 2, none⟩ = some (.int .i64 x.o) := ca 2 _ rfl
      have xr3 : wr.cell? ⟨g, o + m * 5 + 3, none⟩ = some (.int .i64 x.x) := ca 3 _ rfl
      have xr4 : wr.cell? ⟨g, o + m * 5 + 4, none⟩ = some (.int .i64 x.y) := ca 4 _ rfl
      clear ca
      have lx : g < wr.heap.size := World.block_lt_of_cell? wr _ xr0
      have i1 : ¬ (j : Int) < (D.length : Int) := by omega
      have i2 : (0 : Int) ≤ (m : Int) := by omega
      have i3 : (m : Int) < (W.length : Int) := by omega
      have em : IntKind.i64.wrap ((j : Int) - (D.length : Int)) = (m : Int) := by rw [show (j : Int) - (D.length : Int) = (m : Int) by omega]; exact IntWalk.i64_in _ (by omega)
      have HJM := Lib.hid hjm
      clear hjm
      go_upto_region 8 with (fail)
      have hba : Below wr.heap.size wr (wr.alloc (.cells #[.int .i64 x.c, .int .i64 x.n, .int .i64 x.o, .int .i64 x.x, .int .i64 x.y] 49)) := (Below.refl _ _).alloc (Nat.le_refl _) _
      have BB := Lib.hid (Below.and hb.out hba)
      have KA := Lib.hid (Three.below KA.out hba KA.out.lt)
      have KX := Lib.hid (Five.new (u0 := .int .i64 x.c) (u1 := .int .i64 x.n) (u2 := .int .i64 x.o) (u3 := .int .i64 x.x) (u4 := .int .i64 x.y) (t := 49) wr)
      clear hba
      obtain ⟨y0, y1, y2, y3, y4⟩ := KX.out.cells
      go_wp2_with (fail)
      refine (l1Ok x.c x.n x.o x.x x.y _).mono ?_
      rintro e w1 ⟨rfl, h1⟩
      have BB1 := Lib.hid (Below.and BB.out h1)
      have KA := Lib.hid (Three.below KA.out h1 KA.out.lt)
      have KX := Lib.hid (KX.out.grown (Below.grownBy h1 none) (by simp))
      clear h1
      rcases hq : reqB x.c x.n x.o x.x x.y with _ | _
      · obtain ⟨y0, y1, y2, y3, y4⟩ := KX.out.cells
        go_wp2_with (fail)
        refine (l1None x _).mono ?_
        rintro e w2 ⟨rfl, h2⟩
        have BB2 := Lib.hid (Below.and BB1.out h2)
        have KA := Lib.hid (Three.below KA.out h2 KA.out.lt)
        clear h2
        rcases hn : nullB x with _ | _
        · have HF : Hid ((D ++ W).all okB = false) := by
           show _ = _
           rw [List.all_eq_false]
           exact ⟨x, HM.out, by simp [okB, rqB, hq, hn]⟩
          have HG := Lib.hid (show ahB D W k = false by unfold ahB; rw [← List.all_append, HF.out]; simp)
          clear hq hn
          go_wp2
          go_light
          go_ret
          exact ⟨ret_bool (by rw [HG.out]), BB2.out⟩
        · have HN : Hid (((D ++ W).take (j + 1)).all okB = true) := by
           show _ = _
           rw [HT.out, List.all_append, ha.out]
           simp [okB, hn]
          clear hq hn
          go_wp2
          go_roundw
          case rel => exact ⟨j + 1, by omega, by go_num, HN.out, KA.out, BB2.out⟩
          case measure => (simp [intOf]; try omega)
      · have HN : Hid (((D ++ W).take (j + 1)).all okB = true) := by
         show _ = _
         rw [HT.out, List.all_append, ha.out]
         simp [okB, rqB, hq]
        clear hq
        go_wp2
        go_roundw
        case rel => exact ⟨j + 1, by omega, by go_num, HN.out, KA.out, BB1.out⟩
        case measure => (simp [intOf]; try omega)
  · have e0 : decide ((j : Int) < (D.length : Int) + (W.length : Int)) = false := by simp; omega
    obtain rfl : j = (D ++ W).length := by simp; omega
    rw [List.take_length] at ha
    have HV := Lib.hid (show ahB D W k = (decide ((D.length : Int) + (W.length : Int) ≤ 60) && inB k 0 99) by
     unfold ahB
     rw [← List.all_append, ha.out, Bool.and_true]
     congr 1
     simp; omega)
    rcases h1 : decide ((D.length : Int) + (W.length : Int) ≤ 60) with _ | _
    · have HF := Lib.hid (show ahB D W k = false by rw [HV.out, h1]; rfl)
      go_wp2
      go_light
      go_ret
      exact ⟨ret_bool (by rw [HF.out]), hb.out⟩
    · have HF := Lib.hid (show ahB D W k = inB k 0 99 by rw [HV.out, h1]; rfl)
      go_wp2_with (fail)
      refine (specIn _ _ _ _).mono ?_
      rintro e w1 ⟨rfl, rfl⟩
      obtain ⟨b4, hb4⟩ : ∃ b4, inB k 0 99 = b4 := ⟨_, rfl⟩
      have HF := Lib.hid (show ahB D W k = b4 by rw [HF.out, hb4])
      rw [hb4]
      clear hb4
      go_wp2
      go_light
      go_ret
      exact ⟨ret_bool (by rw [HF.out]), hb.out⟩
end Go.Proofs.Ytameldhdegcpoaa
