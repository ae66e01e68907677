/- However things are added, they come the same: the draw and the law. -/
import Derived.Test.YtgnemgnhjallhaaVx
namespace Go.Proofs.Ytgnemgnhjallhaa
open Go.ChangeShapes Go.WideShapes Go.ChangeAt Go.RowKit
set_option linter.unusedVariables false
set_option linter.unusedSimpArgs false

set_option maxRecDepth 100000 in
set_option maxHeartbeats 4000000 in
theorem drawQueueSort {w : World} {A : Option Addr} {n c : Nat} (hn : n ≤ 1048576) (hc : n ≤ c) (hb : InB w A n) :
    Calls Try.prog 25 #[.slice A n c] w fun e w' => ∃ (D : List Tm) (B : Option Addr) (d : Nat), e = .returned (.slice B D.length d) ∧ D.length ≤ 25 ∧ OwT w' w.heap.size B d D ∧ Below w.heap.size w w' := by
  obtain ⟨I, hi, hz0, hz1, hz2⟩ := parts_ofH infoTimed
  have I1 := Lib.hid hi
  have I2 := Lib.hid hz0
  have I3 := Lib.hid hz1
  have I4 := Lib.hid hz2
  clear hi hz0 hz1 hz2
  have HB := Lib.hid hb
  clear hb
  go_enter Try.func25, Try.ntmps25
  go_wp2_with (fail)
  refine (l20Open hn hc HB.out).mono ?_
  rintro e w1 ⟨mm, rfl, hr, h1⟩
  have RD := Lib.hid hr
  have BA := Lib.hid h1
  have hRl := hr.lt
  have HOld := Lib.hid hr.old
  obtain ⟨R, hR⟩ : ∃ R, R = w.heap.size := ⟨_, rfl⟩
  have HRw := Lib.hid (show w.heap.size ≤ R from Nat.le_of_eq hR.symm)
  rw [← hR] at RD hRl ⊢
  clear hr h1 hR HB
  have hba : Below w1.heap.size w1 (w1.alloc (.cells #[] 25)) := (Below.refl _ _).alloc (Nat.le_refl _) _
  have OO : Hid (OwT (w1.alloc (.cells #[] 25)) w1.heap.size (some ⟨w1.heap.size, 0, none⟩) 0 []) := own_nil_newH w1 25 3 rfl
  have DR := Lib.hid ((Dr.start RD.out).below hba)
  clear hba RD
  go_upto_region 3 with (fail)
  obtain ⟨w2, hw2⟩ : ∃ X, X = w1.alloc (.cells #[] 25) := ⟨_, rfl⟩
  obtain ⟨B0, hB0⟩ : ∃ X : Option Addr, X = some ⟨w1.heap.size, 0, none⟩ := ⟨_, rfl⟩
  rw [← hw2] at OO DR ⊢
  rw [← hB0] at OO ⊢
  clear hw2 hB0
  go_wp2_with (fail)
  refine (pickR 12 DR.out.rd (by omega) (by omega) (by omega)).mono ?_
  rintro e w3 ⟨v, v0, v1, rfl, qa, qa0, qa1, hr, hg⟩
  obtain ⟨v, rfl⟩ := Int.eq_ofNat_of_zero_le v0
  replace OO := Lib.hid (OO.out.drawn hRl hg)
  replace DR := Lib.hid (DR.out.draw hr hg)
  clear hr hg
  go_wp2
  go_loopw [4, 5] (fun u v wr => ∃ (m : Nat) (D : List Tm) (B : Option Addr) (b : Nat) (q : Int), u = .slice B D.length b ∧ v = .int .i64 (m : Int) ∧ D.length + m ≤ 12 ∧ 0 ≤ q ∧ q + 8 * (m : Int) ≤ 100 ∧ Hid (OwT wr w1.heap.size B b D) ∧ Hid (Dr w1 R A mm c q wr)) (fun _ v _ => (intOf v).toNat)
  case atStart => exact ⟨v, [], B0, 0, qa, rfl, rfl, by simp; omega, by omega, by omega, OO.out, DR.out⟩
  case round =>
    clear OO DR v0 v1
    obtain ⟨m, D, B, b, q, rfl, rfl, hD, hq0, hq1, OO, DR⟩ := hrel
    rcases m with _ | m
    · have i0 : ¬ (0 : Int) < ((0 : Nat) : Int) := by omega
      have BB := Lib.hid (DR.out.back BA.out HRw.out)
      have LW := Lib.hid BA.out.size
      go_wp2
      go_light
      go_ret
      exact ⟨D, B, b, rfl, by omega, OO.out.base LW.out, BB.out⟩
    · have i0 : (0 : Int) < ((m + 1 : Nat) : Int) := by omega
      go_wp2_with (fail)
      refine (l20Timed DR.out.rd (by omega)).mono ?_
      rintro e w4 ⟨x, rfl, qb, qb0, qb1, hr, hg⟩
      replace OO := Lib.hid (OO.out.drawn hRl hg)
      replace DR := Lib.hid (DR.out.draw hr hg)
      clear hr hg
      have hba : Below w4.heap.size w4 (w4.alloc (.cells (tmCs x) 25)) := (Below.refl _ _).alloc (Nat.le_refl _) _
      have KX : Hid (Bkk (w4.alloc (.cells (tmCs x) 25)) w4.heap.size 25 (tmCs x)) := Bkk.new _
      have HXR := Lib.hid (show R < w4.heap.size from DR.out.rd.lt)
      replace OO := Lib.hid (OO.out.below hba)
      replace DR := Lib.hid (DR.out.below hba)
      clear hba
      go_upto_region 7 with (fail)
      obtain ⟨xb, hxb⟩ : ∃ X, X = w4.heap.size := ⟨_, rfl⟩
      obtain ⟨w5, hw5⟩ : ∃ X, X = w4.alloc (.cells (tmCs x) 25) := ⟨_, rfl⟩
      rw [← hw5] at OO DR KX ⊢
      rw [← hxb] at KX HXR ⊢
      have hxr := HXR.out
      clear hw5 hxb i0
      go_wp2
      go_loopw [7, 8] (fun u v wq => ∃ (bb : Bool) (k : Nat), u = .bool bb ∧ v = .int .i64 (k : Int) ∧ k ≤ D.length ∧ Hid (Below w5.heap.size w5 wq)) (fun _ v _ => D.length - (intOf v).toNat)
      case atStart => exact ⟨false, 0, rfl, rfl, Nat.zero_le _, Below.refl _ _⟩
      case round =>
        obtain ⟨bb, k, rfl, rfl, hk, hB⟩ := hrel
        replace OO := Lib.hid (OO.out.below hB.out)
        replace DR := Lib.hid (DR.out.below hB.out)
        replace KX := Lib.hid (KX.out.below hB.out)
        by_cases hlt : k < D.length
        · obtain ⟨g, hgo, _, hgw⟩ := own_g OO.out (by omega)
          subst hgo
          obtain ⟨y, hy⟩ : ∃ y, at' D k = y := ⟨_, rfl⟩
          obtain ⟨y0, y1, y2⟩ := ownC OO.out k hlt y hy
          have x0 : wr.cell? ⟨xb, 0, none⟩ = some (.int .i64 x.a) := KX.out.cell 0
          have x1 : wr.cell? ⟨xb, 1, none⟩ = some (.int .i64 x.f) := KX.out.cell 1
          have x2 : wr.cell? ⟨xb, 2, none⟩ = some (.int .i64 x.n) := KX.out.cell 2
          have lx := KX.out.lt
          have i0 : (0 : Int) ≤ (k : Int) := by omega
          have i1 : (k : Int) < (D.length : Int) := by omega
          rcases bb with _ | _
          · obtain ⟨d, hd⟩ : ∃ d, decide (y = x) = d := ⟨_, rfl⟩
            have hq : ∀ W, (binOp .eql 25 (.agg #[.int .i64 y.a, .int .i64 y.f, .int .i64 y.n]) (.agg #[.int .i64 x.a, .int .i64 x.f, .int .i64 x.n])).run Try.prog W = .ok (.bool d) W := fun W => by rw [← hd]; exact eqlTimed y x W
            clear hd hy
            go_wp2_with (fail)
            go_quiet (fail)
            clear hq y0 y1 y2 x0 x1 x2 lx
            go_wp2
            go_roundw
            case rel => exact ⟨d, k + 1, rfl, by go_num, by omega, Below.drewN hB.out _⟩
            case measure => (simp [intOf]; try omega)
          · clear hy
            go_wp2_with (fail)
            go_quiet (fail)
            clear y0 y1 y2 x0 x1 x2 lx
            go_wp2
            go_roundw
            case rel => exact ⟨true, k + 1, rfl, by go_num, by omega, Below.drewN hB.out _⟩
            case measure => (simp [intOf]; try omega)
        · have i1 : ¬ (k : Int) < (D.length : Int) := by omega
          clear hB
          rcases bb with _ | _
          · have hqe : ∃ qe : Int, qe = qb := ⟨_, rfl⟩
            obtain ⟨qe, hqe⟩ := hqe
            rw [← hqe] at DR
            have qe0 : 0 ≤ qe := by omega
            have qe1 : qe + 8 * (m : Int) ≤ 100 := by omega
            clear hqe
            have x0 : wr.cell? ⟨xb, 0, none⟩ = some (.int .i64 x.a) := KX.out.cell 0
            have x1 : wr.cell? ⟨xb, 1, none⟩ = some (.int .i64 x.f) := KX.out.cell 1
            have x2 : wr.cell? ⟨xb, 2, none⟩ = some (.int .i64 x.n) := KX.out.cell 2
            have lx := KX.out.lt
            have hba : Below wr.heap.size wr (wr.alloc (.cells (tmCs x) 25)) := (Below.refl _ _).alloc (Nat.le_refl _) _
            have HRw := Lib.hid (tm_row wr 25 x)
            have OB := Lib.hid (OO.out.below hba)
            have DB := Lib.hid (DR.out.below hba)
            have LE := Lib.hid (Nat.le_trans DR.out.gr.size hba.size)
            clear hba
            go_wp2_with (at_builtin; go_loud (refine list_app (f := Tm.cells) (fun _ => rfl) rfl _ _ 23 rfl w1.heap.size 25 I (.agg #[.int .i64 0, .int .i64 0, .int .i64 0]) 24 Try.underlying23 I1.out I2.out I3.out I4.out rfl (by decide) _ D.length (D.flatMap Tm.cells) rfl OB.out _ _ 1 [x] rfl rfl HRw.out (fun h => by cases h) (tm_one _) (by unfold maxLen; omega) (by omega) LE.out ?_))
            intro v9 w9 ho hg hp9
            have hge := OB.out.lt
            have D9 := Lib.hid (DB.out.row HOld.out hRl hg (fun k hk => (hge k hk).1))
            obtain ⟨B5, b5, rfl, oa⟩ := OwT.push ho
            have O9 := Lib.hid oa
            have hlen : (D ++ [x]).length = D.length + 1 := by simp
            obtain ⟨D2, hD2⟩ : ∃ X, X = D ++ [x] := ⟨_, rfl⟩
            rw [← hD2] at O9 hlen ⊢
            have hl5 : D2.length + m ≤ 12 := by omega
            clear ho hg hp9 hge oa HRw OB DB LE OO DR KX hD2 hlen x0 x1 x2 lx
            have w8 : IntKind.i64.wrap (m : Int) = (m : Int) := wrap_nat m (by omega)
            go_wp2
            go_roundw
            case rel => exact ⟨m, D2, B5, b5, qe, rfl, by go_num, hl5, by omega, by omega, O9.out, D9.out⟩
            case measure => (simp [intOf]; try omega)
          · go_wp2_with (fail)
            refine (pickR 12 DR.out.rd (by omega) (by omega) (by omega)).mono ?_
            rintro e w6 ⟨v, v0, v1, rfl, qe, qe0, qe1, hr, hg⟩
            replace KX := Lib.hid (KX.out.grownV hg (fun e => by injection e with e; omega))
            replace OO := Lib.hid (OO.out.drawn hRl hg)
            replace DR := Lib.hid (DR.out.draw hr hg)
            clear hr hg
            by_cases hv : v = 0
            · subst hv
              have x0 : w6.cell? ⟨xb, 0, none⟩ = some (.int .i64 x.a) := KX.out.cell 0
              have x1 : w6.cell? ⟨xb, 1, none⟩ = some (.int .i64 x.f) := KX.out.cell 1
              have x2 : w6.cell? ⟨xb, 2, none⟩ = some (.int .i64 x.n) := KX.out.cell 2
              have lx := KX.out.lt
              have hba : Below w6.heap.size w6 (w6.alloc (.cells (tmCs x) 25)) := (Below.refl _ _).alloc (Nat.le_refl _) _
              have HRw := Lib.hid (tm_row w6 25 x)
              have OB := Lib.hid (OO.out.below hba)
              have DB := Lib.hid (DR.out.below hba)
              have LE := Lib.hid (Nat.le_trans DR.out.gr.size hba.size)
              clear hba
              go_wp2_with (at_builtin; go_loud (refine list_app (f := Tm.cells) (fun _ => rfl) rfl _ _ 23 rfl w1.heap.size 25 I (.agg #[.int .i64 0, .int .i64 0, .int .i64 0]) 24 Try.underlying23 I1.out I2.out I3.out I4.out rfl (by decide) _ D.length (D.flatMap Tm.cells) rfl OB.out _ _ 1 [x] rfl rfl HRw.out (fun h => by cases h) (tm_one _) (by unfold maxLen; omega) (by omega) LE.out ?_))
              intro v9 w9 ho hg hp9
              have hge := OB.out.lt
              have D9 := Lib.hid (DB.out.row HOld.out hRl hg (fun k hk => (hge k hk).1))
              obtain ⟨B5, b5, rfl, oa⟩ := OwT.push ho
              have O9 := Lib.hid oa
              have hlen : (D ++ [x]).length = D.length + 1 := by simp
              obtain ⟨D2, hD2⟩ : ∃ X, X = D ++ [x] := ⟨_, rfl⟩
              rw [← hD2] at O9 hlen ⊢
              have hl5 : D2.length + m ≤ 12 := by omega
              clear ho hg hp9 hge oa HRw OB DB LE OO DR KX hD2 hlen x0 x1 x2 lx
              have w8 : IntKind.i64.wrap (m : Int) = (m : Int) := wrap_nat m (by omega)
              go_wp2
              go_roundw
              case rel => exact ⟨m, D2, B5, b5, qe, rfl, by go_num, hl5, by omega, by omega, O9.out, D9.out⟩
              case measure => (simp [intOf]; try omega)
            · have e0 : (v == 0) = false := by simpa using hv
              have w8 : IntKind.i64.wrap (m : Int) = (m : Int) := wrap_nat m (by omega)
              go_wp2
              go_roundw
              case rel => exact ⟨m, D, B, b, qe, rfl, by go_num, by omega, by omega, by omega, OO.out, DR.out⟩
              case measure => (simp [intOf]; try omega)

end Go.Proofs.Ytgnemgnhjallhaa
