/- Checksums drawn of a code. -/
import Derived.Test.YtgbnoemoangofaaYk
import Derived.Test.YtgbnoemoangofaaVta
import Derived.Test.YtgbnoemoangofaaMM
namespace Go.Proofs.Ytgbnoemoangofaa
open Go.ChangeShapes Go.WideShapes Go.ChangeAt Go.RowKit
set_option linter.unusedVariables false
set_option linter.unusedSimpArgs false

theorem OwK.drawn {w w' : World} {lo R : Nat} {B : Option Addr} {d : Nat} {D : List Ck} (h : OwK w lo B d D) (hR : R < lo) (hg : w.grownBy w' (some R)) : OwK w' lo B d D :=
  own_same (show w.ownsRow _ _ _ _ _ _ from h) (fun k hk => by
    have h1 := h.lt k hk
    exact hg.block k h1.2 (fun e => by injection e with e; omega))
theorem OwK.nA {w : World} {lo : Nat} {A : Option Addr} {a : Nat} {D : List Ck} (h : OwK w lo A a D) : A = none → a = 0 := h.rdT.nA
theorem Dr.backK {w W : World} {R : Nat} {A : Option Addr} {n c : Nat} {q : Int} {w0 : World} (h : Dr w R A n c q W) (hb : Below w0.heap.size w0 w) (hR : w0.heap.size ≤ R) : Below w0.heap.size w0 W :=
  hb.trans (Below.of_grown h.gr hb.size (fun x hx => by injection hx with hx; omega))

set_option maxRecDepth 100000 in
set_option maxHeartbeats 4000000 in
theorem l20Check {w : World} {R : Nat} {A : Option Addr} {n c : Nat} {p : Int} (h : Reader w R A n c p) (hp : p ≤ 99000) :
    Calls Try.prog 30 #[.pointer (some ⟨R, 0, none⟩)] w fun e w' => ∃ x : Ck, e = .returned x.val ∧ Drawn w R A n c p 6 w' := by
  have HOld := Lib.hid h.old
  have hRlt := h.lt
  have hb0 : Below w.heap.size w (w.alloc (.cells (ckCs ⟨0, 0, 0⟩) 25)) := (Below.refl _ _).alloc (Nat.le_refl _) _
  have KR : Hid (Bkk (w.alloc (.cells (ckCs ⟨0, 0, 0⟩) 25)) w.heap.size 25 (ckCs ⟨0, 0, 0⟩)) := Bkk.new _
  have DR := Lib.hid ((Dr.start h).below hb0)
  clear h hb0
  go_enter Try.func30, Try.ntmps30
  go_wp2_with (fail)
  obtain ⟨w0, hw0⟩ : ∃ X, X = (w.alloc (.cells (ckCs ⟨0, 0, 0⟩) 25)) := ⟨_, rfl⟩
  rw [← hw0] at KR DR ⊢
  clear hw0
  refine (pickR 4 DR.out.rd (by omega) (by omega) (by omega)).mono ?_
  rintro e w1 ⟨va, va0, va1, rfl, qva, qva0, qva1, hr, hg⟩
  replace KR := Lib.hid (Bkk.grownK KR.out hg (fun e => by injection e with e; omega))
  replace DR := Lib.hid (DR.out.draw hr hg)
  clear hr hg
  go_wp2_with (fail)
  refine (pickR 4 DR.out.rd (by omega) (by omega) (by omega)).mono ?_
  rintro e w2 ⟨vf, vf0, vf1, rfl, qvf, qvf0, qvf1, hr, hg⟩
  replace KR := Lib.hid (Bkk.grownK KR.out hg (fun e => by injection e with e; omega))
  replace DR := Lib.hid (DR.out.draw hr hg)
  clear hr hg
  have hba : Below w2.heap.size w2 (w2.alloc (.cells #[.int .i64 7, .int .i64 7, .int .i64 7, .int .i64 9] 3)) := (Below.refl _ _).alloc (Nat.le_refl _) _
  have hsz : R < w2.heap.size := DR.out.rd.lt
  replace KR := Lib.hid (Bkk.below KR.out hba)
  replace DR := Lib.hid (DR.out.below hba)
  clear hba
  go_wp2_with (fail)
  refine (oneV w2.heap.size [7, 7, 7, 9] DR.out.rd (by omega) (by simp) (by simp) (by omega) (lit_cellsV w2 3 [7, 7, 7, 9])).mono ?_
  rintro e w3 ⟨vn, hmvn, rfl, qvn, qvn0, qvn1, hr, hg⟩
  replace KR := Lib.hid (Bkk.grownK KR.out hg (fun e => by injection e with e; omega))
  replace DR := Lib.hid (DR.out.draw hr hg)
  clear hr hg hsz
  have hba : Below w3.heap.size w3 (w3.alloc (.cells #[.int .i64 va, .int .i64 vf, .int .i64 vn] 25)) := (Below.refl _ _).alloc (Nat.le_refl _) _
  have KX : Hid (Bkk (w3.alloc (.cells #[.int .i64 va, .int .i64 vf, .int .i64 vn] 25)) w3.heap.size 25 #[.int .i64 va, .int .i64 vf, .int .i64 vn]) := Bkk.new _
  have HXW := Lib.hid (show w.heap.size < w3.heap.size from KR.out.lt)
  replace KR := Lib.hid (KR.out.below hba)
  replace DR := Lib.hid (DR.out.below hba)
  clear hba hmvn
  go_upto_region 2 with (fail)
  obtain ⟨xb, hxb⟩ : ∃ X, X = w3.heap.size := ⟨_, rfl⟩
  obtain ⟨w4, hw4⟩ : ∃ X, X = w3.alloc (.cells #[.int .i64 va, .int .i64 vf, .int .i64 vn] 25) := ⟨_, rfl⟩
  rw [← hw4] at KX KR DR ⊢
  rw [← hxb] at KX HXW ⊢
  clear hw4 hxb
  have hxw := HXW.out
  go_wp2_with (fail)
  refine (pickR 14 DR.out.rd (by omega) (by omega) (by omega)).mono ?_
  rintro e w5 ⟨g, g0, g1, rfl, qg, qg0, qg1, hr, hg⟩
  replace KR := Lib.hid (Bkk.grownK KR.out hg (fun e => by injection e with e; omega))
  replace KX := Lib.hid (Bkk.grownK KX.out hg (fun e => by injection e with e; omega))
  replace DR := Lib.hid (DR.out.draw hr hg)
  clear hr hg
  by_cases h0 : g = 0
  · subst h0
    have hba : Below w5.heap.size w5 (w5.alloc (.cells #[.int .i64 (-1), .int .i64 4294967296, .int .i64 4294967295] 3)) := (Below.refl _ _).alloc (Nat.le_refl _) _
    have hsz : R < w5.heap.size := DR.out.rd.lt
    replace KR := Lib.hid (Bkk.below KR.out hba)
    replace KX := Lib.hid (Bkk.below KX.out hba)
    replace DR := Lib.hid (DR.out.below hba)
    clear hba
    go_wp2_with (fail)
    refine (oneV w5.heap.size [-1, 4294967296, 4294967295] DR.out.rd (by omega) (by simp) (by simp) (by omega) (lit_cellsV w5 3 [-1, 4294967296, 4294967295])).mono ?_
    rintro e w6 ⟨v9, hmv9, rfl, qv9, qv90, qv91, hr, hg⟩
    replace KR := Lib.hid (Bkk.grownK KR.out hg (fun e => by injection e with e; omega))
    replace KX := Lib.hid (Bkk.grownK KX.out hg (fun e => by injection e with e; omega))
    replace DR := Lib.hid (DR.out.draw hr hg)
    clear hr hg hsz
    have x0 : w6.cell? ⟨xb, 0, none⟩ = some (.int .i64 va) := KX.out.cell 0
    have x1 : w6.cell? ⟨xb, 1, none⟩ = some (.int .i64 vf) := KX.out.cell 1
    have x2 : w6.cell? ⟨xb, 2, none⟩ = some (.int .i64 vn) := KX.out.cell 2
    have xf := KX.out.frozen
    have lx := KX.out.lt
    clear hmv9
    go_upto_region 4 with (fail)
    replace KR := Lib.hid (KR.out.far (show w.heap.size ≠ xb by omega) 2 (.int .i64 v9))
    replace DR := Lib.hid (DR.out.put HOld.out hRlt (show w.heap.size ≤ xb by omega) 2 (.int .i64 v9))
    replace KX : Hid (Bkk (w6.setCell ⟨xb, 2, none⟩ (.int .i64 v9)) xb 25 #[.int .i64 va, .int .i64 vf, .int .i64 v9]) := KX.out.set 2 (.int .i64 v9)
    obtain ⟨w7, hw7⟩ : ∃ X, X = w6.setCell ⟨xb, 2, none⟩ (.int .i64 v9) := ⟨_, rfl⟩
    rw [← hw7] at KR KX DR ⊢
    clear hw7 x0 x1 x2 xf lx
    have x0 : w7.cell? ⟨xb, 0, none⟩ = some (.int .i64 va) := KX.out.cell 0
    have x1 : w7.cell? ⟨xb, 1, none⟩ = some (.int .i64 vf) := KX.out.cell 1
    have x2 : w7.cell? ⟨xb, 2, none⟩ = some (.int .i64 v9) := KX.out.cell 2
    have r0 : w7.cell? ⟨w.heap.size, 0, none⟩ = some (.int .i64 0) := KR.out.cell 0
    have r1 : w7.cell? ⟨w.heap.size, 1, none⟩ = some (.int .i64 0) := KR.out.cell 1
    have r2 : w7.cell? ⟨w.heap.size, 2, none⟩ = some (.int .i64 0) := KR.out.cell 2
    have rf := KR.out.frozen
    have lr := KR.out.lt
    have lx := KX.out.lt
    have D9 := Lib.hid (Dr.out (Dr.put (Dr.put (Dr.put DR.out HOld.out hRlt (Nat.le_refl w.heap.size) 0 (.int .i64 va)) HOld.out hRlt (Nat.le_refl w.heap.size) 1 (.int .i64 vf)) HOld.out hRlt (Nat.le_refl w.heap.size) 2 (.int .i64 v9)) (p := p) (K := 6) (by omega) (by omega))
    clear KX KR DR
    go_wp2
    exact bodyPost_ret (v := Ck.val ⟨va, vf, v9⟩) (by simp [results, Try.results30, go_sem, r0, r1, r2, rf]) rfl ⟨⟨va, vf, v9⟩, rfl, D9.out⟩
  · have e0 : (g == 0) = false := by simpa using h0
    go_upto_region 4 with (fail)
    have x0 : w5.cell? ⟨xb, 0, none⟩ = some (.int .i64 va) := KX.out.cell 0
    have x1 : w5.cell? ⟨xb, 1, none⟩ = some (.int .i64 vf) := KX.out.cell 1
    have x2 : w5.cell? ⟨xb, 2, none⟩ = some (.int .i64 vn) := KX.out.cell 2
    have r0 : w5.cell? ⟨w.heap.size, 0, none⟩ = some (.int .i64 0) := KR.out.cell 0
    have r1 : w5.cell? ⟨w.heap.size, 1, none⟩ = some (.int .i64 0) := KR.out.cell 1
    have r2 : w5.cell? ⟨w.heap.size, 2, none⟩ = some (.int .i64 0) := KR.out.cell 2
    have rf := KR.out.frozen
    have lr := KR.out.lt
    have lx := KX.out.lt
    have D9 := Lib.hid (Dr.out (Dr.put (Dr.put (Dr.put DR.out HOld.out hRlt (Nat.le_refl w.heap.size) 0 (.int .i64 va)) HOld.out hRlt (Nat.le_refl w.heap.size) 1 (.int .i64 vf)) HOld.out hRlt (Nat.le_refl w.heap.size) 2 (.int .i64 vn)) (p := p) (K := 6) (by omega) (by omega))
    clear KX KR DR
    go_wp2
    exact bodyPost_ret (v := Ck.val ⟨va, vf, vn⟩) (by simp [results, Try.results30, go_sem, r0, r1, r2, rf]) rfl ⟨⟨va, vf, vn⟩, rfl, D9.out⟩

set_option maxRecDepth 100000 in
set_option maxHeartbeats 8000000 in
theorem l20Checks {w : World} {R : Nat} {A : Option Addr} {n c : Nat} {p : Int} (h : Reader w R A n c p) (hp : p ≤ 90000) :
    Calls Try.prog 29 #[.pointer (some ⟨R, 0, none⟩)] w fun e w' => ∃ (D : List Ck) (B : Option Addr) (d : Nat), e = .returned (.slice B D.length d) ∧ D.length ≤ 25 ∧ OwK w' w.heap.size B d D ∧ Drawn w R A n c p 200 w' := by
  obtain ⟨I, hi, hz0, hz1, hz2⟩ := parts_ofH infoCheck
  have I1 := Lib.hid hi
  have I2 := Lib.hid hz0
  have I3 := Lib.hid hz1
  have I4 := Lib.hid hz2
  clear hi hz0 hz1 hz2
  have HOld := Lib.hid h.old
  have hRlt := h.lt
  have hb0 : Below w.heap.size w (w.alloc (.cells #[] 25)) := (Below.refl _ _).alloc (Nat.le_refl _) _
  have OQ : Hid (OwK (w.alloc (.cells #[] 25)) w.heap.size (some ⟨w.heap.size, 0, none⟩) 0 []) := own_nil_newH w 25 3 rfl
  have DR := Lib.hid ((Dr.start h).below hb0)
  clear h hb0
  go_enter Try.func29, Try.ntmps29
  go_upto_region 2 with (fail)
  obtain ⟨w0, hw0⟩ : ∃ X, X = w.alloc (.cells #[] 25) := ⟨_, rfl⟩
  obtain ⟨B0, hB0⟩ : ∃ X : Option Addr, X = some ⟨w.heap.size, 0, none⟩ := ⟨_, rfl⟩
  rw [← hw0] at OQ DR ⊢
  rw [← hB0] at OQ ⊢
  clear hw0 hB0
  have hba : Below w0.heap.size w0 (w0.alloc (.cells #[.int .i64 0, .int .i64 4, .int .i64 10, .int .i64 30] 3)) := (Below.refl _ _).alloc (Nat.le_refl _) _
  have hsz : R < w0.heap.size := DR.out.rd.lt
  replace OQ := Lib.hid (OQ.out.below hba)
  replace DR := Lib.hid (DR.out.below hba)
  clear hba
  go_wp2_with (fail)
  refine (oneV w0.heap.size [0, 4, 10, 30] DR.out.rd (by omega) (by simp) (by simp) (by omega) (lit_cellsV w0 3 [0, 4, 10, 30])).mono ?_
  rintro e w1 ⟨m, hm, rfl, qa, qa0, qa1, hr, hg⟩
  have hm2 : 0 ≤ m ∧ m ≤ 30 := by simp at hm; omega
  obtain ⟨m, rfl⟩ : ∃ M : Nat, m = (M : Int) := ⟨m.toNat, by omega⟩
  replace OQ := Lib.hid (OQ.out.drawn hRlt hg)
  replace DR := Lib.hid (DR.out.draw hr hg)
  clear hr hg hm hsz
  go_wp2
  go_loopw [3, 4] (fun u v wr => ∃ (m : Nat) (Q : List Ck) (B : Option Addr) (b : Nat) (q : Int), u = .slice B Q.length b ∧ v = .int .i64 (m : Int) ∧ Hid (okC Q = true) ∧ m ≤ 30 ∧ p ≤ q ∧ q + 6 * (m : Int) ≤ p + 190 ∧ Hid (OwK wr w.heap.size B b Q) ∧ Hid (Dr w R A n c q wr)) (fun _ v _ => (intOf v).toNat)
  case atStart => exact ⟨m, [], B0, 0, qa, rfl, rfl, okC_nil, by omega, by omega, by omega, OQ.out, DR.out⟩
  case round =>
    clear OQ DR hm2
    obtain ⟨m, Q, B, b, q, rfl, rfl, hok, hm30, hq0, hq1, OQ, DR⟩ := hrel
    have h24 := (okC_iff.1 hok.out).len
    rcases m with _ | m
    · have i0 : ¬ (0 : Int) < ((0 : Nat) : Int) := by omega
      by_cases hl : 0 < Q.length
      · have i1 : (0 : Int) < (Q.length : Int) := by omega
        go_wp2_with (fail)
        refine (pickR 14 DR.out.rd (by omega) (by omega) (by omega)).mono ?_
        rintro e w2 ⟨g, g0, g1, rfl, qb, qb0, qb1, hr, hg⟩
        replace OQ := Lib.hid (OQ.out.drawn hRlt hg)
        replace DR := Lib.hid (DR.out.draw hr hg)
        clear hr hg
        by_cases hg0 : g = 0
        · subst hg0
          obtain ⟨gq, hgq, hgl, hgw⟩ := own_gK OQ.out hl
          subst hgq
          obtain ⟨x, hx⟩ : ∃ x, atK Q 0 = x := ⟨_, rfl⟩
          obtain ⟨x0, x1, x2⟩ := ownCK OQ.out 0 hl x hx
          rw [show 0 * 3 = 0 from rfl] at x0 x1 x2
          rw [show 0 + 1 = 1 from rfl] at x1
          rw [show 0 + 2 = 2 from rfl] at x2
          have hba : Below w2.heap.size w2 (w2.alloc (.cells (ckCs x) 25)) := (Below.refl _ _).alloc (Nat.le_refl _) _
          have HRw := Lib.hid (ckR w2 x)
          replace OQ := Lib.hid (OQ.out.below hba)
          replace DR := Lib.hid (DR.out.below hba)
          have LE := Lib.hid (show w.heap.size ≤ (w2.alloc (.cells (ckCs x) 25)).heap.size from DR.out.gr.size)
          clear hba hx hgl
          go_wp2_with (at_builtin; go_loud (refine list_app (f := Ck.cells) (fun _ => rfl) rfl _ _ 23 rfl w.heap.size 25 I (.agg #[.int .i64 0, .int .i64 0, .int .i64 0]) 24 Try.underlying23 I1.out I2.out I3.out I4.out rfl (by decide) _ Q.length (Q.flatMap Ck.cells) rfl OQ.out _ _ 1 [x] rfl rfl HRw.out (fun h => by cases h) (ck_one _) (by unfold maxLen; omega) (by omega) LE.out ?_))
          intro v9 w9 ho hg hp9
          have hge := own_block_ge (show World.ownsRow _ _ _ _ _ _ _ from OQ.out)
          replace DR := Lib.hid (DR.out.row HOld.out hRlt hg (fun y hy => (hge y hy).1))
          obtain ⟨A5, a5, rfl, oa⟩ := OwK.push ho
          have OM := Lib.hid oa
          have DO := Lib.hid (Dr.out DR.out (p := p) (K := 200) (by omega) (by omega))
          have hl5 : (Q ++ [x]).length ≤ 25 := by simp; omega
          clear ho hg hp9 hge oa OQ DR HRw LE x0 x1 x2
          go_wp2
          go_light
          go_ret
          exact ⟨Q ++ [x], A5, a5, by simp, hl5, OM.out, DO.out⟩
        · have e0 : (g == 0) = false := by simpa using hg0
          have hba : Below w2.heap.size w2 (w2.alloc (.cells #[] 25)) := (Below.refl _ _).alloc (Nat.le_refl _) _
          have OE : Hid ((w2.alloc (.cells #[] 25)).ownsRow w2.heap.size 25 3 (.slice (some ⟨w2.heap.size, 0, none⟩) 0 0) 0 []) := own_nil_newH w2 25 3 rfl
          have LZ := Lib.hid (show w.heap.size ≤ w2.heap.size from DR.out.gr.size)
          replace OQ := Lib.hid (OQ.out.below hba)
          replace DR := Lib.hid (DR.out.below hba)
          have LE := Lib.hid hba.size
          clear hba
          go_wp2_with (at_builtin; go_loud (refine list_app (f := Ck.cells) (fun _ => rfl) rfl _ _ 23 rfl w2.heap.size 25 I (.agg #[.int .i64 0, .int .i64 0, .int .i64 0]) 24 Try.underlying23 I1.out I2.out I3.out I4.out rfl (by decide) (.slice (some ⟨w2.heap.size, 0, none⟩) 0 0) 0 [] rfl OE.out _ _ Q.length Q rfl rfl OQ.out.rdT.r OQ.out.rdT.nA (ck_one _) (by unfold maxLen; omega) (by omega) LE.out ?_))
          intro v9 w9 ho hg hp9
          (try simp only [Nat.zero_add, List.nil_append] at ho)
          obtain ⟨A1, a1, rfl⟩ := own_formH ho
          have OA := Lib.hid (show OwK w9 w2.heap.size A1 a1 Q from ho)
          have hge := own_block_ge (show World.ownsRow _ _ _ _ _ _ _ from OE.out)
          replace DR := Lib.hid (DR.out.row HOld.out hRlt hg (fun y hy => Nat.le_trans LZ.out (hge y hy).1))
          have DO := Lib.hid (Dr.out DR.out (p := p) (K := 200) (by omega) (by omega))
          clear ho hg hp9 hge OE OQ DR LE
          go_wp2
          go_light
          go_ret
          exact ⟨Q, A1, a1, rfl, by omega, OA.out.base LZ.out, DO.out⟩
      · have i1 : ¬ (0 : Int) < (Q.length : Int) := by omega
        have hba : Below wr.heap.size wr (wr.alloc (.cells #[] 25)) := (Below.refl _ _).alloc (Nat.le_refl _) _
        have OE : Hid ((wr.alloc (.cells #[] 25)).ownsRow wr.heap.size 25 3 (.slice (some ⟨wr.heap.size, 0, none⟩) 0 0) 0 []) := own_nil_newH wr 25 3 rfl
        have LZ := Lib.hid (show w.heap.size ≤ wr.heap.size from DR.out.gr.size)
        replace OQ := Lib.hid (OQ.out.below hba)
        replace DR := Lib.hid (DR.out.below hba)
        have LE := Lib.hid hba.size
        clear hba
        go_wp2_with (at_builtin; go_loud (refine list_app (f := Ck.cells) (fun _ => rfl) rfl _ _ 23 rfl wr.heap.size 25 I (.agg #[.int .i64 0, .int .i64 0, .int .i64 0]) 24 Try.underlying23 I1.out I2.out I3.out I4.out rfl (by decide) (.slice (some ⟨wr.heap.size, 0, none⟩) 0 0) 0 [] rfl OE.out _ _ Q.length Q rfl rfl OQ.out.rdT.r OQ.out.rdT.nA (ck_one _) (by unfold maxLen; omega) (by omega) LE.out ?_))
        intro v9 w9 ho hg hp9
        (try simp only [Nat.zero_add, List.nil_append] at ho)
        obtain ⟨A1, a1, rfl⟩ := own_formH ho
        have OA := Lib.hid (show OwK w9 wr.heap.size A1 a1 Q from ho)
        have hge := own_block_ge (show World.ownsRow _ _ _ _ _ _ _ from OE.out)
        replace DR := Lib.hid (DR.out.row HOld.out hRlt hg (fun y hy => Nat.le_trans LZ.out (hge y hy).1))
        have DO := Lib.hid (Dr.out DR.out (p := p) (K := 200) (by omega) (by omega))
        clear ho hg hp9 hge OE OQ DR LE
        go_wp2
        go_light
        go_ret
        exact ⟨Q, A1, a1, rfl, by omega, OA.out.base LZ.out, DO.out⟩
    · have i0 : (0 : Int) < ((m + 1 : Nat) : Int) := by omega
      have e9 : IntKind.i64.wrap (((m + 1 : Nat) : Int) - 1) = (m : Int) := by rw [IntWalk.i64_in _ (by omega)]; omega
      go_wp2_with (fail)
      refine (l20Check DR.out.rd (by omega)).mono ?_
      rintro e w3 ⟨x, rfl, qs, qs0, qs1, hr, hg⟩
      replace OQ := Lib.hid (OQ.out.drawn hRlt hg)
      replace DR := Lib.hid (DR.out.draw hr hg)
      clear hr hg
      have LE := Lib.hid (show w.heap.size ≤ w3.heap.size from DR.out.gr.size)
      obtain ⟨⟨T, u⟩, hT⟩ : ∃ X, addC Q x = X := ⟨_, rfl⟩
      have HT := Lib.hid hT
      clear hT
      go_wp2_with (fail)
      refine (specCheckAdd B b Q x _ (by omega) OQ.out.rdT).mono ?_
      rw [HT.out]
      rintro e w4 ⟨A4, a4, rfl, o4, hb⟩
      have O4 := Lib.hid (o4.base LE.out)
      replace OQ := Lib.hid (OQ.out.below hb)
      replace DR := Lib.hid (DR.out.below hb)
      clear o4 hb
      rcases u with _ | _
      · clear O4 HT
        go_wp2
        go_roundw
        case rel => exact ⟨m, Q, B, b, qs, rfl, by simp; try omega, hok.out, by omega, by omega, by omega, OQ.out, DR.out⟩
        case measure => (simp [intOf]; try omega)
      · have HO2 := Lib.hid (show okC T = true by
          have h9 := HT.out
          unfold addC at h9
          rw [if_pos hok.out] at h9
          by_cases hh : okC (Q ++ [x]) = true
          · rw [if_pos hh] at h9
            injection h9 with h9 _
            rw [← h9]; exact hh
          · rw [if_neg hh] at h9
            injection h9 with _ h9
            cases h9)
        clear OQ HT hok
        go_wp2
        go_roundw
        case rel => exact ⟨m, T, A4, a4, qs, rfl, by simp; try omega, HO2.out, by omega, by omega, by omega, O4.out, DR.out⟩
        case measure => (simp [intOf]; try omega)

set_option maxRecDepth 100000 in
set_option maxHeartbeats 2000000 in
theorem drawCheckStable {w : World} {A : Option Addr} {n c : Nat} (hn : n ≤ 1048576) (hc : n ≤ c) (hb : InB w A n) :
    Calls Try.prog 17 #[.slice A n c] w fun e w' => ∃ (D : List Ck) (B : Option Addr) (d : Nat), e = .returned (.slice B D.length d) ∧ D.length ≤ 25 ∧ OwK w' w.heap.size B d D ∧ Below w.heap.size w w' := by
  have HB := Lib.hid hb
  clear hb
  go_enter Try.func17, Try.ntmps17
  go_wp2_with (fail)
  refine (l20Open hn hc HB.out).mono ?_
  rintro e w1 ⟨n', rfl, hr, h1⟩
  have RD := Lib.hid hr
  have BA := Lib.hid h1
  clear hr h1
  obtain ⟨R, hR⟩ : ∃ R, R = w.heap.size := ⟨_, rfl⟩
  have HRw := Lib.hid (show w.heap.size ≤ R from Nat.le_of_eq hR.symm)
  rw [← hR] at RD ⊢
  clear hR
  go_wp2_with (fail)
  have HRl := Lib.hid (show R < w1.heap.size from RD.out.lt)
  refine (l20Checks RD.out (by omega)).mono ?_
  rintro e w2 ⟨D, B, d, rfl, hl, oo, q, q0, q1, hr, hg⟩
  have OL := Lib.hid oo
  have DR := Lib.hid ((Dr.start RD.out).draw hr hg)
  have LB := Lib.hid (show w.heap.size ≤ w1.heap.size from BA.out.size)
  clear hr hg RD oo
  have BB := Lib.hid (DR.out.backK BA.out HRw.out)
  clear DR
  go_wp2
  go_light
  go_ret
  exact ⟨D, B, d, rfl, hl, OL.out.base LB.out, BB.out⟩

set_option maxRecDepth 100000 in
set_option maxHeartbeats 4000000 in
theorem drawCheckAdd {w : World} {A : Option Addr} {n c : Nat} (hn : n ≤ 1048576) (hc : n ≤ c) (hb : InB w A n) :
    Calls Try.prog 10 #[.slice A n c] w fun e w' => ∃ (D : List Ck) (B : Option Addr) (d : Nat) (x : Ck), e = .returned (.tuple #[.slice B D.length d, x.val]) ∧ D.length ≤ 25 ∧ OwK w' w.heap.size B d D ∧ Below w.heap.size w w' := by
  have KR : Hid (Bkk (w.alloc (.cells (ckCs ⟨0, 0, 0⟩) 25)) w.heap.size 25 (ckCs ⟨0, 0, 0⟩)) := Bkk.new _
  have hb0 : Below w.heap.size w (w.alloc (.cells (ckCs ⟨0, 0, 0⟩) 25)) := (Below.refl _ _).alloc (Nat.le_refl _) _
  have HB : Hid (InB (w.alloc (.cells (ckCs ⟨0, 0, 0⟩) 25)) A n) := fun i hi => by
    obtain ⟨b, off, u, h1, h2, h3⟩ := hb i hi
    exact ⟨b, off, u, h1, (Below.grownBy hb0 none).cell h2 (by simp), h3⟩
  have Z0 := Lib.hid hb0
  clear hb hb0
  go_enter Try.func10, Try.ntmps10
  go_wp2_with (fail)
  obtain ⟨w0, hw0⟩ : ∃ X, X = (w.alloc (.cells (ckCs ⟨0, 0, 0⟩) 25)) := ⟨_, rfl⟩
  rw [← hw0] at KR HB Z0 ⊢
  clear hw0
  refine (l20Open hn hc HB.out).mono ?_
  rintro e w1 ⟨m, rfl, hr, h1⟩
  have RD := Lib.hid hr
  have HRl := Lib.hid hr.lt
  have BA := Lib.hid (Below.and Z0.out h1)
  have HRB0 := Lib.hid KR.out.lt
  replace KR := Lib.hid (KR.out.below h1)
  obtain ⟨R, hR⟩ : ∃ R, R = w0.heap.size := ⟨_, rfl⟩
  have HRw := Lib.hid (show w.heap.size < R by have := HRB0.out; omega)
  rw [← hR] at RD HRl ⊢
  clear hr h1 hR HB Z0
  have hrw := HRw.out
  go_wp2_with (fail)
  refine (l20Checks RD.out (by omega)).mono ?_
  rintro e w2 ⟨D, B, d, rfl, hl, oo, q, q0, q1, hr, hg⟩
  have OL := Lib.hid oo
  have HRB := Lib.hid (show w.heap.size < w1.heap.size from KR.out.lt)
  have hRl := HRl.out
  have DR := Lib.hid ((Dr.start RD.out).draw hr hg)
  replace KR := Lib.hid (Bkk.grownK KR.out hg (fun e => by injection e with e; omega))
  clear hr hg RD oo
  go_wp2_with (fail)
  refine (l20Check DR.out.rd (by omega)).mono ?_
  rintro e w3 ⟨x, rfl, qs, qs0, qs1, hr, hg⟩
  replace OL := Lib.hid (OL.out.drawn hRl hg)
  replace KR := Lib.hid (Bkk.grownK KR.out hg (fun e => by injection e with e; omega))
  replace DR := Lib.hid (DR.out.draw hr hg)
  have BB := Lib.hid (DR.out.backK BA.out (by omega))
  clear hr hg DR
  have r0 : w3.cell? ⟨w.heap.size, 0, none⟩ = some (.int .i64 0) := KR.out.cell 0
  have r1 : w3.cell? ⟨w.heap.size, 1, none⟩ = some (.int .i64 0) := KR.out.cell 1
  have r2 : w3.cell? ⟨w.heap.size, 2, none⟩ = some (.int .i64 0) := KR.out.cell 2
  have rf := KR.out.frozen
  have lr := KR.out.lt
  have OF := Lib.hid (((OL.out.put (q := w.heap.size) HRB.out 0 (.int .i64 x.a)).put (q := w.heap.size) HRB.out 1 (.int .i64 x.f)).put (q := w.heap.size) HRB.out 2 (.int .i64 x.n))
  have BF := Lib.hid (Below.setCell (Below.setCell (Below.setCell BB.out (p := ⟨w.heap.size, 0, none⟩) (Nat.le_refl _) (.int .i64 x.a)) (p := ⟨w.heap.size, 1, none⟩) (Nat.le_refl _) (.int .i64 x.f)) (p := ⟨w.heap.size, 2, none⟩) (Nat.le_refl _) (.int .i64 x.n))
  clear KR OL BB
  go_wp2
  exact bodyPost_ret (v := .tuple #[.slice B D.length d, x.val]) (by simp [results, Try.results10, go_sem, r0, r1, r2, rf]) rfl ⟨D, B, d, x, rfl, hl, OwK.base OF.out (Nat.le_of_lt HRB.out), BF.out⟩

set_option maxRecDepth 100000 in
set_option maxHeartbeats 2000000 in
theorem drawCheckCut {w : World} {A : Option Addr} {n c : Nat} (hn : n ≤ 1048576) (hc : n ≤ c) (hb : InB w A n) :
    Calls Try.prog 19 #[.slice A n c] w fun e w' => ∃ (D : List Ck) (B : Option Addr) (d : Nat) (t : Int), e = .returned (.tuple #[.slice B D.length d, .int .i64 t]) ∧ D.length ≤ 25 ∧ OwK w' w.heap.size B d D ∧ Below w.heap.size w w' := by
  have HB := Lib.hid hb
  clear hb
  go_enter Try.func19, Try.ntmps19
  go_wp2_with (fail)
  refine (l20Open hn hc HB.out).mono ?_
  rintro e w1 ⟨n', rfl, hr, h1⟩
  have RD := Lib.hid hr
  have BA := Lib.hid h1
  clear hr h1
  obtain ⟨R, hR⟩ : ∃ R, R = w.heap.size := ⟨_, rfl⟩
  have HRw := Lib.hid (show w.heap.size ≤ R from Nat.le_of_eq hR.symm)
  rw [← hR] at RD ⊢
  clear hR
  go_wp2_with (fail)
  have HRl := Lib.hid (show R < w1.heap.size from RD.out.lt)
  refine (l20Checks RD.out (by omega)).mono ?_
  rintro e w2 ⟨D, B, d, rfl, hl, oo, q, q0, q1, hr, hg⟩
  have OL := Lib.hid oo
  have DR := Lib.hid ((Dr.start RD.out).draw hr hg)
  have LB := Lib.hid (show w.heap.size ≤ w1.heap.size from BA.out.size)
  clear hr hg RD oo
  go_wp2_with (fail)
  refine (pickR 6 DR.out.rd (by omega) (by omega) (by omega)).mono ?_
  rintro e w3 ⟨t, t0, t1, rfl, qs, qs0, qs1, hr, hg⟩
  replace OL := Lib.hid (OL.out.drawn HRl.out hg)
  replace DR := Lib.hid (DR.out.draw hr hg)
  have BB := Lib.hid (DR.out.backK BA.out HRw.out)
  have ew : IntKind.i64.wrap (t - 1) = t - 1 := IntWalk.i64_in _ (by omega)
  clear hr hg DR
  go_wp2
  go_light
  go_ret2
  exact ⟨D, B, d, t - 1, rfl, hl, OL.out.base LB.out, BB.out⟩

end Go.Proofs.Ytgbnoemoangofaa
