/- The first of a queue: both ways. -/
import Derived.Test.YtgnemgnhjallhaaVm
namespace Go.Proofs.Ytgnemgnhjallhaa
open Go.ChangeShapes Go.WideShapes Go.ChangeAt Go.RowKit
set_option linter.unusedVariables false
set_option linter.unusedSimpArgs false

def nextQ (L : List Tm) : (List Tm × Tm) × Bool := if okQ L = true ∧ 0 < L.length then ((nextT L, at' L 0), true) else (([], ⟨0, 0, 0⟩), false)
def DoN (X : (List Tm × Tm) × Bool) (w : World) (e : Ending) (w' : World) : Prop := ∃ A a, e = .returned (.tuple #[.slice A X.1.1.length a, X.1.2.val, .bool X.2]) ∧ OwT w' w.heap.size A a X.1.1 ∧ Below w.heap.size w w'
theorem nextQ_no {L : List Tm} (h : ¬ (okQ L = true ∧ 0 < L.length)) : nextQ L = (([], ⟨0, 0, 0⟩), false) := by unfold nextQ; rw [if_neg h]
theorem nextQ_yes {L : List Tm} (h : okQ L = true) (h0 : 0 < L.length) : nextQ L = ((nextT L, at' L 0), true) := by unfold nextQ; rw [if_pos ⟨h, h0⟩]
theorem nextQ_len (L : List Tm) : (nextQ L).1.1.length ≤ L.length := by
  unfold nextQ
  split
  · rw [nextT_len]; omega
  · simp

set_option maxRecDepth 100000 in
set_option maxHeartbeats 4000000 in
theorem implQueueNext (A : Option Addr) (a : Nat) (L : List Tm) (w : World) (hL : L.length ≤ 1048576) (h : RdT w A a L) :
    Calls Try.prog 19 #[.slice A L.length a] w (DoN (nextQ L) w) := by
  have KR : Hid (Bkk (w.alloc (.cells (tmCs ⟨0, 0, 0⟩) 25)) w.heap.size 25 (tmCs ⟨0, 0, 0⟩)) := Bkk.new _
  have Z : Hid (Below w.heap.size w (w.alloc (.cells (tmCs ⟨0, 0, 0⟩) 25))) := (Below.refl _ _).alloc (Nat.le_refl _) _
  have HR := Lib.hid h
  clear h
  go_enter Try.func19, Try.ntmps19
  go_wp2_with (fail)
  obtain ⟨w0, hw0⟩ : ∃ X, X = (w.alloc (.cells (tmCs ⟨0, 0, 0⟩) 25)) := ⟨_, rfl⟩
  rw [← hw0] at KR Z ⊢
  clear hw0
  refine (implQueueOk A a L _ (by omega) (HR.out.below Z.out)).mono ?_
  rintro e w1 ⟨rfl, hb⟩
  replace KR := Lib.hid (KR.out.below hb)
  replace Z := Lib.hid (Below.and Z.out hb)
  clear hb
  rcases hok : okQ L with _ | _
  · skip
    have HX := Lib.hid (nextQ_no (L := L) (fun hh => by rw [hok] at hh; exact absurd hh.1 (by simp)))
    have r0 : w1.cell? ⟨w.heap.size, 0, none⟩ = some (.int .i64 0) := KR.out.cell 0
    have r1 : w1.cell? ⟨w.heap.size, 1, none⟩ = some (.int .i64 0) := KR.out.cell 1
    have r2 : w1.cell? ⟨w.heap.size, 2, none⟩ = some (.int .i64 0) := KR.out.cell 2
    have rf := KR.out.frozen
    have lr := KR.out.lt
    have Z9 := Lib.hid (Below.setCell (Below.setCell (Below.setCell Z.out (p := ⟨w.heap.size, 0, none⟩) (Nat.le_refl _) (.int .i64 0)) (p := ⟨w.heap.size, 1, none⟩) (Nat.le_refl _) (.int .i64 0)) (p := ⟨w.heap.size, 2, none⟩) (Nat.le_refl _) (.int .i64 0))
    clear KR
    go_wp2
    refine bodyPost_ret (v := .tuple #[.slice none 0 0, Tm.val ⟨0, 0, 0⟩, .bool false]) (by simp [results, Try.results19, go_sem, r0, r1, r2, rf]) rfl ?_
    rw [HX.out]
    exact ⟨none, 0, rfl, OwT.nil _ _, Z9.out⟩
  have HOK := Lib.hid hok
  clear hok
  rcases hn : L.length with _ | n
  · have e9 : (((0 : Nat) : Int) == 0) = true := rfl
    have HN := Lib.hid hn
    clear hn
    have HX := Lib.hid (nextQ_no (L := L) (fun hh => by have := hh.2; rw [HN.out] at this; omega))
    have r0 : w1.cell? ⟨w.heap.size, 0, none⟩ = some (.int .i64 0) := KR.out.cell 0
    have r1 : w1.cell? ⟨w.heap.size, 1, none⟩ = some (.int .i64 0) := KR.out.cell 1
    have r2 : w1.cell? ⟨w.heap.size, 2, none⟩ = some (.int .i64 0) := KR.out.cell 2
    have rf := KR.out.frozen
    have lr := KR.out.lt
    have Z9 := Lib.hid (Below.setCell (Below.setCell (Below.setCell Z.out (p := ⟨w.heap.size, 0, none⟩) (Nat.le_refl _) (.int .i64 0)) (p := ⟨w.heap.size, 1, none⟩) (Nat.le_refl _) (.int .i64 0)) (p := ⟨w.heap.size, 2, none⟩) (Nat.le_refl _) (.int .i64 0))
    clear KR
    go_wp2
    refine bodyPost_ret (v := .tuple #[.slice none 0 0, Tm.val ⟨0, 0, 0⟩, .bool false]) (by simp [results, Try.results19, go_sem, r0, r1, r2, rf]) rfl ?_
    rw [HX.out]
    exact ⟨none, 0, rfl, OwT.nil _ _, Z9.out⟩
  have HN := Lib.hid hn
  have hnL : n + 1 ≤ 1048576 := by omega
  have e9 : (((n : Int) + 1) == 0) = false := by simp; omega
  clear hn hL
  have LKR := Lib.hid (show w.heap.size < w1.heap.size from KR.out.lt)
  go_wp2_with (fail)
  have QO := queueOf A a L w1 (by rw [HN.out]; omega) (HR.out.below Z.out)
  rw [HN.out] at QO
  refine QO.mono ?_
  clear QO
  rintro e w2 ⟨p, A1, a1, rfl, h1, hb⟩
  have HH := Lib.hid h1
  have LZ := Lib.hid (show w.heap.size ≤ w1.heap.size from Z.out.size)
  replace KR := Lib.hid (KR.out.below hb)
  replace Z := Lib.hid (Below.and Z.out hb)
  clear h1 hb
  have NX := Lib.hid (nextH w1.heap.size p A1 a1 L n w2 (by rw [HN.out]; omega) HN.out HH.out)
  go_wp2_with (fail)
  refine NX.out.mono ?_
  rintro e w3 ⟨rfl, h1, h2, _⟩
  replace HH := Lib.hid h1
  replace Z := Lib.hid (Z.out.trans (h2.mono LZ.out))
  replace KR : Hid (Bkk w3 w.heap.size 25 (tmCs ⟨0, 0, 0⟩)) := (h2.block w.heap.size LKR.out).trans KR.out
  have HX := Lib.hid (nextQ_yes (L := L) HOK.out (by rw [HN.out]; omega))
  obtain ⟨R, hR⟩ : ∃ R, nextT L = R := ⟨_, rfl⟩
  obtain ⟨x, hx⟩ : ∃ x, at' L 0 = x := ⟨_, rfl⟩
  rw [hR] at HH
  rw [hR, hx] at HX
  rw [hx]
  clear h1 h2 hR hx NX
  have hba : Below w3.heap.size w3 (w3.alloc (.cells (tmCs x) 25)) := (Below.refl _ _).alloc (Nat.le_refl _) _
  have KX : Hid (Bkk (w3.alloc (.cells (tmCs x) 25)) w3.heap.size 25 (tmCs x)) := Bkk.new _
  have HRX := Lib.hid (show w.heap.size ≠ w3.heap.size from fun e => by have := KR.out.lt; omega)
  replace KR := Lib.hid (KR.out.below hba)
  replace HH := Lib.hid (HH.out.below hba)
  replace Z := Lib.hid (Below.and Z.out hba)
  clear hba
  go_upto_region 5 with (fail)
  obtain ⟨xb, hxb⟩ : ∃ X, X = w3.heap.size := ⟨_, rfl⟩
  obtain ⟨w4, hw4⟩ : ∃ X, X = w3.alloc (.cells (tmCs x) 25) := ⟨_, rfl⟩
  rw [← hw4] at KR KX HH Z ⊢
  rw [← hxb] at KX HRX ⊢
  clear hw4 hxb
  have q0 : w4.cell? ⟨p, 0, none⟩ = some (.slice A1 R.length a1) := HH.out.box.cell 0
  have lp := HH.out.box.lt
  have x0 : w4.cell? ⟨xb, 0, none⟩ = some (.int .i64 x.a) := KX.out.cell 0
  have x1 : w4.cell? ⟨xb, 1, none⟩ = some (.int .i64 x.f) := KX.out.cell 1
  have x2 : w4.cell? ⟨xb, 2, none⟩ = some (.int .i64 x.n) := KX.out.cell 2
  have r0 : w4.cell? ⟨w.heap.size, 0, none⟩ = some (.int .i64 0) := KR.out.cell 0
  have r1 : w4.cell? ⟨w.heap.size, 1, none⟩ = some (.int .i64 0) := KR.out.cell 1
  have r2 : w4.cell? ⟨w.heap.size, 2, none⟩ = some (.int .i64 0) := KR.out.cell 2
  have rf := KR.out.frozen
  have lx := KX.out.lt
  have lr := KR.out.lt
  have nrx := HRX.out
  have Z9 := Lib.hid (Below.setCell (Below.setCell (Below.setCell Z.out (p := ⟨w.heap.size, 0, none⟩) (Nat.le_refl _) (.int .i64 x.a)) (p := ⟨w.heap.size, 1, none⟩) (Nat.le_refl _) (.int .i64 x.f)) (p := ⟨w.heap.size, 2, none⟩) (Nat.le_refl _) (.int .i64 x.n))
  have OA := Lib.hid (((HH.out.row.put (q := w.heap.size) LKR.out 0 (.int .i64 x.a)).put (q := w.heap.size) LKR.out 1 (.int .i64 x.f)).put (q := w.heap.size) LKR.out 2 (.int .i64 x.n))
  clear HH KX KR
  go_region
  go_wp2
  refine bodyPost_ret (v := .tuple #[.slice A1 R.length a1, x.val, .bool true]) (by simp [results, Try.results19, go_sem, r0, r1, r2, rf]) rfl ?_
  rw [HX.out]
  exact ⟨A1, a1, rfl, (OA.out.below (Below.refl _ _).drew).base LZ.out, Z9.out.drew⟩

theorem take_swp0 (L : List Tm) (n : Nat) (h : L.length = n + 1) : (L.set 0 (at' L n)).take n = (swp L 0 (L.length - 1)).take (L.length - 1) := by
  unfold swp
  rw [h, Nat.add_sub_cancel, List.take_set_of_le (Nat.le_refl n)]
set_option maxRecDepth 100000 in
set_option maxHeartbeats 4000000 in
theorem specQueueNext (A : Option Addr) (a : Nat) (L : List Tm) (w : World) (hL : L.length ≤ 1048576) (h : RdT w A a L) :
    Calls Try.prog 20 #[.slice A L.length a] w (DoN (nextQ L) w) := by
  obtain ⟨I, hi, hz0, hz1, hz2⟩ := parts_ofH infoTimed
  have I1 := Lib.hid hi
  have I2 := Lib.hid hz0
  have I3 := Lib.hid hz1
  have I4 := Lib.hid hz2
  clear hi hz0 hz1 hz2
  have KR : Hid (Bkk (w.alloc (.cells (tmCs ⟨0, 0, 0⟩) 25)) w.heap.size 25 (tmCs ⟨0, 0, 0⟩)) := Bkk.new _
  have Z : Hid (Below w.heap.size w (w.alloc (.cells (tmCs ⟨0, 0, 0⟩) 25))) := (Below.refl _ _).alloc (Nat.le_refl _) _
  have HR := Lib.hid h
  clear h
  go_enter Try.func20, Try.ntmps20
  go_wp2_with (fail)
  obtain ⟨w0, hw0⟩ : ∃ X, X = (w.alloc (.cells (tmCs ⟨0, 0, 0⟩) 25)) := ⟨_, rfl⟩
  rw [← hw0] at KR Z ⊢
  clear hw0
  refine (l13Ok A a L _ (by omega) (HR.out.below Z.out).r).mono ?_
  rintro e w1 ⟨rfl, hb⟩
  replace KR := Lib.hid (KR.out.below hb)
  replace Z := Lib.hid (Below.and Z.out hb)
  clear hb
  rcases hok : okQ L with _ | _
  · skip
    have HX := Lib.hid (nextQ_no (L := L) (fun hh => by rw [hok] at hh; exact absurd hh.1 (by simp)))
    have r0 : w1.cell? ⟨w.heap.size, 0, none⟩ = some (.int .i64 0) := KR.out.cell 0
    have r1 : w1.cell? ⟨w.heap.size, 1, none⟩ = some (.int .i64 0) := KR.out.cell 1
    have r2 : w1.cell? ⟨w.heap.size, 2, none⟩ = some (.int .i64 0) := KR.out.cell 2
    have rf := KR.out.frozen
    have lr := KR.out.lt
    have Z9 := Lib.hid (Below.setCell (Below.setCell (Below.setCell Z.out (p := ⟨w.heap.size, 0, none⟩) (Nat.le_refl _) (.int .i64 0)) (p := ⟨w.heap.size, 1, none⟩) (Nat.le_refl _) (.int .i64 0)) (p := ⟨w.heap.size, 2, none⟩) (Nat.le_refl _) (.int .i64 0))
    clear KR
    go_wp2
    refine bodyPost_ret (v := .tuple #[.slice none 0 0, Tm.val ⟨0, 0, 0⟩, .bool false]) (by simp [results, Try.results20, go_sem, r0, r1, r2, rf]) rfl ?_
    rw [HX.out]
    exact ⟨none, 0, rfl, OwT.nil _ _, Z9.out⟩
  have HOK := Lib.hid hok
  clear hok
  rcases hn : L.length with _ | n
  · have e9 : (((0 : Nat) : Int) == 0) = true := rfl
    have HN := Lib.hid hn
    clear hn
    have HX := Lib.hid (nextQ_no (L := L) (fun hh => by have := hh.2; rw [HN.out] at this; omega))
    have r0 : w1.cell? ⟨w.heap.size, 0, none⟩ = some (.int .i64 0) := KR.out.cell 0
    have r1 : w1.cell? ⟨w.heap.size, 1, none⟩ = some (.int .i64 0) := KR.out.cell 1
    have r2 : w1.cell? ⟨w.heap.size, 2, none⟩ = some (.int .i64 0) := KR.out.cell 2
    have rf := KR.out.frozen
    have lr := KR.out.lt
    have Z9 := Lib.hid (Below.setCell (Below.setCell (Below.setCell Z.out (p := ⟨w.heap.size, 0, none⟩) (Nat.le_refl _) (.int .i64 0)) (p := ⟨w.heap.size, 1, none⟩) (Nat.le_refl _) (.int .i64 0)) (p := ⟨w.heap.size, 2, none⟩) (Nat.le_refl _) (.int .i64 0))
    clear KR
    go_wp2
    refine bodyPost_ret (v := .tuple #[.slice none 0 0, Tm.val ⟨0, 0, 0⟩, .bool false]) (by simp [results, Try.results20, go_sem, r0, r1, r2, rf]) rfl ?_
    rw [HX.out]
    exact ⟨none, 0, rfl, OwT.nil _ _, Z9.out⟩
  have HN := Lib.hid hn
  have hnL : n + 1 ≤ 1048576 := by omega
  have e9 : (((n : Int) + 1) == 0) = false := by simp; omega
  clear hn hL
  have LKR := Lib.hid (show w.heap.size < w1.heap.size from KR.out.lt)
  have hba : Below w1.heap.size w1 (w1.alloc (.cells #[] 25)) := (Below.refl _ _).alloc (Nat.le_refl _) _
  have OE : Hid ((w1.alloc (.cells #[] 25)).ownsRow w1.heap.size 25 3 (.slice (some ⟨w1.heap.size, 0, none⟩) 0 0) 0 []) := own_nil_newH w1 25 3 rfl
  have LZ := Lib.hid (show w.heap.size ≤ w1.heap.size from Z.out.size)
  replace KR := Lib.hid (KR.out.below hba)
  replace Z := Lib.hid (Below.and Z.out hba)
  have LE := Lib.hid hba.size
  clear hba
  go_wp2_with (at_builtin; go_loud (refine list_app (f := Tm.cells) (fun _ => rfl) rfl _ _ 23 rfl w1.heap.size 25 I (.agg #[.int .i64 0, .int .i64 0, .int .i64 0]) 24 Try.underlying23 I1.out I2.out I3.out I4.out rfl (by decide) (.slice (some ⟨w1.heap.size, 0, none⟩) 0 0) 0 [] rfl OE.out A a (n + 1) L HN.out rfl (Rd.below HR.out.r Z.out) HR.out.nA (tm_one _) (by unfold maxLen; omega) (by omega) LE.out ?_))
  intro v3 w3 ho hg hp
  (try simp only [Nat.zero_add, List.nil_append] at ho)
  obtain ⟨A1, a1, rfl⟩ := own_formH ho
  have OA := Lib.hid (show OwT w3 w1.heap.size A1 a1 L by rw [← HN.out] at ho; exact ho)
  have hge := own_block_ge (show World.ownsRow _ _ _ _ _ _ _ from OE.out)
  replace KR := Lib.hid (KR.out.grownV hg (fun e => by have := LKR.out; simp [Value.ownBlock] at e; omega))
  replace Z := Lib.hid (Z.out.grown hg Z.out.size (fun q hq => Nat.le_trans LZ.out (hge q hq).1))
  have LW := Lib.hid (Nat.le_trans LE.out hg.size)
  clear ho hg hp hge OE LE I1 I2 I3 I4
  obtain ⟨g, rfl, hlg, hgw⟩ := own_g OA.out (by rw [HN.out]; omega)
  have HGL := Lib.hid hlg
  have HCA := Lib.hid (show n + 1 ≤ a1 by have := (own_capV (show w3.ownsRow _ _ _ _ _ _ from OA.out)).1; have := HN.out; omega)
  clear hlg
  obtain ⟨x, hx⟩ : ∃ x, at' L 0 = x := ⟨_, rfl⟩
  obtain ⟨y, hy⟩ : ∃ y, at' L n = y := ⟨_, rfl⟩
  have Hx := Lib.hid hx
  have Hy := Lib.hid hy
  clear hx hy
  obtain ⟨x0, x1, x2⟩ := (show w3.cell? ⟨g, 0, none⟩ = some (.int .i64 x.a) ∧ w3.cell? ⟨g, 1, none⟩ = some (.int .i64 x.f) ∧ w3.cell? ⟨g, 2, none⟩ = some (.int .i64 x.n) by simpa using ownC OA.out 0 (by rw [HN.out]; omega) x Hx.out)
  have i1 : (0 : Int) < (n : Int) + 1 := by omega
  go_upto_region 5 with (fail)
  have hba : Below w3.heap.size w3 (w3.alloc (.cells (tmCs x) 25)) := (Below.refl _ _).alloc (Nat.le_refl _) _
  have KX : Hid (Bkk (w3.alloc (.cells (tmCs x) 25)) w3.heap.size 25 (tmCs x)) := Bkk.new _
  have HRX := Lib.hid (show w.heap.size ≠ w3.heap.size from fun e => by have := KR.out.lt; omega)
  have HGX := Lib.hid (show g ≠ w3.heap.size by omega)
  replace KR := Lib.hid (KR.out.below hba)
  replace OA := Lib.hid (OA.out.below hba)
  replace Z := Lib.hid (Below.and Z.out hba)
  replace LW := Lib.hid (Nat.le_trans LW.out hba.size)
  clear hba hgw
  obtain ⟨xb, hxb⟩ : ∃ X, X = w3.heap.size := ⟨_, rfl⟩
  obtain ⟨w4, hw4⟩ : ∃ X, X = w3.alloc (.cells (tmCs x) 25) := ⟨_, rfl⟩
  rw [← hw4] at KR KX OA Z LW ⊢
  rw [← hxb] at KX HRX HGX ⊢
  clear hw4 hxb x0 x1 x2
  obtain ⟨x0, x1, x2⟩ := (show w4.cell? ⟨g, 0, none⟩ = some (.int .i64 x.a) ∧ w4.cell? ⟨g, 1, none⟩ = some (.int .i64 x.f) ∧ w4.cell? ⟨g, 2, none⟩ = some (.int .i64 x.n) by simpa using ownC OA.out 0 (by rw [HN.out]; omega) x Hx.out)
  obtain ⟨y0, y1, y2⟩ := ownC OA.out n (by rw [HN.out]; omega) y Hy.out
  have fz := OA.out.frz
  have lg := (own_block_ge (show w4.ownsRow _ _ _ _ _ _ from OA.out) g rfl).2
  have w9 : IntKind.i64.wrap (n : Int) = (n : Int) := wrap_nat n (by omega)
  have n0 : (0 : Int) ≤ (n : Int) := by omega
  have n1 : (n : Int) < (n : Int) + 1 := by omega
  go_upto_region 6 with (fail)
  have OS := Lib.hid (OA.out.set 0 y (by rw [HN.out]; omega))
  rw [show 0 * 3 = 0 from rfl, show 0 + 1 = 1 from rfl, show 0 + 2 = 2 from rfl] at OS
  replace KR := Lib.hid (((KR.out.far (show w.heap.size ≠ g by have := LKR.out; have := HGL.out; omega) 0 (.int .i64 y.a)).far (show w.heap.size ≠ g by have := LKR.out; have := HGL.out; omega) 1 (.int .i64 y.f)).far (show w.heap.size ≠ g by have := LKR.out; have := HGL.out; omega) 2 (.int .i64 y.n))
  replace KX := Lib.hid (((KX.out.far (Ne.symm HGX.out) 0 (.int .i64 y.a)).far (Ne.symm HGX.out) 1 (.int .i64 y.f)).far (Ne.symm HGX.out) 2 (.int .i64 y.n))
  replace Z := Lib.hid (((Z.out.setCell (p := ⟨g, 0, none⟩) (Nat.le_trans LZ.out HGL.out) (.int .i64 y.a)).setCell (p := ⟨g, 1, none⟩) (Nat.le_trans LZ.out HGL.out) (.int .i64 y.f)).setCell (p := ⟨g, 2, none⟩) (Nat.le_trans LZ.out HGL.out) (.int .i64 y.n))
  have LW5 : Hid (w1.heap.size ≤ (((w4.setCell ⟨g, 0, none⟩ (.int .i64 y.a)).setCell ⟨g, 1, none⟩ (.int .i64 y.f)).setCell ⟨g, 2, none⟩ (.int .i64 y.n)).heap.size) := by have := LW.out; simpa [Hid] using this
  obtain ⟨w5, hw5⟩ : ∃ X, X = (((w4.setCell ⟨g, 0, none⟩ (.int .i64 y.a)).setCell ⟨g, 1, none⟩ (.int .i64 y.f)).setCell ⟨g, 2, none⟩ (.int .i64 y.n)) := ⟨_, rfl⟩
  rw [← hw5] at OS KR KX Z LW5 ⊢
  clear hw5 x0 x1 x2 y0 y1 y2 fz lg OA LW
  have OT := Lib.hid (OwT.trunc OS.out n (by rw [List.length_set, HN.out]; omega))
  obtain ⟨L3, hL3⟩ : ∃ X, X = (L.set 0 y).take n := ⟨_, rfl⟩
  have HL3 := Lib.hid (show L3.length = n by rw [hL3, List.length_take, List.length_set, HN.out]; omega)
  have HS3 := Lib.hid (show sinkT L3 0 = nextT L by rw [hL3, ← Hy.out, take_swp0 L n HN.out]; rfl)
  rw [← hL3] at OT
  clear hL3 OS
  obtain ⟨R, hR⟩ : ∃ R, nextT L = R := ⟨_, rfl⟩
  have HX := Lib.hid (show nextQ L = ((R, x), true) by rw [nextQ_yes HOK.out (by rw [HN.out]; omega), hR, Hx.out])
  have HRL := Lib.hid (show R.length = n by rw [← hR, nextT_len, HN.out]; rfl)
  rw [hR] at HS3
  clear hR
  have hca : (n : Int) ≤ (a1 : Int) := by have := HCA.out; omega
  have SK := Lib.hid (fun wx hlo hx => l13Sink w1.heap.size (some ⟨g, 0, none⟩) a1 L3 n wx (by omega) HL3.out hlo hx)
  rw [HL3.out, HS3.out] at SK
  have HGR := Lib.hid (show w.heap.size ≠ g by have := LKR.out; have := HGL.out; omega)
  refine wp_region_held_drew (S := fun WS => WS.cell? ⟨xb, 0, none⟩ = some (.int .i64 x.a) ∧ WS.cell? ⟨xb, 1, none⟩ = some (.int .i64 x.f) ∧ WS.cell? ⟨xb, 2, none⟩ = some (.int .i64 x.n)) (by kernel_rfl) ⟨KX.out.cell 0, KX.out.cell 1, KX.out.cell 2⟩ (fun hS0 => ?_)
  replace OT := Lib.hid (OT.out.below (Below.refl _ _).drew)
  replace KR := Lib.hid (KR.out.below (Below.refl _ _).drew)
  replace KX := Lib.hid (KX.out.below (Below.refl _ _).drew)
  replace Z := Lib.hid (Z.out.drew)
  have LW6 : Hid (w1.heap.size ≤ w5.drew.heap.size) := LW5.out
  obtain ⟨w6, hw6⟩ : ∃ X, X = w5.drew := ⟨_, rfl⟩
  rw [← hw6] at OT KR KX Z LW6 hS0 ⊢
  clear hw6 LW5
  refine takeD 0 30 (v := ?_) rfl rfl (by kernel_rfl) (by kernel_rfl) (by kernel_rfl) (fun _ _ _ h => h) (Or.inl ⟨by rfl, ?_⟩) (by assumption) ?_
  rotate_left
  · intro wS hSw; obtain ⟨s0, s1, s2⟩ := hSw; go_simp; (try with_reducible rfl)
  (try simp only [Act.put, List.setIfInBounds_toArray, List.set_cons_zero, List.set_cons_succ])
  refine takeD 1 31 (v := ?_) rfl rfl (by kernel_rfl) (by kernel_rfl) (by kernel_rfl) (fun _ _ _ h => h) (Or.inl ⟨by rfl, ?_⟩) (by assumption) ?_
  rotate_left
  · intro wS hSw; obtain ⟨s0, s1, s2⟩ := hSw; go_simp; (try with_reducible rfl)
  (try simp only [Act.put, List.setIfInBounds_toArray, List.set_cons_zero, List.set_cons_succ])
  refine takeD 2 32 (v := ?_) rfl rfl (by kernel_rfl) (by kernel_rfl) (by kernel_rfl) (fun _ _ _ h => h) (Or.inl ⟨by rfl, ?_⟩) (by assumption) ?_
  rotate_left
  · intro wS hSw; obtain ⟨s0, s1, s2⟩ := hSw; go_simp; (try with_reducible rfl)
  (try simp only [Act.put, List.setIfInBounds_toArray, List.set_cons_zero, List.set_cons_succ])
  refine takeD 3 33 (v := ?_) rfl rfl (by kernel_rfl) (by kernel_rfl) (by kernel_rfl) (fun _ _ _ h => h) (Or.inl ⟨by rfl, ?_⟩) (by assumption) ?_
  rotate_left
  · intro wS hSw; obtain ⟨s0, s1, s2⟩ := hSw; go_simp; (try with_reducible rfl)
  (try simp only [Act.put, List.setIfInBounds_toArray, List.set_cons_zero, List.set_cons_succ])
  refine takeD 4 34 (v := ?_) rfl rfl (by kernel_rfl) (by kernel_rfl) (by kernel_rfl) (fun _ _ _ h => h) (Or.inl ⟨by rfl, ?_⟩) (by assumption) ?_
  rotate_left
  · intro wS hSw; obtain ⟨s0, s1, s2⟩ := hSw; go_simp; (try with_reducible rfl)
  (try simp only [Act.put, List.setIfInBounds_toArray, List.set_cons_zero, List.set_cons_succ])
  refine takeD 6 36 (v := ?_) rfl rfl (by kernel_rfl) (by kernel_rfl) (by kernel_rfl) (fun _ _ _ h => h) (Or.inl ⟨by rfl, ?_⟩) (by assumption) ?_
  rotate_left
  · intro wS hSw; obtain ⟨s0, s1, s2⟩ := hSw; go_simp; (try with_reducible rfl)
  (try simp only [Act.put, List.setIfInBounds_toArray, List.set_cons_zero, List.set_cons_succ])
  refine wpAnyH_ready (rs := [5]) (by kernel_rfl) (by simp) ?_
  refine AllReadyH.cons rfl (fun KK hK => ?_) AllReadyH.nil
  go_simp
  refine (SK.out _ LW6.out OT.out).mono ?_
  rintro e w7 ⟨rfl, h1, h2, h3⟩
  have OR := Lib.hid h1
  replace KR := Lib.hid (KR.out.grownV h3 (fun e => by simp [Value.ownBlock] at e; exact HGR.out e))
  replace KX := Lib.hid (KX.out.grownV h3 (fun e => by simp [Value.ownBlock] at e; exact HGX.out e.symm))
  replace Z := Lib.hid (Z.out.trans (h2.mono LZ.out))
  clear h1 h2 h3 SK OT LW6
  refine hK.out _ _ ⟨KX.out.cell 0, KX.out.cell 1, KX.out.cell 2⟩ (fun hS1 => ?_)
  clear hK KK
  (try simp only [Act.put, List.setIfInBounds_toArray, List.set_cons_zero, List.set_cons_succ])
  refine takeD 7 2 (v := ?_) rfl rfl (by kernel_rfl) (by kernel_rfl) (by kernel_rfl) (fun _ _ _ h => h) (Or.inl ⟨by rfl, ?_⟩) (by assumption) ?_
  rotate_left
  · intro wS hSw; obtain ⟨s0, s1, s2⟩ := hSw; go_simp; (try with_reducible rfl)
  (try simp only [Act.put, List.setIfInBounds_toArray, List.set_cons_zero, List.set_cons_succ])
  have r0 : w7.cell? ⟨w.heap.size, 0, none⟩ = some (.int .i64 0) := KR.out.cell 0
  have r1 : w7.cell? ⟨w.heap.size, 1, none⟩ = some (.int .i64 0) := KR.out.cell 1
  have r2 : w7.cell? ⟨w.heap.size, 2, none⟩ = some (.int .i64 0) := KR.out.cell 2
  have rf := KR.out.frozen
  have lr := KR.out.lt
  refine wpAnyH_ready (rs := [8]) (by kernel_rfl) (by simp) ?_
  refine AllReadyH.cons rfl (fun KK hK => ?_) AllReadyH.nil
  go_simp
  refine hK.out _ _ ?_ (fun hS2 => ?_)
  · have h9 := ((KX.out.far (Ne.symm HRX.out) 0 (.int .i64 x.a)).far (Ne.symm HRX.out) 1 (.int .i64 x.f)).far (Ne.symm HRX.out) 2 (.int .i64 x.n)
    exact ⟨h9.cell 0, h9.cell 1, h9.cell 2⟩
  clear hK KK
  (try simp only [Act.put, List.setIfInBounds_toArray, List.set_cons_zero, List.set_cons_succ])
  refine takeD 9 4 (v := ?_) rfl rfl (by kernel_rfl) (by kernel_rfl) (by kernel_rfl) (fun _ _ _ h => h) (Or.inl ⟨by rfl, ?_⟩) (by assumption) ?_
  rotate_left
  · intro wS hSw; obtain ⟨s0, s1, s2⟩ := hSw; go_simp; (try with_reducible rfl)
  (try simp only [Act.put, List.setIfInBounds_toArray, List.set_cons_zero, List.set_cons_succ])
  refine wpAnyH_done (by kernel_rfl) ?_ _
  have Z9 := Lib.hid (Below.setCell (Below.setCell (Below.setCell Z.out (p := ⟨w.heap.size, 0, none⟩) (Nat.le_refl _) (.int .i64 x.a)) (p := ⟨w.heap.size, 1, none⟩) (Nat.le_refl _) (.int .i64 x.f)) (p := ⟨w.heap.size, 2, none⟩) (Nat.le_refl _) (.int .i64 x.n))
  have OA := Lib.hid (((OR.out.put (q := w.heap.size) LKR.out 0 (.int .i64 x.a)).put (q := w.heap.size) LKR.out 1 (.int .i64 x.f)).put (q := w.heap.size) LKR.out 2 (.int .i64 x.n))
  have EL := Lib.hid (show R.length = n from HRL.out)
  clear KR KX HRL
  go_wp2
  refine bodyPost_ret (v := .tuple #[.slice (some ⟨g, 0, none⟩) R.length a1, x.val, .bool true]) (by simp [results, Try.results20, go_sem, r0, r1, r2, rf, EL.out]) rfl ?_
  rw [HX.out]
  exact ⟨_, a1, rfl, OA.out.base LZ.out, Z9.out⟩

end Go.Proofs.Ytgnemgnhjallhaa
