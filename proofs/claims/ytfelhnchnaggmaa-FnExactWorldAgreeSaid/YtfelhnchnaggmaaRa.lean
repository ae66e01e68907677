/- A keeper as data: its size, made the program's own, held against another. -/
import Derived.Test.YtfelhnchnaggmaaMG
import Derived.Test.YtfelhnchnaggmaaUm
import Derived.Test.YtfelhnchnaggmaaUn
namespace Go.Proofs.Ytfelhnchnaggmaa
open Go.ChangeShapes Go.WideShapes Go.ChangeAt Go.RowKit
set_option linter.unusedVariables false
set_option linter.unusedSimpArgs false

/-- A keeper as it lies in memory, and as it reads. -/
structure RpP where
  me : Int
  v : Int
  lv : Bool
  nx : Int
  TA : Option Addr
  ta : Nat
  tk : List Cl
  HA : Option Addr
  ha : Nat
  hd : List MgP
  DA : Option Addr
  da : Nat
  dn : List Cl
structure Rp where
  me : Int
  v : Int
  lv : Bool
  nx : Int
  tk : List Cl
  hd : List Mg
  dn : List Cl
  deriving DecidableEq
abbrev RpP.val (r : RpP) : Value := .agg #[.int .i64 r.me, .int .i64 r.v, .bool r.lv, .int .i64 r.nx, .slice r.TA r.tk.length r.ta, .slice r.HA r.hd.length r.ha, .slice r.DA r.dn.length r.da]
def RpP.rp (r : RpP) : Rp := ⟨r.me, r.v, r.lv, r.nx, r.tk, r.hd.map MgP.mg, r.dn⟩
/-- What lies behind a keeper reads. -/
structure RpP.rd (w : World) (r : RpP) : Prop where
  nt : r.tk.length ≤ maxLen
  nh : r.hd.length ≤ maxLen
  nd : r.dn.length ≤ maxLen
  rt : RdC w r.TA r.tk
  rh : RdMs w r.HA r.hd
  rdn : RdC w r.DA r.dn
theorem RpP.rd.below {w w' : World} {r : RpP} (h : r.rd w) (hb : Below w.heap.size w w') : r.rd w' := ⟨h.nt, h.nh, h.nd, h.rt.below hb, h.rh.below hb, h.rdn.below hb⟩
def RpP.sz (r : RpP) : Nat := r.tk.length + (szMs r.hd + r.dn.length)
/-- A keeper of the call's own: its rows lie one behind the other, from lo on. -/
structure RpP.own (w : World) (lo : Nat) (r : RpP) : Prop where
  ot : w.ownsRow lo 77 7 (.slice r.TA r.tk.length r.ta) r.tk.length (r.tk.flatMap Cl.cells)
  oh : ∃ g, lo ≤ g ∧ r.HA = some ⟨g, 0, none⟩ ∧ r.ha = r.hd.length ∧ OwM w g r.hd
  od : w.ownsRow lo 77 7 (.slice r.DA r.dn.length r.da) r.dn.length (r.dn.flatMap Cl.cells)
theorem RpP.own.below {w w' : World} {lo : Nat} {r : RpP} (h : r.own w lo) (hb : Below w.heap.size w w') : r.own w' lo := by
  obtain ⟨g, h1, h2, h3, h4⟩ := h.oh
  exact ⟨own_below h.ot hb, ⟨g, h1, h2, h3, h4.below hb⟩, own_below h.od hb⟩
theorem RpP.own.rd {w : World} {lo : Nat} {r : RpP} (h : r.own w lo) : r.rd w := by
  obtain ⟨g, h1, h2, h3, h4⟩ := h.oh
  obtain ⟨_, _, _, m1⟩ := own_form h.ot
  obtain ⟨_, _, _, m2⟩ := own_form h.od
  refine ⟨m1, h4.len, m2, Rd.of_own Cl.len h.ot rfl, ?_, Rd.of_own Cl.len h.od rfl⟩
  rw [h2]
  exact h4.rd
theorem OwM.set {w : World} {g : Nat} {Q : List MgP} (h : OwM w g Q) {b : Nat} (hb : b < g) (o : Nat) (u : Value) : OwM (w.setCell ⟨b, o, none⟩ u) g Q := ⟨own_set h.1 hb o u, fun q hq => (h.2 q hq).set (by omega) o u⟩

set_option maxRecDepth 100000 in
set_option maxHeartbeats 2000000 in
theorem szRep (p : RpP) (left : Int) (w : World) (hp : p.rd w) (h0 : 0 ≤ left) (h1 : left ≤ 1048576) :
    Calls Try.prog 57 #[p.val, .int .i64 left] w fun e w' => e = .returned (.int .i64 (szR left p.sz)) ∧ Below w.heap.size w w' := by
  have Z0 : Hid (Below w.heap.size w (w.alloc (.cells #[.int .i64 p.me, .int .i64 p.v, .bool p.lv, .int .i64 p.nx, .slice p.TA p.tk.length p.ta, .slice p.HA p.hd.length p.ha, .slice p.DA p.dn.length p.da] 89))) := (Below.refl _ _).alloc (Nat.le_refl _) _
  have K0 : Hid (Blk (w.alloc (.cells #[.int .i64 p.me, .int .i64 p.v, .bool p.lv, .int .i64 p.nx, .slice p.TA p.tk.length p.ta, .slice p.HA p.hd.length p.ha, .slice p.DA p.dn.length p.da] 89)) w.heap.size 89 #[.int .i64 p.me, .int .i64 p.v, .bool p.lv, .int .i64 p.nx, .slice p.TA p.tk.length p.ta, .slice p.HA p.hd.length p.ha, .slice p.DA p.dn.length p.da]) := Blk.new w
  have n1 := hp.nt
  have n2 := hp.nh
  have n3 := hp.nd
  have R2 := Lib.hid (hp.rh.below Z0.out)
  clear hp
  go_enter Try.func57, Try.ntmps57
  go_wp2_with (fail)
  refine (szClaimS p.TA p.tk.length p.ta left _ n1 h0 h1).mono ?_
  rintro e w1 ⟨rfl, rfl⟩
  by_cases hc : ((p.tk.length : Nat) : Int) ≤ left
  · rw [szC_yes hc]
    have HN := Lib.hid (show szR left p.sz = szR (left - (p.tk.length : Int)) (szMs p.hd + p.dn.length) from szR_add (by omega))
    generalize hq : left - (p.tk.length : Int) = rem at HN
    have q0 : 0 ≤ rem := by omega
    have q1 : rem ≤ 1048576 := by omega
    clear hq hc
    go_wp2_with (fail)
    refine (szMsgS p.HA p.ha p.hd rem _ n2 q0 q1 R2.out).mono ?_
    rintro e w2 ⟨rfl, hb⟩
    have Z1 := Lib.hid (Below.and Z0.out hb)
    have K1 := Lib.hid (K0.out.below hb)
    clear hb
    by_cases h3 : ((szMs p.hd : Nat) : Int) ≤ rem
    · rw [szR_yes h3]
      have HM := Lib.hid (show szR rem (szMs p.hd + p.dn.length) = szR (rem - (szMs p.hd : Int)) p.dn.length from szR_add (by omega))
      generalize hq : rem - (szMs p.hd : Int) = rem2 at HM
      have r0 : 0 ≤ rem2 := by omega
      have r1 : rem2 ≤ 1048576 := by omega
      clear hq h3
      have x6 : w2.cell? ⟨w.heap.size, 6, none⟩ = some (.slice p.DA p.dn.length p.da) := K1.out.cell 6
      go_wp2_with (fail)
      refine (szClaimS p.DA p.dn.length p.da rem2 _ n3 r0 r1).mono ?_
      rintro e w3 ⟨rfl, rfl⟩
      by_cases h5 : ((p.dn.length : Nat) : Int) ≤ rem2
      · rw [szC_yes h5]
        have HE := Lib.hid (show szR rem2 p.dn.length = rem2 - (p.dn.length : Int) from szR_yes h5)
        generalize hq : rem2 - (p.dn.length : Int) = rem3 at HE
        have t0 : 0 ≤ rem3 := by omega
        clear hq h5
        go_wp2
        go_light
        go_ret
        exact ⟨ret_int (((HN.out.trans HM.out).trans HE.out).symm), Z1.out⟩
      · rw [szC_no h5]
        have HE := Lib.hid (show szR rem2 p.dn.length = -1 from szR_no h5)
        go_wp2
        go_light
        go_ret
        exact ⟨ret_int (((HN.out.trans HM.out).trans HE.out).symm), Z1.out⟩
    · rw [szR_no h3]
      have HE := Lib.hid (show szR rem (szMs p.hd + p.dn.length) = -1 from szR_no (by omega))
      go_wp2
      go_light
      go_ret
      exact ⟨ret_int ((HN.out.trans HE.out).symm), Z1.out⟩
  · rw [szC_no hc]
    have HN := Lib.hid (show szR left p.sz = -1 by unfold RpP.sz szR; rw [if_neg (by omega)])
    go_wp2
    go_light
    go_ret
    exact ⟨ret_int (HN.out.symm), Z0.out⟩

set_option maxRecDepth 100000 in
set_option maxHeartbeats 4000000 in
theorem toRep (p : RpP) (w : World) (hp : p.rd w) (hl : p.sz ≤ 1048576) :
    Calls Try.prog 61 #[p.val] w fun e w' => ∃ q : RpP, e = .returned q.val ∧ q.rp = p.rp ∧ q.own w' w.heap.size ∧ Below w.heap.size w w' := by
  have hl1 : p.tk.length ≤ 1048576 := by unfold RpP.sz at hl; omega
  have hl2 : szMs p.hd ≤ 1048576 := by unfold RpP.sz at hl; omega
  have hl3 : p.dn.length ≤ 1048576 := by unfold RpP.sz at hl; omega
  have Z0 : Hid (Below w.heap.size w (((w.alloc (.cells #[.int .i64 p.me, .int .i64 p.v, .bool p.lv, .int .i64 p.nx, .slice p.TA p.tk.length p.ta, .slice p.HA p.hd.length p.ha, .slice p.DA p.dn.length p.da] 89)).alloc (.cells #[.int .i64 0, .int .i64 0, .bool false, .int .i64 0, .slice none 0 0, .slice none 0 0, .slice none 0 0] 47)).alloc (.cells #[.int .i64 p.me, .int .i64 p.v, .bool p.lv, .int .i64 p.nx, .slice none 0 0, .slice none 0 0, .slice none 0 0] 47))) := (below_alloc2 _ _ _).alloc (by simp; omega) _
  have R1 := Lib.hid hp.rt
  have R2 := Lib.hid hp.rh
  have R3 := Lib.hid hp.rdn
  clear hp hl
  go_enter Try.func61, Try.ntmps61
  go_wp2_with (fail)
  refine (toClaimS p.TA p.ta p.tk _ hl1 (R1.out.below Z0.out)).mono ?_
  rintro e w1 ⟨g1, rfl, hg1, ho, hb⟩
  have K1 : Hid (Blk w1 (w.heap.size + 1 + 1) 47 #[.int .i64 p.me, .int .i64 p.v, .bool p.lv, .int .i64 p.nx, .slice none 0 0, .slice none 0 0, .slice none 0 0]) := by have := (Blk.new (t := 47) (cs := #[.int .i64 p.me, .int .i64 p.v, .bool p.lv, .int .i64 p.nx, .slice none 0 0, .slice none 0 0, .slice none 0 0]) ((w.alloc (.cells #[.int .i64 p.me, .int .i64 p.v, .bool p.lv, .int .i64 p.nx, .slice p.TA p.tk.length p.ta, .slice p.HA p.hd.length p.ha, .slice p.DA p.dn.length p.da] 89)).alloc (.cells #[.int .i64 0, .int .i64 0, .bool false, .int .i64 0, .slice none 0 0, .slice none 0 0, .slice none 0 0] 47))).below hb; simpa [Hid] using this
  have K2 : Hid (Blk w1 (w.heap.size + 1) 47 #[.int .i64 0, .int .i64 0, .bool false, .int .i64 0, .slice none 0 0, .slice none 0 0, .slice none 0 0]) := by have := ((Blk.new (t := 47) (cs := #[.int .i64 0, .int .i64 0, .bool false, .int .i64 0, .slice none 0 0, .slice none 0 0, .slice none 0 0]) (w.alloc (.cells #[.int .i64 p.me, .int .i64 p.v, .bool p.lv, .int .i64 p.nx, .slice p.TA p.tk.length p.ta, .slice p.HA p.hd.length p.ha, .slice p.DA p.dn.length p.da] 89))).alloc (.cells #[.int .i64 p.me, .int .i64 p.v, .bool p.lv, .int .i64 p.nx, .slice none 0 0, .slice none 0 0, .slice none 0 0] 47)).below hb; simpa [Hid] using this
  have K3 : Hid (Blk w1 w.heap.size 89 #[.int .i64 p.me, .int .i64 p.v, .bool p.lv, .int .i64 p.nx, .slice p.TA p.tk.length p.ta, .slice p.HA p.hd.length p.ha, .slice p.DA p.dn.length p.da]) := (((Blk.new w).alloc _).alloc _).below hb
  have hz : w.heap.size + 1 + 1 < w1.heap.size := by have := hb.size; simp at this; omega
  have Z1 := Lib.hid (below_box3 hb)
  have O1 := Lib.hid (own_base (base' := w.heap.size + 1 + 1 + 1) ho (by simp))
  clear hb ho hg1
  have x0 : w1.cell? ⟨w.heap.size + 1 + 1, 0, none⟩ = some (.int .i64 p.me) := K1.out.cell 0
  have x1 : w1.cell? ⟨w.heap.size + 1 + 1, 1, none⟩ = some (.int .i64 p.v) := K1.out.cell 1
  have x2 : w1.cell? ⟨w.heap.size + 1 + 1, 2, none⟩ = some (.bool p.lv) := K1.out.cell 2
  have x3 : w1.cell? ⟨w.heap.size + 1 + 1, 3, none⟩ = some (.int .i64 p.nx) := K1.out.cell 3
  have x4 : w1.cell? ⟨w.heap.size + 1 + 1, 4, none⟩ = some (.slice none 0 0) := K1.out.cell 4
  have x5 : w1.cell? ⟨w.heap.size + 1 + 1, 5, none⟩ = some (.slice none 0 0) := K1.out.cell 5
  have x6 : w1.cell? ⟨w.heap.size + 1 + 1, 6, none⟩ = some (.slice none 0 0) := K1.out.cell 6
  have y0 : w1.cell? ⟨w.heap.size, 0, none⟩ = some (.int .i64 p.me) := K3.out.cell 0
  have y1 : w1.cell? ⟨w.heap.size, 1, none⟩ = some (.int .i64 p.v) := K3.out.cell 1
  have y2 : w1.cell? ⟨w.heap.size, 2, none⟩ = some (.bool p.lv) := K3.out.cell 2
  have y3 : w1.cell? ⟨w.heap.size, 3, none⟩ = some (.int .i64 p.nx) := K3.out.cell 3
  have y4 : w1.cell? ⟨w.heap.size, 4, none⟩ = some (.slice p.TA p.tk.length p.ta) := K3.out.cell 4
  have y5 : w1.cell? ⟨w.heap.size, 5, none⟩ = some (.slice p.HA p.hd.length p.ha) := K3.out.cell 5
  have y6 : w1.cell? ⟨w.heap.size, 6, none⟩ = some (.slice p.DA p.dn.length p.da) := K3.out.cell 6
  have xf := K1.out.frozen
  go_wp2_with (fail)
  have K1 : Hid (Blk (w1.setCell ⟨w.heap.size + 1 + 1, 4, none⟩ (.slice (some ⟨g1, 0, none⟩) p.tk.length p.tk.length)) (w.heap.size + 1 + 1) 47 #[.int .i64 p.me, .int .i64 p.v, .bool p.lv, .int .i64 p.nx, .slice (some ⟨g1, 0, none⟩) p.tk.length p.tk.length, .slice none 0 0, .slice none 0 0]) := K1.out.set 4 _
  have K2 : Hid (Blk (w1.setCell ⟨w.heap.size + 1 + 1, 4, none⟩ (.slice (some ⟨g1, 0, none⟩) p.tk.length p.tk.length)) (w.heap.size + 1) 47 #[.int .i64 0, .int .i64 0, .bool false, .int .i64 0, .slice none 0 0, .slice none 0 0, .slice none 0 0]) := K2.out.far (by omega) 4 _
  have K3 : Hid (Blk (w1.setCell ⟨w.heap.size + 1 + 1, 4, none⟩ (.slice (some ⟨g1, 0, none⟩) p.tk.length p.tk.length)) w.heap.size 89 #[.int .i64 p.me, .int .i64 p.v, .bool p.lv, .int .i64 p.nx, .slice p.TA p.tk.length p.ta, .slice p.HA p.hd.length p.ha, .slice p.DA p.dn.length p.da]) := K3.out.far (by omega) 4 _
  have Z1 : Hid (Below w.heap.size w (w1.setCell ⟨w.heap.size + 1 + 1, 4, none⟩ (.slice (some ⟨g1, 0, none⟩) p.tk.length p.tk.length))) := Z1.out.setCell (by simp; omega) _
  have O1 := Lib.hid (own_set O1.out (b := w.heap.size + 1 + 1) (by omega) 4 (.slice (some ⟨g1, 0, none⟩) p.tk.length p.tk.length))
  have hsz : (w1.setCell ⟨w.heap.size + 1 + 1, 4, none⟩ (.slice (some ⟨g1, 0, none⟩) p.tk.length p.tk.length)).heap.size = w1.heap.size := by simp
  have HSZ := Lib.hid hsz
  clear x0 x1 x2 x3 x4 x5 x6
  clear y0 y1 y2 y3 y4 y5 y6
  clear xf hsz
  refine (toMsgS p.HA p.ha p.hd _ hl2 (R2.out.below Z1.out)).mono ?_
  rintro e w2 ⟨Q, rfl, hQ, ho, hb⟩
  have K1 := Lib.hid (K1.out.below hb)
  have K2 := Lib.hid (K2.out.below hb)
  have K3 := Lib.hid (K3.out.below hb)
  have Z1 := Lib.hid (Below.and Z1.out hb)
  have O1 := Lib.hid (own_below O1.out hb)
  have HQ := Lib.hid hQ
  have hz2 : w.heap.size + 1 + 1 < w2.heap.size := by have := hb.size; rw [HSZ.out] at this; omega
  have hg2 : w1.heap.size = w1.heap.size := rfl
  rw [HSZ.out] at ho ⊢
  obtain ⟨g2, hg2⟩ : ∃ g2, g2 = w1.heap.size := ⟨_, rfl⟩
  rw [← hg2] at ho ⊢
  have gz2 : w.heap.size + 1 + 1 < g2 := by omega
  have O2 := Lib.hid ho
  clear hb ho hQ HSZ hg2 hz
  have x0 : w2.cell? ⟨w.heap.size + 1 + 1, 0, none⟩ = some (.int .i64 p.me) := K1.out.cell 0
  have x1 : w2.cell? ⟨w.heap.size + 1 + 1, 1, none⟩ = some (.int .i64 p.v) := K1.out.cell 1
  have x2 : w2.cell? ⟨w.heap.size + 1 + 1, 2, none⟩ = some (.bool p.lv) := K1.out.cell 2
  have x3 : w2.cell? ⟨w.heap.size + 1 + 1, 3, none⟩ = some (.int .i64 p.nx) := K1.out.cell 3
  have x4 : w2.cell? ⟨w.heap.size + 1 + 1, 4, none⟩ = some (.slice (some ⟨g1, 0, none⟩) p.tk.length p.tk.length) := K1.out.cell 4
  have x5 : w2.cell? ⟨w.heap.size + 1 + 1, 5, none⟩ = some (.slice none 0 0) := K1.out.cell 5
  have x6 : w2.cell? ⟨w.heap.size + 1 + 1, 6, none⟩ = some (.slice none 0 0) := K1.out.cell 6
  have y0 : w2.cell? ⟨w.heap.size, 0, none⟩ = some (.int .i64 p.me) := K3.out.cell 0
  have y1 : w2.cell? ⟨w.heap.size, 1, none⟩ = some (.int .i64 p.v) := K3.out.cell 1
  have y2 : w2.cell? ⟨w.heap.size, 2, none⟩ = some (.bool p.lv) := K3.out.cell 2
  have y3 : w2.cell? ⟨w.heap.size, 3, none⟩ = some (.int .i64 p.nx) := K3.out.cell 3
  have y4 : w2.cell? ⟨w.heap.size, 4, none⟩ = some (.slice p.TA p.tk.length p.ta) := K3.out.cell 4
  have y5 : w2.cell? ⟨w.heap.size, 5, none⟩ = some (.slice p.HA p.hd.length p.ha) := K3.out.cell 5
  have y6 : w2.cell? ⟨w.heap.size, 6, none⟩ = some (.slice p.DA p.dn.length p.da) := K3.out.cell 6
  have xf := K1.out.frozen
  go_wp2_with (fail)
  have K1 : Hid (Blk (w2.setCell ⟨w.heap.size + 1 + 1, 5, none⟩ (.slice (some ⟨g2, 0, none⟩) Q.length Q.length)) (w.heap.size + 1 + 1) 47 #[.int .i64 p.me, .int .i64 p.v, .bool p.lv, .int .i64 p.nx, .slice (some ⟨g1, 0, none⟩) p.tk.length p.tk.length, .slice (some ⟨g2, 0, none⟩) Q.length Q.length, .slice none 0 0]) := K1.out.set 5 _
  have K2 : Hid (Blk (w2.setCell ⟨w.heap.size + 1 + 1, 5, none⟩ (.slice (some ⟨g2, 0, none⟩) Q.length Q.length)) (w.heap.size + 1) 47 #[.int .i64 0, .int .i64 0, .bool false, .int .i64 0, .slice none 0 0, .slice none 0 0, .slice none 0 0]) := K2.out.far (by omega) 5 _
  have K3 : Hid (Blk (w2.setCell ⟨w.heap.size + 1 + 1, 5, none⟩ (.slice (some ⟨g2, 0, none⟩) Q.length Q.length)) w.heap.size 89 #[.int .i64 p.me, .int .i64 p.v, .bool p.lv, .int .i64 p.nx, .slice p.TA p.tk.length p.ta, .slice p.HA p.hd.length p.ha, .slice p.DA p.dn.length p.da]) := K3.out.far (by omega) 5 _
  have Z1 : Hid (Below w.heap.size w (w2.setCell ⟨w.heap.size + 1 + 1, 5, none⟩ (.slice (some ⟨g2, 0, none⟩) Q.length Q.length))) := Z1.out.setCell (by simp; omega) _
  have O1 := Lib.hid (own_set O1.out (b := w.heap.size + 1 + 1) (by omega) 5 (.slice (some ⟨g2, 0, none⟩) Q.length Q.length))
  have O2 : Hid (OwM (w2.setCell ⟨w.heap.size + 1 + 1, 5, none⟩ (.slice (some ⟨g2, 0, none⟩) Q.length Q.length)) g2 Q) := O2.out.set (b := w.heap.size + 1 + 1) (by omega) 5 (.slice (some ⟨g2, 0, none⟩) Q.length Q.length)
  have hsz : (w2.setCell ⟨w.heap.size + 1 + 1, 5, none⟩ (.slice (some ⟨g2, 0, none⟩) Q.length Q.length)).heap.size = w2.heap.size := by simp
  have HSZ := Lib.hid hsz
  clear x0 x1 x2 x3 x4 x5 x6
  clear y0 y1 y2 y3 y4 y5 y6
  clear xf hsz
  refine (toClaimS p.DA p.da p.dn _ hl3 (R3.out.below Z1.out)).mono ?_
  rintro e w3 ⟨g3, rfl, hg3, ho, hb⟩
  have K1 := Lib.hid (K1.out.below hb)
  have K2 := Lib.hid (K2.out.below hb)
  have K3 := Lib.hid (K3.out.below hb)
  have Z1 := Lib.hid (Below.and Z1.out hb)
  have O1 := Lib.hid (own_below O1.out hb)
  have O2 := Lib.hid (O2.out.below hb)
  have hz3 : w.heap.size + 1 + 1 < w3.heap.size := by have := hb.size; rw [HSZ.out] at this; omega
  have O3 := Lib.hid (own_base (base' := w.heap.size + 1 + 1 + 1) ho (by rw [HSZ.out]; omega))
  clear hb ho hg3 HSZ
  have x0 : w3.cell? ⟨w.heap.size + 1 + 1, 0, none⟩ = some (.int .i64 p.me) := K1.out.cell 0
  have x1 : w3.cell? ⟨w.heap.size + 1 + 1, 1, none⟩ = some (.int .i64 p.v) := K1.out.cell 1
  have x2 : w3.cell? ⟨w.heap.size + 1 + 1, 2, none⟩ = some (.bool p.lv) := K1.out.cell 2
  have x3 : w3.cell? ⟨w.heap.size + 1 + 1, 3, none⟩ = some (.int .i64 p.nx) := K1.out.cell 3
  have x4 : w3.cell? ⟨w.heap.size + 1 + 1, 4, none⟩ = some (.slice (some ⟨g1, 0, none⟩) p.tk.length p.tk.length) := K1.out.cell 4
  have x5 : w3.cell? ⟨w.heap.size + 1 + 1, 5, none⟩ = some (.slice (some ⟨g2, 0, none⟩) Q.length Q.length) := K1.out.cell 5
  have x6 : w3.cell? ⟨w.heap.size + 1 + 1, 6, none⟩ = some (.slice none 0 0) := K1.out.cell 6
  have y0 : w3.cell? ⟨w.heap.size + 1, 0, none⟩ = some (.int .i64 0) := K2.out.cell 0
  have y1 : w3.cell? ⟨w.heap.size + 1, 1, none⟩ = some (.int .i64 0) := K2.out.cell 1
  have y2 : w3.cell? ⟨w.heap.size + 1, 2, none⟩ = some (.bool false) := K2.out.cell 2
  have y3 : w3.cell? ⟨w.heap.size + 1, 3, none⟩ = some (.int .i64 0) := K2.out.cell 3
  have y4 : w3.cell? ⟨w.heap.size + 1, 4, none⟩ = some (.slice none 0 0) := K2.out.cell 4
  have y5 : w3.cell? ⟨w.heap.size + 1, 5, none⟩ = some (.slice none 0 0) := K2.out.cell 5
  have y6 : w3.cell? ⟨w.heap.size + 1, 6, none⟩ = some (.slice none 0 0) := K2.out.cell 6
  have xf := K1.out.frozen
  have yf := K2.out.frozen
  go_wp2
  refine bodyPost_ret (v := .agg #[.int .i64 p.me, .int .i64 p.v, .bool p.lv, .int .i64 p.nx, .slice (some ⟨g1, 0, none⟩) p.tk.length p.tk.length, .slice (some ⟨g2, 0, none⟩) Q.length Q.length, .slice (some ⟨g3, 0, none⟩) p.dn.length p.dn.length]) (by simp [results, Try.results61, go_sem, x0, x1, x2, x3, x4, x5, x6, y0, y1, y2, y3, y4, y5, y6]) rfl ⟨⟨p.me, p.v, p.lv, p.nx, some ⟨g1, 0, none⟩, p.tk.length, p.tk, some ⟨g2, 0, none⟩, Q.length, Q, some ⟨g3, 0, none⟩, p.dn.length, p.dn⟩, rfl, by simp only [RpP.rp, HQ.out], ?_, ?_⟩
  · clear x0 x1 x2 x3 x4 x5 x6 y0 y1 y2 y3 y4 y5 y6 xf yf
    refine ⟨own_base (base' := w.heap.size) (base := w.heap.size + 1 + 1 + 1) ?_ (by omega), ⟨g2, by omega, rfl, rfl, ?_⟩, own_base (base' := w.heap.size) (base := w.heap.size + 1 + 1 + 1) ?_ (by omega)⟩
    · iterate 8 (refine own_set ?_ (by omega) _ _)
      exact O1.out
    · iterate 8 (refine OwM.set ?_ (by omega) _ _)
      exact O2.out
    · iterate 8 (refine own_set ?_ (by omega) _ _)
      exact O3.out
  · clear x0 x1 x2 x3 x4 x5 x6 y0 y1 y2 y3 y4 y5 y6 xf yf
    iterate 8 (refine Below.setCell ?_ (by first | (simp; done) | (simp; omega)) _)
    exact Z1.out

set_option maxRecDepth 100000 in
set_option maxHeartbeats 2000000 in
theorem eqRep (p q : RpP) (w : World) (hp : p.rd w) (hq : q.rd w) :
    Calls Try.prog 63 #[p.val, q.val] w fun e w' => e = .returned (.bool (decide (p.rp = q.rp))) ∧ Below w.heap.size w w' := by
  have z0 := Lib.hid (below_alloc2 w (.cells #[.int .i64 p.me, .int .i64 p.v, .bool p.lv, .int .i64 p.nx, .slice p.TA p.tk.length p.ta, .slice p.HA p.hd.length p.ha, .slice p.DA p.dn.length p.da] 47) (.cells #[.int .i64 q.me, .int .i64 q.v, .bool q.lv, .int .i64 q.nx, .slice q.TA q.tk.length q.ta, .slice q.HA q.hd.length q.ha, .slice q.DA q.dn.length q.da] 47))
  have K0 : Hid (Blk ((w.alloc (.cells #[.int .i64 p.me, .int .i64 p.v, .bool p.lv, .int .i64 p.nx, .slice p.TA p.tk.length p.ta, .slice p.HA p.hd.length p.ha, .slice p.DA p.dn.length p.da] 47)).alloc (.cells #[.int .i64 q.me, .int .i64 q.v, .bool q.lv, .int .i64 q.nx, .slice q.TA q.tk.length q.ta, .slice q.HA q.hd.length q.ha, .slice q.DA q.dn.length q.da] 47)) w.heap.size 47 #[.int .i64 p.me, .int .i64 p.v, .bool p.lv, .int .i64 p.nx, .slice p.TA p.tk.length p.ta, .slice p.HA p.hd.length p.ha, .slice p.DA p.dn.length p.da]) := (Blk.new w).alloc _
  have K1 : Hid (Blk ((w.alloc (.cells #[.int .i64 p.me, .int .i64 p.v, .bool p.lv, .int .i64 p.nx, .slice p.TA p.tk.length p.ta, .slice p.HA p.hd.length p.ha, .slice p.DA p.dn.length p.da] 47)).alloc (.cells #[.int .i64 q.me, .int .i64 q.v, .bool q.lv, .int .i64 q.nx, .slice q.TA q.tk.length q.ta, .slice q.HA q.hd.length q.ha, .slice q.DA q.dn.length q.da] 47)) (w.heap.size + 1) 47 #[.int .i64 q.me, .int .i64 q.v, .bool q.lv, .int .i64 q.nx, .slice q.TA q.tk.length q.ta, .slice q.HA q.hd.length q.ha, .slice q.DA q.dn.length q.da]) := by have := Blk.new (t := 47) (cs := #[.int .i64 q.me, .int .i64 q.v, .bool q.lv, .int .i64 q.nx, .slice q.TA q.tk.length q.ta, .slice q.HA q.hd.length q.ha, .slice q.DA q.dn.length q.da]) (w.alloc (.cells #[.int .i64 p.me, .int .i64 p.v, .bool p.lv, .int .i64 p.nx, .slice p.TA p.tk.length p.ta, .slice p.HA p.hd.length p.ha, .slice p.DA p.dn.length p.da] 47)); simpa [Hid] using this
  have HP := Lib.hid (hp.below z0.out)
  have HQ := Lib.hid (hq.below z0.out)
  have m1 := hp.nt
  have m2 := hp.nh
  have m3 := hp.nd
  clear hp hq
  rcases h1 : (p.me != q.me) with _ | _
  rotate_left
  · go_enter Try.func63, Try.ntmps63
    go_wp2
    go_light
    go_ret
    exact ⟨ret_bool (by simp_all [RpP.rp]), z0.out⟩
  rcases h2 : (p.v != q.v) with _ | _
  rotate_left
  · go_enter Try.func63, Try.ntmps63
    go_wp2
    go_light
    go_ret
    exact ⟨ret_bool (by simp_all [RpP.rp]), z0.out⟩
  rcases h3 : (!(p.lv == q.lv)) with _ | _
  rotate_left
  · go_enter Try.func63, Try.ntmps63
    go_wp2
    go_light
    go_ret
    exact ⟨ret_bool (by simp_all [RpP.rp]), z0.out⟩
  rcases h4 : (p.nx != q.nx) with _ | _
  rotate_left
  · go_enter Try.func63, Try.ntmps63
    go_wp2
    go_light
    go_ret
    exact ⟨ret_bool (by simp_all [RpP.rp]), z0.out⟩
  go_enter Try.func63, Try.ntmps63
  go_wp2_with (fail)
  refine (eqClaimS p.TA q.TA p.ta q.ta p.tk q.tk _ m1 HP.out.rt HQ.out.rt).mono ?_
  rintro e w1 ⟨rfl, hb⟩
  have B1 := Lib.hid (Below.and z0.out hb)
  have K2 := Lib.hid (K0.out.below hb)
  have K3 := Lib.hid (K1.out.below hb)
  have HP := Lib.hid (HP.out.below hb)
  have HQ := Lib.hid (HQ.out.below hb)
  clear hb
  rcases h6 : decide (p.tk = q.tk) with _ | _
  · go_wp2
    go_light
    go_ret
    exact ⟨ret_bool (by simp_all [RpP.rp]), B1.out⟩
  have x5 : w1.cell? ⟨w.heap.size, 5, none⟩ = some (.slice p.HA p.hd.length p.ha) := K2.out.cell 5
  have x6 : w1.cell? ⟨w.heap.size, 6, none⟩ = some (.slice p.DA p.dn.length p.da) := K2.out.cell 6
  have y5 : w1.cell? ⟨w.heap.size + 1, 5, none⟩ = some (.slice q.HA q.hd.length q.ha) := K3.out.cell 5
  have y6 : w1.cell? ⟨w.heap.size + 1, 6, none⟩ = some (.slice q.DA q.dn.length q.da) := K3.out.cell 6
  go_wp2_with (fail)
  refine (eqMsgS p.HA q.HA p.ha q.ha p.hd q.hd _ m2 HP.out.rh HQ.out.rh).mono ?_
  rintro e w2 ⟨rfl, hb⟩
  have B2 := Lib.hid (Below.and B1.out hb)
  have K2 := Lib.hid (K2.out.below hb)
  have K3 := Lib.hid (K3.out.below hb)
  have HP := Lib.hid (HP.out.below hb)
  have HQ := Lib.hid (HQ.out.below hb)
  clear hb x5 x6 y5 y6
  rcases h7 : decide (p.hd.map MgP.mg = q.hd.map MgP.mg) with _ | _
  · go_wp2
    go_light
    go_ret
    exact ⟨ret_bool (by simp_all [RpP.rp]), B2.out⟩
  have x5 : w2.cell? ⟨w.heap.size, 5, none⟩ = some (.slice p.HA p.hd.length p.ha) := K2.out.cell 5
  have x6 : w2.cell? ⟨w.heap.size, 6, none⟩ = some (.slice p.DA p.dn.length p.da) := K2.out.cell 6
  have y5 : w2.cell? ⟨w.heap.size + 1, 5, none⟩ = some (.slice q.HA q.hd.length q.ha) := K3.out.cell 5
  have y6 : w2.cell? ⟨w.heap.size + 1, 6, none⟩ = some (.slice q.DA q.dn.length q.da) := K3.out.cell 6
  go_wp2_with (fail)
  refine (eqClaimS p.DA q.DA p.da q.da p.dn q.dn _ m3 HP.out.rdn HQ.out.rdn).mono ?_
  rintro e w3 ⟨rfl, hb⟩
  have B3 := Lib.hid (Below.and B2.out hb)
  clear hb x5 x6 y5 y6
  rcases h8 : decide (p.dn = q.dn) with _ | _
  all_goals go_wp2
  all_goals go_light
  all_goals go_ret
  all_goals exact ⟨ret_bool (by simp_all [RpP.rp]), B3.out⟩

end Go.Proofs.Ytfelhnchnaggmaa
