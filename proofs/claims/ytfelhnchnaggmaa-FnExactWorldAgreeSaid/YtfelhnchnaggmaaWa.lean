/- A world as data: its size. -/
import Derived.Test.YtfelhnchnaggmaaRe
namespace Go.Proofs.Ytfelhnchnaggmaa
open Go.ChangeShapes Go.WideShapes Go.ChangeAt Go.RowKit
set_option linter.unusedVariables false
set_option linter.unusedSimpArgs false

abbrev RdRs (w : World) (A : Option Addr) (P : List RpP) : Prop := Rd 7 RpP.cells w A P ∧ ∀ p ∈ P, p.rd w
theorem RdRs.below {w w' : World} {A : Option Addr} {P : List RpP} (h : RdRs w A P) (hb : Below w.heap.size w w') : RdRs w' A P := ⟨h.1.below hb, fun p hp => (h.2 p hp).below hb⟩
def szRs (P : List RpP) : Nat := P.length + (P.map RpP.sz).sum

/-- A world as it lies in memory, and as it reads. -/
structure WdP where
  bad : Int
  RA : Option Addr
  ra : Nat
  rs : List RpP
  SA : Option Addr
  sa : Nat
  sd : List MgP
structure Wd where
  bad : Int
  rs : List Rp
  sd : List Mg
  deriving DecidableEq
abbrev WdP.val (r : WdP) : Value := .agg #[.int .i64 r.bad, .slice r.RA r.rs.length r.ra, .slice r.SA r.sd.length r.sa]
def WdP.wd (r : WdP) : Wd := ⟨r.bad, r.rs.map RpP.rp, r.sd.map MgP.mg⟩
structure WdP.rd (w : World) (r : WdP) : Prop where
  nr : r.rs.length ≤ maxLen
  ns : r.sd.length ≤ maxLen
  rr : RdRs w r.RA r.rs
  rm : RdMs w r.SA r.sd
theorem WdP.rd.below {w w' : World} {r : WdP} (h : r.rd w) (hb : Below w.heap.size w w') : r.rd w' := ⟨h.nr, h.ns, h.rr.below hb, h.rm.below hb⟩
def WdP.sz (r : WdP) : Nat := szRs r.rs + szMs r.sd

set_option maxRecDepth 100000 in
set_option maxHeartbeats 2000000 in
theorem szRepS (A : Option Addr) (c : Nat) (P : List RpP) (left : Int) (w : World) (hn : P.length ≤ maxLen) (h0 : 0 ≤ left) (h1 : left ≤ 1048576) (hr : RdRs w A P) :
    Calls Try.prog 32 #[.slice A P.length c, .int .i64 left] w fun e w' => e = .returned (.int .i64 (szR left (szRs P))) ∧ Below w.heap.size w w' := by
  unfold maxLen at hn
  have HR := Lib.hid hr
  clear hr
  go_enter Try.func32, Try.ntmps32
  by_cases hlt0 : left - (P.length : Int) < 0
  · go_wp2
    go_ret
    exact ⟨ret_int (by unfold szRs szR; rw [if_neg (by omega)]), Below.refl _ _⟩
  · have HT := Lib.hid (show szR left (szRs P) = szR (left - (P.length : Int)) ((P.map RpP.sz).sum) from by unfold szRs; exact szR_add (by omega))
    go_wp2
    go_loopw [1, 5] (fun lv i wr => ∃ (k : Nat) (rem : Int), k ≤ P.length ∧ i = .int .i64 k ∧ lv = .int .i64 rem ∧ 0 ≤ rem ∧ rem ≤ left ∧ Hid (szR left (szRs P) = szR rem (((P.drop k).map RpP.sz).sum)) ∧ Hid (Below w.heap.size w wr)) (fun _ i _ => P.length - (intOf i).toNat)
    case atStart => exact ⟨0, _, Nat.zero_le _, rfl, rfl, by omega, by omega, by simpa [Hid] using HT.out, Below.refl _ _⟩
    case round =>
      obtain ⟨k, rem, hk, rfl, rfl, r0, r1, ht, hb⟩ := hrel
      by_cases hlt : k < P.length
      · obtain ⟨g, o, rfl, ca⟩ := Rd.below HR.out.1 hb.out k hlt
        have rx := (HR.out.2 P[k] (List.getElem_mem hlt)).below hb.out
        have HD := Lib.hid (show ((P.drop k).map RpP.sz).sum = RpP.sz P[k] + ((P.drop (k + 1)).map RpP.sz).sum by rw [List.drop_eq_getElem_cons hlt, List.map_cons, List.sum_cons])
        generalize P[k] = x at ca rx HD
        have RX := Lib.hid rx
        clear rx
        have a0 : wr.cell? ⟨g, o + k * 7, none⟩ = some (.int .i64 x.me) := ca 0 _ rfl
        have a1 : wr.cell? ⟨g, o + k * 7 + 1, none⟩ = some (.int .i64 x.v) := ca 1 _ rfl
        have a2 : wr.cell? ⟨g, o + k * 7 + 2, none⟩ = some (.bool x.lv) := ca 2 _ rfl
        have a3 : wr.cell? ⟨g, o + k * 7 + 3, none⟩ = some (.int .i64 x.nx) := ca 3 _ rfl
        have a4 : wr.cell? ⟨g, o + k * 7 + 4, none⟩ = some (.slice x.TA x.tk.length x.ta) := ca 4 _ rfl
        have a5 : wr.cell? ⟨g, o + k * 7 + 5, none⟩ = some (.slice x.HA x.hd.length x.ha) := ca 5 _ rfl
        have a6 : wr.cell? ⟨g, o + k * 7 + 6, none⟩ = some (.slice x.DA x.dn.length x.da) := ca 6 _ rfl
        clear ca
        have i0 : (0 : Int) ≤ (k : Int) := by omega
        have i1 : (k : Int) < (P.length : Int) := by omega
        go_wp2_with (fail)
        refine (szRep x rem _ RX.out r0 (by omega)).mono ?_
        rintro e w1 ⟨rfl, hb1⟩
        have BB := Lib.hid (Below.and hb.out hb1)
        clear hb1
        by_cases hc : (RpP.sz x : Int) ≤ rem
        · have HN := Lib.hid (show szR rem (((P.drop k).map RpP.sz).sum) = szR (rem - (RpP.sz x : Nat)) (((P.drop (k + 1)).map RpP.sz).sum) by rw [HD.out]; exact szR_add (by omega))
          have hz : 0 ≤ rem - ((RpP.sz x : Nat) : Int) := by omega
          rw [szR_yes hc]
          generalize hq : rem - ((RpP.sz x : Nat) : Int) = rem' at hz HN
          have hle : rem' ≤ left := by omega
          clear hq hc
          go_wp2
          go_roundw
          case rel => exact ⟨k + 1, rem', by omega, by go_num, rfl, by omega, by omega, ht.out.trans HN.out, BB.out⟩
          case measure => simp [intOf]; omega
        · rw [szR_no hc]
          have HN := Lib.hid (show szR rem (((P.drop k).map RpP.sz).sum) = -1 by rw [HD.out]; unfold szR; rw [if_neg (by omega)])
          go_wp2
          go_ret
          exact ⟨ret_int (by rw [ht.out, HN.out]), BB.out⟩
      · have hz : k = P.length := by omega
        have HZ := Lib.hid (show szR left (szRs P) = rem by rw [ht.out, hz, List.drop_length]; simp [szR, r0])
        clear hz
        go_wp2
        go_ret
        exact ⟨ret_int (by rw [HZ.out]), hb.out⟩

set_option maxRecDepth 100000 in
set_option maxHeartbeats 2000000 in
theorem szWorld (p : WdP) (left : Int) (w : World) (hp : p.rd w) (h0 : 0 ≤ left) (h1 : left ≤ 1048576) :
    Calls Try.prog 13 #[p.val, .int .i64 left] w fun e w' => e = .returned (.int .i64 (szR left p.sz)) ∧ Below w.heap.size w w' := by
  have Z0 : Hid (Below w.heap.size w (w.alloc (.cells #[.int .i64 p.bad, .slice p.RA p.rs.length p.ra, .slice p.SA p.sd.length p.sa] 35))) := (Below.refl _ _).alloc (Nat.le_refl _) _
  have K0 : Hid (Blk (w.alloc (.cells #[.int .i64 p.bad, .slice p.RA p.rs.length p.ra, .slice p.SA p.sd.length p.sa] 35)) w.heap.size 35 #[.int .i64 p.bad, .slice p.RA p.rs.length p.ra, .slice p.SA p.sd.length p.sa]) := Blk.new w
  have n1 := hp.nr
  have n2 := hp.ns
  have R1 := Lib.hid (hp.rr.below Z0.out)
  have R2 := Lib.hid (hp.rm.below Z0.out)
  clear hp
  go_enter Try.func13, Try.ntmps13
  go_wp2_with (fail)
  refine (szRepS p.RA p.ra p.rs left _ n1 h0 h1 R1.out).mono ?_
  rintro e w1 ⟨rfl, hb⟩
  have Z1 := Lib.hid (Below.and Z0.out hb)
  have K1 := Lib.hid (K0.out.below hb)
  have R3 := Lib.hid (R2.out.below hb)
  clear hb
  by_cases hc : ((szRs p.rs : Nat) : Int) ≤ left
  · rw [szR_yes hc]
    have HN := Lib.hid (show szR left p.sz = szR (left - (szRs p.rs : Int)) (szMs p.sd) from szR_add (by omega))
    generalize hq : left - (szRs p.rs : Int) = rem at HN
    have q0 : 0 ≤ rem := by omega
    have q1 : rem ≤ 1048576 := by omega
    clear hq hc
    have x2 : w1.cell? ⟨w.heap.size, 2, none⟩ = some (.slice p.SA p.sd.length p.sa) := K1.out.cell 2
    go_wp2_with (fail)
    refine (szMsgS p.SA p.sa p.sd rem _ n2 q0 q1 R3.out).mono ?_
    rintro e w2 ⟨rfl, hb⟩
    have Z2 := Lib.hid (Below.and Z1.out hb)
    clear hb
    by_cases h3 : ((szMs p.sd : Nat) : Int) ≤ rem
    · rw [szR_yes h3]
      have HM := Lib.hid (show szR rem (szMs p.sd) = rem - (szMs p.sd : Int) from szR_yes h3)
      generalize hq : rem - (szMs p.sd : Int) = rem2 at HM
      have r0 : 0 ≤ rem2 := by omega
      clear hq h3
      go_wp2
      go_light
      go_ret
      exact ⟨ret_int (HN.out.trans HM.out).symm, Z2.out⟩
    · rw [szR_no h3]
      have HE := Lib.hid (show szR rem (szMs p.sd) = -1 from szR_no (by omega))
      go_wp2
      go_light
      go_ret
      exact ⟨ret_int (HN.out.trans HE.out).symm, Z2.out⟩
  · rw [szR_no hc]
    have HN := Lib.hid (show szR left p.sz = -1 by unfold WdP.sz szR; rw [if_neg (by omega)])
    go_wp2
    go_light
    go_ret
    exact ⟨ret_int HN.out.symm, Z1.out⟩

end Go.Proofs.Ytfelhnchnaggmaa
