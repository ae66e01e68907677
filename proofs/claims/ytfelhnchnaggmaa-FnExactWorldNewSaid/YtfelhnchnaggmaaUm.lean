/- How much came in. -/
import Derived.Test.YtfelhnchnaggmaaUl
namespace Go.Proofs.Ytfelhnchnaggmaa
open Go.ChangeShapes Go.WideShapes Go.ChangeAt Go.RowKit
set_option linter.unusedVariables false

def szR (left : Int) (n : Nat) : Int := if (n : Int) ≤ left then left - n else -1
theorem szR_add {left : Int} {a b : Nat} (h : 0 ≤ left - (a : Int)) : szR left (a + b) = szR (left - (a : Int)) b := by
  unfold szR
  split <;> split <;> omega
theorem szR_yes {left : Int} {n : Nat} (h : (n : Int) ≤ left) : szR left n = left - n := if_pos h
theorem szR_no {left : Int} {n : Nat} (h : ¬ (n : Int) ≤ left) : szR left n = -1 := if_neg h
theorem szC_yes {left : Int} {n : Nat} (h : (n : Int) ≤ left) : (if left - (n : Int) < 0 then -1 else left - (n : Int)) = left - n := if_neg (by omega)
theorem szC_no {left : Int} {n : Nat} (h : ¬ (n : Int) ≤ left) : (if left - (n : Int) < 0 then -1 else left - (n : Int)) = -1 := if_pos (by omega)
def clLen (p : VtP) : Nat := p.cl.length
theorem szV_eq (P : List VtP) : szV P = P.length + (P.map clLen).sum := rfl
def szW (P : List VtP) : Nat := P.length + (P.map clLen).sum
def szMs (P : List MgP) : Nat := P.length + (P.map MgP.sz).sum

theorem szVoteL (p : VtP) (left : Int) (w : World) (hn : p.cl.length ≤ maxLen) (h0 : 0 ≤ left) (h1 : left ≤ 1048576) :
    Calls Try.prog 106 #[p.val, .int .i64 left] w fun e w' => e = .returned (.int .i64 (szR left (clLen p))) ∧ Below w.heap.size w w' :=
  (szVote p left w hn h0 h1).mono fun _ _ h => ⟨h.1.trans (ret_int (by unfold szR clLen; split <;> split <;> omega)), h.2⟩

set_option maxRecDepth 100000 in
theorem szVoteS (A : Option Addr) (c : Nat) (P : List VtP) (left : Int) (w : World) (hn : P.length ≤ maxLen) (h0 : 0 ≤ left) (h1 : left ≤ 1048576) (hr : RdV w A P) :
    Calls Try.prog 86 #[.slice A P.length c, .int .i64 left] w fun e w' => e = .returned (.int .i64 (szR left (szW P))) ∧ Below w.heap.size w w' := by
  unfold maxLen at hn
  have HR := Lib.hid hr
  clear hr
  go_enter Try.func86, Try.ntmps86
  by_cases hlt0 : left - (P.length : Int) < 0
  · go_wp2
    go_ret
    exact ⟨ret_int (by unfold szW szR; rw [if_neg (by omega)]), Below.refl _ _⟩
  · have HT := Lib.hid (show szR left (szW P) = szR (left - (P.length : Int)) ((P.map clLen).sum) from by unfold szW; exact szR_add (by omega))
    go_wp2
    go_loopw [1, 5] (fun lv i wr => ∃ (k : Nat) (rem : Int), k ≤ P.length ∧ i = .int .i64 k ∧ lv = .int .i64 rem ∧ 0 ≤ rem ∧ rem ≤ left ∧ Hid (szR left (szW P) = szR rem (((P.drop k).map clLen).sum)) ∧ Hid (Below w.heap.size w wr)) (fun _ i _ => P.length - (intOf i).toNat)
    case atStart => exact ⟨0, _, Nat.zero_le _, rfl, rfl, by omega, by omega, by simpa [Hid] using HT.out, Below.refl _ _⟩
    case round =>
      obtain ⟨k, rem, hk, rfl, rfl, r0, r1, ht, hb⟩ := hrel
      by_cases hlt : k < P.length
      · obtain ⟨g, o, rfl, ca⟩ := Rd.below HR.out.1 hb.out k hlt
        have rx := (HR.out.2 P[k] (List.getElem_mem hlt)).below hb.out
        have HD := Lib.hid (show ((P.drop k).map clLen).sum = clLen P[k] + ((P.drop (k + 1)).map clLen).sum by rw [List.drop_eq_getElem_cons hlt, List.map_cons, List.sum_cons])
        generalize P[k] = x at ca rx HD
        have RX := Lib.hid rx
        clear rx
        have a0 : wr.cell? ⟨g, o + k * 2, none⟩ = some (.int .i64 x.f) := ca 0 _ rfl
        have a1 : wr.cell? ⟨g, o + k * 2 + 1, none⟩ = some (.slice x.A x.cl.length x.c) := ca 1 _ rfl
        clear ca
        have i0 : (0 : Int) ≤ (k : Int) := by omega
        have i1 : (k : Int) < (P.length : Int) := by omega
        go_wp2_with (fail)
        refine (szVoteL x rem _ RX.out.1 r0 (by omega)).mono ?_
        rintro e w1 ⟨rfl, hb1⟩
        have BB := Lib.hid (Below.and hb.out hb1)
        clear hb1
        by_cases hc : (clLen x : Int) ≤ rem
        · have HN := Lib.hid (show szR rem (((P.drop k).map clLen).sum) = szR (rem - (clLen x : Nat)) (((P.drop (k + 1)).map clLen).sum) by rw [HD.out]; exact szR_add (by omega))
          have hz : 0 ≤ rem - ((clLen x : Nat) : Int) := by omega
          rw [szR_yes hc]
          generalize hq : rem - ((clLen x : Nat) : Int) = rem' at hz HN
          have hle : rem' ≤ left := by omega
          clear hq hc
          go_wp2
          go_roundw
          case rel => exact ⟨k + 1, rem', by omega, by go_num, rfl, by omega, by omega, ht.out.trans HN.out, BB.out⟩
          case measure => simp [intOf]; omega
        · rw [szR_no hc]
          have HN := Lib.hid (show szR rem (((P.drop k).map clLen).sum) = -1 by rw [HD.out]; unfold szR; rw [if_neg (by omega)])
          go_wp2
          go_ret
          exact ⟨ret_int (by rw [ht.out, HN.out]), BB.out⟩
      · have hz : k = P.length := by omega
        have HZ := Lib.hid (show szR left (szW P) = rem by rw [ht.out, hz, List.drop_length]; simp [szR, r0])
        clear hz
        go_wp2
        go_ret
        exact ⟨ret_int (by rw [HZ.out]), hb.out⟩

set_option maxRecDepth 100000 in
theorem szMsg (p : MgP) (left : Int) (w : World) (hp : p.rd w) (h0 : 0 ≤ left) (h1 : left ≤ 1048576) :
    Calls Try.prog 58 #[p.val, .int .i64 left] w fun e w' => e = .returned (.int .i64 (szR left p.sz)) ∧ Below w.heap.size w w' := by
  have Z0 : Hid (Below w.heap.size w (w.alloc (.cells #[.int .i64 p.k, .int .i64 p.f, .int .i64 p.v, .int .i64 p.s, .int .i64 p.r.c, .int .i64 p.r.n, .int .i64 p.r.o, .int .i64 p.r.x, .int .i64 p.r.y, .slice p.A p.cl.length p.a, .slice p.B p.vt.length p.b] 94))) := (Below.refl _ _).alloc (Nat.le_refl _) _
  have K0 : Hid (Blk (w.alloc (.cells #[.int .i64 p.k, .int .i64 p.f, .int .i64 p.v, .int .i64 p.s, .int .i64 p.r.c, .int .i64 p.r.n, .int .i64 p.r.o, .int .i64 p.r.x, .int .i64 p.r.y, .slice p.A p.cl.length p.a, .slice p.B p.vt.length p.b] 94)) w.heap.size 94 #[.int .i64 p.k, .int .i64 p.f, .int .i64 p.v, .int .i64 p.s, .int .i64 p.r.c, .int .i64 p.r.n, .int .i64 p.r.o, .int .i64 p.r.x, .int .i64 p.r.y, .slice p.A p.cl.length p.a, .slice p.B p.vt.length p.b]) := Blk.new w
  have n1 : p.cl.length ≤ maxLen := hp.1
  have n2 : p.vt.length ≤ maxLen := hp.2.1
  have R2 := Lib.hid (hp.2.2.2.below Z0.out)
  clear hp
  go_enter Try.func58, Try.ntmps58
  go_wp2_with (fail)
  refine (szClaimS p.A p.cl.length p.a left _ n1 h0 h1).mono ?_
  rintro e w1 ⟨rfl, rfl⟩
  by_cases hc : ((p.cl.length : Nat) : Int) ≤ left
  · rw [szC_yes hc]
    have HN := Lib.hid (show szR left p.sz = szR (left - (p.cl.length : Int)) (szW p.vt) from szR_add (by omega))
    generalize hq : left - (p.cl.length : Int) = rem at HN
    have q0 : 0 ≤ rem := by omega
    have q1 : rem ≤ 1048576 := by omega
    clear hq hc
    go_wp2_with (fail)
    refine (szVoteS p.B p.b p.vt rem _ n2 q0 q1 R2.out).mono ?_
    rintro e w2 ⟨rfl, hb⟩
    have Z1 := Lib.hid (Below.and Z0.out hb)
    by_cases h3 : szR rem (szW p.vt) < 0
    · have h4 : szR rem (szW p.vt) = -1 := by
        unfold szR at h3 ⊢
        split at h3
        · omega
        · rename_i h5; rw [if_neg h5]
      have H4 := Lib.hid h4
      rw [h4]
      clear h4 h3 hb
      go_wp2
      go_light
      go_ret
      exact ⟨ret_int (by rw [HN.out, H4.out]), Z1.out⟩
    · have HN := Lib.hid HN.out.symm
      generalize szR rem (szW p.vt) = z at h3 HN
      clear hb
      go_wp2
      go_light
      go_ret
      exact ⟨ret_int HN.out, Z1.out⟩
  · rw [szC_no hc]
    have HN := Lib.hid (show szR left p.sz = -1 by unfold MgP.sz szR; rw [if_neg (by omega)])
    go_wp2
    go_light
    go_ret
    exact ⟨ret_int HN.out.symm, Z0.out⟩

set_option maxRecDepth 100000 in
theorem szMsgS (A : Option Addr) (c : Nat) (P : List MgP) (left : Int) (w : World) (hn : P.length ≤ maxLen) (h0 : 0 ≤ left) (h1 : left ≤ 1048576) (hr : RdMs w A P) :
    Calls Try.prog 33 #[.slice A P.length c, .int .i64 left] w fun e w' => e = .returned (.int .i64 (szR left (szMs P))) ∧ Below w.heap.size w w' := by
  unfold maxLen at hn
  have HR := Lib.hid hr
  clear hr
  go_enter Try.func33, Try.ntmps33
  by_cases hlt0 : left - (P.length : Int) < 0
  · go_wp2
    go_ret
    exact ⟨ret_int (by unfold szMs szR; rw [if_neg (by omega)]), Below.refl _ _⟩
  · have HT := Lib.hid (show szR left (szMs P) = szR (left - (P.length : Int)) ((P.map MgP.sz).sum) from by unfold szMs; exact szR_add (by omega))
    go_wp2
    go_loopw [1, 5] (fun lv i wr => ∃ (k : Nat) (rem : Int), k ≤ P.length ∧ i = .int .i64 k ∧ lv = .int .i64 rem ∧ 0 ≤ rem ∧ rem ≤ left ∧ Hid (szR left (szMs P) = szR rem (((P.drop k).map MgP.sz).sum)) ∧ Hid (Below w.heap.size w wr)) (fun _ i _ => P.length - (intOf i).toNat)
    case atStart => exact ⟨0, _, Nat.zero_le _, rfl, rfl, by omega, by omega, by simpa [Hid] using HT.out, Below.refl _ _⟩
    case round =>
      obtain ⟨k, rem, hk, rfl, rfl, r0, r1, ht, hb⟩ := hrel
      by_cases hlt : k < P.length
      · obtain ⟨g, o, rfl, ca⟩ := Rd.below HR.out.1 hb.out k hlt
        have rx := (HR.out.2 P[k] (List.getElem_mem hlt)).below hb.out
        have HD := Lib.hid (show ((P.drop k).map MgP.sz).sum = MgP.sz P[k] + ((P.drop (k + 1)).map MgP.sz).sum by rw [List.drop_eq_getElem_cons hlt, List.map_cons, List.sum_cons])
        generalize P[k] = x at ca rx HD
        have RX := Lib.hid rx
        clear rx
        have a0 : wr.cell? ⟨g, o + k * 11, none⟩ = some (.int .i64 x.k) := ca 0 _ rfl
        have a1 : wr.cell? ⟨g, o + k * 11 + 1, none⟩ = some (.int .i64 x.f) := ca 1 _ rfl
        have a2 : wr.cell? ⟨g, o + k * 11 + 2, none⟩ = some (.int .i64 x.v) := ca 2 _ rfl
        have a3 : wr.cell? ⟨g, o + k * 11 + 3, none⟩ = some (.int .i64 x.s) := ca 3 _ rfl
        have a4 : wr.cell? ⟨g, o + k * 11 + 4, none⟩ = some (.int .i64 x.r.c) := ca 4 _ rfl
        have a5 : wr.cell? ⟨g, o + k * 11 + 5, none⟩ = some (.int .i64 x.r.n) := ca 5 _ rfl
        have a6 : wr.cell? ⟨g, o + k * 11 + 6, none⟩ = some (.int .i64 x.r.o) := ca 6 _ rfl
        have a7 : wr.cell? ⟨g, o + k * 11 + 7, none⟩ = some (.int .i64 x.r.x) := ca 7 _ rfl
        have a8 : wr.cell? ⟨g, o + k * 11 + 8, none⟩ = some (.int .i64 x.r.y) := ca 8 _ rfl
        have a9 : wr.cell? ⟨g, o + k * 11 + 9, none⟩ = some (.slice x.A x.cl.length x.a) := ca 9 _ rfl
        have a10 : wr.cell? ⟨g, o + k * 11 + 10, none⟩ = some (.slice x.B x.vt.length x.b) := ca 10 _ rfl
        clear ca
        have i0 : (0 : Int) ≤ (k : Int) := by omega
        have i1 : (k : Int) < (P.length : Int) := by omega
        go_wp2_with (fail)
        refine (szMsg x rem _ RX.out r0 (by omega)).mono ?_
        rintro e w1 ⟨rfl, hb1⟩
        have BB := Lib.hid (Below.and hb.out hb1)
        clear hb1
        by_cases hc : (MgP.sz x : Int) ≤ rem
        · have HN := Lib.hid (show szR rem (((P.drop k).map MgP.sz).sum) = szR (rem - (MgP.sz x : Nat)) (((P.drop (k + 1)).map MgP.sz).sum) by rw [HD.out]; exact szR_add (by omega))
          have hz : 0 ≤ rem - ((MgP.sz x : Nat) : Int) := by omega
          rw [szR_yes hc]
          generalize hq : rem - ((MgP.sz x : Nat) : Int) = rem' at hz HN
          have hle : rem' ≤ left := by omega
          clear hq hc
          go_wp2
          go_roundw
          case rel => exact ⟨k + 1, rem', by omega, by go_num, rfl, by omega, by omega, ht.out.trans HN.out, BB.out⟩
          case measure => simp [intOf]; omega
        · rw [szR_no hc]
          have HN := Lib.hid (show szR rem (((P.drop k).map MgP.sz).sum) = -1 by rw [HD.out]; unfold szR; rw [if_neg (by omega)])
          go_wp2
          go_ret
          exact ⟨ret_int (by rw [ht.out, HN.out]), BB.out⟩
      · have hz : k = P.length := by omega
        have HZ := Lib.hid (show szR left (szMs P) = rem by rw [ht.out, hz, List.drop_length]; simp [szR, r0])
        clear hz
        go_wp2
        go_ret
        exact ⟨ret_int (by rw [HZ.out]), hb.out⟩

end Go.Proofs.Ytfelhnchnaggmaa
