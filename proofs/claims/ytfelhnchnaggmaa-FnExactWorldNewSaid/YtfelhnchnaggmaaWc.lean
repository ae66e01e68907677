/- Keepers, and worlds held against each other: the laws' way. -/
import Derived.Test.YtfelhnchnaggmaaWb
namespace Go.Proofs.Ytfelhnchnaggmaa
open Go.ChangeShapes Go.WideShapes Go.ChangeAt Go.RowKit
set_option linter.unusedVariables false
set_option linter.unusedSimpArgs false

set_option maxRecDepth 100000 in
theorem eqRepS (A B : Option Addr) (c d : Nat) (la lb : List RpP) (w : World) (hA : la.length ≤ maxLen) (ha : RdRs w A la) (hb : RdRs w B lb) :
    Calls Try.prog 37 #[.slice A la.length c, .slice B lb.length d] w fun e w' => e = .returned (.bool (decide (la.map RpP.rp = lb.map RpP.rp))) ∧ Below w.heap.size w w' := by
  unfold maxLen at hA
  have HA := Lib.hid ha
  have HB := Lib.hid hb
  clear ha hb
  by_cases hl : la.length = lb.length
  · have hl1 : ((la.length : Int) != (lb.length : Int)) = false := by simp [hl]
    have HL := Lib.hid hl
    clear hl
    go_enter Try.func37, Try.ntmps37
    go_wp2
    go_loopw [5] (fun i wr => ∃ k : Nat, k ≤ la.length ∧ i = .int .i64 k ∧ Hid (Below w.heap.size w wr) ∧ Hid ((la.map RpP.rp).take k = (lb.map RpP.rp).take k)) (fun i _ => la.length - (intOf i).toNat)
    case atStart => exact ⟨0, Nat.zero_le _, rfl, Below.refl _ _, by simp [Hid]⟩
    case round =>
      obtain ⟨k, hk, rfl, hbw, ht⟩ := hrel
      by_cases hlt : k < la.length
      · have hltb : k < lb.length := by have := HL.out; omega
        obtain ⟨g, o, rfl, ca⟩ := Rd.below HA.out.1 hbw.out k hlt
        obtain ⟨g', o', rfl, cb⟩ := Rd.below HB.out.1 hbw.out k hltb
        have rx := (HA.out.2 la[k] (List.getElem_mem hlt)).below hbw.out
        have ry := (HB.out.2 lb[k] (List.getElem_mem hltb)).below hbw.out
        obtain ⟨x, hx⟩ : ∃ x, x = la[k] := ⟨_, rfl⟩
        obtain ⟨y, hy⟩ : ∃ y, y = lb[k] := ⟨_, rfl⟩
        rw [← hx] at ca rx
        rw [← hy] at cb ry
        have HX := Lib.hid hx
        have HY := Lib.hid hy
        have RX := Lib.hid rx
        have RY := Lib.hid ry
        clear hx hy rx ry
        have a0 : wr.cell? ⟨g, o + k * 7, none⟩ = some (.int .i64 x.me) := ca 0 _ rfl
        have a1 : wr.cell? ⟨g, o + k * 7 + 1, none⟩ = some (.int .i64 x.v) := ca 1 _ rfl
        have a2 : wr.cell? ⟨g, o + k * 7 + 2, none⟩ = some (.bool x.lv) := ca 2 _ rfl
        have a3 : wr.cell? ⟨g, o + k * 7 + 3, none⟩ = some (.int .i64 x.nx) := ca 3 _ rfl
        have a4 : wr.cell? ⟨g, o + k * 7 + 4, none⟩ = some (.slice x.TA x.tk.length x.ta) := ca 4 _ rfl
        have a5 : wr.cell? ⟨g, o + k * 7 + 5, none⟩ = some (.slice x.HA x.hd.length x.ha) := ca 5 _ rfl
        have a6 : wr.cell? ⟨g, o + k * 7 + 6, none⟩ = some (.slice x.DA x.dn.length x.da) := ca 6 _ rfl
        have b0 : wr.cell? ⟨g', o' + k * 7, none⟩ = some (.int .i64 y.me) := cb 0 _ rfl
        have b1 : wr.cell? ⟨g', o' + k * 7 + 1, none⟩ = some (.int .i64 y.v) := cb 1 _ rfl
        have b2 : wr.cell? ⟨g', o' + k * 7 + 2, none⟩ = some (.bool y.lv) := cb 2 _ rfl
        have b3 : wr.cell? ⟨g', o' + k * 7 + 3, none⟩ = some (.int .i64 y.nx) := cb 3 _ rfl
        have b4 : wr.cell? ⟨g', o' + k * 7 + 4, none⟩ = some (.slice y.TA y.tk.length y.ta) := cb 4 _ rfl
        have b5 : wr.cell? ⟨g', o' + k * 7 + 5, none⟩ = some (.slice y.HA y.hd.length y.ha) := cb 5 _ rfl
        have b6 : wr.cell? ⟨g', o' + k * 7 + 6, none⟩ = some (.slice y.DA y.dn.length y.da) := cb 6 _ rfl
        clear ca cb
        have i0 : (0 : Int) ≤ (k : Int) := by omega
        have i1 : (k : Int) < (la.length : Int) := by omega
        have i2 : (k : Int) < (lb.length : Int) := by omega
        by_cases hxy : RpP.rp x = RpP.rp y
        · have HE := Lib.hid hxy
          clear hxy
          go_wp2_with (fail)
          refine wp_region_still_tail 8 (by kernel_rfl) (by kernel_rfl) ?_
          change wpStill _ _ (World.drew _) (fun a' => wpList _ _ _ _ a' (World.drew _)) _ _
          simp only [List.take_succ_cons, List.take_zero, List.drop_succ_cons, List.drop_zero]
          repeat still_step
          refine wpStill_nil ?_
          go_wp2_with (fail)
          refine (eqRep x y _ (RX.out.below (Below.refl _ _).drew) (RY.out.below (Below.refl _ _).drew)).mono ?_
          rintro e w1 ⟨rfl, h1⟩
          rw [decide_eq_true HE.out]
          go_wp2
          go_roundw
          case rel => exact ⟨k + 1, by omega, by go_num, Below.and hbw.out (Below.and (Below.refl _ _).drew h1), map_take_step hlt hltb ht.out (by rw [← HX.out, ← HY.out]; exact HE.out)⟩
          case measure => simp [intOf]; omega
        · have HE := Lib.hid hxy
          clear hxy
          go_wp2_with (fail)
          refine wp_region_still_tail 8 (by kernel_rfl) (by kernel_rfl) ?_
          change wpStill _ _ (World.drew _) (fun a' => wpList _ _ _ _ a' (World.drew _)) _ _
          simp only [List.take_succ_cons, List.take_zero, List.drop_succ_cons, List.drop_zero]
          repeat still_step
          refine wpStill_nil ?_
          go_wp2_with (fail)
          refine (eqRep x y _ (RX.out.below (Below.refl _ _).drew) (RY.out.below (Below.refl _ _).drew)).mono ?_
          rintro e w1 ⟨rfl, h1⟩
          rw [decide_eq_false HE.out]
          go_wp2
          go_ret
          exact ⟨ret_bool (decide_eq_false (map_ne_of_at hlt hltb (by rw [← HX.out, ← HY.out]; exact HE.out))).symm, Below.and hbw.out (Below.and (Below.refl _ _).drew h1)⟩
      · have hz : k = la.length := by omega
        have HZ := Lib.hid hz
        clear hz
        go_wp2
        go_ret
        have h1 := ht.out
        rw [List.take_of_length_le (by simp; have := HZ.out; omega), List.take_of_length_le (by simp; have := HZ.out; have := HL.out; omega)] at h1
        exact ⟨ret_bool (decide_eq_true h1).symm, hbw.out⟩
  · have hl1 : ((la.length : Int) != (lb.length : Int)) = true := by simp; omega
    have HL := Lib.hid hl
    clear hl
    go_enter Try.func37, Try.ntmps37
    go_wp2
    go_ret
    exact ⟨ret_bool (decide_eq_false (fun e => HL.out (by have := congrArg List.length e; simpa using this))).symm, Below.refl _ _⟩

set_option maxRecDepth 100000 in
set_option maxHeartbeats 2000000 in
theorem eqWorld (p q : WdP) (w : World) (hp : p.rd w) (hq : q.rd w) :
    Calls Try.prog 16 #[p.val, q.val] w fun e w' => e = .returned (.bool (decide (p.wd = q.wd))) ∧ Below w.heap.size w w' := by
  have z0 := Lib.hid (below_alloc2 w (.cells #[.int .i64 p.bad, .slice p.RA p.rs.length p.ra, .slice p.SA p.sd.length p.sa] 27) (.cells #[.int .i64 q.bad, .slice q.RA q.rs.length q.ra, .slice q.SA q.sd.length q.sa] 27))
  have K0 : Hid (Blk ((w.alloc (.cells #[.int .i64 p.bad, .slice p.RA p.rs.length p.ra, .slice p.SA p.sd.length p.sa] 27)).alloc (.cells #[.int .i64 q.bad, .slice q.RA q.rs.length q.ra, .slice q.SA q.sd.length q.sa] 27)) w.heap.size 27 #[.int .i64 p.bad, .slice p.RA p.rs.length p.ra, .slice p.SA p.sd.length p.sa]) := (Blk.new w).alloc _
  have K1 : Hid (Blk ((w.alloc (.cells #[.int .i64 p.bad, .slice p.RA p.rs.length p.ra, .slice p.SA p.sd.length p.sa] 27)).alloc (.cells #[.int .i64 q.bad, .slice q.RA q.rs.length q.ra, .slice q.SA q.sd.length q.sa] 27)) (w.heap.size + 1) 27 #[.int .i64 q.bad, .slice q.RA q.rs.length q.ra, .slice q.SA q.sd.length q.sa]) := by have := Blk.new (t := 27) (cs := #[.int .i64 q.bad, .slice q.RA q.rs.length q.ra, .slice q.SA q.sd.length q.sa]) (w.alloc (.cells #[.int .i64 p.bad, .slice p.RA p.rs.length p.ra, .slice p.SA p.sd.length p.sa] 27)); simpa [Hid] using this
  have HP := Lib.hid (hp.below z0.out)
  have HQ := Lib.hid (hq.below z0.out)
  have m1 := hp.nr
  have m2 := hp.ns
  clear hp hq
  rcases h1 : (p.bad != q.bad) with _ | _
  rotate_left
  · go_enter Try.func16, Try.ntmps16
    go_wp2
    go_light
    go_ret
    exact ⟨ret_bool (by simp_all [WdP.wd]), z0.out⟩
  go_enter Try.func16, Try.ntmps16
  go_wp2_with (fail)
  refine (eqRepS p.RA q.RA p.ra q.ra p.rs q.rs _ m1 HP.out.rr HQ.out.rr).mono ?_
  rintro e w1 ⟨rfl, hb⟩
  have B1 := Lib.hid (Below.and z0.out hb)
  have K2 := Lib.hid (K0.out.below hb)
  have K3 := Lib.hid (K1.out.below hb)
  have HP := Lib.hid (HP.out.below hb)
  have HQ := Lib.hid (HQ.out.below hb)
  clear hb
  rcases h6 : decide (p.rs.map RpP.rp = q.rs.map RpP.rp) with _ | _
  · go_wp2
    go_light
    go_ret
    exact ⟨ret_bool (by simp_all [WdP.wd]), B1.out⟩
  have x2 : w1.cell? ⟨w.heap.size, 2, none⟩ = some (.slice p.SA p.sd.length p.sa) := K2.out.cell 2
  have y2 : w1.cell? ⟨w.heap.size + 1, 2, none⟩ = some (.slice q.SA q.sd.length q.sa) := K3.out.cell 2
  go_wp2_with (fail)
  refine (eqMsgS p.SA q.SA p.sa q.sa p.sd q.sd _ m2 HP.out.rm HQ.out.rm).mono ?_
  rintro e w2 ⟨rfl, hb⟩
  have B2 := Lib.hid (Below.and B1.out hb)
  clear hb x2 y2
  rcases h7 : decide (p.sd.map MgP.mg = q.sd.map MgP.mg) with _ | _
  all_goals go_wp2
  all_goals go_light
  all_goals go_ret
  all_goals exact ⟨ret_bool (by simp_all [WdP.wd]), B2.out⟩

end Go.Proofs.Ytfelhnchnaggmaa
