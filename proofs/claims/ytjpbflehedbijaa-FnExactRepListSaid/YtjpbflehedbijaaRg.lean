/- The exact law of RepList, walked. -/
import Derived.Test.YtjpbflehedbijaaRf
import Derived.Test.YtjpbflehedbijaaMm
import Derived.Test.YtjpbflehedbijaaJe
namespace Go.Proofs.Ytjpbflehedbijaa
open Go.ChangeShapes Go.WideShapes Go.ChangeAt Go.RowKit
set_option linter.unusedVariables false
set_option linter.unusedSimpArgs false

theorem listR_congr {p q : RpP} (h : p.rp = q.rp) : listR p = listR q := by
  unfold listR
  rw [repB_congr h]
  simp only [RpP.rp, Rp.mk.injEq] at h
  rw [h.2.2.2.2.2.2]
theorem listR_len (r : RpP) : (listR r).length ≤ 5 := by
  unfold listR
  split
  · rename_i h
    have h1 := rep_len h
    have h2 := goodN_len r.dn 0
    omega
  · simp
theorem szMs_congr {P P' : List MgP} (h : P.map MgP.mg = P'.map MgP.mg) : szMs P = szMs P' := by
  have e : ∀ X : List MgP, szMs X = (X.map MgP.mg).length + ((X.map MgP.mg).map fun m : Mg => m.cl.length + (m.vt.length + (m.vt.map fun v => v.cl.length).sum)).sum := fun X => by
    unfold szMs
    rw [List.length_map, List.map_map]
    congr 2
    refine List.map_congr_left fun m _ => ?_
    simp only [MgP.sz, szV, Function.comp, MgP.mg, List.length_map, List.map_map]
    rfl
  rw [e, e, h]
theorem rpsz_congr {p q : RpP} (h : p.rp = q.rp) : p.sz = q.sz := by
  simp only [RpP.rp, Rp.mk.injEq] at h
  unfold RpP.sz
  rw [h.2.2.2.2.1, szMs_congr h.2.2.2.2.2.1, h.2.2.2.2.2.2]
theorem cntM_sz (Q : List MgP) : cntM Q ≤ 9 * szMs Q := by
  unfold cntM szMs
  induction Q with
  | nil => simp
  | cons a Q ih =>
    have := cntV_sz a.vt
    simp only [List.map_cons, List.sum_cons, List.length_cons, MgP.sz] at ih ⊢
    omega
theorem cntR_sz (r : RpP) : cntR r ≤ 9 * r.sz := by
  have := cntM_sz r.hd
  unfold cntR RpP.sz
  omega
theorem specRepList (r : RpP) (w : World) (hr : r.rd w) (hs : ∀ p ∈ r.hd, p.cl.length ≤ 1048576 ∧ p.vt.length ≤ 1048576) (hl : r.dn.length ≤ 1048576) (L : List Rq) (hL : listR r = L) :
    Calls Try.prog 25 #[r.val] w fun e w' => ∃ B d, e = .returned (.slice B L.length d) ∧ w'.ownsRow w.heap.size 24 5 (.slice B L.length d) L.length (L.flatMap Rq.cells) ∧ Below w.heap.size w w' := by
  have BW : Hid (Below w.heap.size w (w.alloc (.cells #[.int .i64 r.me, .int .i64 r.v, .bool r.lv, .int .i64 r.nx, .slice r.TA r.tk.length r.ta, .slice r.HA r.hd.length r.ha, .slice r.DA r.dn.length r.da] 37))) := (Below.refl _ _).alloc (Nat.le_refl _) _
  have K0 : Hid (Blk (w.alloc (.cells #[.int .i64 r.me, .int .i64 r.v, .bool r.lv, .int .i64 r.nx, .slice r.TA r.tk.length r.ta, .slice r.HA r.hd.length r.ha, .slice r.DA r.dn.length r.da] 37)) w.heap.size 37 #[.int .i64 r.me, .int .i64 r.v, .bool r.lv, .int .i64 r.nx, .slice r.TA r.tk.length r.ta, .slice r.HA r.hd.length r.ha, .slice r.DA r.dn.length r.da]) := Blk.new w
  have HR := Lib.hid (hr.below BW.out)
  have HS := Lib.hid hs
  have HL := Lib.hid hL
  clear hr hs hL
  go_enter Try.func25, Try.ntmps25
  go_wp2_with (fail)
  refine (l5Ok r _ HR.out HS.out).mono ?_
  rintro e w1 ⟨rfl, hb⟩
  have BW := Lib.hid (Below.and BW.out hb)
  have K0 := Lib.hid (K0.out.below hb)
  have HR := Lib.hid (HR.out.below hb)
  clear hb
  rcases hq : repB r with _ | _
  · have HE := Lib.hid (show L = [] by rw [← HL.out]; unfold listR; rw [hq]; rfl)
    go_wp2
    go_ret
    rw [HE.out]
    exact ⟨none, 0, rfl, World.ownsRow_nil _ _ _ _, BW.out⟩
  have HE := Lib.hid (show goodN 0 r.dn = L by rw [← HL.out]; unfold listR; rw [if_pos hq])
  clear hq
  have x0 : w1.cell? ⟨w.heap.size, 0, none⟩ = some (.int .i64 r.me) := K0.out.cell 0
  have x1 : w1.cell? ⟨w.heap.size, 1, none⟩ = some (.int .i64 r.v) := K0.out.cell 1
  have x2 : w1.cell? ⟨w.heap.size, 2, none⟩ = some (.bool r.lv) := K0.out.cell 2
  have x3 : w1.cell? ⟨w.heap.size, 3, none⟩ = some (.int .i64 r.nx) := K0.out.cell 3
  have x4 : w1.cell? ⟨w.heap.size, 4, none⟩ = some (.slice r.TA r.tk.length r.ta) := K0.out.cell 4
  have x5 : w1.cell? ⟨w.heap.size, 5, none⟩ = some (.slice r.HA r.hd.length r.ha) := K0.out.cell 5
  have x6 : w1.cell? ⟨w.heap.size, 6, none⟩ = some (.slice r.DA r.dn.length r.da) := K0.out.cell 6
  go_wp2_with (fail)
  refine (l5List r _ HR.out hl).mono ?_
  rintro e w2 ⟨B, d, rfl, ho, hb⟩
  rw [HE.out] at ho ⊢
  have O := Lib.hid (own_base ho BW.out.size)
  have BW := Lib.hid (Below.and BW.out hb)
  clear hb ho
  clear x0 x1 x2 x3 x4 x5 x6
  go_wp2
  go_light
  go_ret
  exact ⟨B, d, rfl, O.out, BW.out⟩
theorem implRepListL (r : RpP) (w : World) (hr : r.rd w) (L : List Rq) (hL : listR r = L) :
    Calls Try.prog 18 #[r.val] w fun e w' => ∃ B d, e = .returned (.slice B L.length d) ∧ w'.ownsRow w.heap.size 24 5 (.slice B L.length d) L.length (L.flatMap Rq.cells) ∧ Below w.heap.size w w' := by
  subst hL
  exact implRepList r w hr

set_option maxRecDepth 100000 in
set_option maxHeartbeats 8000000 in
theorem exactRepList (r : RpP) (w : World) (hr : r.rd w) :
    Calls Try.prog 7 #[r.val] w fun e w' => e = .returned (.bool true) ∧ Below w.heap.size w w' := by
  have BW : Hid (Below w.heap.size w (w.alloc (.cells #[.int .i64 r.me, .int .i64 r.v, .bool r.lv, .int .i64 r.nx, .slice r.TA r.tk.length r.ta, .slice r.HA r.hd.length r.ha, .slice r.DA r.dn.length r.da] 46))) := (Below.refl _ _).alloc (Nat.le_refl _) _
  have KR : Hid (Blk (w.alloc (.cells #[.int .i64 r.me, .int .i64 r.v, .bool r.lv, .int .i64 r.nx, .slice r.TA r.tk.length r.ta, .slice r.HA r.hd.length r.ha, .slice r.DA r.dn.length r.da] 46)) w.heap.size 46 #[.int .i64 r.me, .int .i64 r.v, .bool r.lv, .int .i64 r.nx, .slice r.TA r.tk.length r.ta, .slice r.HA r.hd.length r.ha, .slice r.DA r.dn.length r.da]) := Blk.new w
  have RR := Lib.hid hr
  obtain ⟨L, hL⟩ : ∃ L, listR r = L := ⟨_, rfl⟩
  have hL5 : L.length ≤ 5 := by rw [← hL]; exact listR_len r
  have HL := Lib.hid hL
  clear hr hL
  go_enter Try.func7, Try.ntmps7
  go_wp2_with (fail)
  refine (szRep r 1048576 _ (RR.out.below BW.out) (by omega) (by omega)).mono ?_
  rintro e w1 ⟨rfl, hb⟩
  have BW := Lib.hid (Below.and BW.out hb)
  have KR := Lib.hid (KR.out.below hb)
  clear hb
  by_cases hz : szR 1048576 r.sz < 0
  · generalize szR 1048576 r.sz = z at hz
    go_wp2
    go_light
    go_ret
    exact ⟨rfl, BW.out⟩
  obtain ⟨sp0, sp1⟩ := szR_neg (by omega) hz
  have SZ : Hid (r.sz ≤ 1048576) := by show r.sz ≤ 1048576; omega
  rw [sp1]
  have nz : ¬ 1048576 - (r.sz : Int) < 0 := by omega
  clear hz sp1 sp0
  have y0 : w1.cell? ⟨w.heap.size, 0, none⟩ = some (.int .i64 r.me) := KR.out.cell 0
  have y1 : w1.cell? ⟨w.heap.size, 1, none⟩ = some (.int .i64 r.v) := KR.out.cell 1
  have y2 : w1.cell? ⟨w.heap.size, 2, none⟩ = some (.bool r.lv) := KR.out.cell 2
  have y3 : w1.cell? ⟨w.heap.size, 3, none⟩ = some (.int .i64 r.nx) := KR.out.cell 3
  have y4 : w1.cell? ⟨w.heap.size, 4, none⟩ = some (.slice r.TA r.tk.length r.ta) := KR.out.cell 4
  have y5 : w1.cell? ⟨w.heap.size, 5, none⟩ = some (.slice r.HA r.hd.length r.ha) := KR.out.cell 5
  have y6 : w1.cell? ⟨w.heap.size, 6, none⟩ = some (.slice r.DA r.dn.length r.da) := KR.out.cell 6
  go_wp2_with (fail)
  refine (toRep r _ (RR.out.below BW.out) SZ.out).mono ?_
  rintro e w2 ⟨Q, rfl, hm, ho, hb⟩
  have HD := Lib.hid ((listR_congr hm).trans HL.out)
  have HB := Lib.hid (rp_bd hm SZ.out)
  have HN := Lib.hid (show Q.dn.length ≤ 1048576 by have h1 := rpsz_congr hm; have h2 := SZ.out; unfold RpP.sz at h1 h2; omega)
  have OQ := Lib.hid ho
  have BW := Lib.hid (Below.and BW.out hb)
  have KR := Lib.hid (KR.out.below hb)
  clear hb hm ho nz
  clear y0 y1 y2 y3 y4 y5 y6
  go_wp2_with (fail)
  refine (specRepList Q _ OQ.out.rd HB.out HN.out L HD.out).mono ?_
  rintro e w3 ⟨B0, d0, rfl, ho, hb⟩
  have R0 := Lib.hid ho
  have B0L : Hid (∀ q, (Value.slice B0 L.length d0).ownBlock = some q → q < w3.heap.size) := fun q hq => (own_block_ge ho q hq).2
  have BW := Lib.hid (Below.and BW.out hb)
  have KR := Lib.hid (KR.out.below hb)
  clear hb ho HD HB HN OQ
  have y0 : w3.cell? ⟨w.heap.size, 0, none⟩ = some (.int .i64 r.me) := KR.out.cell 0
  have y1 : w3.cell? ⟨w.heap.size, 1, none⟩ = some (.int .i64 r.v) := KR.out.cell 1
  have y2 : w3.cell? ⟨w.heap.size, 2, none⟩ = some (.bool r.lv) := KR.out.cell 2
  have y3 : w3.cell? ⟨w.heap.size, 3, none⟩ = some (.int .i64 r.nx) := KR.out.cell 3
  have y4 : w3.cell? ⟨w.heap.size, 4, none⟩ = some (.slice r.TA r.tk.length r.ta) := KR.out.cell 4
  have y5 : w3.cell? ⟨w.heap.size, 5, none⟩ = some (.slice r.HA r.hd.length r.ha) := KR.out.cell 5
  have y6 : w3.cell? ⟨w.heap.size, 6, none⟩ = some (.slice r.DA r.dn.length r.da) := KR.out.cell 6
  have hs3 : w.heap.size ≤ w3.heap.size := BW.out.size
  have hs3' : w.heap.size < w3.heap.size := KR.out.lt
  go_wp2_with (fail)
  refine (toRep r _ (RR.out.below BW.out) SZ.out).mono ?_
  rintro e w4 ⟨X, rfl, hm, ho, hb⟩
  have hs4 : w3.heap.size ≤ w4.heap.size := hb.size
  have MX := Lib.hid hm
  have HD := Lib.hid ((listR_congr hm).trans HL.out)
  have CX := Lib.hid (show cntR X ≤ 9437184 by have h1 := rpsz_congr hm; have h2 := SZ.out; have h3 := cntR_sz X; omega)
  have OX := Lib.hid ho
  have R0 := Lib.hid ((own_below R0.out hb).alloc (.cells #[.int .i64 X.me, .int .i64 X.v, .bool X.lv, .int .i64 X.nx, .slice X.TA X.tk.length X.ta, .slice X.HA X.hd.length X.ha, .slice X.DA X.dn.length X.da] 37))
  have BW := Lib.hid ((Below.and BW.out hb).alloc (Below.and BW.out hb).size (.cells #[.int .i64 X.me, .int .i64 X.v, .bool X.lv, .int .i64 X.nx, .slice X.TA X.tk.length X.ta, .slice X.HA X.hd.length X.ha, .slice X.DA X.dn.length X.da] 37))
  have KR := Lib.hid ((KR.out.below hb).alloc (.cells #[.int .i64 X.me, .int .i64 X.v, .bool X.lv, .int .i64 X.nx, .slice X.TA X.tk.length X.ta, .slice X.HA X.hd.length X.ha, .slice X.DA X.dn.length X.da] 37))
  have KX : Hid (Blk (w4.alloc (.cells #[.int .i64 X.me, .int .i64 X.v, .bool X.lv, .int .i64 X.nx, .slice X.TA X.tk.length X.ta, .slice X.HA X.hd.length X.ha, .slice X.DA X.dn.length X.da] 37)) w4.heap.size 37 #[.int .i64 X.me, .int .i64 X.v, .bool X.lv, .int .i64 X.nx, .slice X.TA X.tk.length X.ta, .slice X.HA X.hd.length X.ha, .slice X.DA X.dn.length X.da]) := Blk.new w4
  have BX : Hid (Below w4.heap.size w4 (w4.alloc (.cells #[.int .i64 X.me, .int .i64 X.v, .bool X.lv, .int .i64 X.nx, .slice X.TA X.tk.length X.ta, .slice X.HA X.hd.length X.ha, .slice X.DA X.dn.length X.da] 37))) := (Below.refl _ _).alloc (Nat.le_refl _) _
  clear hb hm ho
  clear y0 y1 y2 y3 y4 y5 y6
  go_wp2_with (fail)
  refine (implRepListL X _ (OX.out.below BX.out).rd L HD.out).mono ?_
  rintro e w5 ⟨B1, d1, rfl, ho, hb⟩
  have R1 := Lib.hid (own_base (base' := w4.heap.size + 1) ho (by simp))
  have BW := Lib.hid (Below.and BW.out hb)
  have KR := Lib.hid (KR.out.below hb)
  have KX := Lib.hid (KX.out.below hb)
  have BX := Lib.hid (Below.and BX.out hb)
  have R0 := Lib.hid (own_below R0.out hb)
  clear hb ho HD
  go_wp2_with (fail)
  refine (eqSame B1 B0 d1 d0 L _ hL5 (Rd.of_own Rq.len R1.out rfl) (Rd.of_own Rq.len R0.out rfl)).mono ?_
  rintro e w6 ⟨rfl, hb⟩
  have BW := Lib.hid (Below.and BW.out hb)
  have KR := Lib.hid (KR.out.below hb)
  have KX := Lib.hid (KX.out.below hb)
  have BX := Lib.hid (Below.and BX.out hb)
  have R0 := Lib.hid (own_below R0.out hb)
  have R1 := Lib.hid (own_below R1.out hb)
  clear hb
  have lp := KR.out.lt
  have lq := KX.out.lt
  have x0 : w6.cell? ⟨w4.heap.size, 0, none⟩ = some (.int .i64 X.me) := KX.out.cell 0
  have x1 : w6.cell? ⟨w4.heap.size, 1, none⟩ = some (.int .i64 X.v) := KX.out.cell 1
  have x2 : w6.cell? ⟨w4.heap.size, 2, none⟩ = some (.bool X.lv) := KX.out.cell 2
  have x3 : w6.cell? ⟨w4.heap.size, 3, none⟩ = some (.int .i64 X.nx) := KX.out.cell 3
  have x4 : w6.cell? ⟨w4.heap.size, 4, none⟩ = some (.slice X.TA X.tk.length X.ta) := KX.out.cell 4
  have x5 : w6.cell? ⟨w4.heap.size, 5, none⟩ = some (.slice X.HA X.hd.length X.ha) := KX.out.cell 5
  have x6 : w6.cell? ⟨w4.heap.size, 6, none⟩ = some (.slice X.DA X.dn.length X.da) := KX.out.cell 6
  have y0 : w6.cell? ⟨w.heap.size, 0, none⟩ = some (.int .i64 r.me) := KR.out.cell 0
  have y1 : w6.cell? ⟨w.heap.size, 1, none⟩ = some (.int .i64 r.v) := KR.out.cell 1
  have y2 : w6.cell? ⟨w.heap.size, 2, none⟩ = some (.bool r.lv) := KR.out.cell 2
  have y3 : w6.cell? ⟨w.heap.size, 3, none⟩ = some (.int .i64 r.nx) := KR.out.cell 3
  have y4 : w6.cell? ⟨w.heap.size, 4, none⟩ = some (.slice r.TA r.tk.length r.ta) := KR.out.cell 4
  have y5 : w6.cell? ⟨w.heap.size, 5, none⟩ = some (.slice r.HA r.hd.length r.ha) := KR.out.cell 5
  have y6 : w6.cell? ⟨w.heap.size, 6, none⟩ = some (.slice r.DA r.dn.length r.da) := KR.out.cell 6
  go_wp2_with (fail)
  refine wp_region_held_drew (S := fun w1 => Below w6.heap.size w6 w1) (by kernel_rfl) ((Below.refl _ _).drew) (fun hq => ?_)
  refine takeD 0 27 (v := ?_) rfl rfl (by kernel_rfl) (by kernel_rfl) (by kernel_rfl) (fun _ _ _ h => h) (Or.inl ⟨by rfl, ?_⟩) (by assumption) ?_
  rotate_left
  · intro w1 hSw; obtain ⟨hcS, hfS⟩ := bcell hSw; go_simp; (try with_reducible rfl)
  (try simp only [Act.put, List.setIfInBounds_toArray, List.set_cons_zero, List.set_cons_succ])
  refine takeD 1 28 (v := ?_) rfl rfl (by kernel_rfl) (by kernel_rfl) (by kernel_rfl) (fun _ _ _ h => h) (Or.inl ⟨by rfl, ?_⟩) (by assumption) ?_
  rotate_left
  · intro w1 hSw; obtain ⟨hcS, hfS⟩ := bcell hSw; go_simp; (try with_reducible rfl)
  (try simp only [Act.put, List.setIfInBounds_toArray, List.set_cons_zero, List.set_cons_succ])
  refine wpAnyH_ready (rs := [2]) (by kernel_rfl) (by simp) ?_
  refine AllReadyH.cons rfl (fun K hK => ?_) AllReadyH.nil
  go_simp
  refine (toRep r _ (RR.out.below (Below.and BW.out hq)) SZ.out).mono ?_
  rintro e w7 ⟨Q2, rfl, hm2, ho2, hb⟩
  refine hK.out _ _ (Below.and hq hb) (fun hq2 => ?_)
  clear hK K
  (try simp only [Act.put, List.setIfInBounds_toArray, List.set_cons_zero, List.set_cons_succ])
  refine wpAnyH_ready (rs := [3]) (by kernel_rfl) (by simp) ?_
  refine AllReadyH.cons rfl (fun K hK => ?_) AllReadyH.nil
  go_simp
  refine (eqRep X Q2 _ ((OX.out.below (Below.and BX.out hq2)).rd) (ho2.rd)).mono ?_
  rintro e w8 ⟨he, hb⟩
  obtain rfl := he.trans (ret_bool (show decide (X.rp = Q2.rp) = true by rw [MX.out, hm2]; exact decide_eq_true rfl))
  refine hK.out _ _ (Below.and hq2 hb) (fun hq3 => ?_)
  clear hK K
  (try simp only [Act.put, List.setIfInBounds_toArray, List.set_cons_zero, List.set_cons_succ])
  refine takeD 4 31 (v := ?_) rfl rfl (by kernel_rfl) (by kernel_rfl) (by kernel_rfl) (fun _ _ _ h => h) (Or.inl ⟨by rfl, ?_⟩) (by assumption) ?_
  rotate_left
  · intro w1 hSw; obtain ⟨hcS, hfS⟩ := bcell hSw; go_simp; (try with_reducible rfl)
  (try simp only [Act.put, List.setIfInBounds_toArray, List.set_cons_zero, List.set_cons_succ])
  refine wpAnyH_done (by kernel_rfl) ?_ _
  have hb := hq3
  have BW := Lib.hid (Below.and BW.out hb)
  have KR := Lib.hid (KR.out.below hb)
  have KX := Lib.hid (KX.out.below hb)
  have BX := Lib.hid (Below.and BX.out hb)
  have R0 := Lib.hid (own_below R0.out hb)
  have R1 := Lib.hid (own_below R1.out hb)
  clear hb lp lq hq hq2 hq3 hm2
  clear x0 x1 x2 x3 x4 x5 x6
  clear y0 y1 y2 y3 y4 y5 y6
  have x0 : w8.cell? ⟨w4.heap.size, 0, none⟩ = some (.int .i64 X.me) := KX.out.cell 0
  have x1 : w8.cell? ⟨w4.heap.size, 1, none⟩ = some (.int .i64 X.v) := KX.out.cell 1
  have x2 : w8.cell? ⟨w4.heap.size, 2, none⟩ = some (.bool X.lv) := KX.out.cell 2
  have x3 : w8.cell? ⟨w4.heap.size, 3, none⟩ = some (.int .i64 X.nx) := KX.out.cell 3
  have x4 : w8.cell? ⟨w4.heap.size, 4, none⟩ = some (.slice X.TA X.tk.length X.ta) := KX.out.cell 4
  have x5 : w8.cell? ⟨w4.heap.size, 5, none⟩ = some (.slice X.HA X.hd.length X.ha) := KX.out.cell 5
  have x6 : w8.cell? ⟨w4.heap.size, 6, none⟩ = some (.slice X.DA X.dn.length X.da) := KX.out.cell 6
  have cx := CX.out
  go_wp2_with (fail)
  refine (markRep X w3.heap.size 1 w4 w8 (by omega) (by omega) OX.out BX.out).mono ?_
  rintro e w9 ⟨rfl, wm, hb, hmk⟩
  have BW := Lib.hid (Below.and BW.out hb)
  have KR := Lib.hid (KR.out.below hb)
  have R0 := Lib.hid (own_below R0.out hb)
  have R1 := Lib.hid (own_below R1.out hb)
  have hsm : w.heap.size ≤ wm.heap.size := BW.out.size
  have R0 := Lib.hid (own_same R0.out fun q hq => hmk.sets.keeps.block q (own_block_ge R0.out q hq).2 (.inl (B0L.out q hq)))
  have R1 := Lib.hid (own_same R1.out fun q hq => hmk.sets.keeps.block q (own_block_ge R1.out q hq).2 (.inr (by have := (own_block_ge R1.out q hq).1; omega)))
  have KR : Hid (Blk w9 w.heap.size 46 #[.int .i64 r.me, .int .i64 r.v, .bool r.lv, .int .i64 r.nx, .slice r.TA r.tk.length r.ta, .slice r.HA r.hd.length r.ha, .slice r.DA r.dn.length r.da]) := (hmk.sets.keeps.block _ KR.out.lt (.inl (by omega))).trans KR.out
  have BW := Lib.hid (Below.trans BW.out (hmk.sets.below hs3 hsm))
  clear hb hmk hsm KX BX OX
  clear x0 x1 x2 x3 x4 x5 x6
  have nk : ¬ 1 + (cntR X : Int) < 0 := by omega
  have nk' : decide (1 + (cntR X : Int) < 0) = false := decide_eq_false nk
  go_wp2_with (fail)
  refine (eqSame B1 B0 d1 d0 L _ hL5 (Rd.of_own Rq.len R1.out rfl) (Rd.of_own Rq.len R0.out rfl)).mono ?_
  rintro e w10 ⟨rfl, hb⟩
  have BW := Lib.hid (Below.and BW.out hb)
  have KR := Lib.hid (KR.out.below hb)
  have R0 := Lib.hid (own_below R0.out hb)
  have R1 := Lib.hid (own_below R1.out hb)
  clear hb nk nk'
  go_wp2_with (fail)
  refine (markReqS (w4.heap.size + 1) B1 d1 L.length _ 1 w10 (by omega) (by omega) (by unfold maxLen; omega) R1.out).mono ?_
  rintro e w11 ⟨rfl, ho, hg⟩
  have hge : ∀ q, (Value.slice B1 L.length d1).ownBlock = some q → w4.heap.size + 1 ≤ q := fun q hq => (own_block_ge R1.out q hq).1
  have hne : (Value.slice B0 L.length d0).ownBlock = none ∨ (Value.slice B0 L.length d0).ownBlock ≠ (Value.slice B1 L.length d1).ownBlock := by
    rcases hq : (Value.slice B0 L.length d0).ownBlock with _ | q
    · exact .inl rfl
    · exact .inr fun e => by have h1 := B0L.out q hq; have h2 := hge q e.symm; omega
  have R0 := Lib.hid (R0.out.kept hg hne)
  have KR : Hid (Blk w11 w.heap.size 46 #[.int .i64 r.me, .int .i64 r.v, .bool r.lv, .int .i64 r.nx, .slice r.TA r.tk.length r.ta, .slice r.HA r.hd.length r.ha, .slice r.DA r.dn.length r.da]) := Blk.gr KR.out hg (fun e => by have := hge _ e; omega)
  have BW := Lib.hid (Below.trans BW.out (Below.of_grown hg BW.out.size fun q hq => by have := hge q hq; omega))
  have RM := Lib.hid (RdM.of_own ho)
  clear hg ho hne hge
  go_wp2_with (fail)
  refine (heldReqS B1 d1 L.length 1 _ (by omega) (by omega) (by unfold maxLen; omega) RM.out).mono ?_
  rintro e w12 ⟨rfl, rfl⟩
  have nk : ¬ 1 + 5 * (L.length : Int) < 0 := by omega
  have nb : ((1 + 5 * (L.length : Int)) != (1 + 5 * (L.length : Int))) = false := by simp
  have y0 : w12.cell? ⟨w.heap.size, 0, none⟩ = some (.int .i64 r.me) := KR.out.cell 0
  have y1 : w12.cell? ⟨w.heap.size, 1, none⟩ = some (.int .i64 r.v) := KR.out.cell 1
  have y2 : w12.cell? ⟨w.heap.size, 2, none⟩ = some (.bool r.lv) := KR.out.cell 2
  have y3 : w12.cell? ⟨w.heap.size, 3, none⟩ = some (.int .i64 r.nx) := KR.out.cell 3
  have y4 : w12.cell? ⟨w.heap.size, 4, none⟩ = some (.slice r.TA r.tk.length r.ta) := KR.out.cell 4
  have y5 : w12.cell? ⟨w.heap.size, 5, none⟩ = some (.slice r.HA r.hd.length r.ha) := KR.out.cell 5
  have y6 : w12.cell? ⟨w.heap.size, 6, none⟩ = some (.slice r.DA r.dn.length r.da) := KR.out.cell 6
  go_wp2_with (fail)
  refine (toRep r _ (RR.out.below BW.out) SZ.out).mono ?_
  rintro e w13 ⟨Y, rfl, hm, ho, hb⟩
  have HD := Lib.hid ((listR_congr hm).trans HL.out)
  have OY := Lib.hid ho
  have BW := Lib.hid (Below.and BW.out hb)
  have R0 := Lib.hid (own_below R0.out hb)
  have RM := Lib.hid (RM.out.below hb)
  clear hb hm ho
  clear y0 y1 y2 y3 y4 y5 y6
  go_wp2_with (fail)
  refine (implRepListL Y _ OY.out.rd L HD.out).mono ?_
  rintro e w14 ⟨B2, d2, rfl, ho, hb⟩
  have R2 := Lib.hid ho
  have BW := Lib.hid (Below.and BW.out hb)
  have R0 := Lib.hid (own_below R0.out hb)
  have RM := Lib.hid (RM.out.below hb)
  clear hb ho HD OY
  go_wp2_with (fail)
  refine (eqSame B2 B0 d2 d0 L _ hL5 (Rd.of_own Rq.len R2.out rfl) (Rd.of_own Rq.len R0.out rfl)).mono ?_
  rintro e w15 ⟨rfl, hb⟩
  have BW := Lib.hid (Below.and BW.out hb)
  have RM := Lib.hid (RM.out.below hb)
  clear hb
  go_wp2_with (fail)
  refine (heldReqS B1 d1 L.length 1 _ (by omega) (by omega) (by unfold maxLen; omega) RM.out).mono ?_
  rintro e w16 ⟨rfl, rfl⟩
  go_wp2
  go_light
  go_ret
  exact ⟨rfl, BW.out⟩

end Go.Proofs.Ytjpbflehedbijaa
