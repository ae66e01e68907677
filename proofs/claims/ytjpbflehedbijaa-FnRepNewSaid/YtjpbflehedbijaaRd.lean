/- The exact laws of RepOk and RepNew, walked. -/
import Derived.Test.YtjpbflehedbijaaRc
import Derived.Test.YtjpbflehedbijaaV
namespace Go.Proofs.Ytjpbflehedbijaa
open Go.ChangeShapes Go.WideShapes Go.ChangeAt Go.RowKit
set_option linter.unusedVariables false
set_option linter.unusedSimpArgs false

theorem okP_all {P P' : List MgP} (h : P.map MgP.mg = P'.map MgP.mg) : hdB P = hdB P' := by
  induction P generalizing P' with
  | nil => cases P' with
    | nil => rfl
    | cons b P' => cases h
  | cons a P ih => cases P' with
    | nil => cases h
    | cons b P' =>
      simp only [List.map_cons, List.cons.injEq] at h
      have hk : a.k = b.k := congrArg Mg.k h.1
      unfold hdB at ih ⊢
      rw [List.all_cons, List.all_cons, ih h.2, okP_congr h.1, hk]
theorem repB_congr {p q : RpP} (h : p.rp = q.rp) : repB p = repB q := by
  simp only [RpP.rp, Rp.mk.injEq] at h
  obtain ⟨h1, h2, h3, h4, h5, h6, h7⟩ := h
  have hl : p.hd.length = q.hd.length := by have := congrArg List.length h6; simpa using this
  unfold repB
  rw [h1, h2, h4, h5, h7, hl, okP_all h6]
theorem ms_bd {P P' : List MgP} (h : P.map MgP.mg = P'.map MgP.mg) (hs : szMs P' ≤ 1048576) : ∀ q ∈ P, q.cl.length ≤ 1048576 ∧ q.vt.length ≤ 1048576 := by
  intro q hq
  have : q.mg ∈ P'.map MgP.mg := by rw [← h]; exact List.mem_map.2 ⟨q, hq, rfl⟩
  obtain ⟨p, hp, e⟩ := List.mem_map.1 this
  have h1 := szMs_mem hp
  have e1 : p.cl.length = q.cl.length := by have := congrArg Mg.cl e; simp only [MgP.mg] at this; rw [this]
  have e2 : p.vt.length = q.vt.length := by have := congrArg (fun m => m.vt.length) e; simpa [MgP.mg] using this
  unfold MgP.sz szV at h1
  omega
theorem rp_bd {Q r : RpP} (h : Q.rp = r.rp) (hs : r.sz ≤ 1048576) : ∀ q ∈ Q.hd, q.cl.length ≤ 1048576 ∧ q.vt.length ≤ 1048576 := by
  simp only [RpP.rp, Rp.mk.injEq] at h
  exact ms_bd h.2.2.2.2.2.1 (by unfold RpP.sz at hs; omega)

set_option maxRecDepth 100000 in
set_option maxHeartbeats 4000000 in
theorem exactRepOk (r : RpP) (w : World) (hr : r.rd w) :
    Calls Try.prog 5 #[r.val] w fun e w' => e = .returned (.bool true) ∧ Below w.heap.size w w' := by
  have BW : Hid (Below w.heap.size w (w.alloc (.cells #[.int .i64 r.me, .int .i64 r.v, .bool r.lv, .int .i64 r.nx, .slice r.TA r.tk.length r.ta, .slice r.HA r.hd.length r.ha, .slice r.DA r.dn.length r.da] 46))) := (Below.refl _ _).alloc (Nat.le_refl _) _
  have KR : Hid (Blk (w.alloc (.cells #[.int .i64 r.me, .int .i64 r.v, .bool r.lv, .int .i64 r.nx, .slice r.TA r.tk.length r.ta, .slice r.HA r.hd.length r.ha, .slice r.DA r.dn.length r.da] 46)) w.heap.size 46 #[.int .i64 r.me, .int .i64 r.v, .bool r.lv, .int .i64 r.nx, .slice r.TA r.tk.length r.ta, .slice r.HA r.hd.length r.ha, .slice r.DA r.dn.length r.da]) := Blk.new w
  have RR := Lib.hid (hr.below BW.out)
  clear hr
  go_enter Try.func5, Try.ntmps5
  go_wp2_with (fail)
  refine (szRep r 1048576 _ RR.out (by omega) (by omega)).mono ?_
  rintro e w1 ⟨rfl, hb⟩
  have BW := Lib.hid (Below.and BW.out hb)
  have KR := Lib.hid (KR.out.below hb)
  have RR := Lib.hid (RR.out.below hb)
  clear hb
  by_cases hz : szR 1048576 r.sz < 0
  · generalize szR 1048576 r.sz = z at hz
    go_wp2
    go_light
    go_ret
    exact ⟨rfl, BW.out⟩
  obtain ⟨sp0, sp1⟩ := szR_neg (by omega) hz
  have SZ : Hid (r.sz ≤ 1048576) := by show r.sz ≤ 1048576; omega
  rw [sp1]
  have nz : ¬ 1048576 - (r.sz : Int) < 0 := by omega
  clear hz sp1 sp0
  have y0 : w1.cell? ⟨w.heap.size, 0, none⟩ = some (.int .i64 r.me) := KR.out.cell 0
  have y1 : w1.cell? ⟨w.heap.size, 1, none⟩ = some (.int .i64 r.v) := KR.out.cell 1
  have y2 : w1.cell? ⟨w.heap.size, 2, none⟩ = some (.bool r.lv) := KR.out.cell 2
  have y3 : w1.cell? ⟨w.heap.size, 3, none⟩ = some (.int .i64 r.nx) := KR.out.cell 3
  have y4 : w1.cell? ⟨w.heap.size, 4, none⟩ = some (.slice r.TA r.tk.length r.ta) := KR.out.cell 4
  have y5 : w1.cell? ⟨w.heap.size, 5, none⟩ = some (.slice r.HA r.hd.length r.ha) := KR.out.cell 5
  have y6 : w1.cell? ⟨w.heap.size, 6, none⟩ = some (.slice r.DA r.dn.length r.da) := KR.out.cell 6
  go_wp2_with (fail)
  refine (toRep r _ RR.out SZ.out).mono ?_
  rintro e w2 ⟨Q, rfl, hm, ho, hb⟩
  have HD := Lib.hid (repB_congr hm)
  have HB := Lib.hid (rp_bd hm SZ.out)
  have OQ := Lib.hid ho
  have BW := Lib.hid (Below.and BW.out hb)
  have KR := Lib.hid (KR.out.below hb)
  have RR := Lib.hid (RR.out.below hb)
  clear hb hm ho nz
  clear y0 y1 y2 y3 y4 y5 y6
  go_wp2_with (fail)
  refine (specRepOk Q _ OQ.out.rd HB.out).mono ?_
  rintro e w3 ⟨he, hb⟩
  obtain rfl := he.trans (ret_bool HD.out)
  have BW := Lib.hid (Below.and BW.out hb)
  have KR := Lib.hid (KR.out.below hb)
  have RR := Lib.hid (RR.out.below hb)
  clear hb he
  generalize hq : repB r = D
  have HQ := Lib.hid hq
  clear hq HD HB OQ
  have y0 : w3.cell? ⟨w.heap.size, 0, none⟩ = some (.int .i64 r.me) := KR.out.cell 0
  have y1 : w3.cell? ⟨w.heap.size, 1, none⟩ = some (.int .i64 r.v) := KR.out.cell 1
  have y2 : w3.cell? ⟨w.heap.size, 2, none⟩ = some (.bool r.lv) := KR.out.cell 2
  have y3 : w3.cell? ⟨w.heap.size, 3, none⟩ = some (.int .i64 r.nx) := KR.out.cell 3
  have y4 : w3.cell? ⟨w.heap.size, 4, none⟩ = some (.slice r.TA r.tk.length r.ta) := KR.out.cell 4
  have y5 : w3.cell? ⟨w.heap.size, 5, none⟩ = some (.slice r.HA r.hd.length r.ha) := KR.out.cell 5
  have y6 : w3.cell? ⟨w.heap.size, 6, none⟩ = some (.slice r.DA r.dn.length r.da) := KR.out.cell 6
  go_wp2_with (fail)
  refine (toRep r _ RR.out SZ.out).mono ?_
  rintro e w4 ⟨X, rfl, hm, ho, hb⟩
  have MX := Lib.hid hm
  have HD := Lib.hid ((repB_congr hm).trans HQ.out)
  have OX := Lib.hid (ho.below ((Below.refl _ _).alloc (Nat.le_refl _) (.cells #[.int .i64 X.me, .int .i64 X.v, .bool X.lv, .int .i64 X.nx, .slice X.TA X.tk.length X.ta, .slice X.HA X.hd.length X.ha, .slice X.DA X.dn.length X.da] 37)))
  have BW := Lib.hid ((Below.and BW.out hb).alloc (Below.and BW.out hb).size (.cells #[.int .i64 X.me, .int .i64 X.v, .bool X.lv, .int .i64 X.nx, .slice X.TA X.tk.length X.ta, .slice X.HA X.hd.length X.ha, .slice X.DA X.dn.length X.da] 37))
  have KR := Lib.hid ((KR.out.below hb).alloc (.cells #[.int .i64 X.me, .int .i64 X.v, .bool X.lv, .int .i64 X.nx, .slice X.TA X.tk.length X.ta, .slice X.HA X.hd.length X.ha, .slice X.DA X.dn.length X.da] 37))
  have RR := Lib.hid ((RR.out.below hb).below ((Below.refl _ _).alloc (Nat.le_refl _) (.cells #[.int .i64 X.me, .int .i64 X.v, .bool X.lv, .int .i64 X.nx, .slice X.TA X.tk.length X.ta, .slice X.HA X.hd.length X.ha, .slice X.DA X.dn.length X.da] 37)))
  have KX : Hid (Blk (w4.alloc (.cells #[.int .i64 X.me, .int .i64 X.v, .bool X.lv, .int .i64 X.nx, .slice X.TA X.tk.length X.ta, .slice X.HA X.hd.length X.ha, .slice X.DA X.dn.length X.da] 37)) w4.heap.size 37 #[.int .i64 X.me, .int .i64 X.v, .bool X.lv, .int .i64 X.nx, .slice X.TA X.tk.length X.ta, .slice X.HA X.hd.length X.ha, .slice X.DA X.dn.length X.da]) := Blk.new w4
  clear hb hm ho
  clear y0 y1 y2 y3 y4 y5 y6
  go_wp2_with (fail)
  refine (implRepOk X _ OX.out.rd).mono ?_
  rintro e w5 ⟨he, hb⟩
  obtain rfl := he.trans (ret_bool HD.out)
  have BW := Lib.hid (Below.and BW.out hb)
  have KR := Lib.hid (KR.out.below hb)
  have KX := Lib.hid (KX.out.below hb)
  have RR := Lib.hid (RR.out.below hb)
  have OX := Lib.hid (OX.out.below hb)
  clear hb he
  have bb : (!(D == D)) = false := by simp
  have bc : (D != D) = false := by simp
  have lp := KR.out.lt
  have lq := KX.out.lt
  have x0 : w5.cell? ⟨w4.heap.size, 0, none⟩ = some (.int .i64 X.me) := KX.out.cell 0
  have x1 : w5.cell? ⟨w4.heap.size, 1, none⟩ = some (.int .i64 X.v) := KX.out.cell 1
  have x2 : w5.cell? ⟨w4.heap.size, 2, none⟩ = some (.bool X.lv) := KX.out.cell 2
  have x3 : w5.cell? ⟨w4.heap.size, 3, none⟩ = some (.int .i64 X.nx) := KX.out.cell 3
  have x4 : w5.cell? ⟨w4.heap.size, 4, none⟩ = some (.slice X.TA X.tk.length X.ta) := KX.out.cell 4
  have x5 : w5.cell? ⟨w4.heap.size, 5, none⟩ = some (.slice X.HA X.hd.length X.ha) := KX.out.cell 5
  have x6 : w5.cell? ⟨w4.heap.size, 6, none⟩ = some (.slice X.DA X.dn.length X.da) := KX.out.cell 6
  have y0 : w5.cell? ⟨w.heap.size, 0, none⟩ = some (.int .i64 r.me) := KR.out.cell 0
  have y1 : w5.cell? ⟨w.heap.size, 1, none⟩ = some (.int .i64 r.v) := KR.out.cell 1
  have y2 : w5.cell? ⟨w.heap.size, 2, none⟩ = some (.bool r.lv) := KR.out.cell 2
  have y3 : w5.cell? ⟨w.heap.size, 3, none⟩ = some (.int .i64 r.nx) := KR.out.cell 3
  have y4 : w5.cell? ⟨w.heap.size, 4, none⟩ = some (.slice r.TA r.tk.length r.ta) := KR.out.cell 4
  have y5 : w5.cell? ⟨w.heap.size, 5, none⟩ = some (.slice r.HA r.hd.length r.ha) := KR.out.cell 5
  have y6 : w5.cell? ⟨w.heap.size, 6, none⟩ = some (.slice r.DA r.dn.length r.da) := KR.out.cell 6
  go_wp2_with (fail)
  refine wp_region_held_drew (S := fun w1 => Below w5.heap.size w5 w1) (by kernel_rfl) ((Below.refl _ _).drew) (fun hq => ?_)
  refine takeD 0 22 (v := ?_) rfl rfl (by kernel_rfl) (by kernel_rfl) (by kernel_rfl) (fun _ _ _ h => h) (Or.inl ⟨by rfl, ?_⟩) (by assumption) ?_
  rotate_left
  · intro w1 hSw; obtain ⟨hcS, hfS⟩ := bcell hSw; go_simp; (try with_reducible rfl)
  (try simp only [Act.put, List.setIfInBounds_toArray, List.set_cons_zero, List.set_cons_succ])
  refine takeD 1 23 (v := ?_) rfl rfl (by kernel_rfl) (by kernel_rfl) (by kernel_rfl) (fun _ _ _ h => h) (Or.inl ⟨by rfl, ?_⟩) (by assumption) ?_
  rotate_left
  · intro w1 hSw; obtain ⟨hcS, hfS⟩ := bcell hSw; go_simp; (try with_reducible rfl)
  (try simp only [Act.put, List.setIfInBounds_toArray, List.set_cons_zero, List.set_cons_succ])
  refine wpAnyH_ready (rs := [2]) (by kernel_rfl) (by simp) ?_
  refine AllReadyH.cons rfl (fun K hK => ?_) AllReadyH.nil
  go_simp
  refine (toRep r _ (RR.out.below hq) SZ.out).mono ?_
  rintro e w6 ⟨Q2, rfl, hm2, ho2, hb⟩
  refine hK.out _ _ (Below.and hq hb) (fun hq2 => ?_)
  clear hK K
  (try simp only [Act.put, List.setIfInBounds_toArray, List.set_cons_zero, List.set_cons_succ])
  refine wpAnyH_ready (rs := [3]) (by kernel_rfl) (by simp) ?_
  refine AllReadyH.cons rfl (fun K hK => ?_) AllReadyH.nil
  go_simp
  refine (eqRep X Q2 _ ((OX.out.below hq2).rd) (ho2.rd)).mono ?_
  rintro e w7 ⟨he, hb⟩
  obtain rfl := he.trans (ret_bool (show decide (X.rp = Q2.rp) = true by rw [MX.out, hm2]; exact decide_eq_true rfl))
  refine hK.out _ _ (Below.and hq2 hb) (fun hq3 => ?_)
  clear hK K
  (try simp only [Act.put, List.setIfInBounds_toArray, List.set_cons_zero, List.set_cons_succ])
  refine takeD 4 26 (v := ?_) rfl rfl (by kernel_rfl) (by kernel_rfl) (by kernel_rfl) (fun _ _ _ h => h) (Or.inl ⟨by rfl, ?_⟩) (by assumption) ?_
  rotate_left
  · intro w1 hSw; obtain ⟨hcS, hfS⟩ := bcell hSw; go_simp; (try with_reducible rfl)
  (try simp only [Act.put, List.setIfInBounds_toArray, List.set_cons_zero, List.set_cons_succ])
  refine wpAnyH_done (by kernel_rfl) ?_ _
  have BW := Lib.hid (Below.and BW.out hq3)
  go_wp2
  go_light
  go_ret
  exact ⟨rfl, BW.out⟩

/-- A keeper without rows. -/
abbrev nilR (a : Int) (l : Bool) (n : Int) : RpP := ⟨a, 0, l, n, none, 0, [], none, 0, [], none, 0, []⟩
theorem nilR_rd (a : Int) (l : Bool) (n : Int) (w : World) : (nilR a l n).rd w := by
  refine ⟨by simp, by simp, by simp, fun i h => ?_, ⟨fun i h => ?_, fun p h => ?_⟩, fun i h => ?_⟩
  all_goals cases h
def newM (me : Int) : Int := if inB me 0 3 = true then me else 0
def newN (me : Int) : Int := if inB me 0 3 = true then 1 else 0
abbrev newR (me : Int) : RpP := nilR (newM me) (inB me 0 3) (newN me)

set_option maxRecDepth 100000 in
set_option maxHeartbeats 1000000 in
theorem implRepNew (me : Int) (w : World) :
    Calls Try.prog 14 #[.int .i64 me] w fun e w' => e = .returned (newR me).val ∧ Below w.heap.size w w' := by
  rcases ha : inB me 0 3 with _ | _
  · go_enter Try.func14, Try.ntmps14
    go_wp2_with (go_at_call 43; refine (isKeeper _ _).mono ?_; rintro e w' ⟨rfl, rfl⟩; rw [ha])
    refine bodyPost_ret (v := .agg #[.int .i64 0, .int .i64 0, .bool false, .int .i64 0, .slice none 0 0, .slice none 0 0, .slice none 0 0]) (by simp [results, Try.results14, go_sem]) rfl ⟨by simp [newM, newN, ha], ?_⟩
    exact (Below.refl _ _).alloc (Nat.le_refl _) _
  · go_enter Try.func14, Try.ntmps14
    go_wp2_with (go_at_call 43; refine (isKeeper _ _).mono ?_; rintro e w' ⟨rfl, rfl⟩; rw [ha])
    refine bodyPost_ret (v := .agg #[.int .i64 me, .int .i64 0, .bool true, .int .i64 1, .slice none 0 0, .slice none 0 0, .slice none 0 0]) (by simp [results, Try.results14, go_sem]) rfl ⟨by simp [newM, newN, ha], ?_⟩
    exact (Below.refl _ _).alloc (Nat.le_refl _) _

set_option maxRecDepth 100000 in
set_option maxHeartbeats 1000000 in
theorem l5New (me : Int) (w : World) :
    Calls Try.prog 47 #[.int .i64 me] w fun e w' => e = .returned (nilR me true 1).val ∧ Below w.heap.size w w' := by
  go_enter Try.func47, Try.ntmps47
  go_wp2
  refine bodyPost_ret (v := .agg #[.int .i64 me, .int .i64 0, .bool true, .int .i64 1, .slice none 0 0, .slice none 0 0, .slice none 0 0]) (by simp [results, Try.results47, go_sem]) rfl ⟨rfl, ?_⟩
  first | exact (Below.refl _ _).alloc (Nat.le_refl _) _ | skip

set_option maxRecDepth 100000 in
set_option maxHeartbeats 1000000 in
theorem specRepNew (me : Int) (w : World) :
    Calls Try.prog 16 #[.int .i64 me] w fun e w' => e = .returned (newR me).val ∧ Below w.heap.size w w' := by
  rcases ha : inB me 0 3 with _ | _
  · go_enter Try.func16, Try.ntmps16
    go_wp2_with (go_at_call 46; refine (specIn _ _ _ _).mono ?_; rintro e w' ⟨rfl, rfl⟩; rw [ha])
    refine bodyPost_ret (v := .agg #[.int .i64 0, .int .i64 0, .bool false, .int .i64 0, .slice none 0 0, .slice none 0 0, .slice none 0 0]) (by simp [results, Try.results16, go_sem]) rfl ⟨by simp [newM, newN, ha], ?_⟩
    exact (Below.refl _ _).alloc (Nat.le_refl _) _
  · go_enter Try.func16, Try.ntmps16
    go_wp2_with (first | (go_at_call 46; refine (specIn _ _ _ _).mono ?_; rintro e w' ⟨rfl, rfl⟩; rw [ha]) | fail)
    refine (l5New me _).mono ?_
    rintro e w1 ⟨rfl, hb⟩
    have Z := Lib.hid (Below.and ((Below.refl _ _).alloc (Nat.le_refl _) _) hb)
    have K := (Blk.new (t := 37) (cs := #[.int .i64 0, .int .i64 0, .bool false, .int .i64 0, .slice none 0 0, .slice none 0 0, .slice none 0 0]) w).below hb
    have lk := K.lt
    have x0 : w1.cell? ⟨w.heap.size, 0, none⟩ = some (.int .i64 0) := K.cell 0
    have x1 : w1.cell? ⟨w.heap.size, 1, none⟩ = some (.int .i64 0) := K.cell 1
    have x2 : w1.cell? ⟨w.heap.size, 2, none⟩ = some (.bool false) := K.cell 2
    have x3 : w1.cell? ⟨w.heap.size, 3, none⟩ = some (.int .i64 0) := K.cell 3
    have x4 : w1.cell? ⟨w.heap.size, 4, none⟩ = some (.slice none 0 0) := K.cell 4
    have x5 : w1.cell? ⟨w.heap.size, 5, none⟩ = some (.slice none 0 0) := K.cell 5
    have x6 : w1.cell? ⟨w.heap.size, 6, none⟩ = some (.slice none 0 0) := K.cell 6
    have xf := K.frozen
    clear hb K
    go_wp2
    refine bodyPost_ret (v := .agg #[.int .i64 me, .int .i64 0, .bool true, .int .i64 1, .slice none 0 0, .slice none 0 0, .slice none 0 0]) (by simp [results, Try.results16, go_sem, x0, x1, x2, x3, x4, x5, x6]) rfl ⟨by simp [newM, newN, ha], ?_⟩
    iterate 7 (refine Below.setCell ?_ (by first | (simp; done) | (simp; omega)) _)
    exact Z.out

set_option maxRecDepth 100000 in
set_option maxHeartbeats 1000000 in
theorem markClaimSNil (k : Int) (w : World) :
    Calls Try.prog 60 #[.slice none 0 0, .int .i64 k] w fun e w' => e = .returned (.int .i64 k) ∧ Below w.heap.size w w' := by
  go_enter Try.func60, Try.ntmps60
  go_wp2
  go_loop [1, 5] (fun kk i => i = .int .i64 0 ∧ kk = .int .i64 k) (fun _ _ => 0)
  case atStart => exact ⟨rfl, rfl⟩
  case round =>
    obtain ⟨rfl, rfl⟩ := hrel
    go_wp2
    go_light
    go_ret
    exact ⟨rfl, Below.refl _ _⟩

set_option maxRecDepth 100000 in
set_option maxHeartbeats 1000000 in
theorem markMsgSNil (k : Int) (w : World) :
    Calls Try.prog 61 #[.slice none 0 0, .int .i64 k] w fun e w' => e = .returned (.int .i64 k) ∧ Below w.heap.size w w' := by
  go_enter Try.func61, Try.ntmps61
  go_wp2
  go_loop [1, 5] (fun kk i => i = .int .i64 0 ∧ kk = .int .i64 k) (fun _ _ => 0)
  case atStart => exact ⟨rfl, rfl⟩
  case round =>
    obtain ⟨rfl, rfl⟩ := hrel
    go_wp2
    go_light
    go_ret
    exact ⟨rfl, Below.refl _ _⟩

set_option maxRecDepth 100000 in
set_option maxHeartbeats 1000000 in
theorem heldClaimSNil (k : Int) (w : World) :
    Calls Try.prog 62 #[.slice none 0 0, .int .i64 k] w fun e w' => e = .returned (.int .i64 k) ∧ Below w.heap.size w w' := by
  go_enter Try.func62, Try.ntmps62
  go_wp2
  go_loop [1, 5] (fun kk i => i = .int .i64 0 ∧ kk = .int .i64 k) (fun _ _ => 0)
  case atStart => exact ⟨rfl, rfl⟩
  case round =>
    obtain ⟨rfl, rfl⟩ := hrel
    go_wp2
    go_light
    go_ret
    exact ⟨rfl, Below.refl _ _⟩

set_option maxRecDepth 100000 in
set_option maxHeartbeats 1000000 in
theorem heldMsgSNil (k : Int) (w : World) :
    Calls Try.prog 63 #[.slice none 0 0, .int .i64 k] w fun e w' => e = .returned (.int .i64 k) ∧ Below w.heap.size w w' := by
  go_enter Try.func63, Try.ntmps63
  go_wp2
  go_loop [1, 5] (fun kk i => i = .int .i64 0 ∧ kk = .int .i64 k) (fun _ _ => 0)
  case atStart => exact ⟨rfl, rfl⟩
  case round =>
    obtain ⟨rfl, rfl⟩ := hrel
    go_wp2
    go_light
    go_ret
    exact ⟨rfl, Below.refl _ _⟩

set_option maxRecDepth 100000 in
set_option maxHeartbeats 2000000 in
theorem markRepNil (a : Int) (l : Bool) (n k : Int) (w : World) (hk : 0 ≤ k) :
    Calls Try.prog 23 #[.agg #[.int .i64 a, .int .i64 0, .bool l, .int .i64 n, .slice none 0 0, .slice none 0 0, .slice none 0 0], .int .i64 k] w fun e w' => e = .returned (.int .i64 k) ∧ Below w.heap.size w w' := by
  have BW : Hid (Below w.heap.size w (w.alloc (.cells #[.int .i64 a, .int .i64 0, .bool l, .int .i64 n, .slice none 0 0, .slice none 0 0, .slice none 0 0] 37))) := (Below.refl _ _).alloc (Nat.le_refl _) _
  have K0 : Hid (Blk (w.alloc (.cells #[.int .i64 a, .int .i64 0, .bool l, .int .i64 n, .slice none 0 0, .slice none 0 0, .slice none 0 0] 37)) w.heap.size 37 #[.int .i64 a, .int .i64 0, .bool l, .int .i64 n, .slice none 0 0, .slice none 0 0, .slice none 0 0]) := Blk.new w
  go_enter Try.func23, Try.ntmps23
  go_wp2_with (fail)
  refine (markClaimSNil k _).mono ?_
  rintro e w1 ⟨rfl, hb⟩
  have BW := Lib.hid (Below.and BW.out hb)
  have K0 := Lib.hid (K0.out.below hb)
  clear hb
  have x5 : w1.cell? ⟨w.heap.size, 5, none⟩ = some (.slice none 0 0) := K0.out.cell 5
  go_wp2_with (fail)
  refine (markMsgSNil k _).mono ?_
  rintro e w2 ⟨rfl, hb⟩
  have BW := Lib.hid (Below.and BW.out hb)
  have K0 := Lib.hid (K0.out.below hb)
  clear hb x5
  have x6 : w2.cell? ⟨w.heap.size, 6, none⟩ = some (.slice none 0 0) := K0.out.cell 6
  go_wp2_with (fail)
  refine (markClaimSNil k _).mono ?_
  rintro e w3 ⟨rfl, hb⟩
  have BW := Lib.hid (Below.and BW.out hb)
  clear hb x6
  go_wp2
  go_light
  go_ret
  exact ⟨rfl, BW.out⟩

set_option maxRecDepth 100000 in
set_option maxHeartbeats 2000000 in
theorem heldRepNil (a : Int) (l : Bool) (n k : Int) (w : World) (hk : 0 ≤ k) :
    Calls Try.prog 24 #[.agg #[.int .i64 a, .int .i64 0, .bool l, .int .i64 n, .slice none 0 0, .slice none 0 0, .slice none 0 0], .int .i64 k] w fun e w' => e = .returned (.int .i64 k) ∧ Below w.heap.size w w' := by
  have BW : Hid (Below w.heap.size w (w.alloc (.cells #[.int .i64 a, .int .i64 0, .bool l, .int .i64 n, .slice none 0 0, .slice none 0 0, .slice none 0 0] 37))) := (Below.refl _ _).alloc (Nat.le_refl _) _
  have K0 : Hid (Blk (w.alloc (.cells #[.int .i64 a, .int .i64 0, .bool l, .int .i64 n, .slice none 0 0, .slice none 0 0, .slice none 0 0] 37)) w.heap.size 37 #[.int .i64 a, .int .i64 0, .bool l, .int .i64 n, .slice none 0 0, .slice none 0 0, .slice none 0 0]) := Blk.new w
  have nk : ¬ k < 0 := by omega
  go_enter Try.func24, Try.ntmps24
  go_wp2_with (fail)
  refine (heldClaimSNil k _).mono ?_
  rintro e w1 ⟨rfl, hb⟩
  have BW := Lib.hid (Below.and BW.out hb)
  have K0 := Lib.hid (K0.out.below hb)
  clear hb
  have x5 : w1.cell? ⟨w.heap.size, 5, none⟩ = some (.slice none 0 0) := K0.out.cell 5
  go_wp2_with (fail)
  refine (heldMsgSNil k _).mono ?_
  rintro e w2 ⟨rfl, hb⟩
  have BW := Lib.hid (Below.and BW.out hb)
  have K0 := Lib.hid (K0.out.below hb)
  clear hb x5
  have x6 : w2.cell? ⟨w.heap.size, 6, none⟩ = some (.slice none 0 0) := K0.out.cell 6
  go_wp2_with (fail)
  refine (heldClaimSNil k _).mono ?_
  rintro e w3 ⟨rfl, hb⟩
  have BW := Lib.hid (Below.and BW.out hb)
  clear hb x6
  go_wp2
  go_light
  go_ret
  exact ⟨rfl, BW.out⟩

theorem newR_val {me : Int} {a : Int} {l : Bool} {n : Int} (h : newM me = a) (h1 : inB me 0 3 = l) (h2 : newN me = n) : (newR me).val = (nilR a l n).val := by
  subst h
  subst h1
  subst h2
  rfl
theorem implNew {me : Int} {a : Int} {l : Bool} {n : Int} (h : newM me = a) (h1 : inB me 0 3 = l) (h2 : newN me = n) (w : World) :
    Calls Try.prog 14 #[.int .i64 me] w fun e w' => e = .returned (.agg #[.int .i64 a, .int .i64 0, .bool l, .int .i64 n, .slice none 0 0, .slice none 0 0, .slice none 0 0]) ∧ Below w.heap.size w w' :=
  (implRepNew me w).mono fun _ _ ⟨he, hb⟩ => ⟨he.trans (by rw [newR_val h h1 h2]; rfl), hb⟩
theorem specNew {me : Int} {a : Int} {l : Bool} {n : Int} (h : newM me = a) (h1 : inB me 0 3 = l) (h2 : newN me = n) (w : World) :
    Calls Try.prog 16 #[.int .i64 me] w fun e w' => e = .returned (.agg #[.int .i64 a, .int .i64 0, .bool l, .int .i64 n, .slice none 0 0, .slice none 0 0, .slice none 0 0]) ∧ Below w.heap.size w w' :=
  (specRepNew me w).mono fun _ _ ⟨he, hb⟩ => ⟨he.trans (by rw [newR_val h h1 h2]; rfl), hb⟩

set_option maxRecDepth 100000 in
set_option maxHeartbeats 4000000 in
theorem exactRepNew (me : Int) (w : World) :
    Calls Try.prog 6 #[.int .i64 me] w fun e w' => e = .returned (.bool true) ∧ Below w.heap.size w w' := by
  obtain ⟨a, ha⟩ : ∃ a, newM me = a := ⟨_, rfl⟩
  obtain ⟨l, hl⟩ : ∃ l, inB me 0 3 = l := ⟨_, rfl⟩
  obtain ⟨n, hn⟩ : ∃ n, newN me = n := ⟨_, rfl⟩
  have H1 := Lib.hid ha
  have H2 := Lib.hid hl
  have H3 := Lib.hid hn
  clear ha hl hn
  have BW : Hid (Below w.heap.size w w) := Below.refl _ _
  go_enter Try.func6, Try.ntmps6
  go_wp2_with (fail)
  refine (specNew H1.out H2.out H3.out _).mono ?_
  rintro e w1 ⟨rfl, hb⟩
  have BW := Lib.hid (Below.and BW.out hb)
  clear hb
  have K3 : Hid (Blk (w1.alloc (.cells #[.int .i64 a, .int .i64 0, .bool l, .int .i64 n, .slice none 0 0, .slice none 0 0, .slice none 0 0] 37)) w1.heap.size 37 #[.int .i64 a, .int .i64 0, .bool l, .int .i64 n, .slice none 0 0, .slice none 0 0, .slice none 0 0]) := Blk.new w1
  have BW := Lib.hid (BW.out.alloc BW.out.size (.cells #[.int .i64 a, .int .i64 0, .bool l, .int .i64 n, .slice none 0 0, .slice none 0 0, .slice none 0 0] 37))
  go_wp2_with (fail)
  refine (implNew H1.out H2.out H3.out _).mono ?_
  rintro e w2 ⟨rfl, hb⟩
  have BW := Lib.hid (Below.and BW.out hb)
  have K3 := Lib.hid (K3.out.below hb)
  clear hb
  have K4 : Hid (Blk (w2.alloc (.cells #[.int .i64 a, .int .i64 0, .bool l, .int .i64 n, .slice none 0 0, .slice none 0 0, .slice none 0 0] 37)) w2.heap.size 37 #[.int .i64 a, .int .i64 0, .bool l, .int .i64 n, .slice none 0 0, .slice none 0 0, .slice none 0 0]) := Blk.new w2
  have BW := Lib.hid (BW.out.alloc BW.out.size (.cells #[.int .i64 a, .int .i64 0, .bool l, .int .i64 n, .slice none 0 0, .slice none 0 0, .slice none 0 0] 37))
  have K3 := Lib.hid (K3.out.alloc (.cells #[.int .i64 a, .int .i64 0, .bool l, .int .i64 n, .slice none 0 0, .slice none 0 0, .slice none 0 0] 37))
  have x0 : (w2.alloc (.cells #[.int .i64 a, .int .i64 0, .bool l, .int .i64 n, .slice none 0 0, .slice none 0 0, .slice none 0 0] 37)).cell? ⟨w1.heap.size, 0, none⟩ = some (.int .i64 a) := K3.out.cell 0
  have x1 : (w2.alloc (.cells #[.int .i64 a, .int .i64 0, .bool l, .int .i64 n, .slice none 0 0, .slice none 0 0, .slice none 0 0] 37)).cell? ⟨w1.heap.size, 1, none⟩ = some (.int .i64 0) := K3.out.cell 1
  have x2 : (w2.alloc (.cells #[.int .i64 a, .int .i64 0, .bool l, .int .i64 n, .slice none 0 0, .slice none 0 0, .slice none 0 0] 37)).cell? ⟨w1.heap.size, 2, none⟩ = some (.bool l) := K3.out.cell 2
  have x3 : (w2.alloc (.cells #[.int .i64 a, .int .i64 0, .bool l, .int .i64 n, .slice none 0 0, .slice none 0 0, .slice none 0 0] 37)).cell? ⟨w1.heap.size, 3, none⟩ = some (.int .i64 n) := K3.out.cell 3
  have x4 : (w2.alloc (.cells #[.int .i64 a, .int .i64 0, .bool l, .int .i64 n, .slice none 0 0, .slice none 0 0, .slice none 0 0] 37)).cell? ⟨w1.heap.size, 4, none⟩ = some (.slice none 0 0) := K3.out.cell 4
  have x5 : (w2.alloc (.cells #[.int .i64 a, .int .i64 0, .bool l, .int .i64 n, .slice none 0 0, .slice none 0 0, .slice none 0 0] 37)).cell? ⟨w1.heap.size, 5, none⟩ = some (.slice none 0 0) := K3.out.cell 5
  have x6 : (w2.alloc (.cells #[.int .i64 a, .int .i64 0, .bool l, .int .i64 n, .slice none 0 0, .slice none 0 0, .slice none 0 0] 37)).cell? ⟨w1.heap.size, 6, none⟩ = some (.slice none 0 0) := K3.out.cell 6
  go_wp2_with (fail)
  refine (eqRep (nilR a l n) (nilR a l n) _ (nilR_rd _ _ _ _) (nilR_rd _ _ _ _)).mono ?_
  rintro e w3 ⟨he, hb⟩
  obtain rfl := he.trans (ret_bool (decide_eq_true rfl))
  have BW := Lib.hid (Below.and BW.out hb)
  have K3 := Lib.hid (K3.out.below hb)
  have K4 := Lib.hid (K4.out.below hb)
  clear hb he
  clear x0 x1 x2 x3 x4 x5 x6
  have y0 : w3.cell? ⟨w2.heap.size, 0, none⟩ = some (.int .i64 a) := K4.out.cell 0
  have y1 : w3.cell? ⟨w2.heap.size, 1, none⟩ = some (.int .i64 0) := K4.out.cell 1
  have y2 : w3.cell? ⟨w2.heap.size, 2, none⟩ = some (.bool l) := K4.out.cell 2
  have y3 : w3.cell? ⟨w2.heap.size, 3, none⟩ = some (.int .i64 n) := K4.out.cell 3
  have y4 : w3.cell? ⟨w2.heap.size, 4, none⟩ = some (.slice none 0 0) := K4.out.cell 4
  have y5 : w3.cell? ⟨w2.heap.size, 5, none⟩ = some (.slice none 0 0) := K4.out.cell 5
  have y6 : w3.cell? ⟨w2.heap.size, 6, none⟩ = some (.slice none 0 0) := K4.out.cell 6
  go_wp2_with (fail)
  refine (markRepNil a l n 1 _ (by omega)).mono ?_
  rintro e w4 ⟨rfl, hb⟩
  have BW := Lib.hid (Below.and BW.out hb)
  have K3 := Lib.hid (K3.out.below hb)
  have K4 := Lib.hid (K4.out.below hb)
  clear hb
  clear y0 y1 y2 y3 y4 y5 y6
  have y0 : w4.cell? ⟨w2.heap.size, 0, none⟩ = some (.int .i64 a) := K4.out.cell 0
  have y1 : w4.cell? ⟨w2.heap.size, 1, none⟩ = some (.int .i64 0) := K4.out.cell 1
  have y2 : w4.cell? ⟨w2.heap.size, 2, none⟩ = some (.bool l) := K4.out.cell 2
  have y3 : w4.cell? ⟨w2.heap.size, 3, none⟩ = some (.int .i64 n) := K4.out.cell 3
  have y4 : w4.cell? ⟨w2.heap.size, 4, none⟩ = some (.slice none 0 0) := K4.out.cell 4
  have y5 : w4.cell? ⟨w2.heap.size, 5, none⟩ = some (.slice none 0 0) := K4.out.cell 5
  have y6 : w4.cell? ⟨w2.heap.size, 6, none⟩ = some (.slice none 0 0) := K4.out.cell 6
  go_wp2_with (fail)
  refine (heldRepNil a l n 1 _ (by omega)).mono ?_
  rintro e w5 ⟨rfl, hb⟩
  have BW := Lib.hid (Below.and BW.out hb)
  have K3 := Lib.hid (K3.out.below hb)
  have K4 := Lib.hid (K4.out.below hb)
  clear hb
  clear y0 y1 y2 y3 y4 y5 y6
  go_wp2_with (fail)
  refine (implNew H1.out H2.out H3.out _).mono ?_
  rintro e w6 ⟨rfl, hb⟩
  have BW := Lib.hid (Below.and BW.out hb)
  have K3 := Lib.hid (K3.out.below hb)
  have K4 := Lib.hid (K4.out.below hb)
  clear hb
  have K7 : Hid (Blk (w6.alloc (.cells #[.int .i64 a, .int .i64 0, .bool l, .int .i64 n, .slice none 0 0, .slice none 0 0, .slice none 0 0] 37)) w6.heap.size 37 #[.int .i64 a, .int .i64 0, .bool l, .int .i64 n, .slice none 0 0, .slice none 0 0, .slice none 0 0]) := Blk.new w6
  have BW := Lib.hid (BW.out.alloc BW.out.size (.cells #[.int .i64 a, .int .i64 0, .bool l, .int .i64 n, .slice none 0 0, .slice none 0 0, .slice none 0 0] 37))
  have K3 := Lib.hid (K3.out.alloc (.cells #[.int .i64 a, .int .i64 0, .bool l, .int .i64 n, .slice none 0 0, .slice none 0 0, .slice none 0 0] 37))
  have K4 := Lib.hid (K4.out.alloc (.cells #[.int .i64 a, .int .i64 0, .bool l, .int .i64 n, .slice none 0 0, .slice none 0 0, .slice none 0 0] 37))
  have x0 : (w6.alloc (.cells #[.int .i64 a, .int .i64 0, .bool l, .int .i64 n, .slice none 0 0, .slice none 0 0, .slice none 0 0] 37)).cell? ⟨w1.heap.size, 0, none⟩ = some (.int .i64 a) := K3.out.cell 0
  have x1 : (w6.alloc (.cells #[.int .i64 a, .int .i64 0, .bool l, .int .i64 n, .slice none 0 0, .slice none 0 0, .slice none 0 0] 37)).cell? ⟨w1.heap.size, 1, none⟩ = some (.int .i64 0) := K3.out.cell 1
  have x2 : (w6.alloc (.cells #[.int .i64 a, .int .i64 0, .bool l, .int .i64 n, .slice none 0 0, .slice none 0 0, .slice none 0 0] 37)).cell? ⟨w1.heap.size, 2, none⟩ = some (.bool l) := K3.out.cell 2
  have x3 : (w6.alloc (.cells #[.int .i64 a, .int .i64 0, .bool l, .int .i64 n, .slice none 0 0, .slice none 0 0, .slice none 0 0] 37)).cell? ⟨w1.heap.size, 3, none⟩ = some (.int .i64 n) := K3.out.cell 3
  have x4 : (w6.alloc (.cells #[.int .i64 a, .int .i64 0, .bool l, .int .i64 n, .slice none 0 0, .slice none 0 0, .slice none 0 0] 37)).cell? ⟨w1.heap.size, 4, none⟩ = some (.slice none 0 0) := K3.out.cell 4
  have x5 : (w6.alloc (.cells #[.int .i64 a, .int .i64 0, .bool l, .int .i64 n, .slice none 0 0, .slice none 0 0, .slice none 0 0] 37)).cell? ⟨w1.heap.size, 5, none⟩ = some (.slice none 0 0) := K3.out.cell 5
  have x6 : (w6.alloc (.cells #[.int .i64 a, .int .i64 0, .bool l, .int .i64 n, .slice none 0 0, .slice none 0 0, .slice none 0 0] 37)).cell? ⟨w1.heap.size, 6, none⟩ = some (.slice none 0 0) := K3.out.cell 6
  go_wp2_with (fail)
  refine (eqRep (nilR a l n) (nilR a l n) _ (nilR_rd _ _ _ _) (nilR_rd _ _ _ _)).mono ?_
  rintro e w7 ⟨he, hb⟩
  obtain rfl := he.trans (ret_bool (decide_eq_true rfl))
  have BW := Lib.hid (Below.and BW.out hb)
  have K4 := Lib.hid (K4.out.below hb)
  clear hb he
  clear x0 x1 x2 x3 x4 x5 x6
  have y0 : w7.cell? ⟨w2.heap.size, 0, none⟩ = some (.int .i64 a) := K4.out.cell 0
  have y1 : w7.cell? ⟨w2.heap.size, 1, none⟩ = some (.int .i64 0) := K4.out.cell 1
  have y2 : w7.cell? ⟨w2.heap.size, 2, none⟩ = some (.bool l) := K4.out.cell 2
  have y3 : w7.cell? ⟨w2.heap.size, 3, none⟩ = some (.int .i64 n) := K4.out.cell 3
  have y4 : w7.cell? ⟨w2.heap.size, 4, none⟩ = some (.slice none 0 0) := K4.out.cell 4
  have y5 : w7.cell? ⟨w2.heap.size, 5, none⟩ = some (.slice none 0 0) := K4.out.cell 5
  have y6 : w7.cell? ⟨w2.heap.size, 6, none⟩ = some (.slice none 0 0) := K4.out.cell 6
  go_wp2_with (fail)
  refine (heldRepNil a l n 1 _ (by omega)).mono ?_
  rintro e w8 ⟨rfl, hb⟩
  have BW := Lib.hid (Below.and BW.out hb)
  clear hb
  clear y0 y1 y2 y3 y4 y5 y6
  go_wp2
  go_light
  go_ret
  exact ⟨rfl, BW.out⟩

end Go.Proofs.Ytjpbflehedbijaa
