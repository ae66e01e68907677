/- Whether a world is ok: the model's way; the exact law of WorldOk, walked. -/
import Derived.Test.YtfelhnchnaggmaaWd
import Derived.Test.YtfelhnchnaggmaaWc
import Derived.Test.YtfelhnchnaggmaaRd
namespace Go.Proofs.Ytfelhnchnaggmaa
open Go.ChangeShapes Go.WideShapes Go.ChangeAt Go.RowKit
set_option linter.unusedVariables false
set_option linter.unusedSimpArgs false

theorem wdB_eq (r : WdP) : wdB r = (inB r.bad 0 3 && (decide (r.rs.length = 4) && (decide (r.sd.length ≤ 100) && (rsB 0 r.rs && sdB r.sd)))) := by
  unfold wdB
  ac_rfl

set_option maxRecDepth 100000 in
set_option maxHeartbeats 8000000 in
theorem l6Ok (r : WdP) (w : World) (hr : r.rd w) (hs : ∀ p ∈ r.rs, ∀ q ∈ p.hd, q.cl.length ≤ 1048576 ∧ q.vt.length ≤ 1048576) (hm : ∀ q ∈ r.sd, q.cl.length ≤ 1048576 ∧ q.vt.length ≤ 1048576) :
    Calls Try.prog 34 #[r.val] w fun e w' => e = .returned (.bool (wdB r)) ∧ Below w.heap.size w w' := by
  obtain ⟨bad, RA, ra, rs, SA, sa, sd⟩ := r
  change Calls Try.prog 34 #[.agg #[.int .i64 bad, .slice RA rs.length ra, .slice SA sd.length sa]] w fun e w' => e = .returned (.bool (wdB (⟨bad, RA, ra, rs, SA, sa, sd⟩ : WdP))) ∧ Below w.heap.size w w'
  have n1 : rs.length ≤ maxLen := hr.nr
  have n2 : sd.length ≤ maxLen := hr.ns
  unfold maxLen at n1 n2
  have RR : Hid (RdRs w RA rs) := hr.rr
  have RM : Hid (RdMs w SA sd) := hr.rm
  have HS : Hid (∀ p ∈ rs, ∀ q ∈ p.hd, q.cl.length ≤ 1048576 ∧ q.vt.length ≤ 1048576) := hs
  have HM : Hid (∀ q ∈ sd, q.cl.length ≤ 1048576 ∧ q.vt.length ≤ 1048576) := hm
  have HE : Hid (wdB (⟨bad, RA, ra, rs, SA, sa, sd⟩ : WdP) = (inB bad 0 3 && (decide (rs.length = 4) && (decide (sd.length ≤ 100) && (rsB 0 rs && sdB sd))))) := wdB_eq _
  generalize wdB (⟨bad, RA, ra, rs, SA, sa, sd⟩ : WdP) = RB at HE
  clear hr hs hm
  have Z0 : Hid (Below w.heap.size w (w.alloc (.cells #[.int .i64 bad, .slice RA rs.length ra, .slice SA sd.length sa] 27))) := (Below.refl _ _).alloc (Nat.le_refl _) _
  have K0 : Hid (Blk (w.alloc (.cells #[.int .i64 bad, .slice RA rs.length ra, .slice SA sd.length sa] 27)) w.heap.size 27 #[.int .i64 bad, .slice RA rs.length ra, .slice SA sd.length sa]) := Blk.new w
  rcases ha : inB bad 0 3 with _ | _
  · have HN := Lib.hid (show RB = false by rw [HE.out, ha]; rfl)
    go_enter Try.func34, Try.ntmps34
    go_wp2_with (go_at_call 26; refine (specIn _ _ _ _).mono ?_; rintro e w' ⟨rfl, rfl⟩; rw [ha])
    go_light
    go_ret
    exact ⟨ret_bool (HN.out.symm), Z0.out⟩
  by_cases h4 : rs.length = 4
  rotate_left
  · have e4 : ((rs.length : Int) != (4 : Int)) = true := by simp; omega
    have HN := Lib.hid (show RB = false by rw [HE.out, decide_eq_false h4]; simp)
    clear h4
    go_enter Try.func34, Try.ntmps34
    go_wp2_with (go_at_call 26; refine (specIn _ _ _ _).mono ?_; rintro e w' ⟨rfl, rfl⟩; rw [ha])
    go_light
    go_ret
    exact ⟨ret_bool (HN.out.symm), Z0.out⟩
  have e4 : ((rs.length : Int) != (4 : Int)) = false := by simp; omega
  have H4 := Lib.hid h4
  clear h4
  by_cases h5 : sd.length ≤ 100
  rotate_left
  · have e5 : decide ((100 : Int) < (sd.length : Int)) = true := by simp; omega
    have HN := Lib.hid (show RB = false by rw [HE.out, decide_eq_false h5]; simp)
    go_enter Try.func34, Try.ntmps34
    go_wp2_with (go_at_call 26; refine (specIn _ _ _ _).mono ?_; rintro e w' ⟨rfl, rfl⟩; rw [ha])
    go_light
    go_ret
    exact ⟨ret_bool (HN.out.symm), Z0.out⟩
  have e5 : decide ((100 : Int) < (sd.length : Int)) = false := by simp; omega
  have HE := Lib.hid (show RB = (rsB 0 rs && sdB sd) by rw [HE.out, ha, decide_eq_true H4.out, decide_eq_true h5]; rfl)
  go_enter Try.func34, Try.ntmps34
  go_wp2_with (go_at_call 26; refine (specIn _ _ _ _).mono ?_; rintro e w' ⟨rfl, rfl⟩; rw [ha])
  clear e4 e5 ha
  go_loopw [3] (fun i wr => ∃ k : Nat, k ≤ rs.length ∧ i = .int .i64 k ∧ Hid (rsB 0 rs = rsB (k : Int) (rs.drop k)) ∧ Hid (Blk wr w.heap.size 27 #[.int .i64 bad, .slice RA rs.length ra, .slice SA sd.length sa]) ∧ Hid (Below w.heap.size w wr)) (fun i _ => rs.length - (intOf i).toNat)
  case atStart => exact ⟨0, Nat.zero_le _, rfl, by simp [Hid], K0, Z0⟩
  case round =>
    clear Z0 K0
    obtain ⟨k, hk, rfl, ht, K0, hb⟩ := hrel
    have lk := K0.out.lt
    by_cases hlt : k < rs.length
    · have x1 : wr.cell? ⟨w.heap.size, 1, none⟩ = some (.slice RA rs.length ra) := K0.out.cell 1
      obtain ⟨g, o, rfl, ca⟩ := Rd.below RR.out.1 hb.out k hlt
      have rx := (RR.out.2 rs[k] (List.getElem_mem hlt)).below hb.out
      have HSX := Lib.hid (HS.out rs[k] (List.getElem_mem hlt))
      have HD := Lib.hid (ht.out.trans (rsB_step hlt))
      clear ht
      generalize rs[k] = x at ca rx HD HSX
      have a0 : wr.cell? ⟨g, o + k * 7, none⟩ = some (.int .i64 x.me) := ca 0 _ rfl
      have a1 : wr.cell? ⟨g, o + k * 7 + 1, none⟩ = some (.int .i64 x.v) := ca 1 _ rfl
      have a2 : wr.cell? ⟨g, o + k * 7 + 2, none⟩ = some (.bool x.lv) := ca 2 _ rfl
      have a3 : wr.cell? ⟨g, o + k * 7 + 3, none⟩ = some (.int .i64 x.nx) := ca 3 _ rfl
      have a4 : wr.cell? ⟨g, o + k * 7 + 4, none⟩ = some (.slice x.TA x.tk.length x.ta) := ca 4 _ rfl
      have a5 : wr.cell? ⟨g, o + k * 7 + 5, none⟩ = some (.slice x.HA x.hd.length x.ha) := ca 5 _ rfl
      have a6 : wr.cell? ⟨g, o + k * 7 + 6, none⟩ = some (.slice x.DA x.dn.length x.da) := ca 6 _ rfl
      clear ca
      have RX := Lib.hid rx
      clear rx
      have i0 : (0 : Int) ≤ (k : Int) := by omega
      have i1 : (k : Int) < (rs.length : Int) := by omega
      have hg : g < wr.heap.size := by have := World.block_lt_of_cell? wr _ a0; simpa using this
      go_wp2_with (fail)
      refine (l5Ok x _ RX.out HSX.out).mono ?_
      rintro e w1 ⟨rfl, h1⟩
      have BB := Lib.hid (Below.and hb.out h1)
      have K1 := Lib.hid (K0.out.below h1)
      have y0 : w1.cell? ⟨g, o + k * 7, none⟩ = some (.int .i64 x.me) := cell_kept h1 a0
      have y1 : w1.cell? ⟨w.heap.size, 1, none⟩ = some (.slice (some ⟨g, o, none⟩) rs.length ra) := K1.out.cell 1
      have l1 := K1.out.lt
      have hg1 : g < w1.heap.size := by have := h1.size; omega
      clear h1 x1 a0 a1 a2 a3 a4 a5 a6
      rcases h2 : repB x with _ | _
      · have HN := Lib.hid (show RB = false by rw [HE.out, HD.out, h2]; rfl)
        go_wp2
        go_light
        go_ret
        exact ⟨ret_bool (HN.out.symm), BB.out⟩
      rcases h3 : (x.me != (k : Int)) with _ | _
      · have HN := Lib.hid (show rsB 0 rs = rsB ((k + 1 : Nat) : Int) (rs.drop (k + 1)) by rw [HD.out, h2, show (x.me == (k : Int)) = true by simpa using h3]; rfl)
        clear h2
        go_wp2
        go_roundw
        case rel => exact ⟨k + 1, by omega, by go_num, HN, K1, BB⟩
        case measure => simp [intOf]; omega
      · have HN := Lib.hid (show RB = false by rw [HE.out, HD.out, h2, show (x.me == (k : Int)) = false by simpa using h3]; rfl)
        go_wp2
        go_light
        go_ret
        exact ⟨ret_bool (HN.out.symm), BB.out⟩
    · have HE := Lib.hid (show RB = sdB sd by rw [HE.out, ht.out, List.drop_of_length_le (by omega)]; rfl)
      have x1 : wr.cell? ⟨w.heap.size, 1, none⟩ = some (.slice RA rs.length ra) := K0.out.cell 1
      clear ht HS
      go_wp2
      clear x1 hlt hk
      go_loopw [4] (fun i wi => ∃ k : Nat, k ≤ sd.length ∧ i = .int .i64 k ∧ Hid (sdB sd = sdB (sd.drop k)) ∧ Hid (Below wr.heap.size wr wi)) (fun i _ => sd.length - (intOf i).toNat)
      case atStart => exact ⟨0, Nat.zero_le _, rfl, by simp [Hid], Below.refl _ _⟩
      case round =>
        obtain ⟨k, hk, rfl, ht, hbi⟩ := hrel
        have BW := Lib.hid (Below.and hb.out hbi.out)
        have K2 := Lib.hid (K0.out.below hbi.out)
        have l2 := K2.out.lt
        by_cases hlt : k < sd.length
        · have x5 : wr.cell? ⟨w.heap.size, 2, none⟩ = some (.slice SA sd.length sa) := K2.out.cell 2
          obtain ⟨g, o, rfl, ca⟩ := Rd.below RM.out.1 BW.out k hlt
          have rx := (RM.out.2 sd[k] (List.getElem_mem hlt)).below BW.out
          have HSX := HM.out sd[k] (List.getElem_mem hlt)
          have HD := Lib.hid (ht.out.trans (sdB_step hlt))
          clear ht
          generalize sd[k] = x at ca rx HD HSX
          obtain ⟨s1, s2⟩ := HSX
          have a0 : wr.cell? ⟨g, o + k * 11, none⟩ = some (.int .i64 x.k) := ca 0 _ rfl
          have a1 : wr.cell? ⟨g, o + k * 11 + 1, none⟩ = some (.int .i64 x.f) := ca 1 _ rfl
          have a2 : wr.cell? ⟨g, o + k * 11 + 2, none⟩ = some (.int .i64 x.v) := ca 2 _ rfl
          have a3 : wr.cell? ⟨g, o + k * 11 + 3, none⟩ = some (.int .i64 x.s) := ca 3 _ rfl
          have a4 : wr.cell? ⟨g, o + k * 11 + 4, none⟩ = some (.int .i64 x.r.c) := ca 4 _ rfl
          have a5 : wr.cell? ⟨g, o + k * 11 + 5, none⟩ = some (.int .i64 x.r.n) := ca 5 _ rfl
          have a6 : wr.cell? ⟨g, o + k * 11 + 6, none⟩ = some (.int .i64 x.r.o) := ca 6 _ rfl
          have a7 : wr.cell? ⟨g, o + k * 11 + 7, none⟩ = some (.int .i64 x.r.x) := ca 7 _ rfl
          have a8 : wr.cell? ⟨g, o + k * 11 + 8, none⟩ = some (.int .i64 x.r.y) := ca 8 _ rfl
          have a9 : wr.cell? ⟨g, o + k * 11 + 9, none⟩ = some (.slice x.A x.cl.length x.a) := ca 9 _ rfl
          have a10 : wr.cell? ⟨g, o + k * 11 + 10, none⟩ = some (.slice x.B x.vt.length x.b) := ca 10 _ rfl
          clear ca
          have RX := Lib.hid rx
          clear rx
          have i0 : (0 : Int) ≤ (k : Int) := by omega
          have i1 : (k : Int) < (sd.length : Int) := by omega
          go_wp2_with (fail)
          refine (l3Ok x _ s1 s2 RX.out).mono ?_
          rintro e w1 ⟨rfl, h1⟩
          have BB := Lib.hid (Below.and BW.out h1)
          have BI := Lib.hid (Below.and hbi.out h1)
          clear h1 x5 a0 a1 a2 a3 a4 a5 a6 a7 a8 a9 a10 RX
          rcases h2 : okP x with _ | _
          · have HN := Lib.hid (show RB = false by rw [HE.out, HD.out, h2]; rfl)
            go_wp2
            go_light
            go_ret
            exact ⟨ret_bool (HN.out.symm), BB.out⟩
          · have HN := Lib.hid (show sdB sd = sdB (sd.drop (k + 1)) by rw [HD.out, h2]; rfl)
            clear h2
            go_wp2
            go_roundw
            case rel => exact ⟨k + 1, by omega, by go_num, HN, BI⟩
            case measure => simp [intOf]; omega
        · have HN := Lib.hid (show RB = true by rw [HE.out, ht.out, List.drop_of_length_le (by omega)]; rfl)
          clear ht
          have x5 : wr.cell? ⟨w.heap.size, 2, none⟩ = some (.slice SA sd.length sa) := K2.out.cell 2
          go_wp2
          go_light
          go_ret
          exact ⟨ret_bool (HN.out.symm), BW.out⟩

set_option maxRecDepth 100000 in
set_option maxHeartbeats 1000000 in
theorem specWorldOk (r : WdP) (w : World) (hr : r.rd w) (hs : ∀ p ∈ r.rs, ∀ q ∈ p.hd, q.cl.length ≤ 1048576 ∧ q.vt.length ≤ 1048576) (hm : ∀ q ∈ r.sd, q.cl.length ≤ 1048576 ∧ q.vt.length ≤ 1048576) :
    Calls Try.prog 14 #[r.val] w fun e w' => e = .returned (.bool (wdB r)) ∧ Below w.heap.size w w' := by
  have BW : Hid (Below w.heap.size w (w.alloc (.cells #[.int .i64 r.bad, .slice r.RA r.rs.length r.ra, .slice r.SA r.sd.length r.sa] 27))) := (Below.refl _ _).alloc (Nat.le_refl _) _
  have HR := Lib.hid (hr.below BW.out)
  have HS := Lib.hid hs
  have HM := Lib.hid hm
  clear hr hs hm
  go_enter Try.func14, Try.ntmps14
  go_wp2_with (fail)
  refine (l6Ok r _ HR.out HS.out HM.out).mono ?_
  rintro e w1 ⟨rfl, hb⟩
  go_wp2
  go_light
  go_ret
  exact ⟨rfl, Below.and BW.out hb⟩

theorem rsB_congr {P Q : List RpP} (h : P.map RpP.rp = Q.map RpP.rp) : ∀ i, rsB i P = rsB i Q := by
  induction P generalizing Q with
  | nil => cases Q with
    | nil => intro i; rfl
    | cons b Q => cases h
  | cons a P ih => cases Q with
    | nil => cases h
    | cons b Q =>
      intro i
      simp only [List.map_cons, List.cons.injEq] at h
      have hk : a.me = b.me := congrArg Rp.me h.1
      unfold rsB
      rw [ih h.2, repB_congr h.1, hk]
theorem sdB_congr {P Q : List MgP} (h : P.map MgP.mg = Q.map MgP.mg) : sdB P = sdB Q := by
  induction P generalizing Q with
  | nil => cases Q with
    | nil => rfl
    | cons b Q => cases h
  | cons a P ih => cases Q with
    | nil => cases h
    | cons b Q =>
      simp only [List.map_cons, List.cons.injEq] at h
      unfold sdB at ih ⊢
      rw [List.all_cons, List.all_cons, ih h.2, okP_congr h.1]
theorem wdB_congr {p q : WdP} (h : p.wd = q.wd) : wdB p = wdB q := by
  simp only [WdP.wd, Wd.mk.injEq] at h
  obtain ⟨h1, h2, h3⟩ := h
  have hl : p.rs.length = q.rs.length := by have := congrArg List.length h2; simpa using this
  have hm : p.sd.length = q.sd.length := by have := congrArg List.length h3; simpa using this
  unfold wdB
  rw [h1, hl, hm, rsB_congr h2, sdB_congr h3]
theorem wd_bd {Q r : WdP} (h : Q.wd = r.wd) (hs : r.sz ≤ 1048576) : (∀ p ∈ Q.rs, ∀ q ∈ p.hd, q.cl.length ≤ 1048576 ∧ q.vt.length ≤ 1048576) ∧ ∀ q ∈ Q.sd, q.cl.length ≤ 1048576 ∧ q.vt.length ≤ 1048576 := by
  simp only [WdP.wd, Wd.mk.injEq] at h
  obtain ⟨_, h2, h3⟩ := h
  unfold WdP.sz at hs
  refine ⟨fun p hp => ?_, ms_bd h3 (by omega)⟩
  have : p.rp ∈ r.rs.map RpP.rp := by rw [← h2]; exact List.mem_map.2 ⟨p, hp, rfl⟩
  obtain ⟨p', hp', e⟩ := List.mem_map.1 this
  exact rp_bd e.symm (Nat.le_trans (szRs_mem hp') (by omega))

set_option maxRecDepth 100000 in
set_option maxHeartbeats 4000000 in
theorem exactWorldOk (r : WdP) (w : World) (hr : r.rd w) :
    Calls Try.prog 4 #[r.val] w fun e w' => e = .returned (.bool true) ∧ Below w.heap.size w w' := by
  have BW : Hid (Below w.heap.size w (w.alloc (.cells #[.int .i64 r.bad, .slice r.RA r.rs.length r.ra, .slice r.SA r.sd.length r.sa] 35))) := (Below.refl _ _).alloc (Nat.le_refl _) _
  have KR : Hid (Blk (w.alloc (.cells #[.int .i64 r.bad, .slice r.RA r.rs.length r.ra, .slice r.SA r.sd.length r.sa] 35)) w.heap.size 35 #[.int .i64 r.bad, .slice r.RA r.rs.length r.ra, .slice r.SA r.sd.length r.sa]) := Blk.new w
  have RR := Lib.hid (hr.below BW.out)
  clear hr
  go_enter Try.func4, Try.ntmps4
  go_wp2_with (fail)
  refine (szWorld r 1048576 _ RR.out (by omega) (by omega)).mono ?_
  rintro e w1 ⟨rfl, hb⟩
  have BW := Lib.hid (Below.and BW.out hb)
  have KR := Lib.hid (KR.out.below hb)
  have RR := Lib.hid (RR.out.below hb)
  clear hb
  by_cases hz : szR 1048576 r.sz < 0
  · generalize szR 1048576 r.sz = z at hz
    go_wp2
    go_light
    go_ret
    exact ⟨rfl, BW.out⟩
  obtain ⟨sp0, sp1⟩ := szR_neg (by omega) hz
  have SZ : Hid (r.sz ≤ 1048576) := by show r.sz ≤ 1048576; omega
  rw [sp1]
  have nz : ¬ 1048576 - (r.sz : Int) < 0 := by omega
  clear hz sp1 sp0
  have y0 : w1.cell? ⟨w.heap.size, 0, none⟩ = some (.int .i64 r.bad) := KR.out.cell 0
  have y1 : w1.cell? ⟨w.heap.size, 1, none⟩ = some (.slice r.RA r.rs.length r.ra) := KR.out.cell 1
  have y2 : w1.cell? ⟨w.heap.size, 2, none⟩ = some (.slice r.SA r.sd.length r.sa) := KR.out.cell 2
  go_wp2_with (fail)
  refine (toWorld r _ RR.out SZ.out).mono ?_
  rintro e w2 ⟨Q, rfl, hm, ho, hb⟩
  have HD := Lib.hid (wdB_congr hm)
  have HB := Lib.hid (wd_bd hm SZ.out)
  have OQ := Lib.hid ho
  have BW := Lib.hid (Below.and BW.out hb)
  have KR := Lib.hid (KR.out.below hb)
  have RR := Lib.hid (RR.out.below hb)
  clear hb hm ho nz
  clear y0 y1 y2
  go_wp2_with (fail)
  refine (specWorldOk Q _ OQ.out.rd HB.out.1 HB.out.2).mono ?_
  rintro e w3 ⟨he, hb⟩
  obtain rfl := he.trans (ret_bool HD.out)
  have BW := Lib.hid (Below.and BW.out hb)
  have KR := Lib.hid (KR.out.below hb)
  have RR := Lib.hid (RR.out.below hb)
  clear hb he
  generalize hq : wdB r = D
  have HQ := Lib.hid hq
  clear hq HD HB OQ
  have y0 : w3.cell? ⟨w.heap.size, 0, none⟩ = some (.int .i64 r.bad) := KR.out.cell 0
  have y1 : w3.cell? ⟨w.heap.size, 1, none⟩ = some (.slice r.RA r.rs.length r.ra) := KR.out.cell 1
  have y2 : w3.cell? ⟨w.heap.size, 2, none⟩ = some (.slice r.SA r.sd.length r.sa) := KR.out.cell 2
  go_wp2_with (fail)
  refine (toWorld r _ RR.out SZ.out).mono ?_
  rintro e w4 ⟨X, rfl, hm, ho, hb⟩
  have MX := Lib.hid hm
  have HD := Lib.hid ((wdB_congr hm).trans HQ.out)
  have OX := Lib.hid (ho.below ((Below.refl _ _).alloc (Nat.le_refl _) (.cells #[.int .i64 X.bad, .slice X.RA X.rs.length X.ra, .slice X.SA X.sd.length X.sa] 27)))
  have BW := Lib.hid ((Below.and BW.out hb).alloc (Below.and BW.out hb).size (.cells #[.int .i64 X.bad, .slice X.RA X.rs.length X.ra, .slice X.SA X.sd.length X.sa] 27))
  have KR := Lib.hid ((KR.out.below hb).alloc (.cells #[.int .i64 X.bad, .slice X.RA X.rs.length X.ra, .slice X.SA X.sd.length X.sa] 27))
  have RR := Lib.hid ((RR.out.below hb).below ((Below.refl _ _).alloc (Nat.le_refl _) (.cells #[.int .i64 X.bad, .slice X.RA X.rs.length X.ra, .slice X.SA X.sd.length X.sa] 27)))
  have KX : Hid (Blk (w4.alloc (.cells #[.int .i64 X.bad, .slice X.RA X.rs.length X.ra, .slice X.SA X.sd.length X.sa] 27)) w4.heap.size 27 #[.int .i64 X.bad, .slice X.RA X.rs.length X.ra, .slice X.SA X.sd.length X.sa]) := Blk.new w4
  clear hb hm ho
  clear y0 y1 y2
  go_wp2_with (fail)
  refine (implWorldOk X _ OX.out.rd).mono ?_
  rintro e w5 ⟨he, hb⟩
  obtain rfl := he.trans (ret_bool HD.out)
  have BW := Lib.hid (Below.and BW.out hb)
  have KR := Lib.hid (KR.out.below hb)
  have KX := Lib.hid (KX.out.below hb)
  have RR := Lib.hid (RR.out.below hb)
  have OX := Lib.hid (OX.out.below hb)
  clear hb he
  have bb : (!(D == D)) = false := by simp
  have bc : (D != D) = false := by simp
  have lp := KR.out.lt
  have lq := KX.out.lt
  have x0 : w5.cell? ⟨w4.heap.size, 0, none⟩ = some (.int .i64 X.bad) := KX.out.cell 0
  have x1 : w5.cell? ⟨w4.heap.size, 1, none⟩ = some (.slice X.RA X.rs.length X.ra) := KX.out.cell 1
  have x2 : w5.cell? ⟨w4.heap.size, 2, none⟩ = some (.slice X.SA X.sd.length X.sa) := KX.out.cell 2
  have y0 : w5.cell? ⟨w.heap.size, 0, none⟩ = some (.int .i64 r.bad) := KR.out.cell 0
  have y1 : w5.cell? ⟨w.heap.size, 1, none⟩ = some (.slice r.RA r.rs.length r.ra) := KR.out.cell 1
  have y2 : w5.cell? ⟨w.heap.size, 2, none⟩ = some (.slice r.SA r.sd.length r.sa) := KR.out.cell 2
  go_wp2_with (fail)
  refine wp_region_held_drew (S := fun w1 => Below w5.heap.size w5 w1) (by kernel_rfl) ((Below.refl _ _).drew) (fun hq => ?_)
  refine takeD 0 22 (v := ?_) rfl rfl (by kernel_rfl) (by kernel_rfl) (by kernel_rfl) (fun _ _ _ h => h) (Or.inl ⟨by rfl, ?_⟩) (by assumption) ?_
  rotate_left
  · intro w1 hSw; obtain ⟨hcS, hfS⟩ := bcell hSw; go_simp; (try with_reducible rfl)
  (try simp only [Act.put, List.setIfInBounds_toArray, List.set_cons_zero, List.set_cons_succ])
  refine takeD 1 23 (v := ?_) rfl rfl (by kernel_rfl) (by kernel_rfl) (by kernel_rfl) (fun _ _ _ h => h) (Or.inl ⟨by rfl, ?_⟩) (by assumption) ?_
  rotate_left
  · intro w1 hSw; obtain ⟨hcS, hfS⟩ := bcell hSw; go_simp; (try with_reducible rfl)
  (try simp only [Act.put, List.setIfInBounds_toArray, List.set_cons_zero, List.set_cons_succ])
  refine wpAnyH_ready (rs := [2]) (by kernel_rfl) (by simp) ?_
  refine AllReadyH.cons rfl (fun K hK => ?_) AllReadyH.nil
  go_simp
  refine (toWorld r _ (RR.out.below hq) SZ.out).mono ?_
  rintro e w6 ⟨Q2, rfl, hm2, ho2, hb⟩
  refine hK.out _ _ (Below.and hq hb) (fun hq2 => ?_)
  clear hK K
  (try simp only [Act.put, List.setIfInBounds_toArray, List.set_cons_zero, List.set_cons_succ])
  refine wpAnyH_ready (rs := [3]) (by kernel_rfl) (by simp) ?_
  refine AllReadyH.cons rfl (fun K hK => ?_) AllReadyH.nil
  go_simp
  refine (eqWorld X Q2 _ ((OX.out.below hq2).rd) (ho2.rd)).mono ?_
  rintro e w7 ⟨he, hb⟩
  obtain rfl := he.trans (ret_bool (show decide (X.wd = Q2.wd) = true by rw [MX.out, hm2]; exact decide_eq_true rfl))
  refine hK.out _ _ (Below.and hq2 hb) (fun hq3 => ?_)
  clear hK K
  (try simp only [Act.put, List.setIfInBounds_toArray, List.set_cons_zero, List.set_cons_succ])
  refine takeD 4 26 (v := ?_) rfl rfl (by kernel_rfl) (by kernel_rfl) (by kernel_rfl) (fun _ _ _ h => h) (Or.inl ⟨by rfl, ?_⟩) (by assumption) ?_
  rotate_left
  · intro w1 hSw; obtain ⟨hcS, hfS⟩ := bcell hSw; go_simp; (try with_reducible rfl)
  (try simp only [Act.put, List.setIfInBounds_toArray, List.set_cons_zero, List.set_cons_succ])
  refine wpAnyH_done (by kernel_rfl) ?_ _
  have BW := Lib.hid (Below.and BW.out hq3)
  go_wp2
  go_light
  go_ret
  exact ⟨rfl, BW.out⟩

end Go.Proofs.Ytfelhnchnaggmaa
