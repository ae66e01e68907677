/- Whether keepers agree: the model's way; the exact law of WorldAgree, walked. -/
import Derived.Test.YtfelhnchnaggmaaWi
import Derived.Test.YtfelhnchnaggmaaWe
namespace Go.Proofs.Ytfelhnchnaggmaa
open Go.ChangeShapes Go.WideShapes Go.ChangeAt Go.RowKit
set_option linter.unusedVariables false
set_option linter.unusedSimpArgs false

theorem cls_gt : ∀ (l : List Cl) (p : Int), clsB p l = true → ∀ c ∈ l, p < c.s := by
  intro l
  induction l with
  | nil => intro p _ c hc; cases hc
  | cons a l ih =>
    intro p h c hc
    simp only [clsB, Bool.and_eq_true, decide_eq_true_eq] at h
    have h1 : p < a.s := by first | exact h.1.1 | exact h.1 | exact h.2.1
    have h2 : clsB a.s l = true := by first | exact h.2 | exact h.2.2
    rcases List.mem_cons.1 hc with rfl | hc
    · exact h1
    · exact Int.lt_trans h1 (ih _ h2 c hc)
theorem cls_one : ∀ (l : List Cl) (p : Int), clsB p l = true → agreeP l := by
  intro l
  induction l with
  | nil => intro p _ c hc; cases hc
  | cons a l ih =>
    intro p h c hc d hd e
    simp only [clsB, Bool.and_eq_true, decide_eq_true_eq] at h
    have h2 : clsB a.s l = true := by first | exact h.2 | exact h.2.2
    rcases List.mem_cons.1 hc with h3 | h3 <;> rcases List.mem_cons.1 hd with h4 | h4
    · rw [h3, h4]
    · have := cls_gt _ _ h2 d h4; rw [h3] at e; omega
    · have := cls_gt _ _ h2 c h3; rw [h4] at e; omega
    · exact ih _ h2 c h3 d h4 e
theorem rep_one {r : RpP} (h : repB r = true) : agreeP r.dn := by
  rw [repB_eq] at h
  simp only [Bool.and_eq_true] at h
  exact cls_one _ _ h.2.2.2.2.2
theorem rsB_me : ∀ (l : List RpP) (i : Int), rsB i l = true → ∀ k (h : k < l.length), l[k].me = i + (k : Int) := by
  intro l
  induction l with
  | nil => intro i _ k h; simp at h
  | cons a l ih =>
    intro i h k hk
    simp only [rsB, Bool.and_eq_true, beq_iff_eq] at h
    rcases k with _ | k
    · simp [h.1.2]
    · have := ih (i + 1) h.2 k (by simpa using hk)
      simp only [List.getElem_cons_succ]
      rw [this]
      omega
theorem wd_me {r : WdP} (h : wdB r = true) : ∀ k (hk : k < r.rs.length), r.rs[k].me = (k : Int) := by
  unfold wdB at h
  simp only [Bool.and_eq_true] at h
  intro k hk
  rw [rsB_me _ _ h.2.1.2 k hk]; omega

/-- Nothing among L is another thing than c at c's place. -/
def fitsP (L : List Cl) (c : Cl) : Prop := ∀ d ∈ L, d.s = c.s → d.r = c.r
theorem fits_app {L M : List Cl} {c : Cl} (h : fitsP L c) (k : fitsP M c) : fitsP (L ++ M) c := fun d hd => (List.mem_append.1 hd).elim (h d) (k d)
theorem agree_app {L M : List Cl} (h : agreeP L) (k : agreeP M) (hx : ∀ c ∈ M, fitsP L c) : agreeP (L ++ M) := by
  intro c hc d hd e
  rcases List.mem_append.1 hc with hc | hc <;> rcases List.mem_append.1 hd with hd | hd
  · exact h c hc d hd e
  · exact hx d hd c hc e
  · exact (hx c hc d hd e.symm).symm
  · exact k c hc d hd e

set_option maxRecDepth 100000 in
set_option maxHeartbeats 1000000 in
theorem l4Asked (A : Option Addr) (a : Nat) (P : List MgP) (r : Rq) (w : World) (hn : P.length ≤ maxLen) (hr : RdMs w A P) :
    Calls Try.prog 70 #[.slice A P.length a, .agg #[.int .i64 r.c, .int .i64 r.n, .int .i64 r.o, .int .i64 r.x, .int .i64 r.y]] w fun e w' => e = .returned (.bool (askB P r)) ∧ Below w.heap.size w w' := by
  have BW : Hid (Below w.heap.size w (w.alloc (.cells #[.int .i64 r.c, .int .i64 r.n, .int .i64 r.o, .int .i64 r.x, .int .i64 r.y] 69))) := (Below.refl _ _).alloc (Nat.le_refl _) _
  have HR := Lib.hid (RdMs.below hr BW.out)
  clear hr
  go_enter Try.func70, Try.ntmps70
  go_wp2_with (fail)
  refine (l3Has A a P (askM r) _ hn HR.out (askM_rd r _)).mono ?_
  rintro e w1 ⟨rfl, hb⟩
  go_wp2
  go_light
  go_ret
  exact ⟨rfl, Below.and BW.out hb⟩

set_option maxRecDepth 100000 in
set_option maxHeartbeats 8000000 in
theorem l6Agree (r : WdP) (w : World) (hr : r.rd w) (hw : wdB r = true) :
    Calls Try.prog 43 #[r.val] w fun e w' => e = .returned (.bool (decide (agreeP (dnsB r.bad r.rs)) && !unB r.sd (dnsB r.bad r.rs))) ∧ Below w.heap.size w w' := by
  obtain ⟨bad, RA, ra, rs, SA, sa, sd⟩ := r
  change Calls Try.prog 43 #[.agg #[.int .i64 bad, .slice RA rs.length ra, .slice SA sd.length sa]] w fun e w' => e = .returned (.bool (decide (agreeP (dnsB bad rs)) && !unB sd (dnsB bad rs))) ∧ Below w.heap.size w w'
  have n1 : rs.length ≤ maxLen := hr.nr
  have n2 : sd.length ≤ maxLen := hr.ns
  have RR : Hid (RdRs w RA rs) := hr.rr
  have RM : Hid (RdMs w SA sd) := hr.rm
  have HV : Hid (∀ p ∈ rs, repB p = true) := (wd_reps hw).2
  have HME : Hid (∀ k (hk : k < rs.length), rs[k].me = (k : Int)) := wd_me hw
  obtain ⟨RB, hRB⟩ : ∃ RB, RB = (decide (agreeP (dnsB bad rs)) && !unB sd (dnsB bad rs)) := ⟨_, rfl⟩
  rw [← hRB]
  have HE := Lib.hid hRB
  have N2 := Lib.hid n2
  clear hr hw hRB n2
  unfold maxLen at n1
  have Z0 : Hid (Below w.heap.size w (w.alloc (.cells #[.int .i64 bad, .slice RA rs.length ra, .slice SA sd.length sa] 27))) := (Below.refl _ _).alloc (Nat.le_refl _) _
  have K0 : Hid (Blk (w.alloc (.cells #[.int .i64 bad, .slice RA rs.length ra, .slice SA sd.length sa] 27)) w.heap.size 27 #[.int .i64 bad, .slice RA rs.length ra, .slice SA sd.length sa]) := Blk.new w
  go_enter Try.func43, Try.ntmps43
  go_wp2
  go_loopw [3] (fun i wr => ∃ k : Nat, k ≤ rs.length ∧ i = .int .i64 (k : Int) ∧ Hid (agreeP (dnsB bad (rs.take k))) ∧ Hid (unB sd (dnsB bad (rs.take k)) = false) ∧ Hid (Blk wr w.heap.size 27 #[.int .i64 bad, .slice RA rs.length ra, .slice SA sd.length sa]) ∧ Hid (Below w.heap.size w wr)) (fun i _ => rs.length - (intOf i).toNat)
  case atStart => exact ⟨0, Nat.zero_le _, rfl, by intro c hc; simp [dnsB] at hc, rfl, K0, Z0⟩
  case round =>
    clear Z0 K0
    obtain ⟨i, hi, rfl, ha, hu, K0, hb⟩ := hrel
    have lk := K0.out.lt
    by_cases hlt : i < rs.length
    · obtain ⟨g, o, rfl, _⟩ := Rd.below RR.out.1 hb.out i hlt
      have rx := RR.out.2 rs[i] (List.getElem_mem hlt)
      have hvx := HV.out rs[i] (List.getElem_mem hlt)
      have HVX := Lib.hid (rep_cls hvx)
      have HLX := Lib.hid (rep_len hvx)
      have HOX := Lib.hid (rep_one hvx)
      have hme := HME.out i hlt
      have HY := Lib.hid (fun h => dnsB_yes (bad := bad) hlt h)
      have HN := Lib.hid (fun h => dnsB_no (bad := bad) hlt h)
      have HSP := Lib.hid (dnsB_split bad rs (i + 1))
      clear hvx
      obtain ⟨x, hxe⟩ : ∃ x, rs[i] = x := ⟨_, rfl⟩
      rw [hxe] at rx HVX HLX HOX hme HY HN
      have HXE := Lib.hid hxe
      clear hxe
      obtain ⟨xme, xv, xlv, xnx, xTA, xta, xtk, xHA, xha, xhd, xDA, xda, xdn⟩ := x
      have hme' : xme = (i : Int) := hme
      subst hme'
      replace HVX : Hid (∀ c ∈ xdn, clB c = true) := HVX
      replace HLX : Hid (xdn.length ≤ 5) := HLX
      replace HOX : Hid (agreeP xdn) := HOX
      replace HY : Hid (((i : Int) != bad) = true → dnsB bad (rs.take (i + 1)) = dnsB bad (rs.take i) ++ xdn) := HY
      replace HN : Hid (((i : Int) != bad) = false → dnsB bad (rs.take (i + 1)) = dnsB bad (rs.take i)) := HN
      have RX : Hid (RdC w xDA xdn) := rx.rdn
      have hlx : xdn.length ≤ 5 := HLX.out
      clear rx hme
      have i0 : (0 : Int) ≤ (i : Int) := by omega
      have i1 : (i : Int) < (rs.length : Int) := by omega
      have x1 : wr.cell? ⟨w.heap.size, 1, none⟩ = some (.slice (some ⟨g, o, none⟩) rs.length ra) := K0.out.cell 1
      go_wp2
      clear x1
      rcases hbd : ((i : Int) != bad) with _ | _
      · have HT := Lib.hid (HN.out hbd)
        have A2 := Lib.hid (show agreeP (dnsB bad (rs.take (i + 1))) by rw [HT.out]; exact ha.out)
        have U2 := Lib.hid (show unB sd (dnsB bad (rs.take (i + 1))) = false by rw [HT.out]; exact hu.out)
        go_loopw [4] (fun v wi => v = .int .i64 0 ∧ Hid (Blk wi w.heap.size 27 #[.int .i64 bad, .slice (some ⟨g, o, none⟩) rs.length ra, .slice SA sd.length sa]) ∧ Hid (Below w.heap.size w wi)) (fun _ _ => 0)
        case atStart => exact ⟨rfl, K0, hb⟩
        case round =>
          obtain ⟨rfl, K0, hb⟩ := hrel
          have lk := K0.out.lt
          have x1 : wr.cell? ⟨w.heap.size, 1, none⟩ = some (.slice (some ⟨g, o, none⟩) rs.length ra) := K0.out.cell 1
          have x0 : wr.cell? ⟨w.heap.size, 0, none⟩ = some (.int .i64 bad) := K0.out.cell 0
          obtain ⟨g', o', hA', cb⟩ := Rd.below RR.out.1 hb.out i hlt
          cases hA'
          rw [HXE.out] at cb
          have a6 : wr.cell? ⟨g, o + i * 7 + 6, none⟩ = some (.slice xDA xdn.length xda) := cb 6 _ rfl
          clear cb
          by_cases hz : 0 < xdn.length
          · go_wp2
            go_roundw
            case rel => exact ⟨i + 1, by omega, by go_num, A2, U2, K0, hb⟩
            case measure => simp [intOf]; omega
          · go_wp2
            go_roundw
            case rel => exact ⟨i + 1, by omega, by go_num, A2, U2, K0, hb⟩
            case measure => simp [intOf]; omega
      have HT := Lib.hid (HY.out hbd)
      go_loopw [4] (fun v wi => ∃ a : Nat, a ≤ xdn.length ∧ v = .int .i64 (a : Int) ∧ Hid (unB sd (xdn.take a) = false) ∧ Hid (∀ c ∈ xdn.take a, fitsP (dnsB bad (rs.take i)) c) ∧ Hid (Blk wi w.heap.size 27 #[.int .i64 bad, .slice (some ⟨g, o, none⟩) rs.length ra, .slice SA sd.length sa]) ∧ Hid (Below w.heap.size w wi)) (fun v _ => xdn.length - (intOf v).toNat)
      case atStart => exact ⟨0, Nat.zero_le _, rfl, rfl, by intro c hc; simp at hc, K0, hb⟩
      case round =>
        clear K0 hb lk
        obtain ⟨a, hal, rfl, hu2, hx2, K0, hb⟩ := hrel
        have lk := K0.out.lt
        have x0 : wr.cell? ⟨w.heap.size, 0, none⟩ = some (.int .i64 bad) := K0.out.cell 0
        have x1 : wr.cell? ⟨w.heap.size, 1, none⟩ = some (.slice (some ⟨g, o, none⟩) rs.length ra) := K0.out.cell 1
        obtain ⟨g', o', hA', cb⟩ := Rd.below RR.out.1 hb.out i hlt
        cases hA'
        rw [HXE.out] at cb
        have a6 : wr.cell? ⟨g, o + i * 7 + 6, none⟩ = some (.slice xDA xdn.length xda) := cb 6 _ rfl
        clear cb
        by_cases hlta : a < xdn.length
        · obtain ⟨gx, ox, rfl, cc⟩ := Rd.below RX.out hb.out a hlta
          have HTK := Lib.hid (List.take_succ_eq_append_getElem hlta)
          have HCM := Lib.hid (List.getElem_mem hlta)
          obtain ⟨c, hce⟩ : ∃ c, c = xdn[a] := ⟨_, rfl⟩
          rw [← hce] at cc HTK HCM
          clear hce
          have c0 : wr.cell? ⟨gx, ox + a * 7, none⟩ = some (.int .i64 c.s) := cc 0 _ rfl
          have c1 : wr.cell? ⟨gx, ox + a * 7 + 1, none⟩ = some (.int .i64 c.v) := cc 1 _ rfl
          have c2 : wr.cell? ⟨gx, ox + a * 7 + 2, none⟩ = some (.int .i64 c.r.c) := cc 2 _ rfl
          have c3 : wr.cell? ⟨gx, ox + a * 7 + 3, none⟩ = some (.int .i64 c.r.n) := cc 3 _ rfl
          have c4 : wr.cell? ⟨gx, ox + a * 7 + 4, none⟩ = some (.int .i64 c.r.o) := cc 4 _ rfl
          have c5 : wr.cell? ⟨gx, ox + a * 7 + 5, none⟩ = some (.int .i64 c.r.x) := cc 5 _ rfl
          have c6 : wr.cell? ⟨gx, ox + a * 7 + 6, none⟩ = some (.int .i64 c.r.y) := cc 6 _ rfl
          clear cc
          have j0 : (0 : Int) ≤ (a : Int) := by omega
          have j1 : (a : Int) < (xdn.length : Int) := by omega
          have KC : Hid (Blk (wr.alloc (.cells #[.int .i64 c.s, .int .i64 c.v, .int .i64 c.r.c, .int .i64 c.r.n, .int .i64 c.r.o, .int .i64 c.r.x, .int .i64 c.r.y] 77)) wr.heap.size 77 #[.int .i64 c.s, .int .i64 c.v, .int .i64 c.r.c, .int .i64 c.r.n, .int .i64 c.r.o, .int .i64 c.r.x, .int .i64 c.r.y]) := Blk.new wr
          have K0 := Lib.hid (K0.out.alloc (.cells #[.int .i64 c.s, .int .i64 c.v, .int .i64 c.r.c, .int .i64 c.r.n, .int .i64 c.r.o, .int .i64 c.r.x, .int .i64 c.r.y] 77))
          have hb := Lib.hid (hb.out.alloc hb.out.size (.cells #[.int .i64 c.s, .int .i64 c.v, .int .i64 c.r.c, .int .i64 c.r.n, .int .i64 c.r.o, .int .i64 c.r.x, .int .i64 c.r.y] 77))
          have HD := Lib.hid (show c ∈ dnsB bad rs by rw [HSP.out, HT.out]; exact List.mem_append_left _ (List.mem_append_right _ HCM.out))
          have HNX := Lib.hid (fun (h : fitsP (dnsB bad (rs.take i)) c) (e : c ∈ xdn.take (a + 1) ∨ True) => (show ∀ d ∈ xdn.take (a + 1), fitsP (dnsB bad (rs.take i)) d by
            intro d hd
            rw [HTK.out] at hd
            rcases List.mem_append.1 hd with hd | hd
            · exact hx2.out d hd
            · rw [List.mem_singleton.1 hd]; exact h))
          go_wp2_with (fail)
          refine (l1None c.r _).mono ?_
          rintro e w2 ⟨rfl, h2⟩
          have K0 := Lib.hid (K0.out.below h2)
          have KC := Lib.hid (KC.out.below h2)
          have hb := Lib.hid (Below.and hb.out h2)
          clear h2 x0 x1 a6 c0 c1 c2 c3 c4 c5 c6
          have lc := KC.out.lt
          have lk := K0.out.lt
          have HUB : Hid (unB sd (xdn.take (a + 1)) = (!nullB c.r && !askB sd c.r)) := by
            show unB sd (xdn.take (a + 1)) = (!nullB c.r && !askB sd c.r)
            rw [HTK.out, unB_app, hu2.out]
            simp [unB]
          obtain ⟨gc, hgc⟩ : ∃ gc, gc = wr.heap.size := ⟨_, rfl⟩
          rw [← hgc] at KC lc ⊢
          clear hgc
          have x2 : w2.cell? ⟨w.heap.size, 2, none⟩ = some (.slice SA sd.length sa) := K0.out.cell 2
          have z0 : w2.cell? ⟨gc, 0, none⟩ = some (.int .i64 c.s) := KC.out.cell 0
          have z1 : w2.cell? ⟨gc, 1, none⟩ = some (.int .i64 c.v) := KC.out.cell 1
          have z2 : w2.cell? ⟨gc, 2, none⟩ = some (.int .i64 c.r.c) := KC.out.cell 2
          have z3 : w2.cell? ⟨gc, 3, none⟩ = some (.int .i64 c.r.n) := KC.out.cell 3
          have z4 : w2.cell? ⟨gc, 4, none⟩ = some (.int .i64 c.r.o) := KC.out.cell 4
          have z5 : w2.cell? ⟨gc, 5, none⟩ = some (.int .i64 c.r.x) := KC.out.cell 5
          have z6 : w2.cell? ⟨gc, 6, none⟩ = some (.int .i64 c.r.y) := KC.out.cell 6

          rcases hnu : nullB c.r with _ | _
          · go_wp2_with (fail)
            refine (l4Asked SA sa sd c.r _ N2.out (RdMs.below RM.out hb.out)).mono ?_
            rintro e w3 ⟨rfl, h3⟩
            have K0 := Lib.hid (K0.out.below h3)
            have KC := Lib.hid (KC.out.below h3)
            have hb := Lib.hid (Below.and hb.out h3)
            have lk := K0.out.lt
            have lc := KC.out.lt
            clear h3
            rcases hask : askB sd c.r with _ | _
            · have HF := Lib.hid (show RB = false by
                have h1 : unB sd (dnsB bad rs) = true := List.any_eq_true.2 ⟨c, HD.out, by rw [hnu, hask]; rfl⟩
                rw [HE.out, h1]; simp)
              go_wp2
              go_light
              go_ret
              exact ⟨ret_bool (HF.out.symm), hb.out⟩
            have HU3 := Lib.hid (show unB sd (xdn.take (a + 1)) = false by rw [HUB.out, hnu, hask]; rfl)
            clear hnu hask
            go_wp2
            clear x2 z0 z1 z2 z3 z4 z5 z6
            go_loopw [6] (fun v wk => ∃ k : Nat, k ≤ i ∧ v = .int .i64 (k : Int) ∧ Hid (fitsP (dnsB bad (rs.take k)) c) ∧ Hid (Blk wk w.heap.size 27 #[.int .i64 bad, .slice (some ⟨g, o, none⟩) rs.length ra, .slice SA sd.length sa]) ∧ Hid (Blk wk gc 77 #[.int .i64 c.s, .int .i64 c.v, .int .i64 c.r.c, .int .i64 c.r.n, .int .i64 c.r.o, .int .i64 c.r.x, .int .i64 c.r.y]) ∧ Hid (Below w.heap.size w wk)) (fun v _ => i - (intOf v).toNat)
            case atStart => exact ⟨0, Nat.zero_le _, rfl, by intro d hd; simp [dnsB] at hd, K0, KC, hb⟩
            case round =>
              clear K0 KC hb lk lc
              obtain ⟨k, hkl, rfl, hfk, K0, KC, hb⟩ := hrel
              have lk := K0.out.lt
              have lc := KC.out.lt
              by_cases hltk : k < i
              · have hlk : k < rs.length := by omega
                have ry := RR.out.2 rs[k] (List.getElem_mem hlk)
                have HLY := Lib.hid (rep_len (HV.out rs[k] (List.getElem_mem hlk)))
                have hmey := HME.out k hlk
                have HYY := Lib.hid (fun h => dnsB_yes (bad := bad) hlk h)
                have HYN := Lib.hid (fun h => dnsB_no (bad := bad) hlk h)
                have HSK := Lib.hid (dnsB_split bad rs (k + 1))
                obtain ⟨y, hye⟩ : ∃ y, rs[k] = y := ⟨_, rfl⟩
                rw [hye] at ry HLY hmey HYY HYN
                have HYE := Lib.hid hye
                clear hye
                obtain ⟨yme, yv, ylv, ynx, yTA, yta, ytk, yHA, yha, yhd, yDA, yda, ydn⟩ := y
                have hme' : yme = (k : Int) := hmey
                subst hme'
                replace HYY : Hid (((k : Int) != bad) = true → dnsB bad (rs.take (k + 1)) = dnsB bad (rs.take k) ++ ydn) := HYY
                replace HYN : Hid (((k : Int) != bad) = false → dnsB bad (rs.take (k + 1)) = dnsB bad (rs.take k)) := HYN
                have RY : Hid (RdC w yDA ydn) := ry.rdn
                have hly : ydn.length ≤ 5 := HLY.out
                clear ry hmey
                have k0 : (0 : Int) ≤ (k : Int) := by omega
                have k1 : (k : Int) < (rs.length : Int) := by omega
                have k2 : (k : Int) < (i : Int) := by omega
                go_wp2
                rcases hbk : ((k : Int) != bad) with _ | _
                · have HTY := Lib.hid (HYN.out hbk)
                  have FK := Lib.hid (show fitsP (dnsB bad (rs.take (k + 1))) c by rw [HTY.out]; exact hfk.out)
                  go_loopw [7] (fun v wb => v = .int .i64 0 ∧ Hid (Blk wb w.heap.size 27 #[.int .i64 bad, .slice (some ⟨g, o, none⟩) rs.length ra, .slice SA sd.length sa]) ∧ Hid (Blk wb gc 77 #[.int .i64 c.s, .int .i64 c.v, .int .i64 c.r.c, .int .i64 c.r.n, .int .i64 c.r.o, .int .i64 c.r.x, .int .i64 c.r.y]) ∧ Hid (Below w.heap.size w wb)) (fun _ _ => 0)
                  case atStart => exact ⟨rfl, K0, KC, hb⟩
                  case round =>
                    obtain ⟨rfl, K0, KC, hb⟩ := hrel
                    have lk := K0.out.lt
                    have x1 : wr.cell? ⟨w.heap.size, 1, none⟩ = some (.slice (some ⟨g, o, none⟩) rs.length ra) := K0.out.cell 1
                    have x0 : wr.cell? ⟨w.heap.size, 0, none⟩ = some (.int .i64 bad) := K0.out.cell 0
                    obtain ⟨g', o', hA', cb⟩ := Rd.below RR.out.1 hb.out k hlk
                    cases hA'
                    rw [HYE.out] at cb
                    have b6 : wr.cell? ⟨g, o + k * 7 + 6, none⟩ = some (.slice yDA ydn.length yda) := cb 6 _ rfl
                    clear cb
                    by_cases hz : 0 < ydn.length
                    · go_wp2
                      go_roundw
                      case rel => exact ⟨k + 1, by omega, by go_num, FK, K0, KC, hb⟩
                      case measure => simp [intOf]; omega
                    · go_wp2
                      go_roundw
                      case rel => exact ⟨k + 1, by omega, by go_num, FK, K0, KC, hb⟩
                      case measure => simp [intOf]; omega
                have HTY := Lib.hid (HYY.out hbk)
                go_loopw [7] (fun v wb => ∃ b : Nat, b ≤ ydn.length ∧ v = .int .i64 (b : Int) ∧ Hid (fitsP (ydn.take b) c) ∧ Hid (Blk wb w.heap.size 27 #[.int .i64 bad, .slice (some ⟨g, o, none⟩) rs.length ra, .slice SA sd.length sa]) ∧ Hid (Blk wb gc 77 #[.int .i64 c.s, .int .i64 c.v, .int .i64 c.r.c, .int .i64 c.r.n, .int .i64 c.r.o, .int .i64 c.r.x, .int .i64 c.r.y]) ∧ Hid (Below w.heap.size w wb)) (fun v _ => ydn.length - (intOf v).toNat)
                case atStart => exact ⟨0, Nat.zero_le _, rfl, by intro d hd; simp at hd, K0, KC, hb⟩
                case round =>
                  clear K0 KC hb lk lc
                  obtain ⟨b, hbl, rfl, hfb, K0, KC, hb⟩ := hrel
                  have lk := K0.out.lt
                  have lc := KC.out.lt
                  have x1 : wr.cell? ⟨w.heap.size, 1, none⟩ = some (.slice (some ⟨g, o, none⟩) rs.length ra) := K0.out.cell 1
                  have x0 : wr.cell? ⟨w.heap.size, 0, none⟩ = some (.int .i64 bad) := K0.out.cell 0
                  obtain ⟨g', o', hA', cb⟩ := Rd.below RR.out.1 hb.out k hlk
                  cases hA'
                  rw [HYE.out] at cb
                  have b6 : wr.cell? ⟨g, o + k * 7 + 6, none⟩ = some (.slice yDA ydn.length yda) := cb 6 _ rfl
                  clear cb
                  by_cases hltb : b < ydn.length
                  · obtain ⟨gy, oy, rfl, cc⟩ := Rd.below RY.out hb.out b hltb
                    have HTB := Lib.hid (List.take_succ_eq_append_getElem hltb)
                    have HDM := Lib.hid (List.getElem_mem hltb)
                    obtain ⟨d, hde⟩ : ∃ d, d = ydn[b] := ⟨_, rfl⟩
                    rw [← hde] at cc HTB HDM
                    clear hde
                    have d0 : wr.cell? ⟨gy, oy + b * 7, none⟩ = some (.int .i64 d.s) := cc 0 _ rfl
                    have d1 : wr.cell? ⟨gy, oy + b * 7 + 1, none⟩ = some (.int .i64 d.v) := cc 1 _ rfl
                    have d2 : wr.cell? ⟨gy, oy + b * 7 + 2, none⟩ = some (.int .i64 d.r.c) := cc 2 _ rfl
                    have d3 : wr.cell? ⟨gy, oy + b * 7 + 3, none⟩ = some (.int .i64 d.r.n) := cc 3 _ rfl
                    have d4 : wr.cell? ⟨gy, oy + b * 7 + 4, none⟩ = some (.int .i64 d.r.o) := cc 4 _ rfl
                    have d5 : wr.cell? ⟨gy, oy + b * 7 + 5, none⟩ = some (.int .i64 d.r.x) := cc 5 _ rfl
                    have d6 : wr.cell? ⟨gy, oy + b * 7 + 6, none⟩ = some (.int .i64 d.r.y) := cc 6 _ rfl
                    clear cc
                    have z0 : wr.cell? ⟨gc, 0, none⟩ = some (.int .i64 c.s) := KC.out.cell 0
                    have z1 : wr.cell? ⟨gc, 1, none⟩ = some (.int .i64 c.v) := KC.out.cell 1
                    have z2 : wr.cell? ⟨gc, 2, none⟩ = some (.int .i64 c.r.c) := KC.out.cell 2
                    have z3 : wr.cell? ⟨gc, 3, none⟩ = some (.int .i64 c.r.n) := KC.out.cell 3
                    have z4 : wr.cell? ⟨gc, 4, none⟩ = some (.int .i64 c.r.o) := KC.out.cell 4
                    have z5 : wr.cell? ⟨gc, 5, none⟩ = some (.int .i64 c.r.x) := KC.out.cell 5
                    have z6 : wr.cell? ⟨gc, 6, none⟩ = some (.int .i64 c.r.y) := KC.out.cell 6
                    have m0 : (0 : Int) ≤ (b : Int) := by omega
                    have m1 : (b : Int) < (ydn.length : Int) := by omega
                    have K0 := Lib.hid (K0.out.alloc (.cells #[.int .i64 d.s, .int .i64 d.v, .int .i64 d.r.c, .int .i64 d.r.n, .int .i64 d.r.o, .int .i64 d.r.x, .int .i64 d.r.y] 77))
                    have KC := Lib.hid (KC.out.alloc (.cells #[.int .i64 d.s, .int .i64 d.v, .int .i64 d.r.c, .int .i64 d.r.n, .int .i64 d.r.o, .int .i64 d.r.x, .int .i64 d.r.y] 77))
                    have hb := Lib.hid (hb.out.alloc hb.out.size (.cells #[.int .i64 d.s, .int .i64 d.v, .int .i64 d.r.c, .int .i64 d.r.n, .int .i64 d.r.o, .int .i64 d.r.x, .int .i64 d.r.y] 77))
                    have hq : ∀ W, (binOp .neq 69 (.agg #[.int .i64 d.r.c, .int .i64 d.r.n, .int .i64 d.r.o, .int .i64 d.r.x, .int .i64 d.r.y]) (.agg #[.int .i64 c.r.c, .int .i64 c.r.n, .int .i64 c.r.o, .int .i64 c.r.x, .int .i64 c.r.y])).run Try.prog W = .ok (.bool (!decide (d.r = c.r))) W := fun W => neqReq d.r c.r W
                    have HMD := Lib.hid (show d ∈ dnsB bad rs by rw [HSK.out, HTY.out]; exact List.mem_append_left _ (List.mem_append_right _ HDM.out))
                    have HFB := Lib.hid (fun h : d.s = c.s → d.r = c.r => (show fitsP (ydn.take (b + 1)) c by
                      rw [HTB.out]
                      exact fits_app hfb.out (fun q hq => by rw [List.mem_singleton.1 hq]; exact h)))
                    rcases es : (d.s == c.s) with _ | _
                    · have FB := Lib.hid (HFB.out (fun h => by simp [h] at es))
                      go_wp2
                      go_roundw
                      case rel => exact ⟨b + 1, by omega, by go_num, FB, K0, KC, hb⟩
                      case measure => simp [intOf]; omega
                    · rcases er : decide (d.r = c.r) with _ | _
                      · have HF := Lib.hid (show RB = false by
                          have h1 : ¬ agreeP (dnsB bad rs) := fun h => absurd (h d HMD.out c HD.out (by simpa using es)) (of_decide_eq_false er)
                          rw [HE.out, decide_eq_false h1]; rfl)
                        go_wp2
                        go_light
                        go_ret
                        exact ⟨ret_bool (HF.out.symm), hb.out⟩
                      · have FB := Lib.hid (HFB.out (fun _ => of_decide_eq_true er))
                        go_wp2
                        go_roundw
                        case rel => exact ⟨b + 1, by omega, by go_num, FB, K0, KC, hb⟩
                        case measure => simp [intOf]; omega
                  · obtain rfl : b = ydn.length := by omega
                    have h1 := hfb.out
                    rw [List.take_length] at h1
                    have FK := Lib.hid (show fitsP (dnsB bad (rs.take (k + 1))) c by rw [HTY.out]; exact fits_app hfk.out h1)
                    clear h1
                    go_wp2
                    go_roundw
                    case rel => exact ⟨k + 1, by omega, by go_num, FK, K0, KC, hb⟩
                    case measure => simp [intOf]; omega
              · obtain rfl : k = i := by omega
                have NX := Lib.hid (HNX.out hfk.out (.inr trivial))
                have k2 : ¬ (k : Int) < (k : Int) := by omega
                go_wp2
                go_roundw
                case rel => exact ⟨a + 1, by omega, by go_num, HU3.out, NX.out, K0, hb⟩
                case measure => simp [intOf]; omega
          · have HU3 := Lib.hid (show unB sd (xdn.take (a + 1)) = false by rw [HUB.out, hnu]; rfl)
            clear hnu
            go_wp2
            clear x2 z0 z1 z2 z3 z4 z5 z6
            go_loopw [6] (fun v wk => ∃ k : Nat, k ≤ i ∧ v = .int .i64 (k : Int) ∧ Hid (fitsP (dnsB bad (rs.take k)) c) ∧ Hid (Blk wk w.heap.size 27 #[.int .i64 bad, .slice (some ⟨g, o, none⟩) rs.length ra, .slice SA sd.length sa]) ∧ Hid (Blk wk gc 77 #[.int .i64 c.s, .int .i64 c.v, .int .i64 c.r.c, .int .i64 c.r.n, .int .i64 c.r.o, .int .i64 c.r.x, .int .i64 c.r.y]) ∧ Hid (Below w.heap.size w wk)) (fun v _ => i - (intOf v).toNat)
            case atStart => exact ⟨0, Nat.zero_le _, rfl, by intro d hd; simp [dnsB] at hd, K0, KC, hb⟩
            case round =>
              clear K0 KC hb lk lc
              obtain ⟨k, hkl, rfl, hfk, K0, KC, hb⟩ := hrel
              have lk := K0.out.lt
              have lc := KC.out.lt
              by_cases hltk : k < i
              · have hlk : k < rs.length := by omega
                have ry := RR.out.2 rs[k] (List.getElem_mem hlk)
                have HLY := Lib.hid (rep_len (HV.out rs[k] (List.getElem_mem hlk)))
                have hmey := HME.out k hlk
                have HYY := Lib.hid (fun h => dnsB_yes (bad := bad) hlk h)
                have HYN := Lib.hid (fun h => dnsB_no (bad := bad) hlk h)
                have HSK := Lib.hid (dnsB_split bad rs (k + 1))
                obtain ⟨y, hye⟩ : ∃ y, rs[k] = y := ⟨_, rfl⟩
                rw [hye] at ry HLY hmey HYY HYN
                have HYE := Lib.hid hye
                clear hye
                obtain ⟨yme, yv, ylv, ynx, yTA, yta, ytk, yHA, yha, yhd, yDA, yda, ydn⟩ := y
                have hme' : yme = (k : Int) := hmey
                subst hme'
                replace HYY : Hid (((k : Int) != bad) = true → dnsB bad (rs.take (k + 1)) = dnsB bad (rs.take k) ++ ydn) := HYY
                replace HYN : Hid (((k : Int) != bad) = false → dnsB bad (rs.take (k + 1)) = dnsB bad (rs.take k)) := HYN
                have RY : Hid (RdC w yDA ydn) := ry.rdn
                have hly : ydn.length ≤ 5 := HLY.out
                clear ry hmey
                have k0 : (0 : Int) ≤ (k : Int) := by omega
                have k1 : (k : Int) < (rs.length : Int) := by omega
                have k2 : (k : Int) < (i : Int) := by omega
                go_wp2
                rcases hbk : ((k : Int) != bad) with _ | _
                · have HTY := Lib.hid (HYN.out hbk)
                  have FK := Lib.hid (show fitsP (dnsB bad (rs.take (k + 1))) c by rw [HTY.out]; exact hfk.out)
                  go_loopw [7] (fun v wb => v = .int .i64 0 ∧ Hid (Blk wb w.heap.size 27 #[.int .i64 bad, .slice (some ⟨g, o, none⟩) rs.length ra, .slice SA sd.length sa]) ∧ Hid (Blk wb gc 77 #[.int .i64 c.s, .int .i64 c.v, .int .i64 c.r.c, .int .i64 c.r.n, .int .i64 c.r.o, .int .i64 c.r.x, .int .i64 c.r.y]) ∧ Hid (Below w.heap.size w wb)) (fun _ _ => 0)
                  case atStart => exact ⟨rfl, K0, KC, hb⟩
                  case round =>
                    obtain ⟨rfl, K0, KC, hb⟩ := hrel
                    have lk := K0.out.lt
                    have x1 : wr.cell? ⟨w.heap.size, 1, none⟩ = some (.slice (some ⟨g, o, none⟩) rs.length ra) := K0.out.cell 1
                    have x0 : wr.cell? ⟨w.heap.size, 0, none⟩ = some (.int .i64 bad) := K0.out.cell 0
                    obtain ⟨g', o', hA', cb⟩ := Rd.below RR.out.1 hb.out k hlk
                    cases hA'
                    rw [HYE.out] at cb
                    have b6 : wr.cell? ⟨g, o + k * 7 + 6, none⟩ = some (.slice yDA ydn.length yda) := cb 6 _ rfl
                    clear cb
                    by_cases hz : 0 < ydn.length
                    · go_wp2
                      go_roundw
                      case rel => exact ⟨k + 1, by omega, by go_num, FK, K0, KC, hb⟩
                      case measure => simp [intOf]; omega
                    · go_wp2
                      go_roundw
                      case rel => exact ⟨k + 1, by omega, by go_num, FK, K0, KC, hb⟩
                      case measure => simp [intOf]; omega
                have HTY := Lib.hid (HYY.out hbk)
                go_loopw [7] (fun v wb => ∃ b : Nat, b ≤ ydn.length ∧ v = .int .i64 (b : Int) ∧ Hid (fitsP (ydn.take b) c) ∧ Hid (Blk wb w.heap.size 27 #[.int .i64 bad, .slice (some ⟨g, o, none⟩) rs.length ra, .slice SA sd.length sa]) ∧ Hid (Blk wb gc 77 #[.int .i64 c.s, .int .i64 c.v, .int .i64 c.r.c, .int .i64 c.r.n, .int .i64 c.r.o, .int .i64 c.r.x, .int .i64 c.r.y]) ∧ Hid (Below w.heap.size w wb)) (fun v _ => ydn.length - (intOf v).toNat)
                case atStart => exact ⟨0, Nat.zero_le _, rfl, by intro d hd; simp at hd, K0, KC, hb⟩
                case round =>
                  clear K0 KC hb lk lc
                  obtain ⟨b, hbl, rfl, hfb, K0, KC, hb⟩ := hrel
                  have lk := K0.out.lt
                  have lc := KC.out.lt
                  have x1 : wr.cell? ⟨w.heap.size, 1, none⟩ = some (.slice (some ⟨g, o, none⟩) rs.length ra) := K0.out.cell 1
                  have x0 : wr.cell? ⟨w.heap.size, 0, none⟩ = some (.int .i64 bad) := K0.out.cell 0
                  obtain ⟨g', o', hA', cb⟩ := Rd.below RR.out.1 hb.out k hlk
                  cases hA'
                  rw [HYE.out] at cb
                  have b6 : wr.cell? ⟨g, o + k * 7 + 6, none⟩ = some (.slice yDA ydn.length yda) := cb 6 _ rfl
                  clear cb
                  by_cases hltb : b < ydn.length
                  · obtain ⟨gy, oy, rfl, cc⟩ := Rd.below RY.out hb.out b hltb
                    have HTB := Lib.hid (List.take_succ_eq_append_getElem hltb)
                    have HDM := Lib.hid (List.getElem_mem hltb)
                    obtain ⟨d, hde⟩ : ∃ d, d = ydn[b] := ⟨_, rfl⟩
                    rw [← hde] at cc HTB HDM
                    clear hde
                    have d0 : wr.cell? ⟨gy, oy + b * 7, none⟩ = some (.int .i64 d.s) := cc 0 _ rfl
                    have d1 : wr.cell? ⟨gy, oy + b * 7 + 1, none⟩ = some (.int .i64 d.v) := cc 1 _ rfl
                    have d2 : wr.cell? ⟨gy, oy + b * 7 + 2, none⟩ = some (.int .i64 d.r.c) := cc 2 _ rfl
                    have d3 : wr.cell? ⟨gy, oy + b * 7 + 3, none⟩ = some (.int .i64 d.r.n) := cc 3 _ rfl
                    have d4 : wr.cell? ⟨gy, oy + b * 7 + 4, none⟩ = some (.int .i64 d.r.o) := cc 4 _ rfl
                    have d5 : wr.cell? ⟨gy, oy + b * 7 + 5, none⟩ = some (.int .i64 d.r.x) := cc 5 _ rfl
                    have d6 : wr.cell? ⟨gy, oy + b * 7 + 6, none⟩ = some (.int .i64 d.r.y) := cc 6 _ rfl
                    clear cc
                    have z0 : wr.cell? ⟨gc, 0, none⟩ = some (.int .i64 c.s) := KC.out.cell 0
                    have z1 : wr.cell? ⟨gc, 1, none⟩ = some (.int .i64 c.v) := KC.out.cell 1
                    have z2 : wr.cell? ⟨gc, 2, none⟩ = some (.int .i64 c.r.c) := KC.out.cell 2
                    have z3 : wr.cell? ⟨gc, 3, none⟩ = some (.int .i64 c.r.n) := KC.out.cell 3
                    have z4 : wr.cell? ⟨gc, 4, none⟩ = some (.int .i64 c.r.o) := KC.out.cell 4
                    have z5 : wr.cell? ⟨gc, 5, none⟩ = some (.int .i64 c.r.x) := KC.out.cell 5
                    have z6 : wr.cell? ⟨gc, 6, none⟩ = some (.int .i64 c.r.y) := KC.out.cell 6
                    have m0 : (0 : Int) ≤ (b : Int) := by omega
                    have m1 : (b : Int) < (ydn.length : Int) := by omega
                    have K0 := Lib.hid (K0.out.alloc (.cells #[.int .i64 d.s, .int .i64 d.v, .int .i64 d.r.c, .int .i64 d.r.n, .int .i64 d.r.o, .int .i64 d.r.x, .int .i64 d.r.y] 77))
                    have KC := Lib.hid (KC.out.alloc (.cells #[.int .i64 d.s, .int .i64 d.v, .int .i64 d.r.c, .int .i64 d.r.n, .int .i64 d.r.o, .int .i64 d.r.x, .int .i64 d.r.y] 77))
                    have hb := Lib.hid (hb.out.alloc hb.out.size (.cells #[.int .i64 d.s, .int .i64 d.v, .int .i64 d.r.c, .int .i64 d.r.n, .int .i64 d.r.o, .int .i64 d.r.x, .int .i64 d.r.y] 77))
                    have hq : ∀ W, (binOp .neq 69 (.agg #[.int .i64 d.r.c, .int .i64 d.r.n, .int .i64 d.r.o, .int .i64 d.r.x, .int .i64 d.r.y]) (.agg #[.int .i64 c.r.c, .int .i64 c.r.n, .int .i64 c.r.o, .int .i64 c.r.x, .int .i64 c.r.y])).run Try.prog W = .ok (.bool (!decide (d.r = c.r))) W := fun W => neqReq d.r c.r W
                    have HMD := Lib.hid (show d ∈ dnsB bad rs by rw [HSK.out, HTY.out]; exact List.mem_append_left _ (List.mem_append_right _ HDM.out))
                    have HFB := Lib.hid (fun h : d.s = c.s → d.r = c.r => (show fitsP (ydn.take (b + 1)) c by
                      rw [HTB.out]
                      exact fits_app hfb.out (fun q hq => by rw [List.mem_singleton.1 hq]; exact h)))
                    rcases es : (d.s == c.s) with _ | _
                    · have FB := Lib.hid (HFB.out (fun h => by simp [h] at es))
                      go_wp2
                      go_roundw
                      case rel => exact ⟨b + 1, by omega, by go_num, FB, K0, KC, hb⟩
                      case measure => simp [intOf]; omega
                    · rcases er : decide (d.r = c.r) with _ | _
                      · have HF := Lib.hid (show RB = false by
                          have h1 : ¬ agreeP (dnsB bad rs) := fun h => absurd (h d HMD.out c HD.out (by simpa using es)) (of_decide_eq_false er)
                          rw [HE.out, decide_eq_false h1]; rfl)
                        go_wp2
                        go_light
                        go_ret
                        exact ⟨ret_bool (HF.out.symm), hb.out⟩
                      · have FB := Lib.hid (HFB.out (fun _ => of_decide_eq_true er))
                        go_wp2
                        go_roundw
                        case rel => exact ⟨b + 1, by omega, by go_num, FB, K0, KC, hb⟩
                        case measure => simp [intOf]; omega
                  · obtain rfl : b = ydn.length := by omega
                    have h1 := hfb.out
                    rw [List.take_length] at h1
                    have FK := Lib.hid (show fitsP (dnsB bad (rs.take (k + 1))) c by rw [HTY.out]; exact fits_app hfk.out h1)
                    clear h1
                    go_wp2
                    go_roundw
                    case rel => exact ⟨k + 1, by omega, by go_num, FK, K0, KC, hb⟩
                    case measure => simp [intOf]; omega
              · obtain rfl : k = i := by omega
                have NX := Lib.hid (HNX.out hfk.out (.inr trivial))
                have k2 : ¬ (k : Int) < (k : Int) := by omega
                go_wp2
                go_roundw
                case rel => exact ⟨a + 1, by omega, by go_num, HU3.out, NX.out, K0, hb⟩
                case measure => simp [intOf]; omega
        · obtain rfl : a = xdn.length := by omega
          have h1 := hu2.out
          have h2 := hx2.out
          rw [List.take_length] at h1 h2
          have A2 := Lib.hid (show agreeP (dnsB bad (rs.take (i + 1))) by rw [HT.out]; exact agree_app ha.out HOX.out h2)
          have U2 := Lib.hid (show unB sd (dnsB bad (rs.take (i + 1))) = false by rw [HT.out, unB_app, hu.out, h1]; rfl)
          clear h1 h2
          go_wp2
          go_roundw
          case rel => exact ⟨i + 1, by omega, by go_num, A2, U2, K0, hb⟩
          case measure => simp [intOf]; omega
    · obtain rfl : i = rs.length := by omega
      have h1 := ha.out
      have h2 := hu.out
      rw [List.take_length] at h1 h2
      have HF := Lib.hid (show RB = true by rw [HE.out, decide_eq_true h1, h2]; rfl)
      have x1 : wr.cell? ⟨w.heap.size, 1, none⟩ = some (.slice RA rs.length ra) := K0.out.cell 1
      clear h1 h2
      go_wp2
      go_light
      go_ret
      exact ⟨ret_bool (HF.out.symm), hb.out⟩

set_option maxRecDepth 100000 in
set_option maxHeartbeats 2000000 in
theorem specWorldAgree (r : WdP) (w : World) (hr : r.rd w) (hs : ∀ p ∈ r.rs, ∀ q ∈ p.hd, q.cl.length ≤ 1048576 ∧ q.vt.length ≤ 1048576) (hm : ∀ q ∈ r.sd, q.cl.length ≤ 1048576 ∧ q.vt.length ≤ 1048576) :
    Calls Try.prog 19 #[r.val] w fun e w' => e = .returned (.bool (agB r)) ∧ Below w.heap.size w w' := by
  have BW : Hid (Below w.heap.size w (w.alloc (.cells #[.int .i64 r.bad, .slice r.RA r.rs.length r.ra, .slice r.SA r.sd.length r.sa] 27))) := (Below.refl _ _).alloc (Nat.le_refl _) _
  have K0 : Hid (Blk (w.alloc (.cells #[.int .i64 r.bad, .slice r.RA r.rs.length r.ra, .slice r.SA r.sd.length r.sa] 27)) w.heap.size 27 #[.int .i64 r.bad, .slice r.RA r.rs.length r.ra, .slice r.SA r.sd.length r.sa]) := Blk.new w
  have HR := Lib.hid (hr.below BW.out)
  have HS := Lib.hid hs
  have HM := Lib.hid hm
  clear hr hs hm
  go_enter Try.func19, Try.ntmps19
  go_wp2_with (fail)
  refine (l6Ok r _ HR.out HS.out HM.out).mono ?_
  rintro e w1 ⟨rfl, hb⟩
  have BW := Lib.hid (Below.and BW.out hb)
  have K0 := Lib.hid (K0.out.below hb)
  have HR := Lib.hid (HR.out.below hb)
  clear hb
  rcases hq : wdB r with _ | _
  · have HN := Lib.hid (show agB r = false by unfold agB; rw [hq]; rfl)
    go_wp2
    go_light
    go_ret
    exact ⟨ret_bool (HN.out.symm), BW.out⟩
  have HQ := Lib.hid hq
  have HN := Lib.hid (show agB r = (decide (agreeP (dnsB r.bad r.rs)) && !unB r.sd (dnsB r.bad r.rs)) by unfold agB; rw [hq]; rfl)
  clear hq
  have x0 : w1.cell? ⟨w.heap.size, 0, none⟩ = some (.int .i64 r.bad) := K0.out.cell 0
  have x1 : w1.cell? ⟨w.heap.size, 1, none⟩ = some (.slice r.RA r.rs.length r.ra) := K0.out.cell 1
  have x2 : w1.cell? ⟨w.heap.size, 2, none⟩ = some (.slice r.SA r.sd.length r.sa) := K0.out.cell 2
  go_wp2_with (fail)
  refine (l6Agree r _ HR.out HQ.out).mono ?_
  rintro e w2 ⟨rfl, hb⟩
  have BW := Lib.hid (Below.and BW.out hb)
  clear hb x0 x1 x2
  rw [← HN.out]
  go_wp2
  go_light
  go_ret
  exact ⟨ret_bool (rfl), BW.out⟩

theorem unB_congr {P Q : List MgP} (h : P.map MgP.mg = Q.map MgP.mg) (l : List Cl) : unB P l = unB Q l := by
  have h1 : ∀ r, askB P r = askB Q r := by
    intro r
    unfold askB hasB
    have : ∀ R : List MgP, (R.any fun x => decide (x.mg = (askM r).mg)) = ((R.map MgP.mg).any fun m => decide (m = (askM r).mg)) := by
      intro R
      rw [List.any_map]
      rfl
    rw [this, this, h]
  unfold unB
  simp only [h1]
theorem dns_congr {P Q : List RpP} (h : P.map RpP.rp = Q.map RpP.rp) (bad : Int) : dnsB bad P = dnsB bad Q := by
  have : ∀ R : List RpP, dnsB bad R = ((R.map RpP.rp).filter fun r => r.me != bad).flatMap Rp.dn := by
    intro R
    unfold dnsB
    rw [List.filter_map, List.flatMap_map]
    rfl
  rw [this, this, h]
theorem agB_congr {p q : WdP} (h : p.wd = q.wd) : agB p = agB q := by
  have hw := wdB_congr h
  simp only [WdP.wd, Wd.mk.injEq] at h
  obtain ⟨h1, h2, h3⟩ := h
  unfold agB
  rw [hw, h1, dns_congr h2, unB_congr h3]

set_option maxRecDepth 100000 in
set_option maxHeartbeats 4000000 in
theorem exactWorldAgree (r : WdP) (w : World) (hr : r.rd w) :
    Calls Try.prog 6 #[r.val] w fun e w' => e = .returned (.bool true) ∧ Below w.heap.size w w' := by
  have BW : Hid (Below w.heap.size w (w.alloc (.cells #[.int .i64 r.bad, .slice r.RA r.rs.length r.ra, .slice r.SA r.sd.length r.sa] 35))) := (Below.refl _ _).alloc (Nat.le_refl _) _
  have KR : Hid (Blk (w.alloc (.cells #[.int .i64 r.bad, .slice r.RA r.rs.length r.ra, .slice r.SA r.sd.length r.sa] 35)) w.heap.size 35 #[.int .i64 r.bad, .slice r.RA r.rs.length r.ra, .slice r.SA r.sd.length r.sa]) := Blk.new w
  have RR := Lib.hid (hr.below BW.out)
  clear hr
  go_enter Try.func6, Try.ntmps6
  go_wp2_with (fail)
  refine (szWorld r 1048576 _ RR.out (by omega) (by omega)).mono ?_
  rintro e w1 ⟨rfl, hb⟩
  have BW := Lib.hid (Below.and BW.out hb)
  have KR := Lib.hid (KR.out.below hb)
  have RR := Lib.hid (RR.out.below hb)
  clear hb
  by_cases hz : szR 1048576 r.sz < 0
  · generalize szR 1048576 r.sz = z at hz
    go_wp2
    go_light
    go_ret
    exact ⟨rfl, BW.out⟩
  obtain ⟨sp0, sp1⟩ := szR_neg (by omega) hz
  have SZ : Hid (r.sz ≤ 1048576) := by show r.sz ≤ 1048576; omega
  rw [sp1]
  have nz : ¬ 1048576 - (r.sz : Int) < 0 := by omega
  clear hz sp1 sp0
  have y0 : w1.cell? ⟨w.heap.size, 0, none⟩ = some (.int .i64 r.bad) := KR.out.cell 0
  have y1 : w1.cell? ⟨w.heap.size, 1, none⟩ = some (.slice r.RA r.rs.length r.ra) := KR.out.cell 1
  have y2 : w1.cell? ⟨w.heap.size, 2, none⟩ = some (.slice r.SA r.sd.length r.sa) := KR.out.cell 2
  go_wp2_with (fail)
  refine (toWorld r _ RR.out SZ.out).mono ?_
  rintro e w2 ⟨Q, rfl, hm, ho, hb⟩
  have HD := Lib.hid (agB_congr hm)
  have HB := Lib.hid (wd_bd hm SZ.out)
  have OQ := Lib.hid ho
  have BW := Lib.hid (Below.and BW.out hb)
  have KR := Lib.hid (KR.out.below hb)
  have RR := Lib.hid (RR.out.below hb)
  clear hb hm ho nz
  clear y0 y1 y2
  go_wp2_with (fail)
  refine (specWorldAgree Q _ OQ.out.rd HB.out.1 HB.out.2).mono ?_
  rintro e w3 ⟨he, hb⟩
  obtain rfl := he.trans (ret_bool HD.out)
  have BW := Lib.hid (Below.and BW.out hb)
  have KR := Lib.hid (KR.out.below hb)
  have RR := Lib.hid (RR.out.below hb)
  clear hb he
  generalize hq : agB r = D
  have HQ := Lib.hid hq
  clear hq HD HB OQ
  have y0 : w3.cell? ⟨w.heap.size, 0, none⟩ = some (.int .i64 r.bad) := KR.out.cell 0
  have y1 : w3.cell? ⟨w.heap.size, 1, none⟩ = some (.slice r.RA r.rs.length r.ra) := KR.out.cell 1
  have y2 : w3.cell? ⟨w.heap.size, 2, none⟩ = some (.slice r.SA r.sd.length r.sa) := KR.out.cell 2
  go_wp2_with (fail)
  refine (toWorld r _ RR.out SZ.out).mono ?_
  rintro e w4 ⟨X, rfl, hm, ho, hb⟩
  have MX := Lib.hid hm
  have HD := Lib.hid ((agB_congr hm).trans HQ.out)
  have OX := Lib.hid (ho.below ((Below.refl _ _).alloc (Nat.le_refl _) (.cells #[.int .i64 X.bad, .slice X.RA X.rs.length X.ra, .slice X.SA X.sd.length X.sa] 27)))
  have BW := Lib.hid ((Below.and BW.out hb).alloc (Below.and BW.out hb).size (.cells #[.int .i64 X.bad, .slice X.RA X.rs.length X.ra, .slice X.SA X.sd.length X.sa] 27))
  have KR := Lib.hid ((KR.out.below hb).alloc (.cells #[.int .i64 X.bad, .slice X.RA X.rs.length X.ra, .slice X.SA X.sd.length X.sa] 27))
  have RR := Lib.hid ((RR.out.below hb).below ((Below.refl _ _).alloc (Nat.le_refl _) (.cells #[.int .i64 X.bad, .slice X.RA X.rs.length X.ra, .slice X.SA X.sd.length X.sa] 27)))
  have KX : Hid (Blk (w4.alloc (.cells #[.int .i64 X.bad, .slice X.RA X.rs.length X.ra, .slice X.SA X.sd.length X.sa] 27)) w4.heap.size 27 #[.int .i64 X.bad, .slice X.RA X.rs.length X.ra, .slice X.SA X.sd.length X.sa]) := Blk.new w4
  clear hb hm ho
  clear y0 y1 y2
  go_wp2_with (fail)
  refine (implWorldAgree X _ OX.out.rd).mono ?_
  rintro e w5 ⟨he, hb⟩
  obtain rfl := he.trans (ret_bool HD.out)
  have BW := Lib.hid (Below.and BW.out hb)
  have KR := Lib.hid (KR.out.below hb)
  have KX := Lib.hid (KX.out.below hb)
  have RR := Lib.hid (RR.out.below hb)
  have OX := Lib.hid (OX.out.below hb)
  clear hb he
  have bb : (!(D == D)) = false := by simp
  have bc : (D != D) = false := by simp
  have lp := KR.out.lt
  have lq := KX.out.lt
  have x0 : w5.cell? ⟨w4.heap.size, 0, none⟩ = some (.int .i64 X.bad) := KX.out.cell 0
  have x1 : w5.cell? ⟨w4.heap.size, 1, none⟩ = some (.slice X.RA X.rs.length X.ra) := KX.out.cell 1
  have x2 : w5.cell? ⟨w4.heap.size, 2, none⟩ = some (.slice X.SA X.sd.length X.sa) := KX.out.cell 2
  have y0 : w5.cell? ⟨w.heap.size, 0, none⟩ = some (.int .i64 r.bad) := KR.out.cell 0
  have y1 : w5.cell? ⟨w.heap.size, 1, none⟩ = some (.slice r.RA r.rs.length r.ra) := KR.out.cell 1
  have y2 : w5.cell? ⟨w.heap.size, 2, none⟩ = some (.slice r.SA r.sd.length r.sa) := KR.out.cell 2
  go_wp2_with (fail)
  refine wp_region_held_drew (S := fun w1 => Below w5.heap.size w5 w1) (by kernel_rfl) ((Below.refl _ _).drew) (fun hq => ?_)
  refine takeD 0 22 (v := ?_) rfl rfl (by kernel_rfl) (by kernel_rfl) (by kernel_rfl) (fun _ _ _ h => h) (Or.inl ⟨by rfl, ?_⟩) (by assumption) ?_
  rotate_left
  · intro w1 hSw; obtain ⟨hcS, hfS⟩ := bcell hSw; go_simp; (try with_reducible rfl)
  (try simp only [Act.put, List.setIfInBounds_toArray, List.set_cons_zero, List.set_cons_succ])
  refine takeD 1 23 (v := ?_) rfl rfl (by kernel_rfl) (by kernel_rfl) (by kernel_rfl) (fun _ _ _ h => h) (Or.inl ⟨by rfl, ?_⟩) (by assumption) ?_
  rotate_left
  · intro w1 hSw; obtain ⟨hcS, hfS⟩ := bcell hSw; go_simp; (try with_reducible rfl)
  (try simp only [Act.put, List.setIfInBounds_toArray, List.set_cons_zero, List.set_cons_succ])
  refine wpAnyH_ready (rs := [2]) (by kernel_rfl) (by simp) ?_
  refine AllReadyH.cons rfl (fun K hK => ?_) AllReadyH.nil
  go_simp
  refine (toWorld r _ (RR.out.below hq) SZ.out).mono ?_
  rintro e w6 ⟨Q2, rfl, hm2, ho2, hb⟩
  refine hK.out _ _ (Below.and hq hb) (fun hq2 => ?_)
  clear hK K
  (try simp only [Act.put, List.setIfInBounds_toArray, List.set_cons_zero, List.set_cons_succ])
  refine wpAnyH_ready (rs := [3]) (by kernel_rfl) (by simp) ?_
  refine AllReadyH.cons rfl (fun K hK => ?_) AllReadyH.nil
  go_simp
  refine (eqWorld X Q2 _ ((OX.out.below hq2).rd) (ho2.rd)).mono ?_
  rintro e w7 ⟨he, hb⟩
  obtain rfl := he.trans (ret_bool (show decide (X.wd = Q2.wd) = true by rw [MX.out, hm2]; exact decide_eq_true rfl))
  refine hK.out _ _ (Below.and hq2 hb) (fun hq3 => ?_)
  clear hK K
  (try simp only [Act.put, List.setIfInBounds_toArray, List.set_cons_zero, List.set_cons_succ])
  refine takeD 4 26 (v := ?_) rfl rfl (by kernel_rfl) (by kernel_rfl) (by kernel_rfl) (fun _ _ _ h => h) (Or.inl ⟨by rfl, ?_⟩) (by assumption) ?_
  rotate_left
  · intro w1 hSw; obtain ⟨hcS, hfS⟩ := bcell hSw; go_simp; (try with_reducible rfl)
  (try simp only [Act.put, List.setIfInBounds_toArray, List.set_cons_zero, List.set_cons_succ])
  refine wpAnyH_done (by kernel_rfl) ?_ _
  have BW := Lib.hid (Below.and BW.out hq3)
  go_wp2
  go_light
  go_ret
  exact ⟨rfl, BW.out⟩

end Go.Proofs.Ytfelhnchnaggmaa
