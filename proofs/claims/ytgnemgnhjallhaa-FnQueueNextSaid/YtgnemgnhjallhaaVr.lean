/- Things as they come: both ways; the exact law of QueueSort, walked. -/
import Derived.Test.YtgnemgnhjallhaaVq
namespace Go.Proofs.Ytgnemgnhjallhaa
open Go.ChangeShapes Go.WideShapes Go.ChangeAt Go.RowKit
set_option linter.unusedVariables false
set_option linter.unusedSimpArgs false

def sortS : List Tm → List Tm → Option (List Tm)
  | [], q => some q
  | x :: l, q => if (addQ q x).2 = true then sortS l (addQ q x).1 else none
def sortE : Option (List Tm) → List Tm
  | none => []
  | some q => (tillQ q 999).2
def sortQ (L : List Tm) : List Tm := sortE (sortS L [])
def DoS (X : List Tm) (w : World) (e : Ending) (w' : World) : Prop := ∃ A a, e = .returned (.slice A X.length a) ∧ OwT w' w.heap.size A a X ∧ Below w.heap.size w w'
theorem sortS_len : ∀ (L q r : List Tm), sortS L q = some r → r.length ≤ L.length + q.length := by
  intro L
  induction L with
  | nil =>
    intro q r h
    simp only [sortS, Option.some.injEq] at h
    subst h
    simp
  | cons x L ih =>
    intro q r h
    simp only [sortS] at h
    split at h
    · have := ih _ _ h
      have := addQ_len q x
      simp only [List.length_cons]
      omega
    · cases h
theorem sortQ_len (L : List Tm) : (sortQ L).length ≤ L.length := by
  unfold sortQ
  rcases h : sortS L [] with _ | q
  · simp [sortE]
  · have h1 := sortS_len L [] q h
    have h2 := (tillQ_len q 999).2
    simp only [sortE]
    simp at h1
    omega

set_option maxRecDepth 100000 in
set_option maxHeartbeats 4000000 in
theorem implQueueSort (A : Option Addr) (a : Nat) (L : List Tm) (w : World) (hL : L.length ≤ 1048576) (h : RdT w A a L) :
    Calls Try.prog 26 #[.slice A L.length a] w (DoS (sortQ L) w) := by
  have HR := Lib.hid h
  have Z : Hid (Below w.heap.size w w) := Below.refl _ _
  have OQ0 : Hid (OwT w w.heap.size none 0 []) := OwT.nil _ _
  clear h
  go_enter Try.func26, Try.ntmps26
  go_wp2
  go_loopw [3, 12] (fun u v wr => ∃ (j : Nat) (q : List Tm) (B : Option Addr) (b : Nat), u = .slice B q.length b ∧ v = .int .i64 (j : Int) ∧ j ≤ L.length ∧ q.length ≤ j ∧ Hid (sortS (L.drop j) q = sortS L []) ∧ Hid (OwT wr w.heap.size B b q) ∧ Hid (Below w.heap.size w wr)) (fun _ v _ => L.length - (intOf v).toNat)
  case atStart => exact ⟨0, [], none, 0, rfl, rfl, Nat.zero_le _, Nat.le_refl _, rfl, OQ0.out, Z.out⟩
  case round =>
    clear OQ0 Z
    obtain ⟨j, q, B, b, rfl, rfl, hj, hqj, HS, OQ, Z⟩ := hrel
    by_cases hlt : j < L.length
    · obtain ⟨g, o, hgo, xc⟩ := Rd.below HR.out.r Z.out j hlt
      subst hgo
      have HD := Lib.hid (List.drop_eq_getElem_cons hlt)
      generalize L[j] = x at xc HD
      have x0 : wr.cell? ⟨g, o + j * 3, none⟩ = some (.int .i64 x.a) := xc 0 _ rfl
      have x1 : wr.cell? ⟨g, o + j * 3 + 1, none⟩ = some (.int .i64 x.f) := xc 1 _ rfl
      have x2 : wr.cell? ⟨g, o + j * 3 + 2, none⟩ = some (.int .i64 x.n) := xc 2 _ rfl
      have lg : g < wr.heap.size := World.block_lt_of_cell? wr _ x0
      have i0 : (0 : Int) ≤ (j : Int) := by omega
      have i1 : (j : Int) < (L.length : Int) := by omega
      obtain ⟨⟨r, u⟩, hY⟩ : ∃ Y, addQ q x = Y := ⟨_, rfl⟩
      have HY := Lib.hid hY
      have HRL := Lib.hid (show r.length ≤ q.length + 1 by have := addQ_len q x; rw [hY] at this; exact this)
      have AD := Lib.hid (fun wx hx => implQueueAdd B b q x wx (by omega) hx)
      rw [hY] at AD
      clear xc hY
      have hba : Below wr.heap.size wr (wr.alloc (.cells (tmCs x) 25)) := (Below.refl _ _).alloc (Nat.le_refl _) _
      have KX : Hid (Bkk (wr.alloc (.cells (tmCs x) 25)) wr.heap.size 25 (tmCs x)) := Bkk.new _
      replace OQ := Lib.hid (OQ.out.below hba)
      replace Z := Lib.hid (Below.and Z.out hba)
      clear hba
      go_upto_region 5 with (fail)
      obtain ⟨xb, hxb⟩ : ∃ X, X = wr.heap.size := ⟨_, rfl⟩
      obtain ⟨wx, hwx⟩ : ∃ X, X = wr.alloc (.cells (tmCs x) 25) := ⟨_, rfl⟩
      rw [← hwx] at OQ Z KX ⊢
      rw [← hxb] at KX ⊢
      clear hwx hxb x0 x1 x2 lg
      have x0 : wx.cell? ⟨xb, 0, none⟩ = some (.int .i64 x.a) := KX.out.cell 0
      have x1 : wx.cell? ⟨xb, 1, none⟩ = some (.int .i64 x.f) := KX.out.cell 1
      have x2 : wx.cell? ⟨xb, 2, none⟩ = some (.int .i64 x.n) := KX.out.cell 2
      have lx := KX.out.lt
      go_wp2_with (fail)
      refine (AD.out _ OQ.out.rdT).mono ?_
      rintro e w2 ⟨B2, b2, rfl, o2, hb⟩
      have LW := Lib.hid (show w.heap.size ≤ wx.heap.size from Z.out.size)
      have OQ2 := Lib.hid (o2.base LW.out)
      replace Z := Lib.hid (Below.and Z.out hb)
      clear o2 hb OQ AD LW
      clear x0 x1 x2 lx KX
      rcases u with _ | _
      · have HE := Lib.hid (show sortQ L = [] by
          unfold sortQ
          rw [← HS.out, HD.out]
          simp only [sortS, HY.out]
          rfl)
        clear HS HD HY
        go_wp2
        go_light
        go_ret
        rw [HE.out]
        exact ⟨none, 0, rfl, OwT.nil _ _, Z.out⟩
      · have HS2 := Lib.hid (show sortS (L.drop (j + 1)) r = sortS L [] by
          rw [← HS.out, HD.out]
          simp only [sortS, HY.out]
          rfl)
        have hrl := HRL.out
        clear HS HD HY HRL
        go_wp2
        go_roundw
        case rel => exact ⟨j + 1, r, B2, b2, rfl, by go_num, by omega, by omega, HS2.out, OQ2.out, Z.out⟩
        case measure => (simp [intOf]; try omega)
    · have i1 : ¬ (j : Int) < (L.length : Int) := by omega
      obtain rfl : j = L.length := by omega
      have HE := Lib.hid (show sortQ L = (tillQ q 999).2 by
        unfold sortQ
        rw [← HS.out, List.drop_length]
        rfl)
      have TL := Lib.hid (fun wx hx => implQueueTill B b q 999 wx (by omega) hx)
      obtain ⟨⟨X, D⟩, hY⟩ : ∃ Y, tillQ q 999 = Y := ⟨_, rfl⟩
      rw [hY] at HE TL
      clear HS hY
      go_wp2_with (fail)
      refine (TL.out _ OQ.out.rdT).mono ?_
      rintro e w2 ⟨A2, a2, B2, b2, rfl, o2, hb⟩
      have LW := Lib.hid (show w.heap.size ≤ wr.heap.size from Z.out.size)
      have OD := Lib.hid (o2.d.base LW.out)
      replace Z := Lib.hid (Below.and Z.out hb)
      clear o2 hb OQ TL LW
      go_wp2
      go_light
      go_ret
      rw [HE.out]
      exact ⟨B2, b2, rfl, OD.out, Z.out⟩

set_option maxRecDepth 100000 in
set_option maxHeartbeats 4000000 in
theorem specQueueSort (A : Option Addr) (a : Nat) (L : List Tm) (w : World) (hL : L.length ≤ 1048576) (h : RdT w A a L) :
    Calls Try.prog 27 #[.slice A L.length a] w (DoS (sortQ L) w) := by
  have HR := Lib.hid h
  have Z : Hid (Below w.heap.size w (w.alloc (.cells #[] 25))) := (Below.refl _ _).alloc (Nat.le_refl _) _
  have OQ0 : Hid (OwT (w.alloc (.cells #[] 25)) w.heap.size (some ⟨w.heap.size, 0, none⟩) 0 []) := own_nil_newH w 25 3 rfl
  clear h
  go_enter Try.func27, Try.ntmps27
  go_wp2
  go_loopw [3, 4] (fun u v wr => ∃ (j : Nat) (q : List Tm) (B : Option Addr) (b : Nat), u = .slice B q.length b ∧ v = .int .i64 (j : Int) ∧ j ≤ L.length ∧ q.length ≤ j ∧ Hid (sortS (L.drop j) q = sortS L []) ∧ Hid (OwT wr w.heap.size B b q) ∧ Hid (Below w.heap.size w wr)) (fun _ v _ => L.length - (intOf v).toNat)
  case atStart => exact ⟨0, [], _, 0, rfl, rfl, Nat.zero_le _, Nat.le_refl _, rfl, OQ0.out, Z.out⟩
  case round =>
    clear OQ0 Z
    obtain ⟨j, q, B, b, rfl, rfl, hj, hqj, HS, OQ, Z⟩ := hrel
    by_cases hlt : j < L.length
    · obtain ⟨g, o, hgo, xc⟩ := Rd.below HR.out.r Z.out j hlt
      subst hgo
      have HD := Lib.hid (List.drop_eq_getElem_cons hlt)
      generalize L[j] = x at xc HD
      have x0 : wr.cell? ⟨g, o + j * 3, none⟩ = some (.int .i64 x.a) := xc 0 _ rfl
      have x1 : wr.cell? ⟨g, o + j * 3 + 1, none⟩ = some (.int .i64 x.f) := xc 1 _ rfl
      have x2 : wr.cell? ⟨g, o + j * 3 + 2, none⟩ = some (.int .i64 x.n) := xc 2 _ rfl
      have lg : g < wr.heap.size := World.block_lt_of_cell? wr _ x0
      have i0 : (0 : Int) ≤ (j : Int) := by omega
      have i1 : (j : Int) < (L.length : Int) := by omega
      obtain ⟨⟨r, u⟩, hY⟩ : ∃ Y, addQ q x = Y := ⟨_, rfl⟩
      have HY := Lib.hid hY
      have HRL := Lib.hid (show r.length ≤ q.length + 1 by have := addQ_len q x; rw [hY] at this; exact this)
      have AD := Lib.hid (fun wx hx => specQueueAdd B b q x wx (by omega) hx)
      rw [hY] at AD
      clear xc hY
      go_wp2_with (fail)
      refine (AD.out _ OQ.out.rdT).mono ?_
      rintro e w2 ⟨B2, b2, rfl, o2, hb⟩
      have LW := Lib.hid (show w.heap.size ≤ wr.heap.size from Z.out.size)
      have OQ2 := Lib.hid (o2.base LW.out)
      replace Z := Lib.hid (Below.and Z.out hb)
      clear o2 hb OQ AD LW
      clear x0 x1 x2 lg
      rcases u with _ | _
      · have HE := Lib.hid (show sortQ L = [] by
          unfold sortQ
          rw [← HS.out, HD.out]
          simp only [sortS, HY.out]
          rfl)
        clear HS HD HY
        go_wp2
        go_light
        go_ret
        rw [HE.out]
        exact ⟨none, 0, rfl, OwT.nil _ _, Z.out⟩
      · have HS2 := Lib.hid (show sortS (L.drop (j + 1)) r = sortS L [] by
          rw [← HS.out, HD.out]
          simp only [sortS, HY.out]
          rfl)
        have hrl := HRL.out
        clear HS HD HY HRL
        go_wp2
        go_roundw
        case rel => exact ⟨j + 1, r, B2, b2, rfl, by go_num, by omega, by omega, HS2.out, OQ2.out, Z.out⟩
        case measure => (simp [intOf]; try omega)
    · have i1 : ¬ (j : Int) < (L.length : Int) := by omega
      obtain rfl : j = L.length := by omega
      have HE := Lib.hid (show sortQ L = (tillQ q 999).2 by
        unfold sortQ
        rw [← HS.out, List.drop_length]
        rfl)
      have TL := Lib.hid (fun wx hx => specQueueTill B b q 999 wx (by omega) hx)
      obtain ⟨⟨X, D⟩, hY⟩ : ∃ Y, tillQ q 999 = Y := ⟨_, rfl⟩
      rw [hY] at HE TL
      clear HS hY
      go_wp2_with (fail)
      refine (TL.out _ OQ.out.rdT).mono ?_
      rintro e w2 ⟨A2, a2, B2, b2, rfl, o2, hb⟩
      have LW := Lib.hid (show w.heap.size ≤ wr.heap.size from Z.out.size)
      have OD := Lib.hid (o2.d.base LW.out)
      replace Z := Lib.hid (Below.and Z.out hb)
      clear o2 hb OQ TL LW
      go_wp2
      go_light
      go_ret
      rw [HE.out]
      exact ⟨B2, b2, rfl, OD.out, Z.out⟩

set_option maxRecDepth 100000 in
set_option maxHeartbeats 8000000 in
theorem exactQueueSort (A : Option Addr) (a : Nat) (L : List Tm) (w : World) (mL : L.length ≤ maxLen) (rL : Rd 3 Tm.cells w A L) :
    Calls Try.prog 11 #[.slice A L.length a] w fun e w' => e = .returned (.bool true) ∧ Below w.heap.size w w' := by
  have HL := Lib.hid rL
  have Z : Hid (Below w.heap.size w w) := Below.refl _ _
  clear rL
  go_enter Try.func11, Try.ntmps11
  go_wp2_with (fail)
  refine (szTimedS_at A L.length a _ mL).mono ?_
  rintro e w1 ⟨rfl, rfl⟩
  by_cases hs : (1048576 : Int) - L.length < 0
  · rw [if_pos hs]
    go_wp2
    go_light
    go_ret
    exact ⟨rfl, Z.out⟩
  rw [if_neg hs]
  have hL : L.length ≤ 1048576 := by omega
  have e0 : decide ((1048576 : Int) - (L.length : Int) < 0) = false := by simp; omega
  obtain ⟨R, hX⟩ : ∃ Y, Y = sortQ L := ⟨_, rfl⟩
  have HRL : Hid (R.length ≤ L.length) := by have := sortQ_len L; rw [← hX] at this; exact this
  have HS : Hid (∀ (wx : World) (A' : Option Addr), RdT wx A' L.length L → Calls Try.prog 27 #[.slice A' L.length L.length] wx (DoS R wx)) := fun wx A' h => by rw [hX]; exact specQueueSort A' L.length L wx (by omega) h
  have HI : Hid (∀ (wx : World) (A' : Option Addr), RdT wx A' L.length L → Calls Try.prog 26 #[.slice A' L.length L.length] wx (DoS R wx)) := fun wx A' h => by rw [hX]; exact implQueueSort A' L.length L wx (by omega) h
  clear mL hs hX
  go_wp2_with (fail)
  refine (toTimedS A a L _ hL (Rd.below HL.out Z.out)).mono ?_
  rintro e w2 ⟨g1, rfl, hg, o1, hb⟩
  clear hg
  replace Z := Lib.hid (Below.and Z.out hb)
  have OQ := Lib.hid (OwT.bd (show OwT w2 w.heap.size (some ⟨g1, 0, none⟩) L.length L from o1))
  have SOQ := Lib.hid hb.size
  clear o1 hb
  go_wp2_with (fail)
  refine (HS.out _ _ OQ.out.own.rdT).mono ?_
  rintro e w3 ⟨AOW, aOW, rfl, o2, hb⟩
  have OW := Lib.hid o2.bd
  replace Z := Lib.hid (Below.and Z.out hb)
  have SOW := Lib.hid hb.size
  clear o2 hb
  have SW0 := Lib.hid (show w.heap.size ≤ w2.heap.size from SOQ.out)
  clear OQ SOQ
  go_wp2_with (fail)
  refine (toTimedS A a L _ hL (Rd.below HL.out Z.out)).mono ?_
  rintro e w5 ⟨g2, rfl, hg, o1, hb⟩
  clear hg
  replace Z := Lib.hid (Below.and Z.out hb)
  replace OW := Lib.hid (OW.out.below hb)
  have OX := Lib.hid (OwT.bd (show OwT w5 w3.heap.size (some ⟨g2, 0, none⟩) L.length L from o1))
  have SOX := Lib.hid hb.size
  clear o1 hb
  go_wp2_with (fail)
  refine (HI.out _ _ OX.out.own.rdT).mono ?_
  rintro e w6 ⟨AOG, aOG, rfl, o2, hb⟩
  have OG := Lib.hid o2.bd
  replace Z := Lib.hid (Below.and Z.out hb)
  replace OW := Lib.hid (OW.out.below hb)
  replace OX := Lib.hid (OX.out.below hb)
  have SOG := Lib.hid hb.size
  clear o2 hb
  go_wp2_with (fail)
  refine (eqTimedS_rd _ _ _ _ _ _ (by have := HRL.out; omega) OG.out.own.rd OW.out.own.rd).mono ?_
  rintro e w7 ⟨rfl, hb⟩
  replace Z := Lib.hid (Below.and Z.out hb)
  replace OW := Lib.hid (OW.out.below hb)
  replace OX := Lib.hid (OX.out.below hb)
  replace OG := Lib.hid (OG.out.below hb)
  clear hb
  go_wp2_with (fail)
  refine (toTimedS A a L _ hL (Rd.below HL.out Z.out)).mono ?_
  rintro e w9 ⟨g3, rfl, hg, o1, hb⟩
  clear hg
  replace Z := Lib.hid (Below.and Z.out hb)
  replace OW := Lib.hid (OW.out.below hb)
  replace OX := Lib.hid (OX.out.below hb)
  replace OG := Lib.hid (OG.out.below hb)
  have OY := Lib.hid (OwT.bd (show OwT w9 w7.heap.size (some ⟨g3, 0, none⟩) L.length L from o1))
  have SOY := Lib.hid hb.size
  clear o1 hb
  go_wp2_with (fail)
  refine (eqTimedS_rd _ _ _ _ _ _ (by omega) OX.out.own.rd OY.out.own.rd).mono ?_
  rintro e wA ⟨rfl, hb⟩
  replace Z := Lib.hid (Below.and Z.out hb)
  replace OW := Lib.hid (OW.out.below hb)
  replace OX := Lib.hid (OX.out.below hb)
  replace OG := Lib.hid (OG.out.below hb)
  clear hb
  clear OY SOY
  have hRL := HRL.out
  have ngL : decide ((1 : Int) + 3 * (L.length : Int) < 0) = false := by simp; omega
  have nnL : ((1 : Int) + 3 * (L.length : Int) != 1 + 3 * (L.length : Int)) = false := by simp
  have ngR : decide ((1 : Int) + 3 * (R.length : Int) < 0) = false := by simp; omega
  have nnR : ((1 : Int) + 3 * (R.length : Int) != 1 + 3 * (R.length : Int)) = false := by simp
  go_wp2_with (fail)
  refine (markTimedS _ _ _ L.length _ 1 _ (by omega) (by omega) (by unfold maxLen; omega) (show World.ownsRow _ _ _ _ _ _ _ from OX.out.own)).mono ?_
  rintro e wB ⟨rfl, hm, hg⟩
  have hbk := OX.out.bk
  replace OW := Lib.hid (OW.out.grown hg (fun k hk => by have h1 := hbk k hk; have s1 := SOW.out; have s2 := SOX.out; have s3 := SOG.out; have s4 := SW0.out; omega))
  replace OG := Lib.hid (OG.out.grown hg (fun k hk => by have h1 := hbk k hk; have s1 := SOW.out; have s2 := SOX.out; have s3 := SOG.out; have s4 := SW0.out; omega))
  replace Z := Lib.hid (Z.out.grown hg Z.out.size (fun k hk => by have h1 := hbk k hk; have s1 := SOW.out; have s2 := SOX.out; have s3 := SOG.out; have s4 := SW0.out; omega))
  have MOX := Lib.hid (RdM.of_own hm)
  clear hm hg hbk OX
  go_wp2_with (fail)
  refine (eqTimedS_rd _ _ _ _ _ _ (by have := HRL.out; omega) OG.out.own.rd OW.out.own.rd).mono ?_
  rintro e wC ⟨rfl, hb⟩
  replace Z := Lib.hid (Below.and Z.out hb)
  replace OW := Lib.hid (OW.out.below hb)
  replace OG := Lib.hid (OG.out.below hb)
  clear hb
  go_wp2_with (fail)
  refine (markTimedS _ _ _ R.length _ 1 _ (by omega) (by omega) (by unfold maxLen; omega) (show World.ownsRow _ _ _ _ _ _ _ from OG.out.own)).mono ?_
  rintro e wD ⟨rfl, hm, hg⟩
  have hbk := OG.out.bk
  replace OW := Lib.hid (OW.out.grown hg (fun k hk => by have h1 := hbk k hk; have s1 := SOW.out; have s2 := SOX.out; have s3 := SOG.out; have s4 := SW0.out; omega))
  replace Z := Lib.hid (Z.out.grown hg Z.out.size (fun k hk => by have h1 := hbk k hk; have s1 := SOW.out; have s2 := SOX.out; have s3 := SOG.out; have s4 := SW0.out; omega))
  have MOG := Lib.hid (RdM.of_own hm)
  clear hm hg hbk OG
  go_wp2_with (fail)
  refine (heldTimedS _ _ R.length 1 _ (by omega) (by omega) (by unfold maxLen; omega) MOG.out).mono ?_
  rintro e wE ⟨rfl, rfl⟩
  go_wp2_with (fail)
  refine (toTimedS A a L _ hL (Rd.below HL.out Z.out)).mono ?_
  rintro e wF ⟨g4, rfl, hg, o1, hb⟩
  clear hg
  replace Z := Lib.hid (Below.and Z.out hb)
  replace OW := Lib.hid (OW.out.below hb)
  have OQ := Lib.hid (OwT.bd (show OwT wF wE.heap.size (some ⟨g4, 0, none⟩) L.length L from o1))
  have SOQ := Lib.hid hb.size
  replace MOG := Lib.hid (RdM.below MOG.out hb)
  clear o1 hb
  go_wp2_with (fail)
  refine (HI.out _ _ OQ.out.own.rdT).mono ?_
  rintro e wG ⟨AOH, aOH, rfl, o2, hb⟩
  have OH := Lib.hid o2.bd
  replace Z := Lib.hid (Below.and Z.out hb)
  replace OW := Lib.hid (OW.out.below hb)
  have SOH := Lib.hid hb.size
  replace MOG := Lib.hid (RdM.below MOG.out hb)
  clear o2 hb
  clear OQ SOQ
  go_wp2_with (fail)
  refine (eqTimedS_rd _ _ _ _ _ _ (by have := HRL.out; omega) OH.out.own.rd OW.out.own.rd).mono ?_
  rintro e wH ⟨rfl, hb⟩
  replace Z := Lib.hid (Below.and Z.out hb)
  replace OW := Lib.hid (OW.out.below hb)
  replace OH := Lib.hid (OH.out.below hb)
  replace MOG := Lib.hid (RdM.below MOG.out hb)
  clear hb
  go_wp2_with (fail)
  refine (heldTimedS _ _ R.length 1 _ (by omega) (by omega) (by unfold maxLen; omega) MOG.out).mono ?_
  rintro e wI ⟨rfl, rfl⟩
  go_wp2
  go_light
  go_ret
  exact ⟨rfl, Z.out⟩

end Go.Proofs.Ytgnemgnhjallhaa
