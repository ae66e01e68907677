/- The exact law of AheadPush, walked. -/
import Derived.Test.YtjhppehifenijaaHg
import Derived.Deep.Cut
namespace Go.Proofs.Ytjhppehifenijaa
open Go.ChangeShapes Go.WideShapes Go.ChangeAt Go.RowKit
set_option linter.unusedVariables false
set_option linter.unusedSimpArgs false

structure RdQ (w : World) (A B : Option Addr) (D T : List Rq) : Prop where
  d : Rd 5 Rq.cells w A D
  t : Rd 5 Rq.cells w B T
theorem pushA_len (D T : List Rq) (k : Int) (r : Rq) : (pushA D T k r).1.1.length ≤ 61 ∧ (pushA D T k r).1.2.1.length ≤ 61 := by
  unfold pushA
  split
  · rename_i h
    have := ahB_len h
    split
    · simp; omega
    · simp; omega
  · simp

set_option maxRecDepth 100000 in
set_option maxHeartbeats 8000000 in
theorem exactAheadPush (A : Option Addr) (a : Nat) (B : Option Addr) (b : Nat) (D T : List Rq) (k : Int) (rc rn ro rx ry : Int) (w : World) (mD : D.length ≤ maxLen) (mT : T.length ≤ maxLen) (rD : Rd 5 Rq.cells w A D) (rT : Rd 5 Rq.cells w B T) :
    Calls Try.prog 8 #[aheadV A D.length a B T.length b k, .agg #[.int .i64 rc, .int .i64 rn, .int .i64 ro, .int .i64 rx, .int .i64 ry]] w fun e w' => e = .returned (.bool true) ∧ Below w.heap.size w w' := by
  obtain ⟨⟨⟨D1, T1, k1⟩, x2⟩, hX⟩ : ∃ Y : Ah × Bool, Y = pushA D T k ⟨rc, rn, ro, rx, ry⟩ := ⟨_, rfl⟩
  have hlen := pushA_len D T k ⟨rc, rn, ro, rx, ry⟩
  rw [← hX] at hlen
  have HLN : Hid (D1.length ≤ 61 ∧ T1.length ≤ 61) := hlen
  have HR : Hid (RdQ w A B D T) := ⟨rD, rT⟩
  have K := Lib.hid ((Three.new (u0 := .slice A D.length a) (u1 := .slice B T.length b) (u2 := .int .i64 k) (t := 54) w).alloc (.cells #[.int .i64 rc, .int .i64 rn, .int .i64 ro, .int .i64 rx, .int .i64 ry] 39))
  have R : Hid (Five ((w.alloc (.cells #[.slice A D.length a, .slice B T.length b, .int .i64 k] 54)).alloc (.cells #[.int .i64 rc, .int .i64 rn, .int .i64 ro, .int .i64 rx, .int .i64 ry] 39)) (w.heap.size + 1) 39 (.int .i64 rc) (.int .i64 rn) (.int .i64 ro) (.int .i64 rx) (.int .i64 ry)) := by have := Five.new (u0 := .int .i64 rc) (u1 := .int .i64 rn) (u2 := .int .i64 ro) (u3 := .int .i64 rx) (u4 := .int .i64 ry) (t := 39) (w.alloc (.cells #[.slice A D.length a, .slice B T.length b, .int .i64 k] 54)); simpa [Hid] using this
  have Z : Hid (Below w.heap.size w ((w.alloc (.cells #[.slice A D.length a, .slice B T.length b, .int .i64 k] 54)).alloc (.cells #[.int .i64 rc, .int .i64 rn, .int .i64 ro, .int .i64 rx, .int .i64 ry] 39))) := below_alloc2 w _ _
  have HX := Lib.hid hX
  clear rD rT hX hlen
  go_enter Try.func8, Try.ntmps8
  go_upto_region 2 with (fail)
  obtain ⟨w0, hw0⟩ : ∃ X, X = ((w.alloc (.cells #[.slice A D.length a, .slice B T.length b, .int .i64 k] 54)).alloc (.cells #[.int .i64 rc, .int .i64 rn, .int .i64 ro, .int .i64 rx, .int .i64 ry] 39)) := ⟨_, rfl⟩
  rw [← hw0] at K R Z ⊢
  clear hw0
  obtain ⟨p0, p1, p2⟩ := K.out.cells
  go_wp2_with (fail)
  refine (szAhead A D.length a B T.length b k _ mD mT).mono ?_
  rintro e wA ⟨rfl, hb⟩
  have K := Lib.hid (Three.below K.out hb K.out.lt)
  have R := Lib.hid (R.out.grown (Below.grownBy hb none) (by simp))
  have Z := Lib.hid (Below.and Z.out hb)
  clear hb p0 p1 p2
  by_cases hs : ¬ D.length + T.length ≤ 1048576
  · rw [show szOfA D.length T.length = -1 by unfold szOfA; rw [if_neg hs]]
    go_wp2
    go_light
    go_ret
    exact ⟨rfl, Z.out⟩
  have hD : D.length ≤ 1048576 := by omega
  have hT : T.length ≤ 1048576 := by omega
  rw [show szOfA D.length T.length = 1048576 - (D.length : Int) - (T.length : Int) by unfold szOfA; rw [if_pos (by omega)]]
  have e0 : decide ((1048576 : Int) - (D.length : Int) - (T.length : Int) < 0) = false := by simp; omega
  clear mD mT hs
  have HS : Hid (∀ (wx : World) (A' : Option Addr) (a' : Nat) (B' : Option Addr) (b' : Nat), RdA wx A' a' B' b' D T → Calls Try.prog 36 #[aheadV A' D.length a' B' T.length b' k, .agg #[.int .i64 rc, .int .i64 rn, .int .i64 ro, .int .i64 rx, .int .i64 ry]] wx (DoAh ((D1, T1, k1), x2) wx)) := fun wx A' a' B' b' h => by rw [HX.out]; exact specAheadPush A' a' B' b' D T k ⟨rc, rn, ro, rx, ry⟩ wx hD hT h
  have HI : Hid (∀ (wx : World) (A' : Option Addr) (a' : Nat) (B' : Option Addr) (b' : Nat), RdA wx A' a' B' b' D T → Calls Try.prog 37 #[aheadV A' D.length a' B' T.length b' k, .agg #[.int .i64 rc, .int .i64 rn, .int .i64 ro, .int .i64 rx, .int .i64 ry]] wx (DoAh ((D1, T1, k1), x2) wx)) := fun wx A' a' B' b' h => by rw [HX.out]; exact implAheadPush A' a' B' b' D T k ⟨rc, rn, ro, rx, ry⟩ wx hD hT h
  have nx : (x2 != x2) = false := by simp
  clear HX
  go_upto_region 5 with (fail)
  go_cut [6, 7] from 16 (fun s6 s7 wc => ∃ p9 A9 a9 B9 b9 lo9 hi9, s6 = .pointer (some ⟨p9, 0, none⟩) ∧ s7 = .bool x2 ∧ Hid (Three wc p9 58 (.slice A9 D1.length a9) (.slice B9 T1.length b9) (.int .i64 k1)) ∧ Hid (OwB wc lo9 hi9 A9 a9 B9 b9 D1 T1) ∧ Hid (wA.heap.size ≤ lo9) ∧ Hid (wA.heap.size ≤ p9) ∧ Hid (hi9 ≤ wc.heap.size) ∧ Hid (Below wA.heap.size wA wc))
  case first =>
    obtain ⟨p0, p1, p2⟩ := K.out.cells
    obtain ⟨y0, y1, y2, y3, y4⟩ := R.out.cells
    have lk := K.out.lt
    have lr := R.out.lt
    refine wp_region_held_drew (S := fun WS => Below wA.heap.size wA WS) (by kernel_rfl) ((Below.refl _ _).drew) (fun hS0 => ?_)
    refine takeD 0 22 (v := ?_) rfl rfl (by kernel_rfl) (by kernel_rfl) (by kernel_rfl) (fun _ _ _ h => h) (Or.inl ⟨by rfl, ?_⟩) (by assumption) ?_
    rotate_left
    · intro wS hSw; obtain ⟨hcS, hfS⟩ := bcell hSw; go_simp; (try with_reducible rfl)
    (try simp only [Act.put, List.setIfInBounds_toArray, List.set_cons_zero, List.set_cons_succ])
    refine takeD 2 24 (v := ?_) rfl rfl (by kernel_rfl) (by kernel_rfl) (by kernel_rfl) (fun _ _ _ h => h) (Or.inl ⟨by rfl, ?_⟩) (by assumption) ?_
    rotate_left
    · intro wS hSw; obtain ⟨hcS, hfS⟩ := bcell hSw; go_simp; (try with_reducible rfl)
    (try simp only [Act.put, List.setIfInBounds_toArray, List.set_cons_zero, List.set_cons_succ])
    have HB : Hid (Below wA.heap.size wA wA.drew) := (Below.refl _ _).drew
    refine wpAnyH_ready (rs := [1, 8]) (by kernel_rfl) (by simp) ?_
    refine AllReadyH.cons rfl (fun KK hK => ?_) (AllReadyH.cons rfl (fun KK hK => ?_) AllReadyH.nil)
    · go_simp
      refine (toAhead A a B b D T k _ hD hT (Rd.below HR.out.d (Below.and Z.out HB.out)) (Rd.below HR.out.t (Below.and Z.out HB.out))).mono ?_
      rintro e wx1 ⟨gX, hX, rfl, oa, hb⟩
      have HB := Lib.hid (Below.and HB.out hb)
      have OX := Lib.hid oa.bd
      clear oa hb
      refine hK.out _ _ HB.out (fun hSx2 => ?_)
      clear hK KK
      (try simp only [Act.put, List.setIfInBounds_toArray, List.set_cons_zero, List.set_cons_succ])
      refine wpAnyH_ready (rs := [3, 8]) (by kernel_rfl) (by simp) ?_
      refine AllReadyH.cons rfl (fun KK hK => ?_) (AllReadyH.cons rfl (fun KK hK => ?_) AllReadyH.nil)
      · go_simp
        refine (toReq rc rn ro rx ry _).mono ?_
        rintro e wx3 ⟨rfl, hb⟩
        have OX := Lib.hid (OX.out.below hb)
        have HB := Lib.hid (Below.and HB.out hb)
        clear hb
        refine hK.out _ _ HB.out (fun hSx4 => ?_)
        clear hK KK
        (try simp only [Act.put, List.setIfInBounds_toArray, List.set_cons_zero, List.set_cons_succ])
        refine wpAnyH_ready (rs := [4, 8]) (by kernel_rfl) (by simp) ?_
        refine AllReadyH.cons rfl (fun KK hK => ?_) (AllReadyH.cons rfl (fun KK hK => ?_) AllReadyH.nil)
        · go_simp
          have LO := Lib.hid (show wA.heap.size ≤ wx3.heap.size from HB.out.size)
          refine (HS.out _ _ _ _ _ OX.out.own.rdA).mono ?_
          rintro e wx5 ⟨AS, aS, BS, bS, rfl, oa, hb⟩
          have OX := Lib.hid (OX.out.below hb)
          have HB := Lib.hid (Below.and HB.out hb)
          have OS := Lib.hid oa.bd
          have HZ := Lib.hid (Nat.le_refl wx5.heap.size)
          clear oa hb
          refine hK.out _ _ HB.out (fun hSx6 => ?_)
          clear hK KK
          (try simp only [Act.put, List.setIfInBounds_toArray, List.set_cons_zero, List.set_cons_succ])
          refine takeD 5 21 (v := ?_) rfl rfl (by kernel_rfl) (by kernel_rfl) (by kernel_rfl) (fun _ _ _ h => h) (Or.inl ⟨by rfl, ?_⟩) (by assumption) ?_
          rotate_left
          · intro wS hSw; obtain ⟨hcS, hfS⟩ := bcell hSw; go_simp; (try with_reducible rfl)
          (try simp only [Act.put, List.setIfInBounds_toArray, List.set_cons_zero, List.set_cons_succ])
          refine takeD 6 27 (v := ?_) rfl rfl (by kernel_rfl) (by kernel_rfl) (by kernel_rfl) (fun _ _ _ h => h) (Or.inl ⟨by rfl, ?_⟩) (by assumption) ?_
          rotate_left
          · intro wS hSw; obtain ⟨hcS, hfS⟩ := bcell hSw; go_simp; (try with_reducible rfl)
          (try simp only [Act.put, List.setIfInBounds_toArray, List.set_cons_zero, List.set_cons_succ])
          refine takeD 7 28 (v := ?_) rfl rfl (by kernel_rfl) (by kernel_rfl) (by kernel_rfl) (fun _ _ _ h => h) (Or.inl ⟨by rfl, ?_⟩) (by assumption) ?_
          rotate_left
          · intro wS hSw; obtain ⟨hcS, hfS⟩ := bcell hSw; go_simp; (try with_reducible rfl)
          (try simp only [Act.put, List.setIfInBounds_toArray, List.set_cons_zero, List.set_cons_succ])
          refine wpAnyH_ready (rs := [8]) (by kernel_rfl) (by simp) ?_
          refine AllReadyH.cons rfl (fun KK hK => ?_) AllReadyH.nil
          go_simp
          have hba : Below wx5.heap.size wx5 (wx5.alloc (.cells #[.slice none 0 0, .slice none 0 0, .int .i64 0] 58)) := (Below.refl _ _).alloc (Nat.le_refl _) _
          refine hK.out _ _ (Below.and HB.out hba) (fun hSx9 => ?_)
          clear hK KK
          (try simp only [Act.put, List.setIfInBounds_toArray, List.set_cons_zero, List.set_cons_succ])
          have PB := Lib.hid (show wA.heap.size ≤ wx5.heap.size from HB.out.size)
          have OX := Lib.hid (OX.out.below hba)
          have OS := Lib.hid (OS.out.below hba)
          have HB := Lib.hid (Below.and HB.out hba)
          have TB : Hid (Three (wx5.alloc (.cells #[.slice none 0 0, .slice none 0 0, .int .i64 0] 58)) wx5.heap.size 58 (.slice none 0 0) (.slice none 0 0) (.int .i64 0)) := Three.new wx5
          clear hba
          have HZ : Hid (wx5.heap.size ≤ (wx5.alloc (.cells #[.slice none 0 0, .slice none 0 0, .int .i64 0] 58)).heap.size) := by show _ ≤ _; simp
          obtain ⟨HIz, hhi⟩ : ∃ X, X = wx5.heap.size := ⟨_, rfl⟩
          rw [← hhi] at HZ OS
          obtain ⟨px8, hp⟩ : ∃ X, X = wx5.heap.size := ⟨_, rfl⟩
          rw [← hp] at TB PB ⊢
          obtain ⟨wx7, hw⟩ : ∃ X, X = (wx5.alloc (.cells #[.slice none 0 0, .slice none 0 0, .int .i64 0] 58)) := ⟨_, rfl⟩
          rw [← hw] at TB HB OX OS HZ ⊢
          clear hw hp hhi
          refine wpAnyH_ready (rs := [9]) (by kernel_rfl) (by simp) ?_
          refine AllReadyH.cons rfl (fun KK hK => ?_) AllReadyH.nil
          obtain ⟨zb0, zb1, zb2⟩ := TB.out.cells
          have zbf := TB.out.frozen
          go_simp
          have HF : Hid (Below wA.heap.size wA (((wx7.setCell ⟨px8, 0, none⟩ (.slice AS D1.length aS)).setCell ⟨px8, 1, none⟩ (.slice BS T1.length bS)).setCell ⟨px8, 2, none⟩ (.int .i64 k1))) := ((HB.out.setCell (p := ⟨px8, 0, none⟩) PB.out (.slice AS D1.length aS)).setCell (p := ⟨px8, 1, none⟩) PB.out (.slice BS T1.length bS)).setCell (p := ⟨px8, 2, none⟩) PB.out (.int .i64 k1)
          have OF := Lib.hid (((OS.out.box TB.out 0 (.slice AS D1.length aS)).box (TB.out.set0 _) 1 (.slice BS T1.length bS)).box ((TB.out.set0 _).set1 _) 2 (.int .i64 k1))
          have TF : Hid (Three (((wx7.setCell ⟨px8, 0, none⟩ (.slice AS D1.length aS)).setCell ⟨px8, 1, none⟩ (.slice BS T1.length bS)).setCell ⟨px8, 2, none⟩ (.int .i64 k1)) px8 58 (.slice AS D1.length aS) (.slice BS T1.length bS) (.int .i64 k1)) := ((TB.out.set0 (.slice AS D1.length aS)).set1 (.slice BS T1.length bS)).set2 (.int .i64 k1)
          have ZF := Lib.hid (Nat.le_trans HZ.out (Nat.le_of_eq (show wx7.heap.size = (((wx7.setCell ⟨px8, 0, none⟩ (.slice AS D1.length aS)).setCell ⟨px8, 1, none⟩ (.slice BS T1.length bS)).setCell ⟨px8, 2, none⟩ (.int .i64 k1)).heap.size by simp)))
          refine hK.out _ _ HF.out (fun hSx10 => ?_)
          clear hK KK
          (try simp only [Act.put, List.setIfInBounds_toArray, List.set_cons_zero, List.set_cons_succ])
          refine takeD 10 7 (v := ?_) rfl rfl (by kernel_rfl) (by kernel_rfl) (by kernel_rfl) (fun _ _ _ h => h) (Or.inl ⟨by rfl, ?_⟩) (by assumption) ?_
          rotate_left
          · intro wS hSw; obtain ⟨hcS, hfS⟩ := bcell hSw; go_simp; (try with_reducible rfl)
          (try simp only [Act.put, List.setIfInBounds_toArray, List.set_cons_zero, List.set_cons_succ])
          refine wpAnyH_done (by kernel_rfl) ?_ _
          go_wp2_with (fail)
          go_meet
          case rel => exact ⟨px8, AS, aS, BS, bS, _, _, rfl, rfl, TF, OF, LO, PB, ZF, HF⟩
        · go_simp
          have hba : Below wx3.heap.size wx3 (wx3.alloc (.cells #[.slice none 0 0, .slice none 0 0, .int .i64 0] 58)) := (Below.refl _ _).alloc (Nat.le_refl _) _
          refine hK.out _ _ (Below.and HB.out hba) (fun hSx13 => ?_)
          clear hK KK
          (try simp only [Act.put, List.setIfInBounds_toArray, List.set_cons_zero, List.set_cons_succ])
          have PB := Lib.hid (show wA.heap.size ≤ wx3.heap.size from HB.out.size)
          have OX := Lib.hid (OX.out.below hba)
          have HB := Lib.hid (Below.and HB.out hba)
          have TB : Hid (Three (wx3.alloc (.cells #[.slice none 0 0, .slice none 0 0, .int .i64 0] 58)) wx3.heap.size 58 (.slice none 0 0) (.slice none 0 0) (.int .i64 0)) := Three.new wx3
          clear hba
          obtain ⟨px12, hp⟩ : ∃ X, X = wx3.heap.size := ⟨_, rfl⟩
          rw [← hp] at TB PB ⊢
          obtain ⟨wx11, hw⟩ : ∃ X, X = (wx3.alloc (.cells #[.slice none 0 0, .slice none 0 0, .int .i64 0] 58)) := ⟨_, rfl⟩
          rw [← hw] at TB HB OX ⊢
          clear hw hp
          refine wpAnyH_ready (rs := [4]) (by kernel_rfl) (by simp) ?_
          refine AllReadyH.cons rfl (fun KK hK => ?_) AllReadyH.nil
          go_simp
          have LO := Lib.hid (show wA.heap.size ≤ wx11.heap.size from HB.out.size)
          refine (HS.out _ _ _ _ _ OX.out.own.rdA).mono ?_
          rintro e wx14 ⟨AS, aS, BS, bS, rfl, oa, hb⟩
          have OX := Lib.hid (OX.out.below hb)
          have TB := Lib.hid (Three.below TB.out hb TB.out.lt)
          have HB := Lib.hid (Below.and HB.out hb)
          have OS := Lib.hid oa.bd
          have HZ := Lib.hid (Nat.le_refl wx14.heap.size)
          clear oa hb
          refine hK.out _ _ HB.out (fun hSx15 => ?_)
          clear hK KK
          (try simp only [Act.put, List.setIfInBounds_toArray, List.set_cons_zero, List.set_cons_succ])
          refine takeD 5 21 (v := ?_) rfl rfl (by kernel_rfl) (by kernel_rfl) (by kernel_rfl) (fun _ _ _ h => h) (Or.inl ⟨by rfl, ?_⟩) (by assumption) ?_
          rotate_left
          · intro wS hSw; obtain ⟨hcS, hfS⟩ := bcell hSw; go_simp; (try with_reducible rfl)
          (try simp only [Act.put, List.setIfInBounds_toArray, List.set_cons_zero, List.set_cons_succ])
          refine takeD 6 27 (v := ?_) rfl rfl (by kernel_rfl) (by kernel_rfl) (by kernel_rfl) (fun _ _ _ h => h) (Or.inl ⟨by rfl, ?_⟩) (by assumption) ?_
          rotate_left
          · intro wS hSw; obtain ⟨hcS, hfS⟩ := bcell hSw; go_simp; (try with_reducible rfl)
          (try simp only [Act.put, List.setIfInBounds_toArray, List.set_cons_zero, List.set_cons_succ])
          refine takeD 7 28 (v := ?_) rfl rfl (by kernel_rfl) (by kernel_rfl) (by kernel_rfl) (fun _ _ _ h => h) (Or.inl ⟨by rfl, ?_⟩) (by assumption) ?_
          rotate_left
          · intro wS hSw; obtain ⟨hcS, hfS⟩ := bcell hSw; go_simp; (try with_reducible rfl)
          (try simp only [Act.put, List.setIfInBounds_toArray, List.set_cons_zero, List.set_cons_succ])
          refine wpAnyH_ready (rs := [9]) (by kernel_rfl) (by simp) ?_
          refine AllReadyH.cons rfl (fun KK hK => ?_) AllReadyH.nil
          obtain ⟨zb0, zb1, zb2⟩ := TB.out.cells
          have zbf := TB.out.frozen
          go_simp
          have HF : Hid (Below wA.heap.size wA (((wx14.setCell ⟨px12, 0, none⟩ (.slice AS D1.length aS)).setCell ⟨px12, 1, none⟩ (.slice BS T1.length bS)).setCell ⟨px12, 2, none⟩ (.int .i64 k1))) := ((HB.out.setCell (p := ⟨px12, 0, none⟩) PB.out (.slice AS D1.length aS)).setCell (p := ⟨px12, 1, none⟩) PB.out (.slice BS T1.length bS)).setCell (p := ⟨px12, 2, none⟩) PB.out (.int .i64 k1)
          have OF := Lib.hid (((OS.out.box TB.out 0 (.slice AS D1.length aS)).box (TB.out.set0 _) 1 (.slice BS T1.length bS)).box ((TB.out.set0 _).set1 _) 2 (.int .i64 k1))
          have TF : Hid (Three (((wx14.setCell ⟨px12, 0, none⟩ (.slice AS D1.length aS)).setCell ⟨px12, 1, none⟩ (.slice BS T1.length bS)).setCell ⟨px12, 2, none⟩ (.int .i64 k1)) px12 58 (.slice AS D1.length aS) (.slice BS T1.length bS) (.int .i64 k1)) := ((TB.out.set0 (.slice AS D1.length aS)).set1 (.slice BS T1.length bS)).set2 (.int .i64 k1)
          have ZF := Lib.hid (Nat.le_trans HZ.out (Nat.le_of_eq (show wx14.heap.size = (((wx14.setCell ⟨px12, 0, none⟩ (.slice AS D1.length aS)).setCell ⟨px12, 1, none⟩ (.slice BS T1.length bS)).setCell ⟨px12, 2, none⟩ (.int .i64 k1)).heap.size by simp)))
          refine hK.out _ _ HF.out (fun hSx16 => ?_)
          clear hK KK
          (try simp only [Act.put, List.setIfInBounds_toArray, List.set_cons_zero, List.set_cons_succ])
          refine takeD 10 7 (v := ?_) rfl rfl (by kernel_rfl) (by kernel_rfl) (by kernel_rfl) (fun _ _ _ h => h) (Or.inl ⟨by rfl, ?_⟩) (by assumption) ?_
          rotate_left
          · intro wS hSw; obtain ⟨hcS, hfS⟩ := bcell hSw; go_simp; (try with_reducible rfl)
          (try simp only [Act.put, List.setIfInBounds_toArray, List.set_cons_zero, List.set_cons_succ])
          refine wpAnyH_done (by kernel_rfl) ?_ _
          go_wp2_with (fail)
          go_meet
          case rel => exact ⟨px12, AS, aS, BS, bS, _, _, rfl, rfl, TF, OF, LO, PB, ZF, HF⟩
      · go_simp
        have hba : Below wx1.heap.size wx1 (wx1.alloc (.cells #[.slice none 0 0, .slice none 0 0, .int .i64 0] 58)) := (Below.refl _ _).alloc (Nat.le_refl _) _
        refine hK.out _ _ (Below.and HB.out hba) (fun hSx19 => ?_)
        clear hK KK
        (try simp only [Act.put, List.setIfInBounds_toArray, List.set_cons_zero, List.set_cons_succ])
        have PB := Lib.hid (show wA.heap.size ≤ wx1.heap.size from HB.out.size)
        have OX := Lib.hid (OX.out.below hba)
        have HB := Lib.hid (Below.and HB.out hba)
        have TB : Hid (Three (wx1.alloc (.cells #[.slice none 0 0, .slice none 0 0, .int .i64 0] 58)) wx1.heap.size 58 (.slice none 0 0) (.slice none 0 0) (.int .i64 0)) := Three.new wx1
        clear hba
        obtain ⟨px18, hp⟩ : ∃ X, X = wx1.heap.size := ⟨_, rfl⟩
        rw [← hp] at TB PB ⊢
        obtain ⟨wx17, hw⟩ : ∃ X, X = (wx1.alloc (.cells #[.slice none 0 0, .slice none 0 0, .int .i64 0] 58)) := ⟨_, rfl⟩
        rw [← hw] at TB HB OX ⊢
        clear hw hp
        refine wpAnyH_ready (rs := [3]) (by kernel_rfl) (by simp) ?_
        refine AllReadyH.cons rfl (fun KK hK => ?_) AllReadyH.nil
        go_simp
        refine (toReq rc rn ro rx ry _).mono ?_
        rintro e wx20 ⟨rfl, hb⟩
        have OX := Lib.hid (OX.out.below hb)
        have TB := Lib.hid (Three.below TB.out hb TB.out.lt)
        have HB := Lib.hid (Below.and HB.out hb)
        clear hb
        refine hK.out _ _ HB.out (fun hSx21 => ?_)
        clear hK KK
        (try simp only [Act.put, List.setIfInBounds_toArray, List.set_cons_zero, List.set_cons_succ])
        refine wpAnyH_ready (rs := [4]) (by kernel_rfl) (by simp) ?_
        refine AllReadyH.cons rfl (fun KK hK => ?_) AllReadyH.nil
        go_simp
        have LO := Lib.hid (show wA.heap.size ≤ wx20.heap.size from HB.out.size)
        refine (HS.out _ _ _ _ _ OX.out.own.rdA).mono ?_
        rintro e wx22 ⟨AS, aS, BS, bS, rfl, oa, hb⟩
        have OX := Lib.hid (OX.out.below hb)
        have TB := Lib.hid (Three.below TB.out hb TB.out.lt)
        have HB := Lib.hid (Below.and HB.out hb)
        have OS := Lib.hid oa.bd
        have HZ := Lib.hid (Nat.le_refl wx22.heap.size)
        clear oa hb
        refine hK.out _ _ HB.out (fun hSx23 => ?_)
        clear hK KK
        (try simp only [Act.put, List.setIfInBounds_toArray, List.set_cons_zero, List.set_cons_succ])
        refine takeD 5 21 (v := ?_) rfl rfl (by kernel_rfl) (by kernel_rfl) (by kernel_rfl) (fun _ _ _ h => h) (Or.inl ⟨by rfl, ?_⟩) (by assumption) ?_
        rotate_left
        · intro wS hSw; obtain ⟨hcS, hfS⟩ := bcell hSw; go_simp; (try with_reducible rfl)
        (try simp only [Act.put, List.setIfInBounds_toArray, List.set_cons_zero, List.set_cons_succ])
        refine takeD 6 27 (v := ?_) rfl rfl (by kernel_rfl) (by kernel_rfl) (by kernel_rfl) (fun _ _ _ h => h) (Or.inl ⟨by rfl, ?_⟩) (by assumption) ?_
        rotate_left
        · intro wS hSw; obtain ⟨hcS, hfS⟩ := bcell hSw; go_simp; (try with_reducible rfl)
        (try simp only [Act.put, List.setIfInBounds_toArray, List.set_cons_zero, List.set_cons_succ])
        refine takeD 7 28 (v := ?_) rfl rfl (by kernel_rfl) (by kernel_rfl) (by kernel_rfl) (fun _ _ _ h => h) (Or.inl ⟨by rfl, ?_⟩) (by assumption) ?_
        rotate_left
        · intro wS hSw; obtain ⟨hcS, hfS⟩ := bcell hSw; go_simp; (try with_reducible rfl)
        (try simp only [Act.put, List.setIfInBounds_toArray, List.set_cons_zero, List.set_cons_succ])
        refine wpAnyH_ready (rs := [9]) (by kernel_rfl) (by simp) ?_
        refine AllReadyH.cons rfl (fun KK hK => ?_) AllReadyH.nil
        obtain ⟨zb0, zb1, zb2⟩ := TB.out.cells
        have zbf := TB.out.frozen
        go_simp
        have HF : Hid (Below wA.heap.size wA (((wx22.setCell ⟨px18, 0, none⟩ (.slice AS D1.length aS)).setCell ⟨px18, 1, none⟩ (.slice BS T1.length bS)).setCell ⟨px18, 2, none⟩ (.int .i64 k1))) := ((HB.out.setCell (p := ⟨px18, 0, none⟩) PB.out (.slice AS D1.length aS)).setCell (p := ⟨px18, 1, none⟩) PB.out (.slice BS T1.length bS)).setCell (p := ⟨px18, 2, none⟩) PB.out (.int .i64 k1)
        have OF := Lib.hid (((OS.out.box TB.out 0 (.slice AS D1.length aS)).box (TB.out.set0 _) 1 (.slice BS T1.length bS)).box ((TB.out.set0 _).set1 _) 2 (.int .i64 k1))
        have TF : Hid (Three (((wx22.setCell ⟨px18, 0, none⟩ (.slice AS D1.length aS)).setCell ⟨px18, 1, none⟩ (.slice BS T1.length bS)).setCell ⟨px18, 2, none⟩ (.int .i64 k1)) px18 58 (.slice AS D1.length aS) (.slice BS T1.length bS) (.int .i64 k1)) := ((TB.out.set0 (.slice AS D1.length aS)).set1 (.slice BS T1.length bS)).set2 (.int .i64 k1)
        have ZF := Lib.hid (Nat.le_trans HZ.out (Nat.le_of_eq (show wx22.heap.size = (((wx22.setCell ⟨px18, 0, none⟩ (.slice AS D1.length aS)).setCell ⟨px18, 1, none⟩ (.slice BS T1.length bS)).setCell ⟨px18, 2, none⟩ (.int .i64 k1)).heap.size by simp)))
        refine hK.out _ _ HF.out (fun hSx24 => ?_)
        clear hK KK
        (try simp only [Act.put, List.setIfInBounds_toArray, List.set_cons_zero, List.set_cons_succ])
        refine takeD 10 7 (v := ?_) rfl rfl (by kernel_rfl) (by kernel_rfl) (by kernel_rfl) (fun _ _ _ h => h) (Or.inl ⟨by rfl, ?_⟩) (by assumption) ?_
        rotate_left
        · intro wS hSw; obtain ⟨hcS, hfS⟩ := bcell hSw; go_simp; (try with_reducible rfl)
        (try simp only [Act.put, List.setIfInBounds_toArray, List.set_cons_zero, List.set_cons_succ])
        refine wpAnyH_done (by kernel_rfl) ?_ _
        go_wp2_with (fail)
        go_meet
        case rel => exact ⟨px18, AS, aS, BS, bS, _, _, rfl, rfl, TF, OF, LO, PB, ZF, HF⟩
    · go_simp
      have hba : Below wA.drew.heap.size wA.drew (wA.alloc (.cells #[.slice none 0 0, .slice none 0 0, .int .i64 0] 58)).drew := (Below.refl _ _).alloc (Nat.le_refl _) _
      refine hK.out _ _ (Below.and HB.out hba) (fun hSx27 => ?_)
      clear hK KK
      (try simp only [Act.put, List.setIfInBounds_toArray, List.set_cons_zero, List.set_cons_succ])
      have PB := Lib.hid (show wA.heap.size ≤ wA.heap.size from HB.out.size)
      have HB := Lib.hid (Below.and HB.out hba)
      have TB : Hid (Three (wA.alloc (.cells #[.slice none 0 0, .slice none 0 0, .int .i64 0] 58)).drew wA.heap.size 58 (.slice none 0 0) (.slice none 0 0) (.int .i64 0)) := Three.new wA
      clear hba
      obtain ⟨wx25, hw⟩ : ∃ X, X = (wA.alloc (.cells #[.slice none 0 0, .slice none 0 0, .int .i64 0] 58)).drew := ⟨_, rfl⟩
      rw [← hw] at TB HB ⊢
      clear hw
      refine wpAnyH_ready (rs := [1]) (by kernel_rfl) (by simp) ?_
      refine AllReadyH.cons rfl (fun KK hK => ?_) AllReadyH.nil
      go_simp
      refine (toAhead A a B b D T k _ hD hT (Rd.below HR.out.d (Below.and Z.out HB.out)) (Rd.below HR.out.t (Below.and Z.out HB.out))).mono ?_
      rintro e wx28 ⟨gX, hX, rfl, oa, hb⟩
      have TB := Lib.hid (Three.below TB.out hb TB.out.lt)
      have HB := Lib.hid (Below.and HB.out hb)
      have OX := Lib.hid oa.bd
      clear oa hb
      refine hK.out _ _ HB.out (fun hSx29 => ?_)
      clear hK KK
      (try simp only [Act.put, List.setIfInBounds_toArray, List.set_cons_zero, List.set_cons_succ])
      refine wpAnyH_ready (rs := [3]) (by kernel_rfl) (by simp) ?_
      refine AllReadyH.cons rfl (fun KK hK => ?_) AllReadyH.nil
      go_simp
      refine (toReq rc rn ro rx ry _).mono ?_
      rintro e wx30 ⟨rfl, hb⟩
      have OX := Lib.hid (OX.out.below hb)
      have TB := Lib.hid (Three.below TB.out hb TB.out.lt)
      have HB := Lib.hid (Below.and HB.out hb)
      clear hb
      refine hK.out _ _ HB.out (fun hSx31 => ?_)
      clear hK KK
      (try simp only [Act.put, List.setIfInBounds_toArray, List.set_cons_zero, List.set_cons_succ])
      refine wpAnyH_ready (rs := [4]) (by kernel_rfl) (by simp) ?_
      refine AllReadyH.cons rfl (fun KK hK => ?_) AllReadyH.nil
      go_simp
      have LO := Lib.hid (show wA.heap.size ≤ wx30.heap.size from HB.out.size)
      refine (HS.out _ _ _ _ _ OX.out.own.rdA).mono ?_
      rintro e wx32 ⟨AS, aS, BS, bS, rfl, oa, hb⟩
      have OX := Lib.hid (OX.out.below hb)
      have TB := Lib.hid (Three.below TB.out hb TB.out.lt)
      have HB := Lib.hid (Below.and HB.out hb)
      have OS := Lib.hid oa.bd
      have HZ := Lib.hid (Nat.le_refl wx32.heap.size)
      clear oa hb
      refine hK.out _ _ HB.out (fun hSx33 => ?_)
      clear hK KK
      (try simp only [Act.put, List.setIfInBounds_toArray, List.set_cons_zero, List.set_cons_succ])
      refine takeD 5 21 (v := ?_) rfl rfl (by kernel_rfl) (by kernel_rfl) (by kernel_rfl) (fun _ _ _ h => h) (Or.inl ⟨by rfl, ?_⟩) (by assumption) ?_
      rotate_left
      · intro wS hSw; obtain ⟨hcS, hfS⟩ := bcell hSw; go_simp; (try with_reducible rfl)
      (try simp only [Act.put, List.setIfInBounds_toArray, List.set_cons_zero, List.set_cons_succ])
      refine takeD 6 27 (v := ?_) rfl rfl (by kernel_rfl) (by kernel_rfl) (by kernel_rfl) (fun _ _ _ h => h) (Or.inl ⟨by rfl, ?_⟩) (by assumption) ?_
      rotate_left
      · intro wS hSw; obtain ⟨hcS, hfS⟩ := bcell hSw; go_simp; (try with_reducible rfl)
      (try simp only [Act.put, List.setIfInBounds_toArray, List.set_cons_zero, List.set_cons_succ])
      refine takeD 7 28 (v := ?_) rfl rfl (by kernel_rfl) (by kernel_rfl) (by kernel_rfl) (fun _ _ _ h => h) (Or.inl ⟨by rfl, ?_⟩) (by assumption) ?_
      rotate_left
      · intro wS hSw; obtain ⟨hcS, hfS⟩ := bcell hSw; go_simp; (try with_reducible rfl)
      (try simp only [Act.put, List.setIfInBounds_toArray, List.set_cons_zero, List.set_cons_succ])
      refine wpAnyH_ready (rs := [9]) (by kernel_rfl) (by simp) ?_
      refine AllReadyH.cons rfl (fun KK hK => ?_) AllReadyH.nil
      obtain ⟨zb0, zb1, zb2⟩ := TB.out.cells
      have zbf := TB.out.frozen
      go_simp
      have HF : Hid (Below wA.heap.size wA (((wx32.setCell ⟨wA.heap.size, 0, none⟩ (.slice AS D1.length aS)).setCell ⟨wA.heap.size, 1, none⟩ (.slice BS T1.length bS)).setCell ⟨wA.heap.size, 2, none⟩ (.int .i64 k1))) := ((HB.out.setCell (p := ⟨wA.heap.size, 0, none⟩) PB.out (.slice AS D1.length aS)).setCell (p := ⟨wA.heap.size, 1, none⟩) PB.out (.slice BS T1.length bS)).setCell (p := ⟨wA.heap.size, 2, none⟩) PB.out (.int .i64 k1)
      have OF := Lib.hid (((OS.out.box TB.out 0 (.slice AS D1.length aS)).box (TB.out.set0 _) 1 (.slice BS T1.length bS)).box ((TB.out.set0 _).set1 _) 2 (.int .i64 k1))
      have TF : Hid (Three (((wx32.setCell ⟨wA.heap.size, 0, none⟩ (.slice AS D1.length aS)).setCell ⟨wA.heap.size, 1, none⟩ (.slice BS T1.length bS)).setCell ⟨wA.heap.size, 2, none⟩ (.int .i64 k1)) wA.heap.size 58 (.slice AS D1.length aS) (.slice BS T1.length bS) (.int .i64 k1)) := ((TB.out.set0 (.slice AS D1.length aS)).set1 (.slice BS T1.length bS)).set2 (.int .i64 k1)
      have ZF := Lib.hid (Nat.le_trans HZ.out (Nat.le_of_eq (show wx32.heap.size = (((wx32.setCell ⟨wA.heap.size, 0, none⟩ (.slice AS D1.length aS)).setCell ⟨wA.heap.size, 1, none⟩ (.slice BS T1.length bS)).setCell ⟨wA.heap.size, 2, none⟩ (.int .i64 k1)).heap.size by simp)))
      refine hK.out _ _ HF.out (fun hSx34 => ?_)
      clear hK KK
      (try simp only [Act.put, List.setIfInBounds_toArray, List.set_cons_zero, List.set_cons_succ])
      refine takeD 10 7 (v := ?_) rfl rfl (by kernel_rfl) (by kernel_rfl) (by kernel_rfl) (fun _ _ _ h => h) (Or.inl ⟨by rfl, ?_⟩) (by assumption) ?_
      rotate_left
      · intro wS hSw; obtain ⟨hcS, hfS⟩ := bcell hSw; go_simp; (try with_reducible rfl)
      (try simp only [Act.put, List.setIfInBounds_toArray, List.set_cons_zero, List.set_cons_succ])
      refine wpAnyH_done (by kernel_rfl) ?_ _
      go_wp2_with (fail)
      go_meet
      case rel => exact ⟨wA.heap.size, AS, aS, BS, bS, _, _, rfl, rfl, TF, OF, LO, PB, ZF, HF⟩
  case rest =>
    obtain ⟨p6, A6, a6, B6, b6, lo6, hi6, rfl, rfl, T6, O6, N6, _, U6, HB⟩ := hcut
    have K := Lib.hid (Three.below K.out HB.out K.out.lt)
    have R := Lib.hid (R.out.grown (Below.grownBy HB.out none) (by simp))
    have Z := Lib.hid (Below.and Z.out HB.out)
    clear HB e0 HS N6
    obtain ⟨q0, q1, q2⟩ := K.out.cells
    go_wp2_with (fail)
    refine (toAhead A a B b D T k _ hD hT (Rd.below HR.out.d Z.out) (Rd.below HR.out.t Z.out)).mono ?_
    rintro e wd ⟨g8, h8, rfl, oa, hb⟩
    obtain ⟨A8, hA8⟩ : ∃ X : Option Addr, X = some ⟨g8, 0, none⟩ := ⟨_, rfl⟩
    obtain ⟨B8, hB8⟩ : ∃ X : Option Addr, X = some ⟨h8, 0, none⟩ := ⟨_, rfl⟩
    obtain ⟨a8, ha8⟩ : ∃ X, X = D.length := ⟨_, rfl⟩
    obtain ⟨b8, hb8⟩ : ∃ X, X = T.length := ⟨_, rfl⟩
    have oa : OwA wd wc.heap.size A8 a8 B8 b8 D T := by rw [hA8, hB8, ha8, hb8]; exact oa
    have N8 := Lib.hid (show hi6 ≤ wc.heap.size from U6.out)
    have NZ := Lib.hid (show w.heap.size ≤ wc.heap.size from Z.out.size)
    have L88 := Lib.hid (show wc.heap.size ≤ wd.heap.size from hb.size)
    rw [show aheadV (some ⟨g8, 0, none⟩) D.length D.length (some ⟨h8, 0, none⟩) T.length T.length k = .agg #[.slice A8 D.length a8, .slice B8 T.length b8, .int .i64 k] by rw [hA8, hB8, ha8, hb8]]
    clear hA8 hB8 ha8 hb8 q0 q1 q2
    have hba : Below wd.heap.size wd (wd.alloc (.cells #[.slice A8 D.length a8, .slice B8 T.length b8, .int .i64 k] 58)) := (Below.refl _ _).alloc (Nat.le_refl _) _
    have O8 := Lib.hid (oa.bd.below hba)
    have T8 := Lib.hid (Three.new (u0 := .slice A8 D.length a8) (u1 := .slice B8 T.length b8) (u2 := .int .i64 k) (t := 58) wd)
    have K := Lib.hid (Three.below K.out hb K.out.lt)
    have R := Lib.hid (R.out.grown (Below.grownBy hb none) (by simp))
    have Z := Lib.hid (Below.and Z.out hb)
    have T6 := Lib.hid (Three.below T6.out hb T6.out.lt)
    have O6 := Lib.hid (O6.out.below hb)
    have K := Lib.hid (Three.below K.out hba K.out.lt)
    have R := Lib.hid (R.out.grown (Below.grownBy hba none) (by simp))
    have Z := Lib.hid (Below.and Z.out hba)
    have T6 := Lib.hid (Three.below T6.out hba T6.out.lt)
    have O6 := Lib.hid (O6.out.below hba)
    clear hb oa
    go_upto_region 7 with (fail)
    have U8 : Hid (wd.heap.size ≤ (wd.alloc (.cells #[.slice A8 D.length a8, .slice B8 T.length b8, .int .i64 k] 58)).heap.size) := hba.size
    clear hba
    obtain ⟨lo8, hlo8⟩ : ∃ X, X = wc.heap.size := ⟨_, rfl⟩
    obtain ⟨hi8, hhi8⟩ : ∃ X, X = wd.heap.size := ⟨_, rfl⟩
    obtain ⟨p8, hp8⟩ : ∃ X, X = wd.heap.size := ⟨_, rfl⟩
    obtain ⟨we, hwe⟩ : ∃ X, X = wd.alloc (.cells #[.slice A8 D.length a8, .slice B8 T.length b8, .int .i64 k] 58) := ⟨_, rfl⟩
    rw [← hwe] at K R Z T6 O6 O8 T8 U8 ⊢
    rw [← hlo8] at O8 N8 NZ L88
    rw [← hhi8] at O8 U8 L88
    rw [← hp8] at T8 ⊢
    clear hwe hlo8 hhi8 hp8 U6
    go_cut [9, 10] from 16 (fun s9 s10 wf => ∃ p9 A9 a9 B9 b9 lo9 hi9, s9 = .pointer (some ⟨p9, 0, none⟩) ∧ s10 = .bool x2 ∧ Hid (Three wf p9 58 (.slice A9 D1.length a9) (.slice B9 T1.length b9) (.int .i64 k1)) ∧ Hid (OwB wf lo9 hi9 A9 a9 B9 b9 D1 T1) ∧ Hid (we.heap.size ≤ lo9) ∧ Hid (we.heap.size ≤ p9) ∧ Hid (hi9 ≤ wf.heap.size) ∧ Hid (Below we.heap.size we wf))
    case first =>
      obtain ⟨p0, p1, p2⟩ := K.out.cells
      obtain ⟨y0, y1, y2, y3, y4⟩ := R.out.cells
      have lk := K.out.lt
      have lr := R.out.lt
      obtain ⟨x0, x1, x2'⟩ := T8.out.cells
      have l8 := T8.out.lt
      refine wp_region_held_drew (S := fun WS => Below we.heap.size we WS) (by kernel_rfl) ((Below.refl _ _).drew) (fun hS0 => ?_)
      refine takeD 0 32 (v := ?_) rfl rfl (by kernel_rfl) (by kernel_rfl) (by kernel_rfl) (fun _ _ _ h => h) (Or.inl ⟨by rfl, ?_⟩) (by assumption) ?_
      rotate_left
      · intro wS hSw; obtain ⟨hcS, hfS⟩ := bcell hSw; go_simp; (try with_reducible rfl)
      (try simp only [Act.put, List.setIfInBounds_toArray, List.set_cons_zero, List.set_cons_succ])
      refine takeD 1 33 (v := ?_) rfl rfl (by kernel_rfl) (by kernel_rfl) (by kernel_rfl) (fun _ _ _ h => h) (Or.inl ⟨by rfl, ?_⟩) (by assumption) ?_
      rotate_left
      · intro wS hSw; obtain ⟨hcS, hfS⟩ := bcell hSw; go_simp; (try with_reducible rfl)
      (try simp only [Act.put, List.setIfInBounds_toArray, List.set_cons_zero, List.set_cons_succ])
      have HB : Hid (Below we.heap.size we we.drew) := (Below.refl _ _).drew
      have OX := Lib.hid (O8.out.below HB.out)
      refine wpAnyH_ready (rs := [2, 7]) (by kernel_rfl) (by simp) ?_
      refine AllReadyH.cons rfl (fun KK hK => ?_) (AllReadyH.cons rfl (fun KK hK => ?_) AllReadyH.nil)
      · go_simp
        refine (toReq rc rn ro rx ry _).mono ?_
        rintro e wx35 ⟨rfl, hb⟩
        have OX := Lib.hid (OX.out.below hb)
        have HB := Lib.hid (Below.and HB.out hb)
        clear hb
        refine hK.out _ _ HB.out (fun hSx36 => ?_)
        clear hK KK
        (try simp only [Act.put, List.setIfInBounds_toArray, List.set_cons_zero, List.set_cons_succ])
        refine wpAnyH_ready (rs := [3, 7]) (by kernel_rfl) (by simp) ?_
        refine AllReadyH.cons rfl (fun KK hK => ?_) (AllReadyH.cons rfl (fun KK hK => ?_) AllReadyH.nil)
        · go_simp
          have LO := Lib.hid (show we.heap.size ≤ wx35.heap.size from HB.out.size)
          refine (HI.out _ _ _ _ _ OX.out.own.rdA).mono ?_
          rintro e wx37 ⟨AS, aS, BS, bS, rfl, oa, hb⟩
          have OX := Lib.hid (OX.out.below hb)
          have HB := Lib.hid (Below.and HB.out hb)
          have OS := Lib.hid oa.bd
          have HZ := Lib.hid (Nat.le_refl wx37.heap.size)
          clear oa hb
          refine hK.out _ _ HB.out (fun hSx38 => ?_)
          clear hK KK
          (try simp only [Act.put, List.setIfInBounds_toArray, List.set_cons_zero, List.set_cons_succ])
          refine takeD 4 31 (v := ?_) rfl rfl (by kernel_rfl) (by kernel_rfl) (by kernel_rfl) (fun _ _ _ h => h) (Or.inl ⟨by rfl, ?_⟩) (by assumption) ?_
          rotate_left
          · intro wS hSw; obtain ⟨hcS, hfS⟩ := bcell hSw; go_simp; (try with_reducible rfl)
          (try simp only [Act.put, List.setIfInBounds_toArray, List.set_cons_zero, List.set_cons_succ])
          refine takeD 5 36 (v := ?_) rfl rfl (by kernel_rfl) (by kernel_rfl) (by kernel_rfl) (fun _ _ _ h => h) (Or.inl ⟨by rfl, ?_⟩) (by assumption) ?_
          rotate_left
          · intro wS hSw; obtain ⟨hcS, hfS⟩ := bcell hSw; go_simp; (try with_reducible rfl)
          (try simp only [Act.put, List.setIfInBounds_toArray, List.set_cons_zero, List.set_cons_succ])
          refine takeD 6 37 (v := ?_) rfl rfl (by kernel_rfl) (by kernel_rfl) (by kernel_rfl) (fun _ _ _ h => h) (Or.inl ⟨by rfl, ?_⟩) (by assumption) ?_
          rotate_left
          · intro wS hSw; obtain ⟨hcS, hfS⟩ := bcell hSw; go_simp; (try with_reducible rfl)
          (try simp only [Act.put, List.setIfInBounds_toArray, List.set_cons_zero, List.set_cons_succ])
          refine wpAnyH_ready (rs := [7]) (by kernel_rfl) (by simp) ?_
          refine AllReadyH.cons rfl (fun KK hK => ?_) AllReadyH.nil
          go_simp
          have hba : Below wx37.heap.size wx37 (wx37.alloc (.cells #[.slice none 0 0, .slice none 0 0, .int .i64 0] 58)) := (Below.refl _ _).alloc (Nat.le_refl _) _
          refine hK.out _ _ (Below.and HB.out hba) (fun hSx41 => ?_)
          clear hK KK
          (try simp only [Act.put, List.setIfInBounds_toArray, List.set_cons_zero, List.set_cons_succ])
          have PB := Lib.hid (show we.heap.size ≤ wx37.heap.size from HB.out.size)
          have OX := Lib.hid (OX.out.below hba)
          have OS := Lib.hid (OS.out.below hba)
          have HB := Lib.hid (Below.and HB.out hba)
          have TB : Hid (Three (wx37.alloc (.cells #[.slice none 0 0, .slice none 0 0, .int .i64 0] 58)) wx37.heap.size 58 (.slice none 0 0) (.slice none 0 0) (.int .i64 0)) := Three.new wx37
          clear hba
          have HZ : Hid (wx37.heap.size ≤ (wx37.alloc (.cells #[.slice none 0 0, .slice none 0 0, .int .i64 0] 58)).heap.size) := by show _ ≤ _; simp
          obtain ⟨HIz, hhi⟩ : ∃ X, X = wx37.heap.size := ⟨_, rfl⟩
          rw [← hhi] at HZ OS
          obtain ⟨px40, hp⟩ : ∃ X, X = wx37.heap.size := ⟨_, rfl⟩
          rw [← hp] at TB PB ⊢
          obtain ⟨wx39, hw⟩ : ∃ X, X = (wx37.alloc (.cells #[.slice none 0 0, .slice none 0 0, .int .i64 0] 58)) := ⟨_, rfl⟩
          rw [← hw] at TB HB OX OS HZ ⊢
          clear hw hp hhi
          refine wpAnyH_ready (rs := [8]) (by kernel_rfl) (by simp) ?_
          refine AllReadyH.cons rfl (fun KK hK => ?_) AllReadyH.nil
          obtain ⟨zb0, zb1, zb2⟩ := TB.out.cells
          have zbf := TB.out.frozen
          go_simp
          have HF : Hid (Below we.heap.size we (((wx39.setCell ⟨px40, 0, none⟩ (.slice AS D1.length aS)).setCell ⟨px40, 1, none⟩ (.slice BS T1.length bS)).setCell ⟨px40, 2, none⟩ (.int .i64 k1))) := ((HB.out.setCell (p := ⟨px40, 0, none⟩) PB.out (.slice AS D1.length aS)).setCell (p := ⟨px40, 1, none⟩) PB.out (.slice BS T1.length bS)).setCell (p := ⟨px40, 2, none⟩) PB.out (.int .i64 k1)
          have OF := Lib.hid (((OS.out.box TB.out 0 (.slice AS D1.length aS)).box (TB.out.set0 _) 1 (.slice BS T1.length bS)).box ((TB.out.set0 _).set1 _) 2 (.int .i64 k1))
          have TF : Hid (Three (((wx39.setCell ⟨px40, 0, none⟩ (.slice AS D1.length aS)).setCell ⟨px40, 1, none⟩ (.slice BS T1.length bS)).setCell ⟨px40, 2, none⟩ (.int .i64 k1)) px40 58 (.slice AS D1.length aS) (.slice BS T1.length bS) (.int .i64 k1)) := ((TB.out.set0 (.slice AS D1.length aS)).set1 (.slice BS T1.length bS)).set2 (.int .i64 k1)
          have ZF := Lib.hid (Nat.le_trans HZ.out (Nat.le_of_eq (show wx39.heap.size = (((wx39.setCell ⟨px40, 0, none⟩ (.slice AS D1.length aS)).setCell ⟨px40, 1, none⟩ (.slice BS T1.length bS)).setCell ⟨px40, 2, none⟩ (.int .i64 k1)).heap.size by simp)))
          refine hK.out _ _ HF.out (fun hSx42 => ?_)
          clear hK KK
          (try simp only [Act.put, List.setIfInBounds_toArray, List.set_cons_zero, List.set_cons_succ])
          refine takeD 9 10 (v := ?_) rfl rfl (by kernel_rfl) (by kernel_rfl) (by kernel_rfl) (fun _ _ _ h => h) (Or.inl ⟨by rfl, ?_⟩) (by assumption) ?_
          rotate_left
          · intro wS hSw; obtain ⟨hcS, hfS⟩ := bcell hSw; go_simp; (try with_reducible rfl)
          (try simp only [Act.put, List.setIfInBounds_toArray, List.set_cons_zero, List.set_cons_succ])
          refine wpAnyH_done (by kernel_rfl) ?_ _
          go_wp2_with (fail)
          go_meet
          case rel => exact ⟨px40, AS, aS, BS, bS, _, _, rfl, rfl, TF, OF, LO, PB, ZF, HF⟩
        · go_simp
          have hba : Below wx35.heap.size wx35 (wx35.alloc (.cells #[.slice none 0 0, .slice none 0 0, .int .i64 0] 58)) := (Below.refl _ _).alloc (Nat.le_refl _) _
          refine hK.out _ _ (Below.and HB.out hba) (fun hSx45 => ?_)
          clear hK KK
          (try simp only [Act.put, List.setIfInBounds_toArray, List.set_cons_zero, List.set_cons_succ])
          have PB := Lib.hid (show we.heap.size ≤ wx35.heap.size from HB.out.size)
          have OX := Lib.hid (OX.out.below hba)
          have HB := Lib.hid (Below.and HB.out hba)
          have TB : Hid (Three (wx35.alloc (.cells #[.slice none 0 0, .slice none 0 0, .int .i64 0] 58)) wx35.heap.size 58 (.slice none 0 0) (.slice none 0 0) (.int .i64 0)) := Three.new wx35
          clear hba
          obtain ⟨px44, hp⟩ : ∃ X, X = wx35.heap.size := ⟨_, rfl⟩
          rw [← hp] at TB PB ⊢
          obtain ⟨wx43, hw⟩ : ∃ X, X = (wx35.alloc (.cells #[.slice none 0 0, .slice none 0 0, .int .i64 0] 58)) := ⟨_, rfl⟩
          rw [← hw] at TB HB OX ⊢
          clear hw hp
          refine wpAnyH_ready (rs := [3]) (by kernel_rfl) (by simp) ?_
          refine AllReadyH.cons rfl (fun KK hK => ?_) AllReadyH.nil
          go_simp
          have LO := Lib.hid (show we.heap.size ≤ wx43.heap.size from HB.out.size)
          refine (HI.out _ _ _ _ _ OX.out.own.rdA).mono ?_
          rintro e wx46 ⟨AS, aS, BS, bS, rfl, oa, hb⟩
          have OX := Lib.hid (OX.out.below hb)
          have TB := Lib.hid (Three.below TB.out hb TB.out.lt)
          have HB := Lib.hid (Below.and HB.out hb)
          have OS := Lib.hid oa.bd
          have HZ := Lib.hid (Nat.le_refl wx46.heap.size)
          clear oa hb
          refine hK.out _ _ HB.out (fun hSx47 => ?_)
          clear hK KK
          (try simp only [Act.put, List.setIfInBounds_toArray, List.set_cons_zero, List.set_cons_succ])
          refine takeD 4 31 (v := ?_) rfl rfl (by kernel_rfl) (by kernel_rfl) (by kernel_rfl) (fun _ _ _ h => h) (Or.inl ⟨by rfl, ?_⟩) (by assumption) ?_
          rotate_left
          · intro wS hSw; obtain ⟨hcS, hfS⟩ := bcell hSw; go_simp; (try with_reducible rfl)
          (try simp only [Act.put, List.setIfInBounds_toArray, List.set_cons_zero, List.set_cons_succ])
          refine takeD 5 36 (v := ?_) rfl rfl (by kernel_rfl) (by kernel_rfl) (by kernel_rfl) (fun _ _ _ h => h) (Or.inl ⟨by rfl, ?_⟩) (by assumption) ?_
          rotate_left
          · intro wS hSw; obtain ⟨hcS, hfS⟩ := bcell hSw; go_simp; (try with_reducible rfl)
          (try simp only [Act.put, List.setIfInBounds_toArray, List.set_cons_zero, List.set_cons_succ])
          refine takeD 6 37 (v := ?_) rfl rfl (by kernel_rfl) (by kernel_rfl) (by kernel_rfl) (fun _ _ _ h => h) (Or.inl ⟨by rfl, ?_⟩) (by assumption) ?_
          rotate_left
          · intro wS hSw; obtain ⟨hcS, hfS⟩ := bcell hSw; go_simp; (try with_reducible rfl)
          (try simp only [Act.put, List.setIfInBounds_toArray, List.set_cons_zero, List.set_cons_succ])
          refine wpAnyH_ready (rs := [8]) (by kernel_rfl) (by simp) ?_
          refine AllReadyH.cons rfl (fun KK hK => ?_) AllReadyH.nil
          obtain ⟨zb0, zb1, zb2⟩ := TB.out.cells
          have zbf := TB.out.frozen
          go_simp
          have HF : Hid (Below we.heap.size we (((wx46.setCell ⟨px44, 0, none⟩ (.slice AS D1.length aS)).setCell ⟨px44, 1, none⟩ (.slice BS T1.length bS)).setCell ⟨px44, 2, none⟩ (.int .i64 k1))) := ((HB.out.setCell (p := ⟨px44, 0, none⟩) PB.out (.slice AS D1.length aS)).setCell (p := ⟨px44, 1, none⟩) PB.out (.slice BS T1.length bS)).setCell (p := ⟨px44, 2, none⟩) PB.out (.int .i64 k1)
          have OF := Lib.hid (((OS.out.box TB.out 0 (.slice AS D1.length aS)).box (TB.out.set0 _) 1 (.slice BS T1.length bS)).box ((TB.out.set0 _).set1 _) 2 (.int .i64 k1))
          have TF : Hid (Three (((wx46.setCell ⟨px44, 0, none⟩ (.slice AS D1.length aS)).setCell ⟨px44, 1, none⟩ (.slice BS T1.length bS)).setCell ⟨px44, 2, none⟩ (.int .i64 k1)) px44 58 (.slice AS D1.length aS) (.slice BS T1.length bS) (.int .i64 k1)) := ((TB.out.set0 (.slice AS D1.length aS)).set1 (.slice BS T1.length bS)).set2 (.int .i64 k1)
          have ZF := Lib.hid (Nat.le_trans HZ.out (Nat.le_of_eq (show wx46.heap.size = (((wx46.setCell ⟨px44, 0, none⟩ (.slice AS D1.length aS)).setCell ⟨px44, 1, none⟩ (.slice BS T1.length bS)).setCell ⟨px44, 2, none⟩ (.int .i64 k1)).heap.size by simp)))
          refine hK.out _ _ HF.out (fun hSx48 => ?_)
          clear hK KK
          (try simp only [Act.put, List.setIfInBounds_toArray, List.set_cons_zero, List.set_cons_succ])
          refine takeD 9 10 (v := ?_) rfl rfl (by kernel_rfl) (by kernel_rfl) (by kernel_rfl) (fun _ _ _ h => h) (Or.inl ⟨by rfl, ?_⟩) (by assumption) ?_
          rotate_left
          · intro wS hSw; obtain ⟨hcS, hfS⟩ := bcell hSw; go_simp; (try with_reducible rfl)
          (try simp only [Act.put, List.setIfInBounds_toArray, List.set_cons_zero, List.set_cons_succ])
          refine wpAnyH_done (by kernel_rfl) ?_ _
          go_wp2_with (fail)
          go_meet
          case rel => exact ⟨px44, AS, aS, BS, bS, _, _, rfl, rfl, TF, OF, LO, PB, ZF, HF⟩
      · go_simp
        have hba : Below we.drew.heap.size we.drew (we.alloc (.cells #[.slice none 0 0, .slice none 0 0, .int .i64 0] 58)).drew := (Below.refl _ _).alloc (Nat.le_refl _) _
        refine hK.out _ _ (Below.and HB.out hba) (fun hSx51 => ?_)
        clear hK KK
        (try simp only [Act.put, List.setIfInBounds_toArray, List.set_cons_zero, List.set_cons_succ])
        have PB := Lib.hid (show we.heap.size ≤ we.heap.size from HB.out.size)
        have OX := Lib.hid (OX.out.below hba)
        have HB := Lib.hid (Below.and HB.out hba)
        have TB : Hid (Three (we.alloc (.cells #[.slice none 0 0, .slice none 0 0, .int .i64 0] 58)).drew we.heap.size 58 (.slice none 0 0) (.slice none 0 0) (.int .i64 0)) := Three.new we
        clear hba
        obtain ⟨wx49, hw⟩ : ∃ X, X = (we.alloc (.cells #[.slice none 0 0, .slice none 0 0, .int .i64 0] 58)).drew := ⟨_, rfl⟩
        rw [← hw] at TB HB OX ⊢
        clear hw
        refine wpAnyH_ready (rs := [2]) (by kernel_rfl) (by simp) ?_
        refine AllReadyH.cons rfl (fun KK hK => ?_) AllReadyH.nil
        go_simp
        refine (toReq rc rn ro rx ry _).mono ?_
        rintro e wx52 ⟨rfl, hb⟩
        have OX := Lib.hid (OX.out.below hb)
        have TB := Lib.hid (Three.below TB.out hb TB.out.lt)
        have HB := Lib.hid (Below.and HB.out hb)
        clear hb
        refine hK.out _ _ HB.out (fun hSx53 => ?_)
        clear hK KK
        (try simp only [Act.put, List.setIfInBounds_toArray, List.set_cons_zero, List.set_cons_succ])
        refine wpAnyH_ready (rs := [3]) (by kernel_rfl) (by simp) ?_
        refine AllReadyH.cons rfl (fun KK hK => ?_) AllReadyH.nil
        go_simp
        have LO := Lib.hid (show we.heap.size ≤ wx52.heap.size from HB.out.size)
        refine (HI.out _ _ _ _ _ OX.out.own.rdA).mono ?_
        rintro e wx54 ⟨AS, aS, BS, bS, rfl, oa, hb⟩
        have OX := Lib.hid (OX.out.below hb)
        have TB := Lib.hid (Three.below TB.out hb TB.out.lt)
        have HB := Lib.hid (Below.and HB.out hb)
        have OS := Lib.hid oa.bd
        have HZ := Lib.hid (Nat.le_refl wx54.heap.size)
        clear oa hb
        refine hK.out _ _ HB.out (fun hSx55 => ?_)
        clear hK KK
        (try simp only [Act.put, List.setIfInBounds_toArray, List.set_cons_zero, List.set_cons_succ])
        refine takeD 4 31 (v := ?_) rfl rfl (by kernel_rfl) (by kernel_rfl) (by kernel_rfl) (fun _ _ _ h => h) (Or.inl ⟨by rfl, ?_⟩) (by assumption) ?_
        rotate_left
        · intro wS hSw; obtain ⟨hcS, hfS⟩ := bcell hSw; go_simp; (try with_reducible rfl)
        (try simp only [Act.put, List.setIfInBounds_toArray, List.set_cons_zero, List.set_cons_succ])
        refine takeD 5 36 (v := ?_) rfl rfl (by kernel_rfl) (by kernel_rfl) (by kernel_rfl) (fun _ _ _ h => h) (Or.inl ⟨by rfl, ?_⟩) (by assumption) ?_
        rotate_left
        · intro wS hSw; obtain ⟨hcS, hfS⟩ := bcell hSw; go_simp; (try with_reducible rfl)
        (try simp only [Act.put, List.setIfInBounds_toArray, List.set_cons_zero, List.set_cons_succ])
        refine takeD 6 37 (v := ?_) rfl rfl (by kernel_rfl) (by kernel_rfl) (by kernel_rfl) (fun _ _ _ h => h) (Or.inl ⟨by rfl, ?_⟩) (by assumption) ?_
        rotate_left
        · intro wS hSw; obtain ⟨hcS, hfS⟩ := bcell hSw; go_simp; (try with_reducible rfl)
        (try simp only [Act.put, List.setIfInBounds_toArray, List.set_cons_zero, List.set_cons_succ])
        refine wpAnyH_ready (rs := [8]) (by kernel_rfl) (by simp) ?_
        refine AllReadyH.cons rfl (fun KK hK => ?_) AllReadyH.nil
        obtain ⟨zb0, zb1, zb2⟩ := TB.out.cells
        have zbf := TB.out.frozen
        go_simp
        have HF : Hid (Below we.heap.size we (((wx54.setCell ⟨we.heap.size, 0, none⟩ (.slice AS D1.length aS)).setCell ⟨we.heap.size, 1, none⟩ (.slice BS T1.length bS)).setCell ⟨we.heap.size, 2, none⟩ (.int .i64 k1))) := ((HB.out.setCell (p := ⟨we.heap.size, 0, none⟩) PB.out (.slice AS D1.length aS)).setCell (p := ⟨we.heap.size, 1, none⟩) PB.out (.slice BS T1.length bS)).setCell (p := ⟨we.heap.size, 2, none⟩) PB.out (.int .i64 k1)
        have OF := Lib.hid (((OS.out.box TB.out 0 (.slice AS D1.length aS)).box (TB.out.set0 _) 1 (.slice BS T1.length bS)).box ((TB.out.set0 _).set1 _) 2 (.int .i64 k1))
        have TF : Hid (Three (((wx54.setCell ⟨we.heap.size, 0, none⟩ (.slice AS D1.length aS)).setCell ⟨we.heap.size, 1, none⟩ (.slice BS T1.length bS)).setCell ⟨we.heap.size, 2, none⟩ (.int .i64 k1)) we.heap.size 58 (.slice AS D1.length aS) (.slice BS T1.length bS) (.int .i64 k1)) := ((TB.out.set0 (.slice AS D1.length aS)).set1 (.slice BS T1.length bS)).set2 (.int .i64 k1)
        have ZF := Lib.hid (Nat.le_trans HZ.out (Nat.le_of_eq (show wx54.heap.size = (((wx54.setCell ⟨we.heap.size, 0, none⟩ (.slice AS D1.length aS)).setCell ⟨we.heap.size, 1, none⟩ (.slice BS T1.length bS)).setCell ⟨we.heap.size, 2, none⟩ (.int .i64 k1)).heap.size by simp)))
        refine hK.out _ _ HF.out (fun hSx56 => ?_)
        clear hK KK
        (try simp only [Act.put, List.setIfInBounds_toArray, List.set_cons_zero, List.set_cons_succ])
        refine takeD 9 10 (v := ?_) rfl rfl (by kernel_rfl) (by kernel_rfl) (by kernel_rfl) (fun _ _ _ h => h) (Or.inl ⟨by rfl, ?_⟩) (by assumption) ?_
        rotate_left
        · intro wS hSw; obtain ⟨hcS, hfS⟩ := bcell hSw; go_simp; (try with_reducible rfl)
        (try simp only [Act.put, List.setIfInBounds_toArray, List.set_cons_zero, List.set_cons_succ])
        refine wpAnyH_done (by kernel_rfl) ?_ _
        go_wp2_with (fail)
        go_meet
        case rel => exact ⟨we.heap.size, AS, aS, BS, bS, _, _, rfl, rfl, TF, OF, LO, PB, ZF, HF⟩
    case rest =>
      obtain ⟨p9, A9, a9, B9, b9, lo9, hi9, rfl, rfl, T9, O9, N9, _, U9, HB⟩ := hcut
      have N9 := Lib.hid (Nat.le_trans U8.out N9.out)
      have N69 := Lib.hid (show hi6 ≤ lo9 by have := N8.out; have := L88.out; have := N9.out; omega)
      have NZ9 := Lib.hid (show w.heap.size ≤ lo9 by have := NZ.out; have := L88.out; have := N9.out; omega)
      have K := Lib.hid (Three.below K.out HB.out K.out.lt)
      have R := Lib.hid (R.out.grown (Below.grownBy HB.out none) (by simp))
      have Z := Lib.hid (Below.and Z.out HB.out)
      have T6 := Lib.hid (Three.below T6.out HB.out T6.out.lt)
      have O6 := Lib.hid (O6.out.below HB.out)
      have T8 := Lib.hid (Three.below T8.out HB.out T8.out.lt)
      have O8 := Lib.hid (O8.out.below HB.out)
      clear HB U8 U9 L88
      obtain ⟨u0, u1, u2⟩ := T9.out.cells
      have lu := T9.out.lt
      obtain ⟨v0, v1, v2⟩ := T6.out.cells
      have lv := T6.out.lt
      go_wp2_with (fail)
      refine (eqAhead_rd _ _ _ _ _ _ _ _ D1 T1 k1 _ (by have := HLN.out.1; omega) (by have := HLN.out.2; omega) O9.out.own.rd.1 O9.out.own.rd.2 O6.out.own.rd.1 O6.out.own.rd.2).mono ?_
      rintro e wg ⟨rfl, hb⟩
      have K := Lib.hid (Three.below K.out hb K.out.lt)
      have R := Lib.hid (R.out.grown (Below.grownBy hb none) (by simp))
      have Z := Lib.hid (Below.and Z.out hb)
      have T6 := Lib.hid (Three.below T6.out hb T6.out.lt)
      have O6 := Lib.hid (O6.out.below hb)
      have T8 := Lib.hid (Three.below T8.out hb T8.out.lt)
      have O8 := Lib.hid (O8.out.below hb)
      have T9 := Lib.hid (Three.below T9.out hb T9.out.lt)
      have O9 := Lib.hid (O9.out.below hb)
      clear hb u0 u1 u2 v0 v1 v2 lu lv
      obtain ⟨u0, u1, u2⟩ := T8.out.cells
      have lu := T8.out.lt
      obtain ⟨p0, p1, p2⟩ := K.out.cells
      have lk := K.out.lt
      go_wp2_with (fail)
      refine wp_region_held_drew (S := fun w1 => Below wg.heap.size wg w1) (by kernel_rfl) ((Below.refl _ _).drew) (fun hq => ?_)
      refine takeD 0 47 (v := ?_) rfl rfl (by kernel_rfl) (by kernel_rfl) (by kernel_rfl) (fun _ _ _ h => h) (Or.inl ⟨by rfl, ?_⟩) (by assumption) ?_
      rotate_left
      · intro w1 hSw; obtain ⟨hcS, hfS⟩ := bcell hSw; go_simp; (try with_reducible rfl)
      (try simp only [Act.put, List.setIfInBounds_toArray, List.set_cons_zero, List.set_cons_succ])
      refine takeD 1 48 (v := ?_) rfl rfl (by kernel_rfl) (by kernel_rfl) (by kernel_rfl) (fun _ _ _ h => h) (Or.inl ⟨by rfl, ?_⟩) (by assumption) ?_
      rotate_left
      · intro w1 hSw; obtain ⟨hcS, hfS⟩ := bcell hSw; go_simp; (try with_reducible rfl)
      (try simp only [Act.put, List.setIfInBounds_toArray, List.set_cons_zero, List.set_cons_succ])
      refine wpAnyH_ready (rs := [2]) (by kernel_rfl) (by simp) ?_
      refine AllReadyH.cons rfl (fun K hK => ?_) AllReadyH.nil
      go_simp
      refine (toAhead A a B b D T k _ hD hT (Rd.below HR.out.d (Below.and Z.out hq)) (Rd.below HR.out.t (Below.and Z.out hq))).mono ?_
      rintro e wJ ⟨g3, h3, rfl, oa, hb⟩
      have OQ := Lib.hid oa
      have OY := Lib.hid (O8.out.below (Below.and hq hb))
      clear oa
      refine hK.out _ _ (Below.and hq hb) (fun hq2 => ?_)
      clear hK K
      (try simp only [Act.put, List.setIfInBounds_toArray, List.set_cons_zero, List.set_cons_succ])
      refine wpAnyH_ready (rs := [3]) (by kernel_rfl) (by simp) ?_
      refine AllReadyH.cons rfl (fun K hK => ?_) AllReadyH.nil
      go_simp
      refine (eqAhead_rd _ _ _ _ _ _ _ _ D T k _ hD hT OY.out.own.rd.1 OY.out.own.rd.2 OQ.out.rd.1 OQ.out.rd.2).mono ?_
      rintro e wK ⟨rfl, hb⟩
      refine hK.out _ _ (Below.and hq2 hb) (fun hq3 => ?_)
      clear hK K
      (try simp only [Act.put, List.setIfInBounds_toArray, List.set_cons_zero, List.set_cons_succ])
      refine takeD 4 51 (v := ?_) rfl rfl (by kernel_rfl) (by kernel_rfl) (by kernel_rfl) (fun _ _ _ h => h) (Or.inl ⟨by rfl, ?_⟩) (by assumption) ?_
      rotate_left
      · intro w1 hSw; obtain ⟨hcS, hfS⟩ := bcell hSw; go_simp; (try with_reducible rfl)
      (try simp only [Act.put, List.setIfInBounds_toArray, List.set_cons_zero, List.set_cons_succ])
      refine wpAnyH_done (by kernel_rfl) ?_ _
      have hb := hq3
      have K := Lib.hid (Three.below K.out hb K.out.lt)
      have R := Lib.hid (R.out.grown (Below.grownBy hb none) (by simp))
      have Z := Lib.hid (Below.and Z.out hb)
      have T6 := Lib.hid (Three.below T6.out hb T6.out.lt)
      have O6 := Lib.hid (O6.out.below hb)
      have T8 := Lib.hid (Three.below T8.out hb T8.out.lt)
      have O8 := Lib.hid (O8.out.below hb)
      have T9 := Lib.hid (Three.below T9.out hb T9.out.lt)
      have O9 := Lib.hid (O9.out.below hb)
      clear hb hq u0 u1 u2 lu p0 p1 p2 lk
      obtain ⟨u0, u1, u2⟩ := T8.out.cells
      have lu := T8.out.lt
      go_wp2_with (fail)
      obtain ⟨v8, hv8⟩ : ∃ v : Int, v = 1 + 5 * (D.length : Int) + 5 * (T.length : Int) := ⟨_, rfl⟩
      have v80 : decide (v8 < 0) = false := by simp; omega
      refine (markAhead k O8.out hD hT).mono ?_
      rintro e wm ⟨rfl, _, hm⟩
      rw [← hv8]
      clear hv8
      have T6 := Lib.hid (O8.out.three hm T6.out (by decide))
      have T9 := Lib.hid (O8.out.three hm T9.out (by decide))
      have K := Lib.hid (O8.out.three hm K.out (by decide))
      have R := Lib.hid (O8.out.five hm R.out (by decide))
      have O6 := Lib.hid (O6.out.mrkd O8.out hm (.inl N8.out))
      have O9 := Lib.hid (O9.out.mrkd O8.out hm (.inr N9.out))
      have Z := Lib.hid (O8.out.under hm Z.out NZ.out)
      clear hm u0 u1 u2 lu T8 O8
      obtain ⟨u0, u1, u2⟩ := T9.out.cells
      have lu := T9.out.lt
      obtain ⟨v0, v1, v2⟩ := T6.out.cells
      have lv := T6.out.lt
      go_wp2_with (fail)
      refine (eqAhead_rd _ _ _ _ _ _ _ _ D1 T1 k1 _ (by have := HLN.out.1; omega) (by have := HLN.out.2; omega) O9.out.own.rd.1 O9.out.own.rd.2 O6.out.own.rd.1 O6.out.own.rd.2).mono ?_
      rintro e wn ⟨rfl, hb⟩
      have K := Lib.hid (Three.below K.out hb K.out.lt)
      have R := Lib.hid (R.out.grown (Below.grownBy hb none) (by simp))
      have Z := Lib.hid (Below.and Z.out hb)
      have T6 := Lib.hid (Three.below T6.out hb T6.out.lt)
      have O6 := Lib.hid (O6.out.below hb)
      have T9 := Lib.hid (Three.below T9.out hb T9.out.lt)
      have O9 := Lib.hid (O9.out.below hb)
      clear hb u0 u1 u2 v0 v1 v2 lu lv
      obtain ⟨u0, u1, u2⟩ := T9.out.cells
      have lu := T9.out.lt
      go_wp2_with (fail)
      obtain ⟨v9, hv9⟩ : ∃ v : Int, v = 1 + 5 * (D1.length : Int) + 5 * (T1.length : Int) := ⟨_, rfl⟩
      have v90 : decide (v9 < 0) = false := by simp; omega
      have v99 : (v9 != v9) = false := by simp
      have HV := Lib.hid hv9
      refine (markAhead k1 O9.out (by have := HLN.out.1; omega) (by have := HLN.out.2; omega)).mono ?_
      rintro e wo ⟨rfl, ma, hm⟩
      rw [← hv9]
      clear hv9
      have M9 := Lib.hid ma
      have T6 := Lib.hid (O9.out.three hm T6.out (by decide))
      have T9 := Lib.hid (O9.out.three hm T9.out (by decide))
      have K := Lib.hid (O9.out.three hm K.out (by decide))
      have R := Lib.hid (O9.out.five hm R.out (by decide))
      have O6 := Lib.hid (O6.out.mrkd O9.out hm (.inl N69.out))
      have Z := Lib.hid (O9.out.under hm Z.out NZ9.out)
      clear hm ma u0 u1 u2 lu O9
      obtain ⟨u0, u1, u2⟩ := T9.out.cells
      have lu := T9.out.lt
      go_wp2_with (fail)
      refine (heldAhead a9 b9 k1 M9.out (by have := HLN.out.1; omega) (by have := HLN.out.2; omega)).mono ?_
      rintro e wp ⟨rfl, hb⟩
      rw [← HV.out]
      have K := Lib.hid (Three.below K.out hb K.out.lt)
      have R := Lib.hid (R.out.grown (Below.grownBy hb none) (by simp))
      have Z := Lib.hid (Below.and Z.out hb)
      have T6 := Lib.hid (Three.below T6.out hb T6.out.lt)
      have O6 := Lib.hid (O6.out.below hb)
      have T9 := Lib.hid (Three.below T9.out hb T9.out.lt)
      have M9 := Lib.hid (M9.out.below hb)
      clear hb u0 u1 u2 lu
      go_upto_region 24 with (fail)
      go_cut [14, 15] from 16 (fun s14 s15 wq => ∃ p9 A9 a9 B9 b9 lo9 hi9, s14 = .pointer (some ⟨p9, 0, none⟩) ∧ s15 = .bool x2 ∧ Hid (Three wq p9 58 (.slice A9 D1.length a9) (.slice B9 T1.length b9) (.int .i64 k1)) ∧ Hid (OwB wq lo9 hi9 A9 a9 B9 b9 D1 T1) ∧ Hid (wp.heap.size ≤ lo9) ∧ Hid (wp.heap.size ≤ p9) ∧ Hid (hi9 ≤ wq.heap.size) ∧ Hid (Below wp.heap.size wp wq))
      case first =>
        obtain ⟨p0, p1, p2⟩ := K.out.cells
        obtain ⟨y0, y1, y2, y3, y4⟩ := R.out.cells
        have lk := K.out.lt
        have lr := R.out.lt
        refine wp_region_held_drew (S := fun WS => Below wp.heap.size wp WS) (by kernel_rfl) ((Below.refl _ _).drew) (fun hS0 => ?_)
        refine takeD 0 80 (v := ?_) rfl rfl (by kernel_rfl) (by kernel_rfl) (by kernel_rfl) (fun _ _ _ h => h) (Or.inl ⟨by rfl, ?_⟩) (by assumption) ?_
        rotate_left
        · intro wS hSw; obtain ⟨hcS, hfS⟩ := bcell hSw; go_simp; (try with_reducible rfl)
        (try simp only [Act.put, List.setIfInBounds_toArray, List.set_cons_zero, List.set_cons_succ])
        refine takeD 2 82 (v := ?_) rfl rfl (by kernel_rfl) (by kernel_rfl) (by kernel_rfl) (fun _ _ _ h => h) (Or.inl ⟨by rfl, ?_⟩) (by assumption) ?_
        rotate_left
        · intro wS hSw; obtain ⟨hcS, hfS⟩ := bcell hSw; go_simp; (try with_reducible rfl)
        (try simp only [Act.put, List.setIfInBounds_toArray, List.set_cons_zero, List.set_cons_succ])
        have HB : Hid (Below wp.heap.size wp wp.drew) := (Below.refl _ _).drew
        refine wpAnyH_ready (rs := [1, 8]) (by kernel_rfl) (by simp) ?_
        refine AllReadyH.cons rfl (fun KK hK => ?_) (AllReadyH.cons rfl (fun KK hK => ?_) AllReadyH.nil)
        · go_simp
          refine (toAhead A a B b D T k _ hD hT (Rd.below HR.out.d (Below.and Z.out HB.out)) (Rd.below HR.out.t (Below.and Z.out HB.out))).mono ?_
          rintro e wx57 ⟨gX, hX, rfl, oa, hb⟩
          have HB := Lib.hid (Below.and HB.out hb)
          have OX := Lib.hid oa.bd
          clear oa hb
          refine hK.out _ _ HB.out (fun hSx58 => ?_)
          clear hK KK
          (try simp only [Act.put, List.setIfInBounds_toArray, List.set_cons_zero, List.set_cons_succ])
          refine wpAnyH_ready (rs := [3, 8]) (by kernel_rfl) (by simp) ?_
          refine AllReadyH.cons rfl (fun KK hK => ?_) (AllReadyH.cons rfl (fun KK hK => ?_) AllReadyH.nil)
          · go_simp
            refine (toReq rc rn ro rx ry _).mono ?_
            rintro e wx59 ⟨rfl, hb⟩
            have OX := Lib.hid (OX.out.below hb)
            have HB := Lib.hid (Below.and HB.out hb)
            clear hb
            refine hK.out _ _ HB.out (fun hSx60 => ?_)
            clear hK KK
            (try simp only [Act.put, List.setIfInBounds_toArray, List.set_cons_zero, List.set_cons_succ])
            refine wpAnyH_ready (rs := [4, 8]) (by kernel_rfl) (by simp) ?_
            refine AllReadyH.cons rfl (fun KK hK => ?_) (AllReadyH.cons rfl (fun KK hK => ?_) AllReadyH.nil)
            · go_simp
              have LO := Lib.hid (show wp.heap.size ≤ wx59.heap.size from HB.out.size)
              refine (HI.out _ _ _ _ _ OX.out.own.rdA).mono ?_
              rintro e wx61 ⟨AS, aS, BS, bS, rfl, oa, hb⟩
              have OX := Lib.hid (OX.out.below hb)
              have HB := Lib.hid (Below.and HB.out hb)
              have OS := Lib.hid oa.bd
              have HZ := Lib.hid (Nat.le_refl wx61.heap.size)
              clear oa hb
              refine hK.out _ _ HB.out (fun hSx62 => ?_)
              clear hK KK
              (try simp only [Act.put, List.setIfInBounds_toArray, List.set_cons_zero, List.set_cons_succ])
              refine takeD 5 79 (v := ?_) rfl rfl (by kernel_rfl) (by kernel_rfl) (by kernel_rfl) (fun _ _ _ h => h) (Or.inl ⟨by rfl, ?_⟩) (by assumption) ?_
              rotate_left
              · intro wS hSw; obtain ⟨hcS, hfS⟩ := bcell hSw; go_simp; (try with_reducible rfl)
              (try simp only [Act.put, List.setIfInBounds_toArray, List.set_cons_zero, List.set_cons_succ])
              refine takeD 6 85 (v := ?_) rfl rfl (by kernel_rfl) (by kernel_rfl) (by kernel_rfl) (fun _ _ _ h => h) (Or.inl ⟨by rfl, ?_⟩) (by assumption) ?_
              rotate_left
              · intro wS hSw; obtain ⟨hcS, hfS⟩ := bcell hSw; go_simp; (try with_reducible rfl)
              (try simp only [Act.put, List.setIfInBounds_toArray, List.set_cons_zero, List.set_cons_succ])
              refine takeD 7 86 (v := ?_) rfl rfl (by kernel_rfl) (by kernel_rfl) (by kernel_rfl) (fun _ _ _ h => h) (Or.inl ⟨by rfl, ?_⟩) (by assumption) ?_
              rotate_left
              · intro wS hSw; obtain ⟨hcS, hfS⟩ := bcell hSw; go_simp; (try with_reducible rfl)
              (try simp only [Act.put, List.setIfInBounds_toArray, List.set_cons_zero, List.set_cons_succ])
              refine wpAnyH_ready (rs := [8]) (by kernel_rfl) (by simp) ?_
              refine AllReadyH.cons rfl (fun KK hK => ?_) AllReadyH.nil
              go_simp
              have hba : Below wx61.heap.size wx61 (wx61.alloc (.cells #[.slice none 0 0, .slice none 0 0, .int .i64 0] 58)) := (Below.refl _ _).alloc (Nat.le_refl _) _
              refine hK.out _ _ (Below.and HB.out hba) (fun hSx65 => ?_)
              clear hK KK
              (try simp only [Act.put, List.setIfInBounds_toArray, List.set_cons_zero, List.set_cons_succ])
              have PB := Lib.hid (show wp.heap.size ≤ wx61.heap.size from HB.out.size)
              have OX := Lib.hid (OX.out.below hba)
              have OS := Lib.hid (OS.out.below hba)
              have HB := Lib.hid (Below.and HB.out hba)
              have TB : Hid (Three (wx61.alloc (.cells #[.slice none 0 0, .slice none 0 0, .int .i64 0] 58)) wx61.heap.size 58 (.slice none 0 0) (.slice none 0 0) (.int .i64 0)) := Three.new wx61
              clear hba
              have HZ : Hid (wx61.heap.size ≤ (wx61.alloc (.cells #[.slice none 0 0, .slice none 0 0, .int .i64 0] 58)).heap.size) := by show _ ≤ _; simp
              obtain ⟨HIz, hhi⟩ : ∃ X, X = wx61.heap.size := ⟨_, rfl⟩
              rw [← hhi] at HZ OS
              obtain ⟨px64, hp⟩ : ∃ X, X = wx61.heap.size := ⟨_, rfl⟩
              rw [← hp] at TB PB ⊢
              obtain ⟨wx63, hw⟩ : ∃ X, X = (wx61.alloc (.cells #[.slice none 0 0, .slice none 0 0, .int .i64 0] 58)) := ⟨_, rfl⟩
              rw [← hw] at TB HB OX OS HZ ⊢
              clear hw hp hhi
              refine wpAnyH_ready (rs := [9]) (by kernel_rfl) (by simp) ?_
              refine AllReadyH.cons rfl (fun KK hK => ?_) AllReadyH.nil
              obtain ⟨zb0, zb1, zb2⟩ := TB.out.cells
              have zbf := TB.out.frozen
              go_simp
              have HF : Hid (Below wp.heap.size wp (((wx63.setCell ⟨px64, 0, none⟩ (.slice AS D1.length aS)).setCell ⟨px64, 1, none⟩ (.slice BS T1.length bS)).setCell ⟨px64, 2, none⟩ (.int .i64 k1))) := ((HB.out.setCell (p := ⟨px64, 0, none⟩) PB.out (.slice AS D1.length aS)).setCell (p := ⟨px64, 1, none⟩) PB.out (.slice BS T1.length bS)).setCell (p := ⟨px64, 2, none⟩) PB.out (.int .i64 k1)
              have OF := Lib.hid (((OS.out.box TB.out 0 (.slice AS D1.length aS)).box (TB.out.set0 _) 1 (.slice BS T1.length bS)).box ((TB.out.set0 _).set1 _) 2 (.int .i64 k1))
              have TF : Hid (Three (((wx63.setCell ⟨px64, 0, none⟩ (.slice AS D1.length aS)).setCell ⟨px64, 1, none⟩ (.slice BS T1.length bS)).setCell ⟨px64, 2, none⟩ (.int .i64 k1)) px64 58 (.slice AS D1.length aS) (.slice BS T1.length bS) (.int .i64 k1)) := ((TB.out.set0 (.slice AS D1.length aS)).set1 (.slice BS T1.length bS)).set2 (.int .i64 k1)
              have ZF := Lib.hid (Nat.le_trans HZ.out (Nat.le_of_eq (show wx63.heap.size = (((wx63.setCell ⟨px64, 0, none⟩ (.slice AS D1.length aS)).setCell ⟨px64, 1, none⟩ (.slice BS T1.length bS)).setCell ⟨px64, 2, none⟩ (.int .i64 k1)).heap.size by simp)))
              refine hK.out _ _ HF.out (fun hSx66 => ?_)
              clear hK KK
              (try simp only [Act.put, List.setIfInBounds_toArray, List.set_cons_zero, List.set_cons_succ])
              refine takeD 10 15 (v := ?_) rfl rfl (by kernel_rfl) (by kernel_rfl) (by kernel_rfl) (fun _ _ _ h => h) (Or.inl ⟨by rfl, ?_⟩) (by assumption) ?_
              rotate_left
              · intro wS hSw; obtain ⟨hcS, hfS⟩ := bcell hSw; go_simp; (try with_reducible rfl)
              (try simp only [Act.put, List.setIfInBounds_toArray, List.set_cons_zero, List.set_cons_succ])
              refine wpAnyH_done (by kernel_rfl) ?_ _
              go_wp2_with (fail)
              go_meet
              case rel => exact ⟨px64, AS, aS, BS, bS, _, _, rfl, rfl, TF, OF, LO, PB, ZF, HF⟩
            · go_simp
              have hba : Below wx59.heap.size wx59 (wx59.alloc (.cells #[.slice none 0 0, .slice none 0 0, .int .i64 0] 58)) := (Below.refl _ _).alloc (Nat.le_refl _) _
              refine hK.out _ _ (Below.and HB.out hba) (fun hSx69 => ?_)
              clear hK KK
              (try simp only [Act.put, List.setIfInBounds_toArray, List.set_cons_zero, List.set_cons_succ])
              have PB := Lib.hid (show wp.heap.size ≤ wx59.heap.size from HB.out.size)
              have OX := Lib.hid (OX.out.below hba)
              have HB := Lib.hid (Below.and HB.out hba)
              have TB : Hid (Three (wx59.alloc (.cells #[.slice none 0 0, .slice none 0 0, .int .i64 0] 58)) wx59.heap.size 58 (.slice none 0 0) (.slice none 0 0) (.int .i64 0)) := Three.new wx59
              clear hba
              obtain ⟨px68, hp⟩ : ∃ X, X = wx59.heap.size := ⟨_, rfl⟩
              rw [← hp] at TB PB ⊢
              obtain ⟨wx67, hw⟩ : ∃ X, X = (wx59.alloc (.cells #[.slice none 0 0, .slice none 0 0, .int .i64 0] 58)) := ⟨_, rfl⟩
              rw [← hw] at TB HB OX ⊢
              clear hw hp
              refine wpAnyH_ready (rs := [4]) (by kernel_rfl) (by simp) ?_
              refine AllReadyH.cons rfl (fun KK hK => ?_) AllReadyH.nil
              go_simp
              have LO := Lib.hid (show wp.heap.size ≤ wx67.heap.size from HB.out.size)
              refine (HI.out _ _ _ _ _ OX.out.own.rdA).mono ?_
              rintro e wx70 ⟨AS, aS, BS, bS, rfl, oa, hb⟩
              have OX := Lib.hid (OX.out.below hb)
              have TB := Lib.hid (Three.below TB.out hb TB.out.lt)
              have HB := Lib.hid (Below.and HB.out hb)
              have OS := Lib.hid oa.bd
              have HZ := Lib.hid (Nat.le_refl wx70.heap.size)
              clear oa hb
              refine hK.out _ _ HB.out (fun hSx71 => ?_)
              clear hK KK
              (try simp only [Act.put, List.setIfInBounds_toArray, List.set_cons_zero, List.set_cons_succ])
              refine takeD 5 79 (v := ?_) rfl rfl (by kernel_rfl) (by kernel_rfl) (by kernel_rfl) (fun _ _ _ h => h) (Or.inl ⟨by rfl, ?_⟩) (by assumption) ?_
              rotate_left
              · intro wS hSw; obtain ⟨hcS, hfS⟩ := bcell hSw; go_simp; (try with_reducible rfl)
              (try simp only [Act.put, List.setIfInBounds_toArray, List.set_cons_zero, List.set_cons_succ])
              refine takeD 6 85 (v := ?_) rfl rfl (by kernel_rfl) (by kernel_rfl) (by kernel_rfl) (fun _ _ _ h => h) (Or.inl ⟨by rfl, ?_⟩) (by assumption) ?_
              rotate_left
              · intro wS hSw; obtain ⟨hcS, hfS⟩ := bcell hSw; go_simp; (try with_reducible rfl)
              (try simp only [Act.put, List.setIfInBounds_toArray, List.set_cons_zero, List.set_cons_succ])
              refine takeD 7 86 (v := ?_) rfl rfl (by kernel_rfl) (by kernel_rfl) (by kernel_rfl) (fun _ _ _ h => h) (Or.inl ⟨by rfl, ?_⟩) (by assumption) ?_
              rotate_left
              · intro wS hSw; obtain ⟨hcS, hfS⟩ := bcell hSw; go_simp; (try with_reducible rfl)
              (try simp only [Act.put, List.setIfInBounds_toArray, List.set_cons_zero, List.set_cons_succ])
              refine wpAnyH_ready (rs := [9]) (by kernel_rfl) (by simp) ?_
              refine AllReadyH.cons rfl (fun KK hK => ?_) AllReadyH.nil
              obtain ⟨zb0, zb1, zb2⟩ := TB.out.cells
              have zbf := TB.out.frozen
              go_simp
              have HF : Hid (Below wp.heap.size wp (((wx70.setCell ⟨px68, 0, none⟩ (.slice AS D1.length aS)).setCell ⟨px68, 1, none⟩ (.slice BS T1.length bS)).setCell ⟨px68, 2, none⟩ (.int .i64 k1))) := ((HB.out.setCell (p := ⟨px68, 0, none⟩) PB.out (.slice AS D1.length aS)).setCell (p := ⟨px68, 1, none⟩) PB.out (.slice BS T1.length bS)).setCell (p := ⟨px68, 2, none⟩) PB.out (.int .i64 k1)
              have OF := Lib.hid (((OS.out.box TB.out 0 (.slice AS D1.length aS)).box (TB.out.set0 _) 1 (.slice BS T1.length bS)).box ((TB.out.set0 _).set1 _) 2 (.int .i64 k1))
              have TF : Hid (Three (((wx70.setCell ⟨px68, 0, none⟩ (.slice AS D1.length aS)).setCell ⟨px68, 1, none⟩ (.slice BS T1.length bS)).setCell ⟨px68, 2, none⟩ (.int .i64 k1)) px68 58 (.slice AS D1.length aS) (.slice BS T1.length bS) (.int .i64 k1)) := ((TB.out.set0 (.slice AS D1.length aS)).set1 (.slice BS T1.length bS)).set2 (.int .i64 k1)
              have ZF := Lib.hid (Nat.le_trans HZ.out (Nat.le_of_eq (show wx70.heap.size = (((wx70.setCell ⟨px68, 0, none⟩ (.slice AS D1.length aS)).setCell ⟨px68, 1, none⟩ (.slice BS T1.length bS)).setCell ⟨px68, 2, none⟩ (.int .i64 k1)).heap.size by simp)))
              refine hK.out _ _ HF.out (fun hSx72 => ?_)
              clear hK KK
              (try simp only [Act.put, List.setIfInBounds_toArray, List.set_cons_zero, List.set_cons_succ])
              refine takeD 10 15 (v := ?_) rfl rfl (by kernel_rfl) (by kernel_rfl) (by kernel_rfl) (fun _ _ _ h => h) (Or.inl ⟨by rfl, ?_⟩) (by assumption) ?_
              rotate_left
              · intro wS hSw; obtain ⟨hcS, hfS⟩ := bcell hSw; go_simp; (try with_reducible rfl)
              (try simp only [Act.put, List.setIfInBounds_toArray, List.set_cons_zero, List.set_cons_succ])
              refine wpAnyH_done (by kernel_rfl) ?_ _
              go_wp2_with (fail)
              go_meet
              case rel => exact ⟨px68, AS, aS, BS, bS, _, _, rfl, rfl, TF, OF, LO, PB, ZF, HF⟩
          · go_simp
            have hba : Below wx57.heap.size wx57 (wx57.alloc (.cells #[.slice none 0 0, .slice none 0 0, .int .i64 0] 58)) := (Below.refl _ _).alloc (Nat.le_refl _) _
            refine hK.out _ _ (Below.and HB.out hba) (fun hSx75 => ?_)
            clear hK KK
            (try simp only [Act.put, List.setIfInBounds_toArray, List.set_cons_zero, List.set_cons_succ])
            have PB := Lib.hid (show wp.heap.size ≤ wx57.heap.size from HB.out.size)
            have OX := Lib.hid (OX.out.below hba)
            have HB := Lib.hid (Below.and HB.out hba)
            have TB : Hid (Three (wx57.alloc (.cells #[.slice none 0 0, .slice none 0 0, .int .i64 0] 58)) wx57.heap.size 58 (.slice none 0 0) (.slice none 0 0) (.int .i64 0)) := Three.new wx57
            clear hba
            obtain ⟨px74, hp⟩ : ∃ X, X = wx57.heap.size := ⟨_, rfl⟩
            rw [← hp] at TB PB ⊢
            obtain ⟨wx73, hw⟩ : ∃ X, X = (wx57.alloc (.cells #[.slice none 0 0, .slice none 0 0, .int .i64 0] 58)) := ⟨_, rfl⟩
            rw [← hw] at TB HB OX ⊢
            clear hw hp
            refine wpAnyH_ready (rs := [3]) (by kernel_rfl) (by simp) ?_
            refine AllReadyH.cons rfl (fun KK hK => ?_) AllReadyH.nil
            go_simp
            refine (toReq rc rn ro rx ry _).mono ?_
            rintro e wx76 ⟨rfl, hb⟩
            have OX := Lib.hid (OX.out.below hb)
            have TB := Lib.hid (Three.below TB.out hb TB.out.lt)
            have HB := Lib.hid (Below.and HB.out hb)
            clear hb
            refine hK.out _ _ HB.out (fun hSx77 => ?_)
            clear hK KK
            (try simp only [Act.put, List.setIfInBounds_toArray, List.set_cons_zero, List.set_cons_succ])
            refine wpAnyH_ready (rs := [4]) (by kernel_rfl) (by simp) ?_
            refine AllReadyH.cons rfl (fun KK hK => ?_) AllReadyH.nil
            go_simp
            have LO := Lib.hid (show wp.heap.size ≤ wx76.heap.size from HB.out.size)
            refine (HI.out _ _ _ _ _ OX.out.own.rdA).mono ?_
            rintro e wx78 ⟨AS, aS, BS, bS, rfl, oa, hb⟩
            have OX := Lib.hid (OX.out.below hb)
            have TB := Lib.hid (Three.below TB.out hb TB.out.lt)
            have HB := Lib.hid (Below.and HB.out hb)
            have OS := Lib.hid oa.bd
            have HZ := Lib.hid (Nat.le_refl wx78.heap.size)
            clear oa hb
            refine hK.out _ _ HB.out (fun hSx79 => ?_)
            clear hK KK
            (try simp only [Act.put, List.setIfInBounds_toArray, List.set_cons_zero, List.set_cons_succ])
            refine takeD 5 79 (v := ?_) rfl rfl (by kernel_rfl) (by kernel_rfl) (by kernel_rfl) (fun _ _ _ h => h) (Or.inl ⟨by rfl, ?_⟩) (by assumption) ?_
            rotate_left
            · intro wS hSw; obtain ⟨hcS, hfS⟩ := bcell hSw; go_simp; (try with_reducible rfl)
            (try simp only [Act.put, List.setIfInBounds_toArray, List.set_cons_zero, List.set_cons_succ])
            refine takeD 6 85 (v := ?_) rfl rfl (by kernel_rfl) (by kernel_rfl) (by kernel_rfl) (fun _ _ _ h => h) (Or.inl ⟨by rfl, ?_⟩) (by assumption) ?_
            rotate_left
            · intro wS hSw; obtain ⟨hcS, hfS⟩ := bcell hSw; go_simp; (try with_reducible rfl)
            (try simp only [Act.put, List.setIfInBounds_toArray, List.set_cons_zero, List.set_cons_succ])
            refine takeD 7 86 (v := ?_) rfl rfl (by kernel_rfl) (by kernel_rfl) (by kernel_rfl) (fun _ _ _ h => h) (Or.inl ⟨by rfl, ?_⟩) (by assumption) ?_
            rotate_left
            · intro wS hSw; obtain ⟨hcS, hfS⟩ := bcell hSw; go_simp; (try with_reducible rfl)
            (try simp only [Act.put, List.setIfInBounds_toArray, List.set_cons_zero, List.set_cons_succ])
            refine wpAnyH_ready (rs := [9]) (by kernel_rfl) (by simp) ?_
            refine AllReadyH.cons rfl (fun KK hK => ?_) AllReadyH.nil
            obtain ⟨zb0, zb1, zb2⟩ := TB.out.cells
            have zbf := TB.out.frozen
            go_simp
            have HF : Hid (Below wp.heap.size wp (((wx78.setCell ⟨px74, 0, none⟩ (.slice AS D1.length aS)).setCell ⟨px74, 1, none⟩ (.slice BS T1.length bS)).setCell ⟨px74, 2, none⟩ (.int .i64 k1))) := ((HB.out.setCell (p := ⟨px74, 0, none⟩) PB.out (.slice AS D1.length aS)).setCell (p := ⟨px74, 1, none⟩) PB.out (.slice BS T1.length bS)).setCell (p := ⟨px74, 2, none⟩) PB.out (.int .i64 k1)
            have OF := Lib.hid (((OS.out.box TB.out 0 (.slice AS D1.length aS)).box (TB.out.set0 _) 1 (.slice BS T1.length bS)).box ((TB.out.set0 _).set1 _) 2 (.int .i64 k1))
            have TF : Hid (Three (((wx78.setCell ⟨px74, 0, none⟩ (.slice AS D1.length aS)).setCell ⟨px74, 1, none⟩ (.slice BS T1.length bS)).setCell ⟨px74, 2, none⟩ (.int .i64 k1)) px74 58 (.slice AS D1.length aS) (.slice BS T1.length bS) (.int .i64 k1)) := ((TB.out.set0 (.slice AS D1.length aS)).set1 (.slice BS T1.length bS)).set2 (.int .i64 k1)
            have ZF := Lib.hid (Nat.le_trans HZ.out (Nat.le_of_eq (show wx78.heap.size = (((wx78.setCell ⟨px74, 0, none⟩ (.slice AS D1.length aS)).setCell ⟨px74, 1, none⟩ (.slice BS T1.length bS)).setCell ⟨px74, 2, none⟩ (.int .i64 k1)).heap.size by simp)))
            refine hK.out _ _ HF.out (fun hSx80 => ?_)
            clear hK KK
            (try simp only [Act.put, List.setIfInBounds_toArray, List.set_cons_zero, List.set_cons_succ])
            refine takeD 10 15 (v := ?_) rfl rfl (by kernel_rfl) (by kernel_rfl) (by kernel_rfl) (fun _ _ _ h => h) (Or.inl ⟨by rfl, ?_⟩) (by assumption) ?_
            rotate_left
            · intro wS hSw; obtain ⟨hcS, hfS⟩ := bcell hSw; go_simp; (try with_reducible rfl)
            (try simp only [Act.put, List.setIfInBounds_toArray, List.set_cons_zero, List.set_cons_succ])
            refine wpAnyH_done (by kernel_rfl) ?_ _
            go_wp2_with (fail)
            go_meet
            case rel => exact ⟨px74, AS, aS, BS, bS, _, _, rfl, rfl, TF, OF, LO, PB, ZF, HF⟩
        · go_simp
          have hba : Below wp.drew.heap.size wp.drew (wp.alloc (.cells #[.slice none 0 0, .slice none 0 0, .int .i64 0] 58)).drew := (Below.refl _ _).alloc (Nat.le_refl _) _
          refine hK.out _ _ (Below.and HB.out hba) (fun hSx83 => ?_)
          clear hK KK
          (try simp only [Act.put, List.setIfInBounds_toArray, List.set_cons_zero, List.set_cons_succ])
          have PB := Lib.hid (show wp.heap.size ≤ wp.heap.size from HB.out.size)
          have HB := Lib.hid (Below.and HB.out hba)
          have TB : Hid (Three (wp.alloc (.cells #[.slice none 0 0, .slice none 0 0, .int .i64 0] 58)).drew wp.heap.size 58 (.slice none 0 0) (.slice none 0 0) (.int .i64 0)) := Three.new wp
          clear hba
          obtain ⟨wx81, hw⟩ : ∃ X, X = (wp.alloc (.cells #[.slice none 0 0, .slice none 0 0, .int .i64 0] 58)).drew := ⟨_, rfl⟩
          rw [← hw] at TB HB ⊢
          clear hw
          refine wpAnyH_ready (rs := [1]) (by kernel_rfl) (by simp) ?_
          refine AllReadyH.cons rfl (fun KK hK => ?_) AllReadyH.nil
          go_simp
          refine (toAhead A a B b D T k _ hD hT (Rd.below HR.out.d (Below.and Z.out HB.out)) (Rd.below HR.out.t (Below.and Z.out HB.out))).mono ?_
          rintro e wx84 ⟨gX, hX, rfl, oa, hb⟩
          have TB := Lib.hid (Three.below TB.out hb TB.out.lt)
          have HB := Lib.hid (Below.and HB.out hb)
          have OX := Lib.hid oa.bd
          clear oa hb
          refine hK.out _ _ HB.out (fun hSx85 => ?_)
          clear hK KK
          (try simp only [Act.put, List.setIfInBounds_toArray, List.set_cons_zero, List.set_cons_succ])
          refine wpAnyH_ready (rs := [3]) (by kernel_rfl) (by simp) ?_
          refine AllReadyH.cons rfl (fun KK hK => ?_) AllReadyH.nil
          go_simp
          refine (toReq rc rn ro rx ry _).mono ?_
          rintro e wx86 ⟨rfl, hb⟩
          have OX := Lib.hid (OX.out.below hb)
          have TB := Lib.hid (Three.below TB.out hb TB.out.lt)
          have HB := Lib.hid (Below.and HB.out hb)
          clear hb
          refine hK.out _ _ HB.out (fun hSx87 => ?_)
          clear hK KK
          (try simp only [Act.put, List.setIfInBounds_toArray, List.set_cons_zero, List.set_cons_succ])
          refine wpAnyH_ready (rs := [4]) (by kernel_rfl) (by simp) ?_
          refine AllReadyH.cons rfl (fun KK hK => ?_) AllReadyH.nil
          go_simp
          have LO := Lib.hid (show wp.heap.size ≤ wx86.heap.size from HB.out.size)
          refine (HI.out _ _ _ _ _ OX.out.own.rdA).mono ?_
          rintro e wx88 ⟨AS, aS, BS, bS, rfl, oa, hb⟩
          have OX := Lib.hid (OX.out.below hb)
          have TB := Lib.hid (Three.below TB.out hb TB.out.lt)
          have HB := Lib.hid (Below.and HB.out hb)
          have OS := Lib.hid oa.bd
          have HZ := Lib.hid (Nat.le_refl wx88.heap.size)
          clear oa hb
          refine hK.out _ _ HB.out (fun hSx89 => ?_)
          clear hK KK
          (try simp only [Act.put, List.setIfInBounds_toArray, List.set_cons_zero, List.set_cons_succ])
          refine takeD 5 79 (v := ?_) rfl rfl (by kernel_rfl) (by kernel_rfl) (by kernel_rfl) (fun _ _ _ h => h) (Or.inl ⟨by rfl, ?_⟩) (by assumption) ?_
          rotate_left
          · intro wS hSw; obtain ⟨hcS, hfS⟩ := bcell hSw; go_simp; (try with_reducible rfl)
          (try simp only [Act.put, List.setIfInBounds_toArray, List.set_cons_zero, List.set_cons_succ])
          refine takeD 6 85 (v := ?_) rfl rfl (by kernel_rfl) (by kernel_rfl) (by kernel_rfl) (fun _ _ _ h => h) (Or.inl ⟨by rfl, ?_⟩) (by assumption) ?_
          rotate_left
          · intro wS hSw; obtain ⟨hcS, hfS⟩ := bcell hSw; go_simp; (try with_reducible rfl)
          (try simp only [Act.put, List.setIfInBounds_toArray, List.set_cons_zero, List.set_cons_succ])
          refine takeD 7 86 (v := ?_) rfl rfl (by kernel_rfl) (by kernel_rfl) (by kernel_rfl) (fun _ _ _ h => h) (Or.inl ⟨by rfl, ?_⟩) (by assumption) ?_
          rotate_left
          · intro wS hSw; obtain ⟨hcS, hfS⟩ := bcell hSw; go_simp; (try with_reducible rfl)
          (try simp only [Act.put, List.setIfInBounds_toArray, List.set_cons_zero, List.set_cons_succ])
          refine wpAnyH_ready (rs := [9]) (by kernel_rfl) (by simp) ?_
          refine AllReadyH.cons rfl (fun KK hK => ?_) AllReadyH.nil
          obtain ⟨zb0, zb1, zb2⟩ := TB.out.cells
          have zbf := TB.out.frozen
          go_simp
          have HF : Hid (Below wp.heap.size wp (((wx88.setCell ⟨wp.heap.size, 0, none⟩ (.slice AS D1.length aS)).setCell ⟨wp.heap.size, 1, none⟩ (.slice BS T1.length bS)).setCell ⟨wp.heap.size, 2, none⟩ (.int .i64 k1))) := ((HB.out.setCell (p := ⟨wp.heap.size, 0, none⟩) PB.out (.slice AS D1.length aS)).setCell (p := ⟨wp.heap.size, 1, none⟩) PB.out (.slice BS T1.length bS)).setCell (p := ⟨wp.heap.size, 2, none⟩) PB.out (.int .i64 k1)
          have OF := Lib.hid (((OS.out.box TB.out 0 (.slice AS D1.length aS)).box (TB.out.set0 _) 1 (.slice BS T1.length bS)).box ((TB.out.set0 _).set1 _) 2 (.int .i64 k1))
          have TF : Hid (Three (((wx88.setCell ⟨wp.heap.size, 0, none⟩ (.slice AS D1.length aS)).setCell ⟨wp.heap.size, 1, none⟩ (.slice BS T1.length bS)).setCell ⟨wp.heap.size, 2, none⟩ (.int .i64 k1)) wp.heap.size 58 (.slice AS D1.length aS) (.slice BS T1.length bS) (.int .i64 k1)) := ((TB.out.set0 (.slice AS D1.length aS)).set1 (.slice BS T1.length bS)).set2 (.int .i64 k1)
          have ZF := Lib.hid (Nat.le_trans HZ.out (Nat.le_of_eq (show wx88.heap.size = (((wx88.setCell ⟨wp.heap.size, 0, none⟩ (.slice AS D1.length aS)).setCell ⟨wp.heap.size, 1, none⟩ (.slice BS T1.length bS)).setCell ⟨wp.heap.size, 2, none⟩ (.int .i64 k1)).heap.size by simp)))
          refine hK.out _ _ HF.out (fun hSx90 => ?_)
          clear hK KK
          (try simp only [Act.put, List.setIfInBounds_toArray, List.set_cons_zero, List.set_cons_succ])
          refine takeD 10 15 (v := ?_) rfl rfl (by kernel_rfl) (by kernel_rfl) (by kernel_rfl) (fun _ _ _ h => h) (Or.inl ⟨by rfl, ?_⟩) (by assumption) ?_
          rotate_left
          · intro wS hSw; obtain ⟨hcS, hfS⟩ := bcell hSw; go_simp; (try with_reducible rfl)
          (try simp only [Act.put, List.setIfInBounds_toArray, List.set_cons_zero, List.set_cons_succ])
          refine wpAnyH_done (by kernel_rfl) ?_ _
          go_wp2_with (fail)
          go_meet
          case rel => exact ⟨wp.heap.size, AS, aS, BS, bS, _, _, rfl, rfl, TF, OF, LO, PB, ZF, HF⟩
      case rest =>
        obtain ⟨p7, A7, a7, B7, b7, lo7, hi7, rfl, rfl, T7, O7, _, _, _, HB⟩ := hcut
        have Z := Lib.hid (Below.and Z.out HB.out)
        have T6 := Lib.hid (Three.below T6.out HB.out T6.out.lt)
        have O6 := Lib.hid (O6.out.below HB.out)
        have T9 := Lib.hid (Three.below T9.out HB.out T9.out.lt)
        have M9 := Lib.hid (M9.out.below HB.out)
        clear HB K R
        obtain ⟨u0, u1, u2⟩ := T7.out.cells
        have lu := T7.out.lt
        obtain ⟨v0, v1, v2⟩ := T6.out.cells
        have lv := T6.out.lt
        go_wp2_with (fail)
        refine (eqAhead_rd _ _ _ _ _ _ _ _ D1 T1 k1 _ (by have := HLN.out.1; omega) (by have := HLN.out.2; omega) O7.out.own.rd.1 O7.out.own.rd.2 O6.out.own.rd.1 O6.out.own.rd.2).mono ?_
        rintro e wr ⟨rfl, hb⟩
        have Z := Lib.hid (Below.and Z.out hb)
        have T9 := Lib.hid (Three.below T9.out hb T9.out.lt)
        have M9 := Lib.hid (M9.out.below hb)
        clear hb u0 u1 u2 v0 v1 v2 lu lv T6 T7 O6 O7
        obtain ⟨u0, u1, u2⟩ := T9.out.cells
        have lu := T9.out.lt
        go_wp2_with (fail)
        refine (heldAhead a9 b9 k1 M9.out (by have := HLN.out.1; omega) (by have := HLN.out.2; omega)).mono ?_
        rintro e wt ⟨rfl, hb⟩
        rw [← HV.out]
        have Z := Lib.hid (Below.and Z.out hb)
        clear hb u0 u1 u2 lu T9 M9 HV
        go_wp2
        go_light
        go_ret
        exact ⟨rfl, Z.out⟩

end Go.Proofs.Ytjhppehifenijaa
