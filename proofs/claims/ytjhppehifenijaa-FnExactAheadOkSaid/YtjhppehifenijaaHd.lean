/- The exact law of AheadOk, walked. -/
import Derived.Test.YtjhppehifenijaaHc
import Derived.Deep.Cut
namespace Go.Proofs.Ytjhppehifenijaa
open Go.ChangeShapes Go.WideShapes Go.ChangeAt Go.RowKit
set_option linter.unusedVariables false
set_option linter.unusedSimpArgs false

set_option maxRecDepth 100000 in
set_option maxHeartbeats 4000000 in
theorem exactAheadOk (A : Option Addr) (a : Nat) (B : Option Addr) (b : Nat) (D W : List Rq) (k : Int) (w : World) (mD : D.length ≤ maxLen) (mW : W.length ≤ maxLen) (rD : Rd 5 Rq.cells w A D) (rW : Rd 5 Rq.cells w B W) :
    Calls Try.prog 7 #[aheadV A D.length a B W.length b k] w fun e w' => e = .returned (.bool true) ∧ Below w.heap.size w w' := by
  have HD := Lib.hid rD
  have HW := Lib.hid rW
  have K0 := Lib.hid (Three.new (u0 := .slice A D.length a) (u1 := .slice B W.length b) (u2 := .int .i64 k) (t := 54) w)
  have Z : Hid (Below w.heap.size w (w.alloc (.cells #[.slice A D.length a, .slice B W.length b, .int .i64 k] 54))) := (Below.refl _ _).alloc (Nat.le_refl _) _
  clear rD rW
  go_enter Try.func7, Try.ntmps7
  go_wp2_with (fail)
  refine (szAhead A D.length a B W.length b k _ mD mW).mono ?_
  rintro e w1 ⟨rfl, hb⟩
  have K0 := Lib.hid (Three.below K0.out hb K0.out.lt)
  have Z := Lib.hid (Below.and Z.out hb)
  clear hb
  by_cases hs : ¬ D.length + W.length ≤ 1048576
  · rw [show szOfA D.length W.length = -1 by unfold szOfA; rw [if_neg hs]]
    go_wp2
    go_light
    go_ret
    exact ⟨rfl, Z.out⟩
  have hD : D.length ≤ 1048576 := by omega
  have hW : W.length ≤ 1048576 := by omega
  rw [show szOfA D.length W.length = 1048576 - (D.length : Int) - (W.length : Int) by unfold szOfA; rw [if_pos (by omega)]]
  have e0 : decide ((1048576 : Int) - (D.length : Int) - (W.length : Int) < 0) = false := by simp; omega
  clear mD mW
  obtain ⟨q0, q1, q2⟩ := K0.out.cells
  go_wp2_with (fail)
  refine (toAhead A a B b D W k _ hD hW (Rd.below HD.out Z.out) (Rd.below HW.out Z.out)).mono ?_
  rintro e w2 ⟨g1, h1, rfl, oa, hb⟩
  have OA := Lib.hid oa
  have K0 := Lib.hid (Three.below K0.out hb K0.out.lt)
  have Z := Lib.hid (Below.and Z.out hb)
  clear hb oa q0 q1 q2
  go_wp2_with (fail)
  refine (specAheadOk _ _ _ _ D W k _ hD hW OA.out.rd.1 OA.out.rd.2).mono ?_
  rintro e w3 ⟨rfl, hb⟩
  have K0 := Lib.hid (Three.below K0.out hb K0.out.lt)
  have Z := Lib.hid (Below.and Z.out hb)
  clear hb OA
  obtain ⟨bb, hbb⟩ : ∃ bb, ahB D W k = bb := ⟨_, rfl⟩
  have HBB := Lib.hid hbb
  rw [hbb]
  clear hbb
  have nb : (bb != bb) = false := by simp
  obtain ⟨q0, q1, q2⟩ := K0.out.cells
  go_wp2_with (fail)
  refine (toAhead A a B b D W k _ hD hW (Rd.below HD.out Z.out) (Rd.below HW.out Z.out)).mono ?_
  rintro e w4 ⟨g2, h2, rfl, oa, hb⟩
  have hba : Below w4.heap.size w4 (w4.alloc (.cells #[.slice (some ⟨g2, 0, none⟩) D.length D.length, .slice (some ⟨h2, 0, none⟩) W.length W.length, .int .i64 k] 58)) := (Below.refl _ _).alloc (Nat.le_refl _) _
  have OA2 := Lib.hid (oa.below hba)
  have K5 := Lib.hid (Three.new (u0 := .slice (some ⟨g2, 0, none⟩) D.length D.length) (u1 := .slice (some ⟨h2, 0, none⟩) W.length W.length) (u2 := .int .i64 k) (t := 58) w4)
  have K0 := Lib.hid (Three.below (Three.below K0.out hb K0.out.lt) hba (by have := K0.out.lt; have := hb.size; omega))
  have Z := Lib.hid (Below.and (Below.and Z.out hb) hba)
  clear hb hba oa q0 q1 q2
  go_upto_region 7 with (fail)
  obtain ⟨p5, hp5⟩ : ∃ X, X = w4.heap.size := ⟨_, rfl⟩
  obtain ⟨wA, hwA⟩ : ∃ X, X = w4.alloc (.cells #[.slice (some ⟨g2, 0, none⟩) D.length D.length, .slice (some ⟨h2, 0, none⟩) W.length W.length, .int .i64 k] 58) := ⟨_, rfl⟩
  rw [← hwA] at OA2 K5 K0 Z ⊢
  rw [← hp5] at K5 ⊢
  clear hwA hp5
  obtain ⟨q0, q1, q2⟩ := K5.out.cells
  go_wp2_with (fail)
  refine (implAheadOk _ _ _ _ D W k _ hD hW OA2.out.rd.1 OA2.out.rd.2).mono ?_
  rintro e w5 ⟨rfl, hb⟩
  rw [HBB.out]
  have OA2 := Lib.hid (OA2.out.below hb)
  have K5 := Lib.hid (Three.below K5.out hb K5.out.lt)
  have K0 := Lib.hid (Three.below K0.out hb K0.out.lt)
  have Z := Lib.hid (Below.and Z.out hb)
  clear hb q0 q1 q2
  obtain ⟨q0, q1, q2⟩ := K5.out.cells
  obtain ⟨p0, p1, p2⟩ := K0.out.cells
  have lq := K5.out.lt
  have lp := K0.out.lt
  go_wp2_with (fail)
  refine wp_region_held_drew (S := fun w1 => Below w5.heap.size w5 w1) (by kernel_rfl) ((Below.refl _ _).drew) (fun hq => ?_)
  refine takeD 0 22 (v := ?_) rfl rfl (by kernel_rfl) (by kernel_rfl) (by kernel_rfl) (fun _ _ _ h => h) (Or.inl ⟨by rfl, ?_⟩) (by assumption) ?_
  rotate_left
  · intro w1 hSw; obtain ⟨hcS, hfS⟩ := bcell hSw; go_simp; (try with_reducible rfl)
  (try simp only [Act.put, List.setIfInBounds_toArray, List.set_cons_zero, List.set_cons_succ])
  refine takeD 1 23 (v := ?_) rfl rfl (by kernel_rfl) (by kernel_rfl) (by kernel_rfl) (fun _ _ _ h => h) (Or.inl ⟨by rfl, ?_⟩) (by assumption) ?_
  rotate_left
  · intro w1 hSw; obtain ⟨hcS, hfS⟩ := bcell hSw; go_simp; (try with_reducible rfl)
  (try simp only [Act.put, List.setIfInBounds_toArray, List.set_cons_zero, List.set_cons_succ])
  refine wpAnyH_ready (rs := [2]) (by kernel_rfl) (by simp) ?_
  refine AllReadyH.cons rfl (fun K hK => ?_) AllReadyH.nil
  go_simp
  refine (toAhead A a B b D W k _ hD hW (Rd.below HD.out (Below.and Z.out hq)) (Rd.below HW.out (Below.and Z.out hq))).mono ?_
  rintro e w6 ⟨g3, h3, rfl, oa, hb⟩
  have OA3 := Lib.hid oa
  have OA2x := Lib.hid (OA2.out.below (Below.and hq hb))
  clear oa
  refine hK.out _ _ (Below.and hq hb) (fun hq2 => ?_)
  clear hK K
  (try simp only [Act.put, List.setIfInBounds_toArray, List.set_cons_zero, List.set_cons_succ])
  refine wpAnyH_ready (rs := [3]) (by kernel_rfl) (by simp) ?_
  refine AllReadyH.cons rfl (fun K hK => ?_) AllReadyH.nil
  go_simp
  refine (eqAhead_rd _ _ _ _ _ _ _ _ D W k _ hD hW OA2x.out.rd.1 OA2x.out.rd.2 OA3.out.rd.1 OA3.out.rd.2).mono ?_
  rintro e w7 ⟨rfl, hb⟩
  refine hK.out _ _ (Below.and hq2 hb) (fun hq3 => ?_)
  clear hK K
  (try simp only [Act.put, List.setIfInBounds_toArray, List.set_cons_zero, List.set_cons_succ])
  refine takeD 4 26 (v := ?_) rfl rfl (by kernel_rfl) (by kernel_rfl) (by kernel_rfl) (fun _ _ _ h => h) (Or.inl ⟨by rfl, ?_⟩) (by assumption) ?_
  rotate_left
  · intro w1 hSw; obtain ⟨hcS, hfS⟩ := bcell hSw; go_simp; (try with_reducible rfl)
  (try simp only [Act.put, List.setIfInBounds_toArray, List.set_cons_zero, List.set_cons_succ])
  refine wpAnyH_done (by kernel_rfl) ?_ _
  have BW := Lib.hid (Below.and Z.out hq3)
  go_wp2
  go_light
  go_ret
  exact ⟨rfl, BW.out⟩

end Go.Proofs.Ytjhppehifenijaa
