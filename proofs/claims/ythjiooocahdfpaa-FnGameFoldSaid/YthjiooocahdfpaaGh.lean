/- Gold taken from the floor. -/
import Derived.Test.YthjiooocahdfpaaGg
namespace Go.Proofs.Ythjiooocahdfpaa
open Go.ChangeShapes Go.WideShapes Go.ChangeAt Go.RowKit
set_option linter.unusedVariables false
set_option linter.unusedSimpArgs false

set_option maxRecDepth 100000 in
set_option maxHeartbeats 4000000 in
theorem takeNo {w : World} {p lo : Nat} {A : Option Addr} {a : Nat} {B : Option Addr} {b : Nat} {C : Option Addr} {d : Nat} {E : List Fig} {F L : List Int} (h : Bd w p lo A a B b C d E F L) (k : Nat) (hk : k < E.length) (fc fx fy fl fg rc rn ro rx ry v : Int) (hf : E[k]'hk = ⟨fc, fx, fy, fl, fg⟩)
    (b1 : 0 ≤ fx ∧ fx ≤ 3) (b2 : 0 ≤ fy ∧ fy ≤ 3) (b3 : 0 ≤ fg ∧ fg ≤ 20) (hF : 16 ≤ F.length) (hv : F.getD (fy * 4 + fx).toNat 0 = v) (b4 : 0 ≤ v ∧ v ≤ 20) (ho : v = 0) :
    Calls Try.prog 70 #[.agg #[.pointer (some ⟨p, 0, none⟩), .int .i64 k], .agg #[.int .i64 rc, .int .i64 rn, .int .i64 ro, .int .i64 rx, .int .i64 ry]] w fun e w' => e = .returned (.int .i64 7) ∧ Bd w' p lo A a B b C d E F L ∧ Below lo w w' := by
  obtain ⟨g, rfl, _, _⟩ := own_some h.e (by omega)
  obtain ⟨q, rfl, _, _⟩ := own_some h.f (by omega)
  have hlo := (own_block_ge h.e g rfl).1
  have hlq := (own_block_ge h.f q rfl).1
  have hlw : lo ≤ w.heap.size := by have := (own_block_ge h.e g rfl).2; omega
  have hqw := (own_block_ge h.f q rfl).2
  have hgq : g ≠ q := fun e => h.ef g rfl (by rw [e]; rfl)
  have BW : Hid (Below w.heap.size w ((w.alloc (.cells #[.pointer (some ⟨p, 0, none⟩), .int .i64 k] 87)).alloc (.cells #[.int .i64 rc, .int .i64 rn, .int .i64 ro, .int .i64 rx, .int .i64 ry] 35))) := below_alloc2 w _ _
  have H := Lib.hid (h.below BW.out)
  have KF : Hid (Bkk ((w.alloc (.cells #[.pointer (some ⟨p, 0, none⟩), .int .i64 k] 87)).alloc (.cells #[.int .i64 rc, .int .i64 rn, .int .i64 ro, .int .i64 rx, .int .i64 ry] 35)) w.heap.size 87 #[.pointer (some ⟨p, 0, none⟩), .int .i64 k]) := (Bkk.new w).alloc _
  obtain ⟨j, hj⟩ : ∃ j, (fy * 4 + fx).toNat = j := ⟨_, rfl⟩
  have hjl : j < F.length := by omega
  rw [hj] at hv
  have hv' : F[j]'hjl = v := by rw [List.getD_eq_getElem?_getD, List.getElem?_eq_getElem hjl] at hv; exact hv
  have HF := Lib.hid hf
  have HV := Lib.hid hv'
  have HG := Lib.hid hlo
  have HQ := Lib.hid hlq
  have HW := Lib.hid hlw
  have HQW := Lib.hid hqw
  clear hqw
  have HJ := Lib.hid hj
  clear h hf hlo hlq hlw hv hv'
  have gnd : ∀ (wz : World) (hz : Bd wz p lo (some ⟨g, 0, none⟩) a (some ⟨q, 0, none⟩) b C d E F L), Calls Try.prog 85 #[.agg #[.pointer (some ⟨p, 0, none⟩), .int .i64 k]] wz fun r w' => r = .returned (.pointer (some ⟨q, j, none⟩)) ∧ Below wz.heap.size wz w' := fun wz hz => by
    obtain ⟨g', hg', a0, a1, a2, a3, a4⟩ := RdF.of_own hz.e k hk
    cases hg'
    rw [HF.out] at a1 a2
    have := groundAt p k g E.length a q F.length b fx fy wz hz.at_.cells.1 hk hz.at_.cells.2.1 a1 a2 b1 b2 hF
    rw [HJ.out] at this
    exact this
  have GN := Lib.hid gnd
  clear gnd
  go_enter Try.func70, Try.ntmps70
  go_wp2_with (fail)
  refine (GN.out _ H.out).mono ?_
  rintro e wa ⟨rfl, hb⟩
  have BB := Lib.hid (Below.and BW.out hb)
  have H := Lib.hid (H.out.below hb)
  have KF := Lib.hid (KF.out.below hb)
  clear hb
  obtain ⟨q', hq', c0⟩ := RdI.of_own H.out.f j hjl
  cases hq'
  rw [HV.out] at c0
  have l1 : q < wa.heap.size := World.block_lt_of_cell? wa _ c0
  have e0 : (v == 0) = true := by simp [ho]
  go_wp2
  go_light
  go_ret
  exact ⟨rfl, H.out, BB.out.mono HW.out⟩

set_option maxRecDepth 100000 in
set_option maxHeartbeats 4000000 in
theorem takeYes {w : World} {p lo : Nat} {A : Option Addr} {a : Nat} {B : Option Addr} {b : Nat} {C : Option Addr} {d : Nat} {E : List Fig} {F L : List Int} (h : Bd w p lo A a B b C d E F L) (k : Nat) (hk : k < E.length) (fc fx fy fl fg rc rn ro rx ry v : Int) (hf : E[k]'hk = ⟨fc, fx, fy, fl, fg⟩)
    (b1 : 0 ≤ fx ∧ fx ≤ 3) (b2 : 0 ≤ fy ∧ fy ≤ 3) (b3 : 0 ≤ fg ∧ fg ≤ 20) (hF : 16 ≤ F.length) (hv : F.getD (fy * 4 + fx).toNat 0 = v) (b4 : 0 ≤ v ∧ v ≤ 20) (ho : v ≠ 0) :
    Calls Try.prog 70 #[.agg #[.pointer (some ⟨p, 0, none⟩), .int .i64 k], .agg #[.int .i64 rc, .int .i64 rn, .int .i64 ro, .int .i64 rx, .int .i64 ry]] w fun e w' => e = .returned (.int .i64 0) ∧ Bd w' p lo A a B b C d (E.set k ⟨fc, fx, fy, fl, fg + 1⟩) (F.set (fy * 4 + fx).toNat (v - 1)) L ∧ Below lo w w' := by
  obtain ⟨g, rfl, _, _⟩ := own_some h.e (by omega)
  obtain ⟨q, rfl, _, _⟩ := own_some h.f (by omega)
  have hlo := (own_block_ge h.e g rfl).1
  have hlq := (own_block_ge h.f q rfl).1
  have hlw : lo ≤ w.heap.size := by have := (own_block_ge h.e g rfl).2; omega
  have hqw := (own_block_ge h.f q rfl).2
  have hgq : g ≠ q := fun e => h.ef g rfl (by rw [e]; rfl)
  have BW : Hid (Below w.heap.size w ((w.alloc (.cells #[.pointer (some ⟨p, 0, none⟩), .int .i64 k] 87)).alloc (.cells #[.int .i64 rc, .int .i64 rn, .int .i64 ro, .int .i64 rx, .int .i64 ry] 35))) := below_alloc2 w _ _
  have H := Lib.hid (h.below BW.out)
  have KF : Hid (Bkk ((w.alloc (.cells #[.pointer (some ⟨p, 0, none⟩), .int .i64 k] 87)).alloc (.cells #[.int .i64 rc, .int .i64 rn, .int .i64 ro, .int .i64 rx, .int .i64 ry] 35)) w.heap.size 87 #[.pointer (some ⟨p, 0, none⟩), .int .i64 k]) := (Bkk.new w).alloc _
  obtain ⟨j, hj⟩ : ∃ j, (fy * 4 + fx).toNat = j := ⟨_, rfl⟩
  have hjl : j < F.length := by omega
  rw [hj] at hv
  have hv' : F[j]'hjl = v := by rw [List.getD_eq_getElem?_getD, List.getElem?_eq_getElem hjl] at hv; exact hv
  have HF := Lib.hid hf
  have HV := Lib.hid hv'
  have HG := Lib.hid hlo
  have HQ := Lib.hid hlq
  have HW := Lib.hid hlw
  have HQW := Lib.hid hqw
  clear hqw
  have HJ := Lib.hid hj
  clear h hf hlo hlq hlw hv hv'
  have gnd : ∀ (wz : World) (hz : Bd wz p lo (some ⟨g, 0, none⟩) a (some ⟨q, 0, none⟩) b C d E F L), Calls Try.prog 85 #[.agg #[.pointer (some ⟨p, 0, none⟩), .int .i64 k]] wz fun r w' => r = .returned (.pointer (some ⟨q, j, none⟩)) ∧ Below wz.heap.size wz w' := fun wz hz => by
    obtain ⟨g', hg', a0, a1, a2, a3, a4⟩ := RdF.of_own hz.e k hk
    cases hg'
    rw [HF.out] at a1 a2
    have := groundAt p k g E.length a q F.length b fx fy wz hz.at_.cells.1 hk hz.at_.cells.2.1 a1 a2 b1 b2 hF
    rw [HJ.out] at this
    exact this
  have GN := Lib.hid gnd
  clear gnd
  go_enter Try.func70, Try.ntmps70
  go_wp2_with (fail)
  refine (GN.out _ H.out).mono ?_
  rintro e wa ⟨rfl, hb⟩
  have BB := Lib.hid (Below.and BW.out hb)
  have H := Lib.hid (H.out.below hb)
  have KF := Lib.hid (KF.out.below hb)
  clear hb
  obtain ⟨q', hq', c0⟩ := RdI.of_own H.out.f j hjl
  cases hq'
  rw [HV.out] at c0
  have l1 : q < wa.heap.size := World.block_lt_of_cell? wa _ c0
  have e0 : (v == 0) = false := by simp [ho]
  have q1 : IntKind.i64.wrap (v - 1) = v - 1 := IntWalk.i64_in _ (by omega)
  have q2 : IntKind.i64.wrap (fg + 1) = fg + 1 := IntWalk.i64_in _ (by omega)
  have ff := fun i => H.out.f.frozenAt i
  have S1 := Lib.hid (H.out.setF j hjl (v - 1))
  have B1 : Hid (Below lo w (wa.setCell ⟨q, j, none⟩ (.int .i64 (v - 1)))) := Below.setCell (BB.out.mono HW.out) HQ.out _
  have hwq : q ≠ w.heap.size := by have := HQW.out; omega
  have KF1 : Hid (Bkk (wa.setCell ⟨q, j, none⟩ (.int .i64 (v - 1))) w.heap.size 87 #[.pointer (some ⟨p, 0, none⟩), .int .i64 k]) := KF.out.far hwq.symm j _
  have x0 : (wa.setCell ⟨q, j, none⟩ (.int .i64 (v - 1))).cell? ⟨w.heap.size, 0, none⟩ = some (.pointer (some ⟨p, 0, none⟩)) := KF1.out.cell 0
  have x1 : (wa.setCell ⟨q, j, none⟩ (.int .i64 (v - 1))).cell? ⟨w.heap.size, 1, none⟩ = some (.int .i64 k) := KF1.out.cell 1
  clear KF KF1
  go_wp2_with (fail)
  refine (entAt p k g E.length a _ S1.out.at_.cells.1 hk).mono ?_
  rintro e wb ⟨rfl, hb⟩
  have S1 := Lib.hid (S1.out.below hb)
  have B1 : Hid (Below lo w wb) := Below.trans B1.out (hb.mono (by have := B1.out.size; have := HW.out; omega))
  clear hb x0 x1 c0 ff H BB
  obtain ⟨g', hg', a0, a1, a2, a3, a4⟩ := RdF.of_own S1.out.e k hk
  cases hg'
  rw [HF.out] at a4
  simp only at a4
  have ff := fun i => S1.out.e.frozenAt i
  clear a0 a1 a2 a3
  go_wp2
  go_light
  go_ret
  have S2 := S1.out.setE k 4 hk (by decide) (.int .i64 (fg + 1)) ⟨fc, fx, fy, fl, fg + 1⟩ (by rw [HF.out]; rfl)
  rw [HJ.out]
  exact ⟨rfl, S2, Below.setCell B1.out HG.out _⟩

end Go.Proofs.Ythjiooocahdfpaa
