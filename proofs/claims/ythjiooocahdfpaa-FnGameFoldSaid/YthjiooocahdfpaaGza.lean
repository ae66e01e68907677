/- A figure hit: the program's way, ahead of a removal. -/
import Derived.Test.YthjiooocahdfpaaGz
namespace Go.Proofs.Ythjiooocahdfpaa
open Go.ChangeShapes Go.WideShapes Go.ChangeAt Go.RowKit
set_option linter.unusedVariables false
set_option linter.unusedSimpArgs false

set_option maxRecDepth 100000 in
set_option maxHeartbeats 2000000 in
theorem hitOffI {w : World} {p lo : Nat} {A : Option Addr} {a : Nat} {B : Option Addr} {b : Nat} {C : Option Addr} {d : Nat} {E : List Fig} {F L : List Int} (h : Bd w p lo A a B b C d E F L) (k : Nat) (P : Option Addr) (i : Int) (rc rn ro rx ry : Int) (ho : ∀ wz : World, Bd wz p lo A a B b C d E F L → Calls Try.prog 86 #[.agg #[.pointer (some ⟨p, 0, none⟩), .int .i64 k], .int .i64 rx] wz fun e w' => e = .returned (.tuple #[.agg #[.pointer P, .int .i64 i], .bool false]) ∧ Below wz.heap.size wz w') :
    Calls Try.prog 71 #[.agg #[.pointer (some ⟨p, 0, none⟩), .int .i64 k], .agg #[.int .i64 rc, .int .i64 rn, .int .i64 ro, .int .i64 rx, .int .i64 ry]] w fun e w' => e = .returned (.int .i64 8) ∧ Bd w' p lo A a B b C d E F L ∧ Below w.heap.size w w' := by
  have BW : Hid (Below w.heap.size w ((w.alloc (.cells #[.pointer (some ⟨p, 0, none⟩), .int .i64 k] 87)).alloc (.cells #[.int .i64 rc, .int .i64 rn, .int .i64 ro, .int .i64 rx, .int .i64 ry] 35))) := below_alloc2 w _ _
  have HSW : Hid (((w.alloc (.cells #[.pointer (some ⟨p, 0, none⟩), .int .i64 k] 87)).alloc (.cells #[.int .i64 rc, .int .i64 rn, .int .i64 ro, .int .i64 rx, .int .i64 ry] 35)).heap.size = w.heap.size + 2) := by show _ = _; simp
  have H := Lib.hid (h.below BW.out)
  have KF : Hid (Bkk ((w.alloc (.cells #[.pointer (some ⟨p, 0, none⟩), .int .i64 k] 87)).alloc (.cells #[.int .i64 rc, .int .i64 rn, .int .i64 ro, .int .i64 rx, .int .i64 ry] 35)) w.heap.size 87 #[.pointer (some ⟨p, 0, none⟩), .int .i64 k]) := (Bkk.new w).alloc _
  have KR : Hid (Bkk ((w.alloc (.cells #[.pointer (some ⟨p, 0, none⟩), .int .i64 k] 87)).alloc (.cells #[.int .i64 rc, .int .i64 rn, .int .i64 ro, .int .i64 rx, .int .i64 ry] 35)) (w.heap.size + 1) 35 #[.int .i64 rc, .int .i64 rn, .int .i64 ro, .int .i64 rx, .int .i64 ry]) := by have := Bkk.new (t := 35) (cs := #[.int .i64 rc, .int .i64 rn, .int .i64 ro, .int .i64 rx, .int .i64 ry]) (w.alloc (.cells #[.pointer (some ⟨p, 0, none⟩), .int .i64 k] 87)); simpa [Hid] using this
  have HO := Lib.hid ho
  clear h ho
  go_enter Try.func71, Try.ntmps71
  go_wp2_with (fail)
  refine (HO.out _ H.out).mono ?_
  rintro e wa ⟨rfl, hb⟩
  have BB : Hid (Below w.heap.size w (wa.alloc (.cells #[.pointer P, .int .i64 i] 87))) := (Below.and BW.out hb).alloc (Below.and BW.out hb).size _
  have BN : Hid (Below wa.heap.size wa (wa.alloc (.cells #[.pointer P, .int .i64 i] 87))) := (Below.refl _ _).alloc (Nat.le_refl _) _
  have H := Lib.hid ((H.out.below hb).below BN.out)
  have KN : Hid (Bkk (wa.alloc (.cells #[.pointer P, .int .i64 i] 87)) wa.heap.size 87 #[.pointer P, .int .i64 i]) := Bkk.new wa
  have KF := Lib.hid ((KF.out.below hb).alloc (.cells #[.pointer P, .int .i64 i] 87))
  have KR := Lib.hid ((KR.out.below hb).alloc (.cells #[.pointer P, .int .i64 i] 87))
  have l1 : w.heap.size + 1 < wa.heap.size := by have := hb.size; rw [HSW.out] at this; omega
  have l0 : w.heap.size < wa.heap.size := by omega
  clear hb
  go_wp2
  go_light
  go_ret
  exact ⟨rfl, H.out, BB.out⟩

set_option maxRecDepth 100000 in
set_option maxHeartbeats 8000000 in
theorem hitLiveI {w : World} {p lo : Nat} {A : Option Addr} {a : Nat} {B : Option Addr} {b : Nat} {C : Option Addr} {d : Nat} {E : List Fig} {F L : List Int} (h : Bd w p lo A a B b C d E F L) (k n : Nat) (hn : n < E.length) (nc nx ny nl ng : Int) (hfn : E[n]'hn = ⟨nc, nx, ny, nl, ng⟩) (b0 : 0 ≤ nl ∧ nl ≤ 3) (rc rn ro rx ry : Int) (ho : ∀ wz : World, Bd wz p lo A a B b C d E F L → Calls Try.prog 86 #[.agg #[.pointer (some ⟨p, 0, none⟩), .int .i64 k], .int .i64 rx] wz fun e w' => e = .returned (.tuple #[.agg #[.pointer (some ⟨p, 0, none⟩), .int .i64 n], .bool true]) ∧ Below wz.heap.size wz w') (hl : ¬ nl - 1 ≤ 0) :
    Calls Try.prog 71 #[.agg #[.pointer (some ⟨p, 0, none⟩), .int .i64 k], .agg #[.int .i64 rc, .int .i64 rn, .int .i64 ro, .int .i64 rx, .int .i64 ry]] w fun e w' => e = .returned (.int .i64 0) ∧ Bd w' p lo A a B b C d (E.set n ⟨nc, nx, ny, nl - 1, ng⟩) F L ∧ Below lo w w' := by
  obtain ⟨g, rfl, _, _⟩ := own_some h.e (by omega)
  have hlo := (own_block_ge h.e g rfl).1
  have hgw := (own_block_ge h.e g rfl).2
  have hlw : lo ≤ w.heap.size := by omega
  have HFN := Lib.hid hfn
  have BW : Hid (Below w.heap.size w ((w.alloc (.cells #[.pointer (some ⟨p, 0, none⟩), .int .i64 k] 87)).alloc (.cells #[.int .i64 rc, .int .i64 rn, .int .i64 ro, .int .i64 rx, .int .i64 ry] 35))) := below_alloc2 w _ _
  have HSW : Hid (((w.alloc (.cells #[.pointer (some ⟨p, 0, none⟩), .int .i64 k] 87)).alloc (.cells #[.int .i64 rc, .int .i64 rn, .int .i64 ro, .int .i64 rx, .int .i64 ry] 35)).heap.size = w.heap.size + 2) := by show _ = _; simp
  have H := Lib.hid (h.below BW.out)
  have KF : Hid (Bkk ((w.alloc (.cells #[.pointer (some ⟨p, 0, none⟩), .int .i64 k] 87)).alloc (.cells #[.int .i64 rc, .int .i64 rn, .int .i64 ro, .int .i64 rx, .int .i64 ry] 35)) w.heap.size 87 #[.pointer (some ⟨p, 0, none⟩), .int .i64 k]) := (Bkk.new w).alloc _
  have KR : Hid (Bkk ((w.alloc (.cells #[.pointer (some ⟨p, 0, none⟩), .int .i64 k] 87)).alloc (.cells #[.int .i64 rc, .int .i64 rn, .int .i64 ro, .int .i64 rx, .int .i64 ry] 35)) (w.heap.size + 1) 35 #[.int .i64 rc, .int .i64 rn, .int .i64 ro, .int .i64 rx, .int .i64 ry]) := by have := Bkk.new (t := 35) (cs := #[.int .i64 rc, .int .i64 rn, .int .i64 ro, .int .i64 rx, .int .i64 ry]) (w.alloc (.cells #[.pointer (some ⟨p, 0, none⟩), .int .i64 k] 87)); simpa [Hid] using this
  have HO := Lib.hid ho
  have q1 : IntKind.i64.wrap (nl - 1) = nl - 1 := IntWalk.i64_in _ (by omega)
  have HG := Lib.hid hlo
  have HW := Lib.hid hlw
  have HGW := Lib.hid hgw
  clear hlo hlw hgw hfn
  have e5 : decide (nl - 1 ≤ 0) = false := by simpa using hl
  clear h ho
  go_enter Try.func71, Try.ntmps71
  go_wp2_with (fail)
  refine (HO.out _ H.out).mono ?_
  rintro e wa ⟨rfl, hb⟩
  have BB : Hid (Below w.heap.size w (wa.alloc (.cells #[.pointer (some ⟨p, 0, none⟩), .int .i64 n] 87))) := (Below.and BW.out hb).alloc (Below.and BW.out hb).size _
  have BN : Hid (Below wa.heap.size wa (wa.alloc (.cells #[.pointer (some ⟨p, 0, none⟩), .int .i64 n] 87))) := (Below.refl _ _).alloc (Nat.le_refl _) _
  have H := Lib.hid ((H.out.below hb).below BN.out)
  have KN : Hid (Bkk (wa.alloc (.cells #[.pointer (some ⟨p, 0, none⟩), .int .i64 n] 87)) wa.heap.size 87 #[.pointer (some ⟨p, 0, none⟩), .int .i64 n]) := Bkk.new wa
  have KF := Lib.hid ((KF.out.below hb).alloc (.cells #[.pointer (some ⟨p, 0, none⟩), .int .i64 n] 87))
  have KR := Lib.hid ((KR.out.below hb).alloc (.cells #[.pointer (some ⟨p, 0, none⟩), .int .i64 n] 87))
  have l1 : w.heap.size + 1 < wa.heap.size := by have := hb.size; rw [HSW.out] at this; omega
  have l0 : w.heap.size < wa.heap.size := by omega
  clear hb
  go_wp2_with (fail)
  obtain ⟨wc, hwc⟩ : ∃ wc, (wa.alloc (.cells #[.pointer (some ⟨p, 0, none⟩), .int .i64 n] 87)) = wc := ⟨_, rfl⟩
  rw [hwc] at BB H KN KF KR ⊢
  have lc : wa.heap.size < wc.heap.size := KN.out.lt
  clear hwc BN KF KR
  have x0 : wc.cell? ⟨wa.heap.size, 0, none⟩ = some (.pointer (some ⟨p, 0, none⟩)) := KN.out.cell 0
  have x1 : wc.cell? ⟨wa.heap.size, 1, none⟩ = some (.int .i64 n) := KN.out.cell 1
  go_wp2_with (fail)
  refine (entAt p n g E.length a _ H.out.at_.cells.1 hn).mono ?_
  rintro e wd ⟨rfl, hb⟩
  have BB := Lib.hid (Below.and BB.out hb)
  have H := Lib.hid (H.out.below hb)
  have KN := Lib.hid (KN.out.below hb)
  clear hb x0 x1 lc
  have x0 : wd.cell? ⟨wa.heap.size, 0, none⟩ = some (.pointer (some ⟨p, 0, none⟩)) := KN.out.cell 0
  have x1 : wd.cell? ⟨wa.heap.size, 1, none⟩ = some (.int .i64 n) := KN.out.cell 1
  obtain ⟨g', hg', a0, a1, a2, xg, a4⟩ := RdF.of_own H.out.e n hn
  cases hg'
  rw [HFN.out] at xg
  simp only at xg
  clear a0 a1 a2 a4
  have lg : g < wd.heap.size := World.block_lt_of_cell? wd _ xg
  have ff := fun i => H.out.e.frozenAt i
  have d5 : ¬ g = wa.heap.size := by have := HGW.out; omega
  have d6 : ¬ wa.heap.size = g := by omega
  have S1 : Hid (Bd ((wd).setCell ⟨g, n * 5 + 3, none⟩ (.int .i64 (nl - 1))) p lo (some ⟨g, 0, none⟩) a B b C d (E.set n ⟨nc, nx, ny, nl - 1, ng⟩) F L) := H.out.setE n 3 hn (by decide) (.int .i64 (nl - 1)) ⟨nc, nx, ny, nl - 1, ng⟩ (by rw [HFN.out]; rfl)
  have KN1 := Lib.hid (KN.out.far d6 (n * 5 + 3) (.int .i64 (nl - 1)))
  have B1 : Hid (Below lo w ((wd).setCell ⟨g, n * 5 + 3, none⟩ (.int .i64 (nl - 1)))) := Below.setCell (BB.out.mono HW.out) HG.out _
  go_wp2_with (fail)
  obtain ⟨wf, hwf⟩ : ∃ wf, wf = ((wd).setCell ⟨g, n * 5 + 3, none⟩ (.int .i64 (nl - 1))) := ⟨_, rfl⟩
  rw [← hwf] at S1 KN1 B1 ⊢
  clear hwf x0 x1 xg ff lg BB H KN
  have hn' : n < (E.set n ⟨nc, nx, ny, nl - 1, ng⟩).length := by rw [List.length_set]; exact hn
  have HFN' : Hid ((E.set n ⟨nc, nx, ny, nl - 1, ng⟩)[n]'hn' = ⟨nc, nx, ny, nl - 1, ng⟩) := by show _ = _; rw [List.getElem_set_self]
  refine (entAt p n g (E.set n ⟨nc, nx, ny, nl - 1, ng⟩).length a _ S1.out.at_.cells.1 hn').mono ?_
  rintro e wg ⟨rfl, hb⟩
  have H := Lib.hid (S1.out.below hb)
  have KN := Lib.hid (KN1.out.below hb)
  have B2 : Hid (Below lo w wg) := Below.trans B1.out (hb.mono (by have := B1.out.size; have := HW.out; omega))
  have LL := Lib.hid (show wa.heap.size < wg.heap.size from KN.out.lt)
  clear hb S1 KN1 B1
  have x0 : wg.cell? ⟨wa.heap.size, 0, none⟩ = some (.pointer (some ⟨p, 0, none⟩)) := KN.out.cell 0
  have x1 : wg.cell? ⟨wa.heap.size, 1, none⟩ = some (.int .i64 n) := KN.out.cell 1
  obtain ⟨g', hg', a0, a1, a2, xg, a4⟩ := RdF.of_own H.out.e n hn'
  cases hg'
  rw [HFN'.out] at xg
  simp only at xg
  clear a0 a1 a2 a4
  have lg : g < wg.heap.size := World.block_lt_of_cell? wg _ xg
  go_wp2
  go_light
  go_ret
  exact ⟨rfl, H.out, B2.out⟩

theorem hitDieI {w : World} {p lo : Nat} {A : Option Addr} {a : Nat} {B : Option Addr} {b : Nat} {C : Option Addr} {d : Nat} {E : List Fig} {F L : List Int} (h : Bd w p lo A a B b C d E F L) (k n : Nat) (hn : n < E.length) (nc nx ny nl ng : Int) (hfn : E[n]'hn = ⟨nc, nx, ny, nl, ng⟩) (b0 : 0 ≤ nl ∧ nl ≤ 3) (rc rn ro rx ry : Int) (ho : ∀ wz : World, Bd wz p lo A a B b C d E F L → Calls Try.prog 86 #[.agg #[.pointer (some ⟨p, 0, none⟩), .int .i64 k], .int .i64 rx] wz fun e w' => e = .returned (.tuple #[.agg #[.pointer (some ⟨p, 0, none⟩), .int .i64 n], .bool true]) ∧ Below wz.heap.size wz w') (hl : nl - 1 ≤ 0) (E2 : List Fig) (F2 : List Int) (hrm : ∀ wz : World, Bd wz p lo A a B b C d (E.set n ⟨nc, nx, ny, nl - 1, ng⟩) F L → Calls Try.prog 87 #[.agg #[.pointer (some ⟨p, 0, none⟩), .int .i64 n]] wz fun e w' => e = .returned (.tuple #[]) ∧ Bd w' p lo A a B b C d E2 F2 L ∧ Below lo wz w') :
    Calls Try.prog 71 #[.agg #[.pointer (some ⟨p, 0, none⟩), .int .i64 k], .agg #[.int .i64 rc, .int .i64 rn, .int .i64 ro, .int .i64 rx, .int .i64 ry]] w fun e w' => e = .returned (.int .i64 0) ∧ Bd w' p lo A a B b C d E2 F2 L ∧ Below lo w w' := by
  obtain ⟨g, rfl, _, _⟩ := own_some h.e (by omega)
  have hlo := (own_block_ge h.e g rfl).1
  have hgw := (own_block_ge h.e g rfl).2
  have hlw : lo ≤ w.heap.size := by omega
  have HFN := Lib.hid hfn
  have BW : Hid (Below w.heap.size w ((w.alloc (.cells #[.pointer (some ⟨p, 0, none⟩), .int .i64 k] 87)).alloc (.cells #[.int .i64 rc, .int .i64 rn, .int .i64 ro, .int .i64 rx, .int .i64 ry] 35))) := below_alloc2 w _ _
  have HSW : Hid (((w.alloc (.cells #[.pointer (some ⟨p, 0, none⟩), .int .i64 k] 87)).alloc (.cells #[.int .i64 rc, .int .i64 rn, .int .i64 ro, .int .i64 rx, .int .i64 ry] 35)).heap.size = w.heap.size + 2) := by show _ = _; simp
  have H := Lib.hid (h.below BW.out)
  have KF : Hid (Bkk ((w.alloc (.cells #[.pointer (some ⟨p, 0, none⟩), .int .i64 k] 87)).alloc (.cells #[.int .i64 rc, .int .i64 rn, .int .i64 ro, .int .i64 rx, .int .i64 ry] 35)) w.heap.size 87 #[.pointer (some ⟨p, 0, none⟩), .int .i64 k]) := (Bkk.new w).alloc _
  have KR : Hid (Bkk ((w.alloc (.cells #[.pointer (some ⟨p, 0, none⟩), .int .i64 k] 87)).alloc (.cells #[.int .i64 rc, .int .i64 rn, .int .i64 ro, .int .i64 rx, .int .i64 ry] 35)) (w.heap.size + 1) 35 #[.int .i64 rc, .int .i64 rn, .int .i64 ro, .int .i64 rx, .int .i64 ry]) := by have := Bkk.new (t := 35) (cs := #[.int .i64 rc, .int .i64 rn, .int .i64 ro, .int .i64 rx, .int .i64 ry]) (w.alloc (.cells #[.pointer (some ⟨p, 0, none⟩), .int .i64 k] 87)); simpa [Hid] using this
  have HO := Lib.hid ho
  have q1 : IntKind.i64.wrap (nl - 1) = nl - 1 := IntWalk.i64_in _ (by omega)
  have HG := Lib.hid hlo
  have HW := Lib.hid hlw
  have HGW := Lib.hid hgw
  clear hlo hlw hgw hfn
  have e5 : decide (nl - 1 ≤ 0) = true := by simpa using hl
  have HRM := Lib.hid hrm
  clear hrm
  clear h ho
  go_enter Try.func71, Try.ntmps71
  go_wp2_with (fail)
  refine (HO.out _ H.out).mono ?_
  rintro e wa ⟨rfl, hb⟩
  have BB : Hid (Below w.heap.size w (wa.alloc (.cells #[.pointer (some ⟨p, 0, none⟩), .int .i64 n] 87))) := (Below.and BW.out hb).alloc (Below.and BW.out hb).size _
  have BN : Hid (Below wa.heap.size wa (wa.alloc (.cells #[.pointer (some ⟨p, 0, none⟩), .int .i64 n] 87))) := (Below.refl _ _).alloc (Nat.le_refl _) _
  have H := Lib.hid ((H.out.below hb).below BN.out)
  have KN : Hid (Bkk (wa.alloc (.cells #[.pointer (some ⟨p, 0, none⟩), .int .i64 n] 87)) wa.heap.size 87 #[.pointer (some ⟨p, 0, none⟩), .int .i64 n]) := Bkk.new wa
  have KF := Lib.hid ((KF.out.below hb).alloc (.cells #[.pointer (some ⟨p, 0, none⟩), .int .i64 n] 87))
  have KR := Lib.hid ((KR.out.below hb).alloc (.cells #[.pointer (some ⟨p, 0, none⟩), .int .i64 n] 87))
  have l1 : w.heap.size + 1 < wa.heap.size := by have := hb.size; rw [HSW.out] at this; omega
  have l0 : w.heap.size < wa.heap.size := by omega
  clear hb
  go_wp2_with (fail)
  obtain ⟨wc, hwc⟩ : ∃ wc, (wa.alloc (.cells #[.pointer (some ⟨p, 0, none⟩), .int .i64 n] 87)) = wc := ⟨_, rfl⟩
  rw [hwc] at BB H KN KF KR ⊢
  have lc : wa.heap.size < wc.heap.size := KN.out.lt
  clear hwc BN KF KR
  have x0 : wc.cell? ⟨wa.heap.size, 0, none⟩ = some (.pointer (some ⟨p, 0, none⟩)) := KN.out.cell 0
  have x1 : wc.cell? ⟨wa.heap.size, 1, none⟩ = some (.int .i64 n) := KN.out.cell 1
  go_wp2_with (fail)
  refine (entAt p n g E.length a _ H.out.at_.cells.1 hn).mono ?_
  rintro e wd ⟨rfl, hb⟩
  have BB := Lib.hid (Below.and BB.out hb)
  have H := Lib.hid (H.out.below hb)
  have KN := Lib.hid (KN.out.below hb)
  clear hb x0 x1 lc
  have x0 : wd.cell? ⟨wa.heap.size, 0, none⟩ = some (.pointer (some ⟨p, 0, none⟩)) := KN.out.cell 0
  have x1 : wd.cell? ⟨wa.heap.size, 1, none⟩ = some (.int .i64 n) := KN.out.cell 1
  obtain ⟨g', hg', a0, a1, a2, xg, a4⟩ := RdF.of_own H.out.e n hn
  cases hg'
  rw [HFN.out] at xg
  simp only at xg
  clear a0 a1 a2 a4
  have lg : g < wd.heap.size := World.block_lt_of_cell? wd _ xg
  have ff := fun i => H.out.e.frozenAt i
  have d5 : ¬ g = wa.heap.size := by have := HGW.out; omega
  have d6 : ¬ wa.heap.size = g := by omega
  have S1 : Hid (Bd ((wd).setCell ⟨g, n * 5 + 3, none⟩ (.int .i64 (nl - 1))) p lo (some ⟨g, 0, none⟩) a B b C d (E.set n ⟨nc, nx, ny, nl - 1, ng⟩) F L) := H.out.setE n 3 hn (by decide) (.int .i64 (nl - 1)) ⟨nc, nx, ny, nl - 1, ng⟩ (by rw [HFN.out]; rfl)
  have KN1 := Lib.hid (KN.out.far d6 (n * 5 + 3) (.int .i64 (nl - 1)))
  have B1 : Hid (Below lo w ((wd).setCell ⟨g, n * 5 + 3, none⟩ (.int .i64 (nl - 1)))) := Below.setCell (BB.out.mono HW.out) HG.out _
  go_wp2_with (fail)
  obtain ⟨wf, hwf⟩ : ∃ wf, wf = ((wd).setCell ⟨g, n * 5 + 3, none⟩ (.int .i64 (nl - 1))) := ⟨_, rfl⟩
  rw [← hwf] at S1 KN1 B1 ⊢
  clear hwf x0 x1 xg ff lg BB H KN
  have hn' : n < (E.set n ⟨nc, nx, ny, nl - 1, ng⟩).length := by rw [List.length_set]; exact hn
  have HFN' : Hid ((E.set n ⟨nc, nx, ny, nl - 1, ng⟩)[n]'hn' = ⟨nc, nx, ny, nl - 1, ng⟩) := by show _ = _; rw [List.getElem_set_self]
  refine (entAt p n g (E.set n ⟨nc, nx, ny, nl - 1, ng⟩).length a _ S1.out.at_.cells.1 hn').mono ?_
  rintro e wg ⟨rfl, hb⟩
  have H := Lib.hid (S1.out.below hb)
  have KN := Lib.hid (KN1.out.below hb)
  have B2 : Hid (Below lo w wg) := Below.trans B1.out (hb.mono (by have := B1.out.size; have := HW.out; omega))
  have LL := Lib.hid (show wa.heap.size < wg.heap.size from KN.out.lt)
  clear hb S1 KN1 B1
  have x0 : wg.cell? ⟨wa.heap.size, 0, none⟩ = some (.pointer (some ⟨p, 0, none⟩)) := KN.out.cell 0
  have x1 : wg.cell? ⟨wa.heap.size, 1, none⟩ = some (.int .i64 n) := KN.out.cell 1
  obtain ⟨g', hg', a0, a1, a2, xg, a4⟩ := RdF.of_own H.out.e n hn'
  cases hg'
  rw [HFN'.out] at xg
  simp only at xg
  clear a0 a1 a2 a4
  have lg : g < wg.heap.size := World.block_lt_of_cell? wg _ xg
  go_wp2_with (fail)
  refine (HRM.out _ H.out).mono ?_
  rintro e wh ⟨rfl, hG, hb⟩
  have HG2 := Lib.hid hG
  have B3 := Lib.hid (Below.trans B2.out hb)
  clear hG hb
  go_wp2
  go_light
  go_ret
  exact ⟨rfl, HG2.out, B3.out⟩

end Go.Proofs.Ythjiooocahdfpaa
