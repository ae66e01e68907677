import Derived.Test.YtameldhdegcpoaaNB
namespace Go.Proofs.Ytameldhdegcpoaa
open Go.ChangeShapes Go.WideShapes Go.ChangeAt Go.RowKit
set_option linter.unusedVariables false
set_option linter.unusedSimpArgs false
set_option maxRecDepth 100000 in
set_option maxHeartbeats 2000000 in
theorem giveOffI {w : World} {p lo : Nat} {A : Option Addr} {a : Nat} {B : Option Addr} {b : Nat} {C : Option Addr} {d : Nat} {E : List Fig} {F L : List Int} (h : Bd w p lo A a B b C d E F L) (k : Nat) (P : Option Addr) (i : Int) (rc rn ro rx ry : Int) (ho : ∀ wz : World, Bd wz p lo A a B b C d E F L → Calls Try.prog 114 #[.agg #[.pointer (some ⟨p, 0, none⟩), .int .i64 k], .int .i64 rx] wz fun e w' => e = .returned (.tuple #[.agg #[.pointer P, .int .i64 i], .bool false]) ∧ Below wz.heap.size wz w') :
 Calls Try.prog 103 #[.agg #[.pointer (some ⟨p, 0, none⟩), .int .i64 k], .agg #[.int .i64 rc, .int .i64 rn, .int .i64 ro, .int .i64 rx, .int .i64 ry]] w fun e w' => e = .returned (.int .i64 8) ∧ Bd w' p lo A a B b C d E F L ∧ Below w.heap.size w w' := by
 have BW : Hid (Below w.heap.size w ((w.alloc (.cells #[.pointer (some ⟨p, 0, none⟩), .int .i64 k] 111)).alloc (.cells #[.int .i64 rc, .int .i64 rn, .int .i64 ro, .int .i64 rx, .int .i64 ry] 49))) := below_alloc2 w _ _
 have HSW : Hid (((w.alloc (.cells #[.pointer (some ⟨p, 0, none⟩), .int .i64 k] 111)).alloc (.cells #[.int .i64 rc, .int .i64 rn, .int .i64 ro, .int .i64 rx, .int .i64 ry] 49)).heap.size = w.heap.size + 2) := by show _ = _; simp
 have H := Lib.hid (h.below BW.out)
 have KF : Hid (Bkk ((w.alloc (.cells #[.pointer (some ⟨p, 0, none⟩), .int .i64 k] 111)).alloc (.cells #[.int .i64 rc, .int .i64 rn, .int .i64 ro, .int .i64 rx, .int .i64 ry] 49)) w.heap.size 111 #[.pointer (some ⟨p, 0, none⟩), .int .i64 k]) := (Bkk.new w).alloc _
 have KR : Hid (Bkk ((w.alloc (.cells #[.pointer (some ⟨p, 0, none⟩), .int .i64 k] 111)).alloc (.cells #[.int .i64 rc, .int .i64 rn, .int .i64 ro, .int .i64 rx, .int .i64 ry] 49)) (w.heap.size + 1) 49 #[.int .i64 rc, .int .i64 rn, .int .i64 ro, .int .i64 rx, .int .i64 ry]) := by have := Bkk.new (t := 49) (cs := #[.int .i64 rc, .int .i64 rn, .int .i64 ro, .int .i64 rx, .int .i64 ry]) (w.alloc (.cells #[.pointer (some ⟨p, 0, none⟩), .int .i64 k] 111)); simpa [Hid] using this
 have HO := Lib.hid ho
 clear h ho
 go_enter Try.func103, Try.ntmps103
 go_wp2_with (fail)
 refine (HO.out _ H.out).mono ?_
 rintro e wa ⟨rfl, hb⟩
 have BB : Hid (Below w.heap.size w (wa.alloc (.cells #[.pointer P, .int .i64 i] 111))) := (Below.and BW.out hb).alloc (Below.and BW.out hb).size _
 have BN : Hid (Below wa.heap.size wa (wa.alloc (.cells #[.pointer P, .int .i64 i] 111))) := (Below.refl _ _).alloc (Nat.le_refl _) _
 have H := Lib.hid ((H.out.below hb).below BN.out)
 have KN : Hid (Bkk (wa.alloc (.cells #[.pointer P, .int .i64 i] 111)) wa.heap.size 111 #[.pointer P, .int .i64 i]) := Bkk.new wa
 have KF := Lib.hid ((KF.out.below hb).alloc (.cells #[.pointer P, .int .i64 i] 111))
 have KR := Lib.hid ((KR.out.below hb).alloc (.cells #[.pointer P, .int .i64 i] 111))
 have l1 : w.heap.size + 1 < wa.heap.size := by have := hb.size; rw [HSW.out] at this; omega
 have l0 : w.heap.size < wa.heap.size := by omega
 clear hb
 go_wp2
 go_light
 go_ret
 exact ⟨rfl, H.out, BB.out⟩
set_option maxRecDepth 100000 in
set_option maxHeartbeats 4000000 in
theorem givePoorI {w : World} {p lo : Nat} {A : Option Addr} {a : Nat} {B : Option Addr} {b : Nat} {C : Option Addr} {d : Nat} {E : List Fig} {F L : List Int} (h : Bd w p lo A a B b C d E F L) (k n : Nat) (hk : k < E.length) (hn : n < E.length) (hne : n ≠ k) (kc kx k_y kl kg nc nx ny nl ng : Int) (hfk : E[k]'hk = ⟨kc, kx, k_y, kl, kg⟩) (hfn : E[n]'hn = ⟨nc, nx, ny, nl, ng⟩) (rc rn ro rx ry : Int) (ho : ∀ wz : World, Bd wz p lo A a B b C d E F L → Calls Try.prog 114 #[.agg #[.pointer (some ⟨p, 0, none⟩), .int .i64 k], .int .i64 rx] wz fun e w' => e = .returned (.tuple #[.agg #[.pointer (some ⟨p, 0, none⟩), .int .i64 n], .bool true]) ∧ Below wz.heap.size wz w') (hry : kg < ry) :
 Calls Try.prog 103 #[.agg #[.pointer (some ⟨p, 0, none⟩), .int .i64 k], .agg #[.int .i64 rc, .int .i64 rn, .int .i64 ro, .int .i64 rx, .int .i64 ry]] w fun e w' => e = .returned (.int .i64 7) ∧ Bd w' p lo A a B b C d E F L ∧ Below w.heap.size w w' := by
 obtain ⟨g, rfl, _, _⟩ := own_some h.e (by omega)
 have HFK := Lib.hid hfk
 have HFN := Lib.hid hfn
 have BW : Hid (Below w.heap.size w ((w.alloc (.cells #[.pointer (some ⟨p, 0, none⟩), .int .i64 k] 111)).alloc (.cells #[.int .i64 rc, .int .i64 rn, .int .i64 ro, .int .i64 rx, .int .i64 ry] 49))) := below_alloc2 w _ _
 have HSW : Hid (((w.alloc (.cells #[.pointer (some ⟨p, 0, none⟩), .int .i64 k] 111)).alloc (.cells #[.int .i64 rc, .int .i64 rn, .int .i64 ro, .int .i64 rx, .int .i64 ry] 49)).heap.size = w.heap.size + 2) := by show _ = _; simp
 have H := Lib.hid (h.below BW.out)
 have KF : Hid (Bkk ((w.alloc (.cells #[.pointer (some ⟨p, 0, none⟩), .int .i64 k] 111)).alloc (.cells #[.int .i64 rc, .int .i64 rn, .int .i64 ro, .int .i64 rx, .int .i64 ry] 49)) w.heap.size 111 #[.pointer (some ⟨p, 0, none⟩), .int .i64 k]) := (Bkk.new w).alloc _
 have KR : Hid (Bkk ((w.alloc (.cells #[.pointer (some ⟨p, 0, none⟩), .int .i64 k] 111)).alloc (.cells #[.int .i64 rc, .int .i64 rn, .int .i64 ro, .int .i64 rx, .int .i64 ry] 49)) (w.heap.size + 1) 49 #[.int .i64 rc, .int .i64 rn, .int .i64 ro, .int .i64 rx, .int .i64 ry]) := by have := Bkk.new (t := 49) (cs := #[.int .i64 rc, .int .i64 rn, .int .i64 ro, .int .i64 rx, .int .i64 ry]) (w.alloc (.cells #[.pointer (some ⟨p, 0, none⟩), .int .i64 k] 111)); simpa [Hid] using this
 have HO := Lib.hid ho
 have e5 : decide (kg < ry) = true := by simpa using hry
 clear hfk hfn
 clear h ho
 go_enter Try.func103, Try.ntmps103
 go_wp2_with (fail)
 refine (HO.out _ H.out).mono ?_
 rintro e wa ⟨rfl, hb⟩
 have BB : Hid (Below w.heap.size w (wa.alloc (.cells #[.pointer (some ⟨p, 0, none⟩), .int .i64 n] 111))) := (Below.and BW.out hb).alloc (Below.and BW.out hb).size _
 have BN : Hid (Below wa.heap.size wa (wa.alloc (.cells #[.pointer (some ⟨p, 0, none⟩), .int .i64 n] 111))) := (Below.refl _ _).alloc (Nat.le_refl _) _
 have H := Lib.hid ((H.out.below hb).below BN.out)
 have KN : Hid (Bkk (wa.alloc (.cells #[.pointer (some ⟨p, 0, none⟩), .int .i64 n] 111)) wa.heap.size 111 #[.pointer (some ⟨p, 0, none⟩), .int .i64 n]) := Bkk.new wa
 have KF := Lib.hid ((KF.out.below hb).alloc (.cells #[.pointer (some ⟨p, 0, none⟩), .int .i64 n] 111))
 have KR := Lib.hid ((KR.out.below hb).alloc (.cells #[.pointer (some ⟨p, 0, none⟩), .int .i64 n] 111))
 have l1 : w.heap.size + 1 < wa.heap.size := by have := hb.size; rw [HSW.out] at this; omega
 have l0 : w.heap.size < wa.heap.size := by omega
 clear hb
 go_wp2_with (fail)
 obtain ⟨wc, hwc⟩ : ∃ wc, (wa.alloc (.cells #[.pointer (some ⟨p, 0, none⟩), .int .i64 n] 111)) = wc := ⟨_, rfl⟩
 rw [hwc] at BB H KN KF KR ⊢
 have lc : wa.heap.size < wc.heap.size := KN.out.lt
 have l3 : w.heap.size < wc.heap.size := KF.out.lt
 have l4 : w.heap.size + 1 < wc.heap.size := KR.out.lt
 clear hwc BN
 have x0 : wc.cell? ⟨w.heap.size, 0, none⟩ = some (.pointer (some ⟨p, 0, none⟩)) := KF.out.cell 0
 have x1 : wc.cell? ⟨w.heap.size, 1, none⟩ = some (.int .i64 k) := KF.out.cell 1
 have x2 : wc.cell? ⟨w.heap.size + 1, 4, none⟩ = some (.int .i64 ry) := KR.out.cell 4
 obtain ⟨g', hg', a0, a1, a2, a3, a4⟩ := RdF.of_own H.out.e k hk
 cases hg'
 rw [HFK.out] at a4
 simp only at a4
 have lg : g < wc.heap.size := World.block_lt_of_cell? wc _ a4
 clear a0 a1 a2 a3
 refine wp_region_held_drew (S := fun w1 => Below wc.heap.size wc w1) (by kernel_rfl) ((Below.refl _ _).drew) (fun hH => ?_)
 refine tkI 0 16 (v := ?_) rfl rfl ?_ ?_
 rotate_left
 · intro w1 hSw; obtain ⟨hcS, hfS⟩ := bcell hSw; go_simp; (try with_reducible rfl)
 (try simp only [Act.put, pu1, pu2, pu3])
 refine tkI 5 21 (v := ?_) rfl rfl ?_ ?_
 rotate_left
 · intro w1 hSw; obtain ⟨hcS, hfS⟩ := bcell hSw; go_simp; (try with_reducible rfl)
 (try simp only [Act.put, pu1, pu2, pu3])
 refine tkI 6 22 (v := ?_) rfl rfl ?_ ?_
 rotate_left
 · intro w1 hSw; obtain ⟨hcS, hfS⟩ := bcell hSw; go_simp; (try with_reducible rfl)
 (try simp only [Act.put, pu1, pu2, pu3])
 refine wpAnyH_ready (rs := [1]) (by kernel_rfl) (by simp) ?_
 refine AllReadyH.cons rfl (fun K hK => ?_) AllReadyH.nil
 go_simp
 refine (entAt p k g E.length a _ (H.out.below hH).at_.cells.1 hk).mono ?_
 rintro e wd ⟨rfl, hb⟩
 refine hK.out _ _ (Below.and hH hb) (fun hH2 => ?_)
 clear hK K
 (try simp only [Act.put, pu1, pu2, pu3])
 refine tkI 2 18 (v := ?_) rfl rfl ?_ ?_
 rotate_left
 · intro w1 hSw; obtain ⟨hcS, hfS⟩ := bcell hSw; go_simp; (try with_reducible rfl)
 (try simp only [Act.put, pu1, pu2, pu3])
 refine tkI 3 19 (v := ?_) rfl rfl ?_ ?_
 rotate_left
 · intro w1 hSw; obtain ⟨hcS, hfS⟩ := bcell hSw; go_simp; (try with_reducible rfl)
 (try simp only [Act.put, pu1, pu2, pu3])
 refine tkI 4 20 (v := ?_) rfl rfl ?_ ?_
 rotate_left
 · intro w1 hSw; obtain ⟨hcS, hfS⟩ := bcell hSw; go_simp; (try with_reducible rfl)
 (try simp only [Act.put, pu1, pu2, pu3])
 refine tkI 7 23 (v := ?_) rfl rfl ?_ ?_
 rotate_left
 · intro w1 hSw; obtain ⟨hcS, hfS⟩ := bcell hSw; go_simp; (try with_reducible rfl)
 (try simp only [Act.put, pu1, pu2, pu3])
 refine wpAnyH_done (by kernel_rfl) ?_ _
 have BB := Lib.hid (Below.and BB.out hH2)
 have H := Lib.hid (H.out.below hH2)
 have KN := Lib.hid (KN.out.below hH2)
 have KF := Lib.hid (KF.out.below hH2)
 have KR := Lib.hid (KR.out.below hH2)
 clear hH2 x0 x1 x2 a4 lg lc l3 l4
 go_wp2
 go_light
 go_ret
 exact ⟨rfl, H.out, BB.out⟩
end Go.Proofs.Ytameldhdegcpoaa
namespace Go.Proofs.Ytameldhdegcpoaa
open Go.ChangeShapes Go.WideShapes Go.ChangeAt Go.RowKit
set_option linter.unusedVariables false
set_option linter.unusedSimpArgs false
set_option maxRecDepth 100000 in
set_option maxHeartbeats 8000000 in
theorem giveYesI {w : World} {p lo : Nat} {A : Option Addr} {a : Nat} {B : Option Addr} {b : Nat} {C : Option Addr} {d : Nat} {E : List Fig} {F L : List Int} (h : Bd w p lo A a B b C d E F L) (k n : Nat) (hk : k < E.length) (hn : n < E.length) (hne : n ≠ k) (kc kx k_y kl kg nc nx ny nl ng : Int) (hfk : E[k]'hk = ⟨kc, kx, k_y, kl, kg⟩) (hfn : E[n]'hn = ⟨nc, nx, ny, nl, ng⟩) (rc rn ro rx ry : Int) (ho : ∀ wz : World, Bd wz p lo A a B b C d E F L → Calls Try.prog 114 #[.agg #[.pointer (some ⟨p, 0, none⟩), .int .i64 k], .int .i64 rx] wz fun e w' => e = .returned (.tuple #[.agg #[.pointer (some ⟨p, 0, none⟩), .int .i64 n], .bool true]) ∧ Below wz.heap.size wz w') (hry : ¬ kg < ry) (b6 : 0 ≤ ng ∧ ng ≤ 1000000) (b7 : 0 ≤ ry ∧ ry ≤ 1000000) (b8 : 0 ≤ kg ∧ kg ≤ 1000000) :
 Calls Try.prog 103 #[.agg #[.pointer (some ⟨p, 0, none⟩), .int .i64 k], .agg #[.int .i64 rc, .int .i64 rn, .int .i64 ro, .int .i64 rx, .int .i64 ry]] w fun e w' => e = .returned (.int .i64 0) ∧ Bd w' p lo A a B b C d ((E.set k ⟨kc, kx, k_y, kl, kg - ry⟩).set n ⟨nc, nx, ny, nl, ng + ry⟩) F L ∧ Below lo w w' := by
 obtain ⟨g, rfl, _, _⟩ := own_some h.e (by omega)
 have hlo := (own_block_ge h.e g rfl).1
 have hgw := (own_block_ge h.e g rfl).2
 have hlw : lo ≤ w.heap.size := by omega
 have HFK := Lib.hid hfk
 have HFN := Lib.hid hfn
 have BW : Hid (Below w.heap.size w ((w.alloc (.cells #[.pointer (some ⟨p, 0, none⟩), .int .i64 k] 111)).alloc (.cells #[.int .i64 rc, .int .i64 rn, .int .i64 ro, .int .i64 rx, .int .i64 ry] 49))) := below_alloc2 w _ _
 have HSW : Hid (((w.alloc (.cells #[.pointer (some ⟨p, 0, none⟩), .int .i64 k] 111)).alloc (.cells #[.int .i64 rc, .int .i64 rn, .int .i64 ro, .int .i64 rx, .int .i64 ry] 49)).heap.size = w.heap.size + 2) := by show _ = _; simp
 have H := Lib.hid (h.below BW.out)
 have KF : Hid (Bkk ((w.alloc (.cells #[.pointer (some ⟨p, 0, none⟩), .int .i64 k] 111)).alloc (.cells #[.int .i64 rc, .int .i64 rn, .int .i64 ro, .int .i64 rx, .int .i64 ry] 49)) w.heap.size 111 #[.pointer (some ⟨p, 0, none⟩), .int .i64 k]) := (Bkk.new w).alloc _
 have KR : Hid (Bkk ((w.alloc (.cells #[.pointer (some ⟨p, 0, none⟩), .int .i64 k] 111)).alloc (.cells #[.int .i64 rc, .int .i64 rn, .int .i64 ro, .int .i64 rx, .int .i64 ry] 49)) (w.heap.size + 1) 49 #[.int .i64 rc, .int .i64 rn, .int .i64 ro, .int .i64 rx, .int .i64 ry]) := by have := Bkk.new (t := 49) (cs := #[.int .i64 rc, .int .i64 rn, .int .i64 ro, .int .i64 rx, .int .i64 ry]) (w.alloc (.cells #[.pointer (some ⟨p, 0, none⟩), .int .i64 k] 111)); simpa [Hid] using this
 have HO := Lib.hid ho
 have e5 : decide (kg < ry) = false := by simpa using hry
 have q1 : IntKind.i64.wrap (kg - ry) = kg - ry := IntWalk.i64_in _ (by omega)
 have q2 : IntKind.i64.wrap (ng + ry) = ng + ry := IntWalk.i64_in _ (by omega)
 have HG := Lib.hid hlo
 have HW := Lib.hid hlw
 have HGW := Lib.hid hgw
 clear hlo hlw hgw
 clear hfk hfn
 clear h ho
 go_enter Try.func103, Try.ntmps103
 go_wp2_with (fail)
 refine (HO.out _ H.out).mono ?_
 rintro e wa ⟨rfl, hb⟩
 have BB : Hid (Below w.heap.size w (wa.alloc (.cells #[.pointer (some ⟨p, 0, none⟩), .int .i64 n] 111))) := (Below.and BW.out hb).alloc (Below.and BW.out hb).size _
 have BN : Hid (Below wa.heap.size wa (wa.alloc (.cells #[.pointer (some ⟨p, 0, none⟩), .int .i64 n] 111))) := (Below.refl _ _).alloc (Nat.le_refl _) _
 have H := Lib.hid ((H.out.below hb).below BN.out)
 have KN : Hid (Bkk (wa.alloc (.cells #[.pointer (some ⟨p, 0, none⟩), .int .i64 n] 111)) wa.heap.size 111 #[.pointer (some ⟨p, 0, none⟩), .int .i64 n]) := Bkk.new wa
 have KF := Lib.hid ((KF.out.below hb).alloc (.cells #[.pointer (some ⟨p, 0, none⟩), .int .i64 n] 111))
 have KR := Lib.hid ((KR.out.below hb).alloc (.cells #[.pointer (some ⟨p, 0, none⟩), .int .i64 n] 111))
 have l1 : w.heap.size + 1 < wa.heap.size := by have := hb.size; rw [HSW.out] at this; omega
 have l0 : w.heap.size < wa.heap.size := by omega
 clear hb
 go_wp2_with (fail)
 obtain ⟨wc, hwc⟩ : ∃ wc, (wa.alloc (.cells #[.pointer (some ⟨p, 0, none⟩), .int .i64 n] 111)) = wc := ⟨_, rfl⟩
 rw [hwc] at BB H KN KF KR ⊢
 have lc : wa.heap.size < wc.heap.size := KN.out.lt
 have l3 : w.heap.size < wc.heap.size := KF.out.lt
 have l4 : w.heap.size + 1 < wc.heap.size := KR.out.lt
 clear hwc BN
 have x0 : wc.cell? ⟨w.heap.size, 0, none⟩ = some (.pointer (some ⟨p, 0, none⟩)) := KF.out.cell 0
 have x1 : wc.cell? ⟨w.heap.size, 1, none⟩ = some (.int .i64 k) := KF.out.cell 1
 have x2 : wc.cell? ⟨w.heap.size + 1, 4, none⟩ = some (.int .i64 ry) := KR.out.cell 4
 obtain ⟨g', hg', a0, a1, a2, a3, a4⟩ := RdF.of_own H.out.e k hk
 cases hg'
 rw [HFK.out] at a4
 simp only at a4
 have lg : g < wc.heap.size := World.block_lt_of_cell? wc _ a4
 clear a0 a1 a2 a3
 refine wp_region_held_drew (S := fun w1 => Below wc.heap.size wc w1) (by kernel_rfl) ((Below.refl _ _).drew) (fun hH => ?_)
 refine tkI 0 16 (v := ?_) rfl rfl ?_ ?_
 rotate_left
 · intro w1 hSw; obtain ⟨hcS, hfS⟩ := bcell hSw; go_simp; (try with_reducible rfl)
 (try simp only [Act.put, pu1, pu2, pu3])
 refine tkI 5 21 (v := ?_) rfl rfl ?_ ?_
 rotate_left
 · intro w1 hSw; obtain ⟨hcS, hfS⟩ := bcell hSw; go_simp; (try with_reducible rfl)
 (try simp only [Act.put, pu1, pu2, pu3])
 refine tkI 6 22 (v := ?_) rfl rfl ?_ ?_
 rotate_left
 · intro w1 hSw; obtain ⟨hcS, hfS⟩ := bcell hSw; go_simp; (try with_reducible rfl)
 (try simp only [Act.put, pu1, pu2, pu3])
 refine wpAnyH_ready (rs := [1]) (by kernel_rfl) (by simp) ?_
 refine AllReadyH.cons rfl (fun K hK => ?_) AllReadyH.nil
 go_simp
 refine (entAt p k g E.length a _ (H.out.below hH).at_.cells.1 hk).mono ?_
 rintro e wd ⟨rfl, hb⟩
 refine hK.out _ _ (Below.and hH hb) (fun hH2 => ?_)
 clear hK K
 (try simp only [Act.put, pu1, pu2, pu3])
 refine tkI 2 18 (v := ?_) rfl rfl ?_ ?_
 rotate_left
 · intro w1 hSw; obtain ⟨hcS, hfS⟩ := bcell hSw; go_simp; (try with_reducible rfl)
 (try simp only [Act.put, pu1, pu2, pu3])
 refine tkI 3 19 (v := ?_) rfl rfl ?_ ?_
 rotate_left
 · intro w1 hSw; obtain ⟨hcS, hfS⟩ := bcell hSw; go_simp; (try with_reducible rfl)
 (try simp only [Act.put, pu1, pu2, pu3])
 refine tkI 4 20 (v := ?_) rfl rfl ?_ ?_
 rotate_left
 · intro w1 hSw; obtain ⟨hcS, hfS⟩ := bcell hSw; go_simp; (try with_reducible rfl)
 (try simp only [Act.put, pu1, pu2, pu3])
 refine tkI 7 23 (v := ?_) rfl rfl ?_ ?_
 rotate_left
 · intro w1 hSw; obtain ⟨hcS, hfS⟩ := bcell hSw; go_simp; (try with_reducible rfl)
 (try simp only [Act.put, pu1, pu2, pu3])
 refine wpAnyH_done (by kernel_rfl) ?_ _
 have BB := Lib.hid (Below.and BB.out hH2)
 have H := Lib.hid (H.out.below hH2)
 have KN := Lib.hid (KN.out.below hH2)
 have KF := Lib.hid (KF.out.below hH2)
 have KR := Lib.hid (KR.out.below hH2)
 clear hH2 x0 x1 x2 a4 lg lc l3 l4
 go_wp2_with (fail)
 have LD := Lib.hid (show wa.heap.size < wd.heap.size from KN.out.lt)
 have d1 : ¬ g = w.heap.size := by have := HGW.out; omega
 have d2 : ¬ w.heap.size = g := by omega
 have d3 : ¬ g = w.heap.size + 1 := by have := HGW.out; omega
 have d4 : ¬ w.heap.size + 1 = g := by omega
 have SB : ∀ (wx : World), Below wd.heap.size wd wx → ((fun W => W.cell? ⟨w.heap.size, 0, none⟩ = some (.pointer (some ⟨p, 0, none⟩)) ∧ W.cell? ⟨w.heap.size, 1, none⟩ = some (.int .i64 k) ∧ W.cell? ⟨w.heap.size + 1, 4, none⟩ = some (.int .i64 ry))) wx := fun wx hb => ⟨(KF.out.below hb).cell 0, (KF.out.below hb).cell 1, (KR.out.below hb).cell 4⟩
 have SB := Lib.hid SB
 have HD : Hid (Below wd.heap.size wd wd.drew) := (Below.refl _ _).drew
 obtain ⟨s0, s1, s2⟩ := SB.out wd (Below.refl _ _)
 refine wp_region_held_drew (S := (fun W => W.cell? ⟨w.heap.size, 0, none⟩ = some (.pointer (some ⟨p, 0, none⟩)) ∧ W.cell? ⟨w.heap.size, 1, none⟩ = some (.int .i64 k) ∧ W.cell? ⟨w.heap.size + 1, 4, none⟩ = some (.int .i64 ry))) (by kernel_rfl) ⟨s0, s1, s2⟩ (fun hS0 => ?_)
 refine tkI 0 24 (v := ?_) rfl rfl ?_ ?_
 rotate_left
 · intro w1 hSw; (try dsimp only at hSw); go_split_ands; go_simp; (try with_reducible rfl)
 (try simp only [Act.put, pu1, pu2, pu3])
 refine tkI 5 29 (v := ?_) rfl rfl ?_ ?_
 rotate_left
 · intro w1 hSw; (try dsimp only at hSw); go_split_ands; go_simp; (try with_reducible rfl)
 (try simp only [Act.put, pu1, pu2, pu3])
 refine tkI 6 30 (v := ?_) rfl rfl ?_ ?_
 rotate_left
 · intro w1 hSw; (try dsimp only at hSw); go_split_ands; go_simp; (try with_reducible rfl)
 (try simp only [Act.put, pu1, pu2, pu3])
 refine wpAnyH_ready (rs := [1]) (by kernel_rfl) (by simp) ?_
 refine AllReadyH.cons rfl (fun K hK => ?_) AllReadyH.nil
 go_simp
 refine (entAt p k g E.length a _ (H.out.below HD.out).at_.cells.1 hk).mono ?_
 rintro e we ⟨rfl, hb⟩
 have HB := Lib.hid (Below.and HD.out hb)
 clear hb
 have HE := Lib.hid (H.out.below HB.out)
 obtain ⟨g', hg', a0, a1, a2, a3, xg⟩ := RdF.of_own HE.out.e k hk
 cases hg'
 rw [HFK.out] at xg
 simp only at xg
 clear a0 a1 a2 a3
 have lg : g < we.heap.size := World.block_lt_of_cell? we _ xg
 have ff := fun i => HE.out.e.frozenAt i
 have hS1 := SB.out _ HB.out
 refine hK.out _ _ hS1 (fun hS2 => ?_)
 clear hK K
 (try simp only [Act.put, pu1, pu2, pu3])
 refine tkI 2 26 (v := ?_) rfl rfl ?_ ?_
 rotate_left
 · intro w1 hSw; (try dsimp only at hSw); go_split_ands; go_simp; (try with_reducible rfl)
 (try simp only [Act.put, pu1, pu2, pu3])
 refine tkI 3 27 (v := ?_) rfl rfl ?_ ?_
 rotate_left
 · intro w1 hSw; (try dsimp only at hSw); go_split_ands; go_simp; (try with_reducible rfl)
 (try simp only [Act.put, pu1, pu2, pu3])
 refine wpAnyH_ready (rs := [4]) (by kernel_rfl) (by simp) ?_
 refine AllReadyH.cons rfl (fun K hK => ?_) AllReadyH.nil
 go_simp
 refine hK.out _ _ hS1 (fun hS3 => ?_)
 clear hK K
 (try simp only [Act.put, pu1, pu2, pu3])
 refine tkI 7 31 (v := ?_) rfl rfl ?_ ?_
 rotate_left
 · intro w1 hSw; (try dsimp only at hSw); go_split_ands; go_simp; (try with_reducible rfl)
 (try simp only [Act.put, pu1, pu2, pu3])
 refine tkI 8 32 (v := ?_) rfl rfl ?_ ?_
 rotate_left
 · intro w1 hSw; (try dsimp only at hSw); go_split_ands; go_simp; (try with_reducible rfl)
 (try simp only [Act.put, pu1, pu2, pu3])
 refine tkI 9 33 (v := ?_) rfl rfl ?_ ?_
 rotate_left
 · intro w1 hSw; (try dsimp only at hSw); go_split_ands; go_simp; (try with_reducible rfl)
 (try simp only [Act.put, pu1, pu2, pu3])
 refine wpAnyH_ready (rs := [10]) (by kernel_rfl) (by simp) ?_
 refine AllReadyH.cons rfl (fun K hK => ?_) AllReadyH.nil
 go_simp
 refine hK.out _ _ ?st (fun hS4 => ?_)
 case st => exact ⟨by go_simp, by go_simp, by go_simp⟩
 clear hK K
 (try simp only [Act.put, pu1, pu2, pu3])
 refine wpAnyH_done (by kernel_rfl) ?_ _
 have S1 : Hid (Bd ((we).setCell ⟨g, k * 5 + 4, none⟩ (.int .i64 (kg - ry))) p lo (some ⟨g, 0, none⟩) a B b C d (E.set k ⟨kc, kx, k_y, kl, kg - ry⟩) F L) := HE.out.setE k 4 hk (by decide) (.int .i64 (kg - ry)) ⟨kc, kx, k_y, kl, kg - ry⟩ (by rw [HFK.out]; rfl)
 have KN := Lib.hid ((KN.out.below HB.out).far (show wa.heap.size ≠ g by have := HGW.out; omega) (k * 5 + 4) (.int .i64 (kg - ry)))
 have KR := Lib.hid ((KR.out.below HB.out).far d4 (k * 5 + 4) (.int .i64 (kg - ry)))
 have BB : Hid (Below lo w ((we).setCell ⟨g, k * 5 + 4, none⟩ (.int .i64 (kg - ry)))) := Below.setCell ((Below.and BB.out HB.out).mono HW.out) HG.out _
 obtain ⟨wf, hwf⟩ : ∃ wf, wf = ((we).setCell ⟨g, k * 5 + 4, none⟩ (.int .i64 (kg - ry))) := ⟨_, rfl⟩
 rw [← hwf] at S1 KN KR BB ⊢
 clear hwf s0 s1 s2 hS0 hS1 hS2 hS3 hS4 xg ff lg SB HD HE HB H KF LD
 have hn' : n < (E.set k ⟨kc, kx, k_y, kl, kg - ry⟩).length := by rw [List.length_set]; exact hn
 have HFN' : Hid ((E.set k ⟨kc, kx, k_y, kl, kg - ry⟩)[n]'hn' = ⟨nc, nx, ny, nl, ng⟩) := by show _ = _; rw [List.getElem_set_ne (by omega)]; exact HFN.out
 go_wp2_with (fail)
 have d5 : ¬ g = wa.heap.size := by have := HGW.out; omega
 have d6 : ¬ wa.heap.size = g := by omega
 have SB : ∀ (wx : World), Below wf.heap.size wf wx → ((fun W => W.cell? ⟨wa.heap.size, 0, none⟩ = some (.pointer (some ⟨p, 0, none⟩)) ∧ W.cell? ⟨wa.heap.size, 1, none⟩ = some (.int .i64 n) ∧ W.cell? ⟨w.heap.size + 1, 4, none⟩ = some (.int .i64 ry))) wx := fun wx hb => ⟨(KN.out.below hb).cell 0, (KN.out.below hb).cell 1, (KR.out.below hb).cell 4⟩
 have SB := Lib.hid SB
 have HD : Hid (Below wf.heap.size wf wf.drew) := (Below.refl _ _).drew
 obtain ⟨s0, s1, s2⟩ := SB.out wf (Below.refl _ _)
 refine wp_region_held_drew (S := (fun W => W.cell? ⟨wa.heap.size, 0, none⟩ = some (.pointer (some ⟨p, 0, none⟩)) ∧ W.cell? ⟨wa.heap.size, 1, none⟩ = some (.int .i64 n) ∧ W.cell? ⟨w.heap.size + 1, 4, none⟩ = some (.int .i64 ry))) (by kernel_rfl) ⟨s0, s1, s2⟩ (fun hS0 => ?_)
 refine tkI 0 34 (v := ?_) rfl rfl ?_ ?_
 rotate_left
 · intro w1 hSw; (try dsimp only at hSw); go_split_ands; go_simp; (try with_reducible rfl)
 (try simp only [Act.put, pu1, pu2, pu3])
 refine tkI 5 39 (v := ?_) rfl rfl ?_ ?_
 rotate_left
 · intro w1 hSw; (try dsimp only at hSw); go_split_ands; go_simp; (try with_reducible rfl)
 (try simp only [Act.put, pu1, pu2, pu3])
 refine tkI 6 40 (v := ?_) rfl rfl ?_ ?_
 rotate_left
 · intro w1 hSw; (try dsimp only at hSw); go_split_ands; go_simp; (try with_reducible rfl)
 (try simp only [Act.put, pu1, pu2, pu3])
 refine wpAnyH_ready (rs := [1]) (by kernel_rfl) (by simp) ?_
 refine AllReadyH.cons rfl (fun K hK => ?_) AllReadyH.nil
 go_simp
 refine (entAt p n g (E.set k ⟨kc, kx, k_y, kl, kg - ry⟩).length a _ (S1.out.below HD.out).at_.cells.1 hn').mono ?_
 rintro e wg ⟨rfl, hb⟩
 have HB := Lib.hid (Below.and HD.out hb)
 clear hb
 have HE := Lib.hid (S1.out.below HB.out)
 obtain ⟨g', hg', a0, a1, a2, a3, xg⟩ := RdF.of_own HE.out.e n hn'
 cases hg'
 rw [HFN'.out] at xg
 simp only at xg
 clear a0 a1 a2 a3
 have lg : g < wg.heap.size := World.block_lt_of_cell? wg _ xg
 have ff := fun i => HE.out.e.frozenAt i
 have hS1 := SB.out _ HB.out
 refine hK.out _ _ hS1 (fun hS2 => ?_)
 clear hK K
 (try simp only [Act.put, pu1, pu2, pu3])
 refine tkI 2 36 (v := ?_) rfl rfl ?_ ?_
 rotate_left
 · intro w1 hSw; (try dsimp only at hSw); go_split_ands; go_simp; (try with_reducible rfl)
 (try simp only [Act.put, pu1, pu2, pu3])
 refine tkI 3 37 (v := ?_) rfl rfl ?_ ?_
 rotate_left
 · intro w1 hSw; (try dsimp only at hSw); go_split_ands; go_simp; (try with_reducible rfl)
 (try simp only [Act.put, pu1, pu2, pu3])
 refine wpAnyH_ready (rs := [4]) (by kernel_rfl) (by simp) ?_
 refine AllReadyH.cons rfl (fun K hK => ?_) AllReadyH.nil
 go_simp
 refine hK.out _ _ hS1 (fun hS3 => ?_)
 clear hK K
 (try simp only [Act.put, pu1, pu2, pu3])
 refine tkI 7 41 (v := ?_) rfl rfl ?_ ?_
 rotate_left
 · intro w1 hSw; (try dsimp only at hSw); go_split_ands; go_simp; (try with_reducible rfl)
 (try simp only [Act.put, pu1, pu2, pu3])
 refine tkI 8 42 (v := ?_) rfl rfl ?_ ?_
 rotate_left
 · intro w1 hSw; (try dsimp only at hSw); go_split_ands; go_simp; (try with_reducible rfl)
 (try simp only [Act.put, pu1, pu2, pu3])
 refine tkI 9 43 (v := ?_) rfl rfl ?_ ?_
 rotate_left
 · intro w1 hSw; (try dsimp only at hSw); go_split_ands; go_simp; (try with_reducible rfl)
 (try simp only [Act.put, pu1, pu2, pu3])
 refine wpAnyH_ready (rs := [10]) (by kernel_rfl) (by simp) ?_
 refine AllReadyH.cons rfl (fun K hK => ?_) AllReadyH.nil
 go_simp
 refine hK.out _ _ ?st (fun hS4 => ?_)
 case st => exact ⟨by go_simp, by go_simp, by go_simp⟩
 clear hK K
 (try simp only [Act.put, pu1, pu2, pu3])
 refine wpAnyH_done (by kernel_rfl) ?_ _
 have S2 : Hid (Bd ((wg).setCell ⟨g, n * 5 + 4, none⟩ (.int .i64 (ng + ry))) p lo (some ⟨g, 0, none⟩) a B b C d ((E.set k ⟨kc, kx, k_y, kl, kg - ry⟩).set n ⟨nc, nx, ny, nl, ng + ry⟩) F L) := HE.out.setE n 4 hn' (by decide) (.int .i64 (ng + ry)) ⟨nc, nx, ny, nl, ng + ry⟩ (by rw [HFN'.out]; rfl)
 have BB2 : Hid (Below lo w ((wg).setCell ⟨g, n * 5 + 4, none⟩ (.int .i64 (ng + ry)))) := Below.setCell (Below.trans BB.out (HB.out.mono (by have := BB.out.size; have := HW.out; omega))) HG.out _
 go_wp2
 go_light
 go_ret
 exact ⟨rfl, S2.out, BB2.out⟩
end Go.Proofs.Ytameldhdegcpoaa
namespace Go.Proofs.Ytameldhdegcpoaa
open Go.ChangeShapes Go.WideShapes Go.ChangeAt Go.RowKit
set_option linter.unusedVariables false
set_option linter.unusedSimpArgs false
set_option maxRecDepth 100000 in
set_option maxHeartbeats 2000000 in
theorem hitOffI {w : World} {p lo : Nat} {A : Option Addr} {a : Nat} {B : Option Addr} {b : Nat} {C : Option Addr} {d : Nat} {E : List Fig} {F L : List Int} (h : Bd w p lo A a B b C d E F L) (k : Nat) (P : Option Addr) (i : Int) (rc rn ro rx ry : Int) (ho : ∀ wz : World, Bd wz p lo A a B b C d E F L → Calls Try.prog 114 #[.agg #[.pointer (some ⟨p, 0, none⟩), .int .i64 k], .int .i64 rx] wz fun e w' => e = .returned (.tuple #[.agg #[.pointer P, .int .i64 i], .bool false]) ∧ Below wz.heap.size wz w') :
 Calls Try.prog 102 #[.agg #[.pointer (some ⟨p, 0, none⟩), .int .i64 k], .agg #[.int .i64 rc, .int .i64 rn, .int .i64 ro, .int .i64 rx, .int .i64 ry]] w fun e w' => e = .returned (.int .i64 8) ∧ Bd w' p lo A a B b C d E F L ∧ Below w.heap.size w w' := by
 have BW : Hid (Below w.heap.size w ((w.alloc (.cells #[.pointer (some ⟨p, 0, none⟩), .int .i64 k] 111)).alloc (.cells #[.int .i64 rc, .int .i64 rn, .int .i64 ro, .int .i64 rx, .int .i64 ry] 49))) := below_alloc2 w _ _
 have HSW : Hid (((w.alloc (.cells #[.pointer (some ⟨p, 0, none⟩), .int .i64 k] 111)).alloc (.cells #[.int .i64 rc, .int .i64 rn, .int .i64 ro, .int .i64 rx, .int .i64 ry] 49)).heap.size = w.heap.size + 2) := by show _ = _; simp
 have H := Lib.hid (h.below BW.out)
 have KF : Hid (Bkk ((w.alloc (.cells #[.pointer (some ⟨p, 0, none⟩), .int .i64 k] 111)).alloc (.cells #[.int .i64 rc, .int .i64 rn, .int .i64 ro, .int .i64 rx, .int .i64 ry] 49)) w.heap.size 111 #[.pointer (some ⟨p, 0, none⟩), .int .i64 k]) := (Bkk.new w).alloc _
 have KR : Hid (Bkk ((w.alloc (.cells #[.pointer (some ⟨p, 0, none⟩), .int .i64 k] 111)).alloc (.cells #[.int .i64 rc, .int .i64 rn, .int .i64 ro, .int .i64 rx, .int .i64 ry] 49)) (w.heap.size + 1) 49 #[.int .i64 rc, .int .i64 rn, .int .i64 ro, .int .i64 rx, .int .i64 ry]) := by have := Bkk.new (t := 49) (cs := #[.int .i64 rc, .int .i64 rn, .int .i64 ro, .int .i64 rx, .int .i64 ry]) (w.alloc (.cells #[.pointer (some ⟨p, 0, none⟩), .int .i64 k] 111)); simpa [Hid] using this
 have HO := Lib.hid ho
 clear h ho
 go_enter Try.func102, Try.ntmps102
 go_wp2_with (fail)
 refine (HO.out _ H.out).mono ?_
 rintro e wa ⟨rfl, hb⟩
 have BB : Hid (Below w.heap.size w (wa.alloc (.cells #[.pointer P, .int .i64 i] 111))) := (Below.and BW.out hb).alloc (Below.and BW.out hb).size _
 have BN : Hid (Below wa.heap.size wa (wa.alloc (.cells #[.pointer P, .int .i64 i] 111))) := (Below.refl _ _).alloc (Nat.le_refl _) _
 have H := Lib.hid ((H.out.below hb).below BN.out)
 have KN : Hid (Bkk (wa.alloc (.cells #[.pointer P, .int .i64 i] 111)) wa.heap.size 111 #[.pointer P, .int .i64 i]) := Bkk.new wa
 have KF := Lib.hid ((KF.out.below hb).alloc (.cells #[.pointer P, .int .i64 i] 111))
 have KR := Lib.hid ((KR.out.below hb).alloc (.cells #[.pointer P, .int .i64 i] 111))
 have l1 : w.heap.size + 1 < wa.heap.size := by have := hb.size; rw [HSW.out] at this; omega
 have l0 : w.heap.size < wa.heap.size := by omega
 clear hb
 go_wp2
 go_light
 go_ret
 exact ⟨rfl, H.out, BB.out⟩
set_option maxRecDepth 100000 in
set_option maxHeartbeats 8000000 in
theorem hitLiveI {w : World} {p lo : Nat} {A : Option Addr} {a : Nat} {B : Option Addr} {b : Nat} {C : Option Addr} {d : Nat} {E : List Fig} {F L : List Int} (h : Bd w p lo A a B b C d E F L) (k n : Nat) (hn : n < E.length) (nc nx ny nl ng : Int) (hfn : E[n]'hn = ⟨nc, nx, ny, nl, ng⟩) (b0 : 0 ≤ nl ∧ nl ≤ 3) (rc rn ro rx ry : Int) (ho : ∀ wz : World, Bd wz p lo A a B b C d E F L → Calls Try.prog 114 #[.agg #[.pointer (some ⟨p, 0, none⟩), .int .i64 k], .int .i64 rx] wz fun e w' => e = .returned (.tuple #[.agg #[.pointer (some ⟨p, 0, none⟩), .int .i64 n], .bool true]) ∧ Below wz.heap.size wz w') (hl : ¬ nl - 1 ≤ 0) :
 Calls Try.prog 102 #[.agg #[.pointer (some ⟨p, 0, none⟩), .int .i64 k], .agg #[.int .i64 rc, .int .i64 rn, .int .i64 ro, .int .i64 rx, .int .i64 ry]] w fun e w' => e = .returned (.int .i64 0) ∧ Bd w' p lo A a B b C d (E.set n ⟨nc, nx, ny, nl - 1, ng⟩) F L ∧ Below lo w w' := by
 obtain ⟨g, rfl, _, _⟩ := own_some h.e (by omega)
 have hlo := (own_block_ge h.e g rfl).1
 have hgw := (own_block_ge h.e g rfl).2
 have hlw : lo ≤ w.heap.size := by omega
 have HFN := Lib.hid hfn
 have BW : Hid (Below w.heap.size w ((w.alloc (.cells #[.pointer (some ⟨p, 0, none⟩), .int .i64 k] 111)).alloc (.cells #[.int .i64 rc, .int .i64 rn, .int .i64 ro, .int .i64 rx, .int .i64 ry] 49))) := below_alloc2 w _ _
 have HSW : Hid (((w.alloc (.cells #[.pointer (some ⟨p, 0, none⟩), .int .i64 k] 111)).alloc (.cells #[.int .i64 rc, .int .i64 rn, .int .i64 ro, .int .i64 rx, .int .i64 ry] 49)).heap.size = w.heap.size + 2) := by show _ = _; simp
 have H := Lib.hid (h.below BW.out)
 have KF : Hid (Bkk ((w.alloc (.cells #[.pointer (some ⟨p, 0, none⟩), .int .i64 k] 111)).alloc (.cells #[.int .i64 rc, .int .i64 rn, .int .i64 ro, .int .i64 rx, .int .i64 ry] 49)) w.heap.size 111 #[.pointer (some ⟨p, 0, none⟩), .int .i64 k]) := (Bkk.new w).alloc _
 have KR : Hid (Bkk ((w.alloc (.cells #[.pointer (some ⟨p, 0, none⟩), .int .i64 k] 111)).alloc (.cells #[.int .i64 rc, .int .i64 rn, .int .i64 ro, .int .i64 rx, .int .i64 ry] 49)) (w.heap.size + 1) 49 #[.int .i64 rc, .int .i64 rn, .int .i64 ro, .int .i64 rx, .int .i64 ry]) := by have := Bkk.new (t := 49) (cs := #[.int .i64 rc, .int .i64 rn, .int .i64 ro, .int .i64 rx, .int .i64 ry]) (w.alloc (.cells #[.pointer (some ⟨p, 0, none⟩), .int .i64 k] 111)); simpa [Hid] using this
 have HO := Lib.hid ho
 have q1 : IntKind.i64.wrap (nl - 1) = nl - 1 := IntWalk.i64_in _ (by omega)
 have HG := Lib.hid hlo
 have HW := Lib.hid hlw
 have HGW := Lib.hid hgw
 clear hlo hlw hgw hfn
 have e5 : decide (nl - 1 ≤ 0) = false := by simpa using hl
 clear h ho
 go_enter Try.func102, Try.ntmps102
 go_wp2_with (fail)
 refine (HO.out _ H.out).mono ?_
 rintro e wa ⟨rfl, hb⟩
 have BB : Hid (Below w.heap.size w (wa.alloc (.cells #[.pointer (some ⟨p, 0, none⟩), .int .i64 n] 111))) := (Below.and BW.out hb).alloc (Below.and BW.out hb).size _
 have BN : Hid (Below wa.heap.size wa (wa.alloc (.cells #[.pointer (some ⟨p, 0, none⟩), .int .i64 n] 111))) := (Below.refl _ _).alloc (Nat.le_refl _) _
 have H := Lib.hid ((H.out.below hb).below BN.out)
 have KN : Hid (Bkk (wa.alloc (.cells #[.pointer (some ⟨p, 0, none⟩), .int .i64 n] 111)) wa.heap.size 111 #[.pointer (some ⟨p, 0, none⟩), .int .i64 n]) := Bkk.new wa
 have KF := Lib.hid ((KF.out.below hb).alloc (.cells #[.pointer (some ⟨p, 0, none⟩), .int .i64 n] 111))
 have KR := Lib.hid ((KR.out.below hb).alloc (.cells #[.pointer (some ⟨p, 0, none⟩), .int .i64 n] 111))
 have l1 : w.heap.size + 1 < wa.heap.size := by have := hb.size; rw [HSW.out] at this; omega
 have l0 : w.heap.size < wa.heap.size := by omega
 clear hb
 go_wp2_with (fail)
 obtain ⟨wc, hwc⟩ : ∃ wc, (wa.alloc (.cells #[.pointer (some ⟨p, 0, none⟩), .int .i64 n] 111)) = wc := ⟨_, rfl⟩
 rw [hwc] at BB H KN KF KR ⊢
 have lc : wa.heap.size < wc.heap.size := KN.out.lt
 clear hwc BN KF KR
 have x0 : wc.cell? ⟨wa.heap.size, 0, none⟩ = some (.pointer (some ⟨p, 0, none⟩)) := KN.out.cell 0
 have x1 : wc.cell? ⟨wa.heap.size, 1, none⟩ = some (.int .i64 n) := KN.out.cell 1
 go_wp2_with (fail)
 refine (entAt p n g E.length a _ H.out.at_.cells.1 hn).mono ?_
 rintro e wd ⟨rfl, hb⟩
 have BB := Lib.hid (Below.and BB.out hb)
 have H := Lib.hid (H.out.below hb)
 have KN := Lib.hid (KN.out.below hb)
 clear hb x0 x1 lc
 have x0 : wd.cell? ⟨wa.heap.size, 0, none⟩ = some (.pointer (some ⟨p, 0, none⟩)) := KN.out.cell 0
 have x1 : wd.cell? ⟨wa.heap.size, 1, none⟩ = some (.int .i64 n) := KN.out.cell 1
 obtain ⟨g', hg', a0, a1, a2, xg, a4⟩ := RdF.of_own H.out.e n hn
 cases hg'
 rw [HFN.out] at xg
 simp only at xg
 clear a0 a1 a2 a4
 have lg : g < wd.heap.size := World.block_lt_of_cell? wd _ xg
 have ff := fun i => H.out.e.frozenAt i
 have d5 : ¬ g = wa.heap.size := by have := HGW.out; omega
 have d6 : ¬ wa.heap.size = g := by omega
 have S1 : Hid (Bd ((wd).setCell ⟨g, n * 5 + 3, none⟩ (.int .i64 (nl - 1))) p lo (some ⟨g, 0, none⟩) a B b C d (E.set n ⟨nc, nx, ny, nl - 1, ng⟩) F L) := H.out.setE n 3 hn (by decide) (.int .i64 (nl - 1)) ⟨nc, nx, ny, nl - 1, ng⟩ (by rw [HFN.out]; rfl)
 have KN1 := Lib.hid (KN.out.far d6 (n * 5 + 3) (.int .i64 (nl - 1)))
 have B1 : Hid (Below lo w ((wd).setCell ⟨g, n * 5 + 3, none⟩ (.int .i64 (nl - 1)))) := Below.setCell (BB.out.mono HW.out) HG.out _
 go_wp2_with (fail)
 obtain ⟨wf, hwf⟩ : ∃ wf, wf = ((wd).setCell ⟨g, n * 5 + 3, none⟩ (.int .i64 (nl - 1))) := ⟨_, rfl⟩
 rw [← hwf] at S1 KN1 B1 ⊢
 clear hwf x0 x1 xg ff lg BB H KN
 have hn' : n < (E.set n ⟨nc, nx, ny, nl - 1, ng⟩).length := by rw [List.length_set]; exact hn
 have HFN' : Hid ((E.set n ⟨nc, nx, ny, nl - 1, ng⟩)[n]'hn' = ⟨nc, nx, ny, nl - 1, ng⟩) := by show _ = _; rw [List.getElem_set_self]
 refine (entAt p n g (E.set n ⟨nc, nx, ny, nl - 1, ng⟩).length a _ S1.out.at_.cells.1 hn').mono ?_
 rintro e wg ⟨rfl, hb⟩
 have H := Lib.hid (S1.out.below hb)
 have KN := Lib.hid (KN1.out.below hb)
 have B2 : Hid (Below lo w wg) := Below.trans B1.out (hb.mono (by have := B1.out.size; have := HW.out; omega))
 have LL := Lib.hid (show wa.heap.size < wg.heap.size from KN.out.lt)
 clear hb S1 KN1 B1
 have x0 : wg.cell? ⟨wa.heap.size, 0, none⟩ = some (.pointer (some ⟨p, 0, none⟩)) := KN.out.cell 0
 have x1 : wg.cell? ⟨wa.heap.size, 1, none⟩ = some (.int .i64 n) := KN.out.cell 1
 obtain ⟨g', hg', a0, a1, a2, xg, a4⟩ := RdF.of_own H.out.e n hn'
 cases hg'
 rw [HFN'.out] at xg
 simp only at xg
 clear a0 a1 a2 a4
 have lg : g < wg.heap.size := World.block_lt_of_cell? wg _ xg
 go_wp2
 go_light
 go_ret
 exact ⟨rfl, H.out, B2.out⟩
theorem hitDieI {w : World} {p lo : Nat} {A : Option Addr} {a : Nat} {B : Option Addr} {b : Nat} {C : Option Addr} {d : Nat} {E : List Fig} {F L : List Int} (h : Bd w p lo A a B b C d E F L) (k n : Nat) (hn : n < E.length) (nc nx ny nl ng : Int) (hfn : E[n]'hn = ⟨nc, nx, ny, nl, ng⟩) (b0 : 0 ≤ nl ∧ nl ≤ 3) (rc rn ro rx ry : Int) (ho : ∀ wz : World, Bd wz p lo A a B b C d E F L → Calls Try.prog 114 #[.agg #[.pointer (some ⟨p, 0, none⟩), .int .i64 k], .int .i64 rx] wz fun e w' => e = .returned (.tuple #[.agg #[.pointer (some ⟨p, 0, none⟩), .int .i64 n], .bool true]) ∧ Below wz.heap.size wz w') (hl : nl - 1 ≤ 0) (E2 : List Fig) (F2 : List Int) (hrm : ∀ wz : World, Bd wz p lo A a B b C d (E.set n ⟨nc, nx, ny, nl - 1, ng⟩) F L → Calls Try.prog 115 #[.agg #[.pointer (some ⟨p, 0, none⟩), .int .i64 n]] wz fun e w' => e = .returned (.tuple #[]) ∧ Bd w' p lo A a B b C d E2 F2 L ∧ Below lo wz w') :
 Calls Try.prog 102 #[.agg #[.pointer (some ⟨p, 0, none⟩), .int .i64 k], .agg #[.int .i64 rc, .int .i64 rn, .int .i64 ro, .int .i64 rx, .int .i64 ry]] w fun e w' => e = .returned (.int .i64 0) ∧ Bd w' p lo A a B b C d E2 F2 L ∧ Below lo w w' := by
 obtain ⟨g, rfl, _, _⟩ := own_some h.e (by omega)
 have hlo := (own_block_ge h.e g rfl).1
 have hgw := (own_block_ge h.e g rfl).2
 have hlw : lo ≤ w.heap.size := by omega
 have HFN := Lib.hid hfn
 have BW : Hid (Below w.heap.size w ((w.alloc (.cells #[.pointer (some ⟨p, 0, none⟩), .int .i64 k] 111)).alloc (.cells #[.int .i64 rc, .int .i64 rn, .int .i64 ro, .int .i64 rx, .int .i64 ry] 49))) := below_alloc2 w _ _
 have HSW : Hid (((w.alloc (.cells #[.pointer (some ⟨p, 0, none⟩), .int .i64 k] 111)).alloc (.cells #[.int .i64 rc, .int .i64 rn, .int .i64 ro, .int .i64 rx, .int .i64 ry] 49)).heap.size = w.heap.size + 2) := by show _ = _; simp
 have H := Lib.hid (h.below BW.out)
 have KF : Hid (Bkk ((w.alloc (.cells #[.pointer (some ⟨p, 0, none⟩), .int .i64 k] 111)).alloc (.cells #[.int .i64 rc, .int .i64 rn, .int .i64 ro, .int .i64 rx, .int .i64 ry] 49)) w.heap.size 111 #[.pointer (some ⟨p, 0, none⟩), .int .i64 k]) := (Bkk.new w).alloc _
 have KR : Hid (Bkk ((w.alloc (.cells #[.pointer (some ⟨p, 0, none⟩), .int .i64 k] 111)).alloc (.cells #[.int .i64 rc, .int .i64 rn, .int .i64 ro, .int .i64 rx, .int .i64 ry] 49)) (w.heap.size + 1) 49 #[.int .i64 rc, .int .i64 rn, .int .i64 ro, .int .i64 rx, .int .i64 ry]) := by have := Bkk.new (t := 49) (cs := #[.int .i64 rc, .int .i64 rn, .int .i64 ro, .int .i64 rx, .int .i64 ry]) (w.alloc (.cells #[.pointer (some ⟨p, 0, none⟩), .int .i64 k] 111)); simpa [Hid] using this
 have HO := Lib.hid ho
 have q1 : IntKind.i64.wrap (nl - 1) = nl - 1 := IntWalk.i64_in _ (by omega)
 have HG := Lib.hid hlo
 have HW := Lib.hid hlw
 have HGW := Lib.hid hgw
 clear hlo hlw hgw hfn
 have e5 : decide (nl - 1 ≤ 0) = true := by simpa using hl
 have HRM := Lib.hid hrm
 clear hrm
 clear h ho
 go_enter Try.func102, Try.ntmps102
 go_wp2_with (fail)
 refine (HO.out _ H.out).mono ?_
 rintro e wa ⟨rfl, hb⟩
 have BB : Hid (Below w.heap.size w (wa.alloc (.cells #[.pointer (some ⟨p, 0, none⟩), .int .i64 n] 111))) := (Below.and BW.out hb).alloc (Below.and BW.out hb).size _
 have BN : Hid (Below wa.heap.size wa (wa.alloc (.cells #[.pointer (some ⟨p, 0, none⟩), .int .i64 n] 111))) := (Below.refl _ _).alloc (Nat.le_refl _) _
 have H := Lib.hid ((H.out.below hb).below BN.out)
 have KN : Hid (Bkk (wa.alloc (.cells #[.pointer (some ⟨p, 0, none⟩), .int .i64 n] 111)) wa.heap.size 111 #[.pointer (some ⟨p, 0, none⟩), .int .i64 n]) := Bkk.new wa
 have KF := Lib.hid ((KF.out.below hb).alloc (.cells #[.pointer (some ⟨p, 0, none⟩), .int .i64 n] 111))
 have KR := Lib.hid ((KR.out.below hb).alloc (.cells #[.pointer (some ⟨p, 0, none⟩), .int .i64 n] 111))
 have l1 : w.heap.size + 1 < wa.heap.size := by have := hb.size; rw [HSW.out] at this; omega
 have l0 : w.heap.size < wa.heap.size := by omega
 clear hb
 go_wp2_with (fail)
 obtain ⟨wc, hwc⟩ : ∃ wc, (wa.alloc (.cells #[.pointer (some ⟨p, 0, none⟩), .int .i64 n] 111)) = wc := ⟨_, rfl⟩
 rw [hwc] at BB H KN KF KR ⊢
 have lc : wa.heap.size < wc.heap.size := KN.out.lt
 clear hwc BN KF KR
 have x0 : wc.cell? ⟨wa.heap.size, 0, none⟩ = some (.pointer (some ⟨p, 0, none⟩)) := KN.out.cell 0
 have x1 : wc.cell? ⟨wa.heap.size, 1, none⟩ = some (.int .i64 n) := KN.out.cell 1
 go_wp2_with (fail)
 refine (entAt p n g E.length a _ H.out.at_.cells.1 hn).mono ?_
 rintro e wd ⟨rfl, hb⟩
 have BB := Lib.hid (Below.and BB.out hb)
 have H := Lib.hid (H.out.below hb)
 have KN := Lib.hid (KN.out.below hb)
 clear hb x0 x1 lc
 have x0 : wd.cell? ⟨wa.heap.size, 0, none⟩ = some (.pointer (some ⟨p, 0, none⟩)) := KN.out.cell 0
 have x1 : wd.cell? ⟨wa.heap.size, 1, none⟩ = some (.int .i64 n) := KN.out.cell 1
 obtain ⟨g', hg', a0, a1, a2, xg, a4⟩ := RdF.of_own H.out.e n hn
 cases hg'
 rw [HFN.out] at xg
 simp only at xg
 clear a0 a1 a2 a4
 have lg : g < wd.heap.size := World.block_lt_of_cell? wd _ xg
 have ff := fun i => H.out.e.frozenAt i
 have d5 : ¬ g = wa.heap.size := by have := HGW.out; omega
 have d6 : ¬ wa.heap.size = g := by omega
 have S1 : Hid (Bd ((wd).setCell ⟨g, n * 5 + 3, none⟩ (.int .i64 (nl - 1))) p lo (some ⟨g, 0, none⟩) a B b C d (E.set n ⟨nc, nx, ny, nl - 1, ng⟩) F L) := H.out.setE n 3 hn (by decide) (.int .i64 (nl - 1)) ⟨nc, nx, ny, nl - 1, ng⟩ (by rw [HFN.out]; rfl)
 have KN1 := Lib.hid (KN.out.far d6 (n * 5 + 3) (.int .i64 (nl - 1)))
 have B1 : Hid (Below lo w ((wd).setCell ⟨g, n * 5 + 3, none⟩ (.int .i64 (nl - 1)))) := Below.setCell (BB.out.mono HW.out) HG.out _
 go_wp2_with (fail)
 obtain ⟨wf, hwf⟩ : ∃ wf, wf = ((wd).setCell ⟨g, n * 5 + 3, none⟩ (.int .i64 (nl - 1))) := ⟨_, rfl⟩
 rw [← hwf] at S1 KN1 B1 ⊢
 clear hwf x0 x1 xg ff lg BB H KN
 have hn' : n < (E.set n ⟨nc, nx, ny, nl - 1, ng⟩).length := by rw [List.length_set]; exact hn
 have HFN' : Hid ((E.set n ⟨nc, nx, ny, nl - 1, ng⟩)[n]'hn' = ⟨nc, nx, ny, nl - 1, ng⟩) := by show _ = _; rw [List.getElem_set_self]
 refine (entAt p n g (E.set n ⟨nc, nx, ny, nl - 1, ng⟩).length a _ S1.out.at_.cells.1 hn').mono ?_
 rintro e wg ⟨rfl, hb⟩
 have H := Lib.hid (S1.out.below hb)
 have KN := Lib.hid (KN1.out.below hb)
 have B2 : Hid (Below lo w wg) := Below.trans B1.out (hb.mono (by have := B1.out.size; have := HW.out; omega))
 have LL := Lib.hid (show wa.heap.size < wg.heap.size from KN.out.lt)
 clear hb S1 KN1 B1
 have x0 : wg.cell? ⟨wa.heap.size, 0, none⟩ = some (.pointer (some ⟨p, 0, none⟩)) := KN.out.cell 0
 have x1 : wg.cell? ⟨wa.heap.size, 1, none⟩ = some (.int .i64 n) := KN.out.cell 1
 obtain ⟨g', hg', a0, a1, a2, xg, a4⟩ := RdF.of_own H.out.e n hn'
 cases hg'
 rw [HFN'.out] at xg
 simp only at xg
 clear a0 a1 a2 a4
 have lg : g < wg.heap.size := World.block_lt_of_cell? wg _ xg
 go_wp2_with (fail)
 refine (HRM.out _ H.out).mono ?_
 rintro e wh ⟨rfl, hG, hb⟩
 have HG2 := Lib.hid hG
 have B3 := Lib.hid (Below.trans B2.out hb)
 clear hG hb
 go_wp2
 go_light
 go_ret
 exact ⟨rfl, HG2.out, B3.out⟩
end Go.Proofs.Ytameldhdegcpoaa
