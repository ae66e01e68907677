/- Gold given: the program's way. -/
import Derived.Test.YthjiooocahdfpaaGj
namespace Go.Proofs.Ythjiooocahdfpaa
open Go.ChangeShapes Go.WideShapes Go.ChangeAt Go.RowKit
set_option linter.unusedVariables false
set_option linter.unusedSimpArgs false

set_option maxRecDepth 100000 in
set_option maxHeartbeats 2000000 in
theorem giveOffI {w : World} {p lo : Nat} {A : Option Addr} {a : Nat} {B : Option Addr} {b : Nat} {C : Option Addr} {d : Nat} {E : List Fig} {F L : List Int} (h : Bd w p lo A a B b C d E F L) (k : Nat) (P : Option Addr) (i : Int) (rc rn ro rx ry : Int) (ho : ∀ wz : World, Bd wz p lo A a B b C d E F L → Calls Try.prog 86 #[.agg #[.pointer (some ⟨p, 0, none⟩), .int .i64 k], .int .i64 rx] wz fun e w' => e = .returned (.tuple #[.agg #[.pointer P, .int .i64 i], .bool false]) ∧ Below wz.heap.size wz w') :
    Calls Try.prog 72 #[.agg #[.pointer (some ⟨p, 0, none⟩), .int .i64 k], .agg #[.int .i64 rc, .int .i64 rn, .int .i64 ro, .int .i64 rx, .int .i64 ry]] w fun e w' => e = .returned (.int .i64 8) ∧ Bd w' p lo A a B b C d E F L ∧ Below w.heap.size w w' := by
  have BW : Hid (Below w.heap.size w ((w.alloc (.cells #[.pointer (some ⟨p, 0, none⟩), .int .i64 k] 87)).alloc (.cells #[.int .i64 rc, .int .i64 rn, .int .i64 ro, .int .i64 rx, .int .i64 ry] 35))) := below_alloc2 w _ _
  have HSW : Hid (((w.alloc (.cells #[.pointer (some ⟨p, 0, none⟩), .int .i64 k] 87)).alloc (.cells #[.int .i64 rc, .int .i64 rn, .int .i64 ro, .int .i64 rx, .int .i64 ry] 35)).heap.size = w.heap.size + 2) := by show _ = _; simp
  have H := Lib.hid (h.below BW.out)
  have KF : Hid (Bkk ((w.alloc (.cells #[.pointer (some ⟨p, 0, none⟩), .int .i64 k] 87)).alloc (.cells #[.int .i64 rc, .int .i64 rn, .int .i64 ro, .int .i64 rx, .int .i64 ry] 35)) w.heap.size 87 #[.pointer (some ⟨p, 0, none⟩), .int .i64 k]) := (Bkk.new w).alloc _
  have KR : Hid (Bkk ((w.alloc (.cells #[.pointer (some ⟨p, 0, none⟩), .int .i64 k] 87)).alloc (.cells #[.int .i64 rc, .int .i64 rn, .int .i64 ro, .int .i64 rx, .int .i64 ry] 35)) (w.heap.size + 1) 35 #[.int .i64 rc, .int .i64 rn, .int .i64 ro, .int .i64 rx, .int .i64 ry]) := by have := Bkk.new (t := 35) (cs := #[.int .i64 rc, .int .i64 rn, .int .i64 ro, .int .i64 rx, .int .i64 ry]) (w.alloc (.cells #[.pointer (some ⟨p, 0, none⟩), .int .i64 k] 87)); simpa [Hid] using this
  have HO := Lib.hid ho
  clear h ho
  go_enter Try.func72, Try.ntmps72
  go_wp2_with (fail)
  refine (HO.out _ H.out).mono ?_
  rintro e wa ⟨rfl, hb⟩
  have BB : Hid (Below w.heap.size w (wa.alloc (.cells #[.pointer P, .int .i64 i] 87))) := (Below.and BW.out hb).alloc (Below.and BW.out hb).size _
  have BN : Hid (Below wa.heap.size wa (wa.alloc (.cells #[.pointer P, .int .i64 i] 87))) := (Below.refl _ _).alloc (Nat.le_refl _) _
  have H := Lib.hid ((H.out.below hb).below BN.out)
  have KN : Hid (Bkk (wa.alloc (.cells #[.pointer P, .int .i64 i] 87)) wa.heap.size 87 #[.pointer P, .int .i64 i]) := Bkk.new wa
  have KF := Lib.hid ((KF.out.below hb).alloc (.cells #[.pointer P, .int .i64 i] 87))
  have KR := Lib.hid ((KR.out.below hb).alloc (.cells #[.pointer P, .int .i64 i] 87))
  have l1 : w.heap.size + 1 < wa.heap.size := by have := hb.size; rw [HSW.out] at this; omega
  have l0 : w.heap.size < wa.heap.size := by omega
  clear hb
  go_wp2
  go_light
  go_ret
  exact ⟨rfl, H.out, BB.out⟩

set_option maxRecDepth 100000 in
set_option maxHeartbeats 4000000 in
theorem givePoorI {w : World} {p lo : Nat} {A : Option Addr} {a : Nat} {B : Option Addr} {b : Nat} {C : Option Addr} {d : Nat} {E : List Fig} {F L : List Int} (h : Bd w p lo A a B b C d E F L) (k n : Nat) (hk : k < E.length) (hn : n < E.length) (hne : n ≠ k) (kc kx k_y kl kg nc nx ny nl ng : Int) (hfk : E[k]'hk = ⟨kc, kx, k_y, kl, kg⟩) (hfn : E[n]'hn = ⟨nc, nx, ny, nl, ng⟩) (rc rn ro rx ry : Int) (ho : ∀ wz : World, Bd wz p lo A a B b C d E F L → Calls Try.prog 86 #[.agg #[.pointer (some ⟨p, 0, none⟩), .int .i64 k], .int .i64 rx] wz fun e w' => e = .returned (.tuple #[.agg #[.pointer (some ⟨p, 0, none⟩), .int .i64 n], .bool true]) ∧ Below wz.heap.size wz w') (hry : kg < ry) :
    Calls Try.prog 72 #[.agg #[.pointer (some ⟨p, 0, none⟩), .int .i64 k], .agg #[.int .i64 rc, .int .i64 rn, .int .i64 ro, .int .i64 rx, .int .i64 ry]] w fun e w' => e = .returned (.int .i64 7) ∧ Bd w' p lo A a B b C d E F L ∧ Below w.heap.size w w' := by
  obtain ⟨g, rfl, _, _⟩ := own_some h.e (by omega)
  have HFK := Lib.hid hfk
  have HFN := Lib.hid hfn
  have BW : Hid (Below w.heap.size w ((w.alloc (.cells #[.pointer (some ⟨p, 0, none⟩), .int .i64 k] 87)).alloc (.cells #[.int .i64 rc, .int .i64 rn, .int .i64 ro, .int .i64 rx, .int .i64 ry] 35))) := below_alloc2 w _ _
  have HSW : Hid (((w.alloc (.cells #[.pointer (some ⟨p, 0, none⟩), .int .i64 k] 87)).alloc (.cells #[.int .i64 rc, .int .i64 rn, .int .i64 ro, .int .i64 rx, .int .i64 ry] 35)).heap.size = w.heap.size + 2) := by show _ = _; simp
  have H := Lib.hid (h.below BW.out)
  have KF : Hid (Bkk ((w.alloc (.cells #[.pointer (some ⟨p, 0, none⟩), .int .i64 k] 87)).alloc (.cells #[.int .i64 rc, .int .i64 rn, .int .i64 ro, .int .i64 rx, .int .i64 ry] 35)) w.heap.size 87 #[.pointer (some ⟨p, 0, none⟩), .int .i64 k]) := (Bkk.new w).alloc _
  have KR : Hid (Bkk ((w.alloc (.cells #[.pointer (some ⟨p, 0, none⟩), .int .i64 k] 87)).alloc (.cells #[.int .i64 rc, .int .i64 rn, .int .i64 ro, .int .i64 rx, .int .i64 ry] 35)) (w.heap.size + 1) 35 #[.int .i64 rc, .int .i64 rn, .int .i64 ro, .int .i64 rx, .int .i64 ry]) := by have := Bkk.new (t := 35) (cs := #[.int .i64 rc, .int .i64 rn, .int .i64 ro, .int .i64 rx, .int .i64 ry]) (w.alloc (.cells #[.pointer (some ⟨p, 0, none⟩), .int .i64 k] 87)); simpa [Hid] using this
  have HO := Lib.hid ho
  have e5 : decide (kg < ry) = true := by simpa using hry
  clear hfk hfn
  clear h ho
  go_enter Try.func72, Try.ntmps72
  go_wp2_with (fail)
  refine (HO.out _ H.out).mono ?_
  rintro e wa ⟨rfl, hb⟩
  have BB : Hid (Below w.heap.size w (wa.alloc (.cells #[.pointer (some ⟨p, 0, none⟩), .int .i64 n] 87))) := (Below.and BW.out hb).alloc (Below.and BW.out hb).size _
  have BN : Hid (Below wa.heap.size wa (wa.alloc (.cells #[.pointer (some ⟨p, 0, none⟩), .int .i64 n] 87))) := (Below.refl _ _).alloc (Nat.le_refl _) _
  have H := Lib.hid ((H.out.below hb).below BN.out)
  have KN : Hid (Bkk (wa.alloc (.cells #[.pointer (some ⟨p, 0, none⟩), .int .i64 n] 87)) wa.heap.size 87 #[.pointer (some ⟨p, 0, none⟩), .int .i64 n]) := Bkk.new wa
  have KF := Lib.hid ((KF.out.below hb).alloc (.cells #[.pointer (some ⟨p, 0, none⟩), .int .i64 n] 87))
  have KR := Lib.hid ((KR.out.below hb).alloc (.cells #[.pointer (some ⟨p, 0, none⟩), .int .i64 n] 87))
  have l1 : w.heap.size + 1 < wa.heap.size := by have := hb.size; rw [HSW.out] at this; omega
  have l0 : w.heap.size < wa.heap.size := by omega
  clear hb
  go_wp2_with (fail)
  obtain ⟨wc, hwc⟩ : ∃ wc, (wa.alloc (.cells #[.pointer (some ⟨p, 0, none⟩), .int .i64 n] 87)) = wc := ⟨_, rfl⟩
  rw [hwc] at BB H KN KF KR ⊢
  have lc : wa.heap.size < wc.heap.size := KN.out.lt
  have l3 : w.heap.size < wc.heap.size := KF.out.lt
  have l4 : w.heap.size + 1 < wc.heap.size := KR.out.lt
  clear hwc BN
  have x0 : wc.cell? ⟨w.heap.size, 0, none⟩ = some (.pointer (some ⟨p, 0, none⟩)) := KF.out.cell 0
  have x1 : wc.cell? ⟨w.heap.size, 1, none⟩ = some (.int .i64 k) := KF.out.cell 1
  have x2 : wc.cell? ⟨w.heap.size + 1, 4, none⟩ = some (.int .i64 ry) := KR.out.cell 4
  obtain ⟨g', hg', a0, a1, a2, a3, a4⟩ := RdF.of_own H.out.e k hk
  cases hg'
  rw [HFK.out] at a4
  simp only at a4
  have lg : g < wc.heap.size := World.block_lt_of_cell? wc _ a4
  clear a0 a1 a2 a3
  refine wp_region_held_drew (S := fun w1 => Below wc.heap.size wc w1) (by kernel_rfl) ((Below.refl _ _).drew) (fun hH => ?_)
  refine takeD 0 16 (v := ?_) rfl rfl (by kernel_rfl) (by kernel_rfl) (by kernel_rfl) (fun _ _ _ h => h) (Or.inl ⟨by rfl, ?_⟩) (by assumption) ?_
  rotate_left
  · intro w1 hSw; obtain ⟨hcS, hfS⟩ := bcell hSw; go_simp; (try with_reducible rfl)
  (try simp only [Act.put, List.setIfInBounds_toArray, List.set_cons_zero, List.set_cons_succ])
  refine takeD 5 21 (v := ?_) rfl rfl (by kernel_rfl) (by kernel_rfl) (by kernel_rfl) (fun _ _ _ h => h) (Or.inl ⟨by rfl, ?_⟩) (by assumption) ?_
  rotate_left
  · intro w1 hSw; obtain ⟨hcS, hfS⟩ := bcell hSw; go_simp; (try with_reducible rfl)
  (try simp only [Act.put, List.setIfInBounds_toArray, List.set_cons_zero, List.set_cons_succ])
  refine takeD 6 22 (v := ?_) rfl rfl (by kernel_rfl) (by kernel_rfl) (by kernel_rfl) (fun _ _ _ h => h) (Or.inl ⟨by rfl, ?_⟩) (by assumption) ?_
  rotate_left
  · intro w1 hSw; obtain ⟨hcS, hfS⟩ := bcell hSw; go_simp; (try with_reducible rfl)
  (try simp only [Act.put, List.setIfInBounds_toArray, List.set_cons_zero, List.set_cons_succ])
  refine wpAnyH_ready (rs := [1]) (by kernel_rfl) (by simp) ?_
  refine AllReadyH.cons rfl (fun K hK => ?_) AllReadyH.nil
  go_simp
  refine (entAt p k g E.length a _ (H.out.below hH).at_.cells.1 hk).mono ?_
  rintro e wd ⟨rfl, hb⟩
  refine hK.out _ _ (Below.and hH hb) (fun hH2 => ?_)
  clear hK K
  (try simp only [Act.put, List.setIfInBounds_toArray, List.set_cons_zero, List.set_cons_succ])
  refine takeD 2 18 (v := ?_) rfl rfl (by kernel_rfl) (by kernel_rfl) (by kernel_rfl) (fun _ _ _ h => h) (Or.inl ⟨by rfl, ?_⟩) (by assumption) ?_
  rotate_left
  · intro w1 hSw; obtain ⟨hcS, hfS⟩ := bcell hSw; go_simp; (try with_reducible rfl)
  (try simp only [Act.put, List.setIfInBounds_toArray, List.set_cons_zero, List.set_cons_succ])
  refine takeD 3 19 (v := ?_) rfl rfl (by kernel_rfl) (by kernel_rfl) (by kernel_rfl) (fun _ _ _ h => h) (Or.inl ⟨by rfl, ?_⟩) (by assumption) ?_
  rotate_left
  · intro w1 hSw; obtain ⟨hcS, hfS⟩ := bcell hSw; go_simp; (try with_reducible rfl)
  (try simp only [Act.put, List.setIfInBounds_toArray, List.set_cons_zero, List.set_cons_succ])
  refine takeD 4 20 (v := ?_) rfl rfl (by kernel_rfl) (by kernel_rfl) (by kernel_rfl) (fun _ _ _ h => h) (Or.inl ⟨by rfl, ?_⟩) (by assumption) ?_
  rotate_left
  · intro w1 hSw; obtain ⟨hcS, hfS⟩ := bcell hSw; go_simp; (try with_reducible rfl)
  (try simp only [Act.put, List.setIfInBounds_toArray, List.set_cons_zero, List.set_cons_succ])
  refine takeD 7 23 (v := ?_) rfl rfl (by kernel_rfl) (by kernel_rfl) (by kernel_rfl) (fun _ _ _ h => h) (Or.inl ⟨by rfl, ?_⟩) (by assumption) ?_
  rotate_left
  · intro w1 hSw; obtain ⟨hcS, hfS⟩ := bcell hSw; go_simp; (try with_reducible rfl)
  (try simp only [Act.put, List.setIfInBounds_toArray, List.set_cons_zero, List.set_cons_succ])
  refine wpAnyH_done (by kernel_rfl) ?_ _
  have BB := Lib.hid (Below.and BB.out hH2)
  have H := Lib.hid (H.out.below hH2)
  have KN := Lib.hid (KN.out.below hH2)
  have KF := Lib.hid (KF.out.below hH2)
  have KR := Lib.hid (KR.out.below hH2)
  clear hH2 x0 x1 x2 a4 lg lc l3 l4
  go_wp2
  go_light
  go_ret
  exact ⟨rfl, H.out, BB.out⟩

end Go.Proofs.Ythjiooocahdfpaa
