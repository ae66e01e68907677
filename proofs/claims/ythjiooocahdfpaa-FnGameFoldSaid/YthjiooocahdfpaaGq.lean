/- The model's: a figure that hits. -/
import Derived.Test.YthjiooocahdfpaaGp
namespace Go.Proofs.Ythjiooocahdfpaa
open Go.ChangeShapes Go.WideShapes Go.ChangeAt Go.RowKit
set_option linter.unusedVariables false
set_option linter.unusedSimpArgs false

/-- What comes back of an act: a game that reads, its rows the old ones or new ones, and a code. -/
def ActR (A B C : Option Addr) (d : Nat) (L : List Int) (E' : List Fig) (F' : List Int) (code : Int) (w : World) (e : Ending) (w' : World) : Prop :=
  ∃ A' a' B' b', e = .returned (.tuple #[gameV A' E'.length a' B' F'.length b' C L.length d, .int .i64 code]) ∧ GmR w' A' a' B' b' C d E' F' L ∧
    (A' = A ∨ ∀ x, A' = some ⟨x, 0, none⟩ → w.heap.size ≤ x) ∧ (B' = B ∨ ∀ x, B' = some ⟨x, 0, none⟩ → w.heap.size ≤ x) ∧ Below w.heap.size w w'

set_option maxRecDepth 100000 in
set_option maxHeartbeats 8000000 in
theorem actHit (g : Nat) (a : Nat) (B : Option Addr) (b : Nat) (C : Option Addr) (d : Nat) (E : List Fig) (F L : List Int) (k : Nat) (rc rn rx ry kc kx k_y kl kg : Int) (w : World) (hE : E.length ≤ 4) (hk : k < E.length) (hfk : E[k]'hk = ⟨kc, kx, k_y, kl, kg⟩) (b1 : 0 ≤ kx ∧ kx ≤ 3) (b2 : 0 ≤ k_y ∧ k_y ≤ 3) (b3 : 0 ≤ kg ∧ kg ≤ 20) (E' : List Fig) (F' : List Int) (code : Int) (hh : ∀ wz : World, GmR wz (some ⟨g, 0, none⟩) a B b C d E F L → Calls Try.prog 79 #[gameV (some ⟨g, 0, none⟩) E.length a B F.length b C L.length d, .int .i64 (k : Int), .int .i64 (posF rx E)] wz (ActR (some ⟨g, 0, none⟩) B C d L E' F' code wz)) (hg : GmR w (some ⟨g, 0, none⟩) a B b C d E F L) :
    Calls Try.prog 64 #[gameV (some ⟨g, 0, none⟩) E.length a B F.length b C L.length d, .int .i64 (k : Int), .agg #[.int .i64 rc, .int .i64 rn, .int .i64 4, .int .i64 rx, .int .i64 ry]] w (ActR (some ⟨g, 0, none⟩) B C d L E' F' code w) := by
  have BW : Hid (Below w.heap.size w ((((w.alloc (.cells #[.slice (some ⟨g, 0, none⟩) E.length a, .slice B F.length b, .slice C L.length d] 31)).alloc (.cells #[.int .i64 rc, .int .i64 rn, .int .i64 4, .int .i64 rx, .int .i64 ry] 35)).alloc (.cells #[.slice none 0 0, .slice none 0 0, .slice none 0 0] 31)).alloc (.cells #[.int .i64 kc, .int .i64 kx, .int .i64 k_y, .int .i64 kl, .int .i64 kg] 74))) := (((below_alloc2 w _ _).alloc (by simp; omega) _).alloc (by simp; omega) _)
  have HSW : Hid (((((w.alloc (.cells #[.slice (some ⟨g, 0, none⟩) E.length a, .slice B F.length b, .slice C L.length d] 31)).alloc (.cells #[.int .i64 rc, .int .i64 rn, .int .i64 4, .int .i64 rx, .int .i64 ry] 35)).alloc (.cells #[.slice none 0 0, .slice none 0 0, .slice none 0 0] 31)).alloc (.cells #[.int .i64 kc, .int .i64 kx, .int .i64 k_y, .int .i64 kl, .int .i64 kg] 74)).heap.size = w.heap.size + 4) := by show _ = _; simp
  have K0 : Hid (Three ((((w.alloc (.cells #[.slice (some ⟨g, 0, none⟩) E.length a, .slice B F.length b, .slice C L.length d] 31)).alloc (.cells #[.int .i64 rc, .int .i64 rn, .int .i64 4, .int .i64 rx, .int .i64 ry] 35)).alloc (.cells #[.slice none 0 0, .slice none 0 0, .slice none 0 0] 31)).alloc (.cells #[.int .i64 kc, .int .i64 kx, .int .i64 k_y, .int .i64 kl, .int .i64 kg] 74)) w.heap.size 31 (.slice (some ⟨g, 0, none⟩) E.length a) (.slice B F.length b) (.slice C L.length d)) := (((Three.new w).alloc _).alloc _).alloc _
  have KR : Hid (Bkk ((((w.alloc (.cells #[.slice (some ⟨g, 0, none⟩) E.length a, .slice B F.length b, .slice C L.length d] 31)).alloc (.cells #[.int .i64 rc, .int .i64 rn, .int .i64 4, .int .i64 rx, .int .i64 ry] 35)).alloc (.cells #[.slice none 0 0, .slice none 0 0, .slice none 0 0] 31)).alloc (.cells #[.int .i64 kc, .int .i64 kx, .int .i64 k_y, .int .i64 kl, .int .i64 kg] 74)) (w.heap.size + 1) 35 #[.int .i64 rc, .int .i64 rn, .int .i64 4, .int .i64 rx, .int .i64 ry]) := by have := ((Bkk.new (t := 35) (cs := #[.int .i64 rc, .int .i64 rn, .int .i64 4, .int .i64 rx, .int .i64 ry]) (w.alloc (.cells #[.slice (some ⟨g, 0, none⟩) E.length a, .slice B F.length b, .slice C L.length d] 31))).alloc (.cells #[.slice none 0 0, .slice none 0 0, .slice none 0 0] 31)).alloc (.cells #[.int .i64 kc, .int .i64 kx, .int .i64 k_y, .int .i64 kl, .int .i64 kg] 74); simpa [Hid] using this
  have K1 : Hid (Three ((((w.alloc (.cells #[.slice (some ⟨g, 0, none⟩) E.length a, .slice B F.length b, .slice C L.length d] 31)).alloc (.cells #[.int .i64 rc, .int .i64 rn, .int .i64 4, .int .i64 rx, .int .i64 ry] 35)).alloc (.cells #[.slice none 0 0, .slice none 0 0, .slice none 0 0] 31)).alloc (.cells #[.int .i64 kc, .int .i64 kx, .int .i64 k_y, .int .i64 kl, .int .i64 kg] 74)) (w.heap.size + 1 + 1) 31 (.slice none 0 0) (.slice none 0 0) (.slice none 0 0)) := by have := (Three.new (t := 31) (u0 := .slice none 0 0) (u1 := .slice none 0 0) (u2 := .slice none 0 0) ((w.alloc (.cells #[.slice (some ⟨g, 0, none⟩) E.length a, .slice B F.length b, .slice C L.length d] 31)).alloc (.cells #[.int .i64 rc, .int .i64 rn, .int .i64 4, .int .i64 rx, .int .i64 ry] 35))).alloc (.cells #[.int .i64 kc, .int .i64 kx, .int .i64 k_y, .int .i64 kl, .int .i64 kg] 74); simpa [Hid] using this
  have KE : Hid (Bkk ((((w.alloc (.cells #[.slice (some ⟨g, 0, none⟩) E.length a, .slice B F.length b, .slice C L.length d] 31)).alloc (.cells #[.int .i64 rc, .int .i64 rn, .int .i64 4, .int .i64 rx, .int .i64 ry] 35)).alloc (.cells #[.slice none 0 0, .slice none 0 0, .slice none 0 0] 31)).alloc (.cells #[.int .i64 kc, .int .i64 kx, .int .i64 k_y, .int .i64 kl, .int .i64 kg] 74)) (w.heap.size + 1 + 1 + 1) 74 #[.int .i64 kc, .int .i64 kx, .int .i64 k_y, .int .i64 kl, .int .i64 kg]) := by have := Bkk.new (t := 74) (cs := #[.int .i64 kc, .int .i64 kx, .int .i64 k_y, .int .i64 kl, .int .i64 kg]) (((w.alloc (.cells #[.slice (some ⟨g, 0, none⟩) E.length a, .slice B F.length b, .slice C L.length d] 31)).alloc (.cells #[.int .i64 rc, .int .i64 rn, .int .i64 4, .int .i64 rx, .int .i64 ry] 35)).alloc (.cells #[.slice none 0 0, .slice none 0 0, .slice none 0 0] 31)); simpa [Hid] using this
  have HG0 := Lib.hid hg
  obtain ⟨g', hg', a0, a1, a2, a3, a4⟩ := (hg.below ((below_alloc2 w (.cells #[.slice (some ⟨g, 0, none⟩) E.length a, .slice B F.length b, .slice C L.length d] 31) (.cells #[.int .i64 rc, .int .i64 rn, .int .i64 4, .int .i64 rx, .int .i64 ry] 35)).alloc (by simp; omega) (.cells #[.slice none 0 0, .slice none 0 0, .slice none 0 0] 31))).rE k hk
  cases hg'
  rw [hfk] at a0 a1 a2 a3 a4
  simp only at a0 a1 a2 a3 a4
  have gl : g < w.heap.size + 1 + 1 + 1 := by have := World.block_lt_of_cell? _ _ a0; simpa using this
  have i0 : (0 : Int) ≤ (k : Int) := by omega
  have i1 : (k : Int) < (E.length : Int) := by omega
  have HFK := Lib.hid hfk
  have HG := Lib.hid (hg.below BW.out)
  have HH := Lib.hid hh
  have HD : Hid (Below ((((w.alloc (.cells #[.slice (some ⟨g, 0, none⟩) E.length a, .slice B F.length b, .slice C L.length d] 31)).alloc (.cells #[.int .i64 rc, .int .i64 rn, .int .i64 4, .int .i64 rx, .int .i64 ry] 35)).alloc (.cells #[.slice none 0 0, .slice none 0 0, .slice none 0 0] 31)).alloc (.cells #[.int .i64 kc, .int .i64 kx, .int .i64 k_y, .int .i64 kl, .int .i64 kg] 74)).heap.size ((((w.alloc (.cells #[.slice (some ⟨g, 0, none⟩) E.length a, .slice B F.length b, .slice C L.length d] 31)).alloc (.cells #[.int .i64 rc, .int .i64 rn, .int .i64 4, .int .i64 rx, .int .i64 ry] 35)).alloc (.cells #[.slice none 0 0, .slice none 0 0, .slice none 0 0] 31)).alloc (.cells #[.int .i64 kc, .int .i64 kx, .int .i64 k_y, .int .i64 kl, .int .i64 kg] 74)) ((((w.alloc (.cells #[.slice (some ⟨g, 0, none⟩) E.length a, .slice B F.length b, .slice C L.length d] 31)).alloc (.cells #[.int .i64 rc, .int .i64 rn, .int .i64 4, .int .i64 rx, .int .i64 ry] 35)).alloc (.cells #[.slice none 0 0, .slice none 0 0, .slice none 0 0] 31)).alloc (.cells #[.int .i64 kc, .int .i64 kx, .int .i64 k_y, .int .i64 kl, .int .i64 kg] 74)).drew) := (Below.refl _ _).drew
  have SB : ∀ {wz : World}, Below ((((w.alloc (.cells #[.slice (some ⟨g, 0, none⟩) E.length a, .slice B F.length b, .slice C L.length d] 31)).alloc (.cells #[.int .i64 rc, .int .i64 rn, .int .i64 4, .int .i64 rx, .int .i64 ry] 35)).alloc (.cells #[.slice none 0 0, .slice none 0 0, .slice none 0 0] 31)).alloc (.cells #[.int .i64 kc, .int .i64 kx, .int .i64 k_y, .int .i64 kl, .int .i64 kg] 74)).heap.size ((((w.alloc (.cells #[.slice (some ⟨g, 0, none⟩) E.length a, .slice B F.length b, .slice C L.length d] 31)).alloc (.cells #[.int .i64 rc, .int .i64 rn, .int .i64 4, .int .i64 rx, .int .i64 ry] 35)).alloc (.cells #[.slice none 0 0, .slice none 0 0, .slice none 0 0] 31)).alloc (.cells #[.int .i64 kc, .int .i64 kx, .int .i64 k_y, .int .i64 kl, .int .i64 kg] 74)) wz → ((fun W => W.cell? ⟨w.heap.size, 0, none⟩ = some (.slice (some ⟨g, 0, none⟩) E.length a) ∧ W.cell? ⟨w.heap.size, 1, none⟩ = some (.slice B F.length b) ∧ W.cell? ⟨w.heap.size, 2, none⟩ = some (.slice C L.length d) ∧ W.cell? ⟨w.heap.size + 1, 3, none⟩ = some (.int .i64 rx))) wz := fun hb => by
    obtain ⟨s0, s1, s2⟩ := (K0.out.below hb (by rw [HSW.out]; omega)).cells
    exact ⟨s0, s1, s2, (KR.out.below hb).cell 3⟩
  obtain ⟨s0, s1, s2⟩ := K0.out.cells
  have s3 : ((((w.alloc (.cells #[.slice (some ⟨g, 0, none⟩) E.length a, .slice B F.length b, .slice C L.length d] 31)).alloc (.cells #[.int .i64 rc, .int .i64 rn, .int .i64 4, .int .i64 rx, .int .i64 ry] 35)).alloc (.cells #[.slice none 0 0, .slice none 0 0, .slice none 0 0] 31)).alloc (.cells #[.int .i64 kc, .int .i64 kx, .int .i64 k_y, .int .i64 kl, .int .i64 kg] 74)).cell? ⟨w.heap.size + 1, 3, none⟩ = some (.int .i64 rx) := KR.out.cell 3
  clear hg hfk hh
  unfold ActR gameV
  unfold gameV at HH
  go_enter Try.func64, Try.ntmps64
  go_wp2_with (fail)
  refine wp_region_held_drew (S := (fun W => W.cell? ⟨w.heap.size, 0, none⟩ = some (.slice (some ⟨g, 0, none⟩) E.length a) ∧ W.cell? ⟨w.heap.size, 1, none⟩ = some (.slice B F.length b) ∧ W.cell? ⟨w.heap.size, 2, none⟩ = some (.slice C L.length d) ∧ W.cell? ⟨w.heap.size + 1, 3, none⟩ = some (.int .i64 rx))) (by kernel_rfl) ⟨s0, s1, s2, s3⟩ (fun hS0 => ?_)
  refine takeD 0 138 (v := ?_) rfl rfl (by kernel_rfl) (by kernel_rfl) (by kernel_rfl) (fun _ _ _ h => h) (Or.inl ⟨by rfl, ?_⟩) (by assumption) ?_
  rotate_left
  · intro w1 hSw; (try dsimp only at hSw); go_split_ands; go_simp; (try with_reducible rfl)
  (try simp only [Act.put, List.setIfInBounds_toArray, List.set_cons_zero, List.set_cons_succ])
  refine takeD 1 139 (v := ?_) rfl rfl (by kernel_rfl) (by kernel_rfl) (by kernel_rfl) (fun _ _ _ h => h) (Or.inl ⟨by rfl, ?_⟩) (by assumption) ?_
  rotate_left
  · intro w1 hSw; (try dsimp only at hSw); go_split_ands; go_simp; (try with_reducible rfl)
  (try simp only [Act.put, List.setIfInBounds_toArray, List.set_cons_zero, List.set_cons_succ])
  refine takeD 2 140 (v := ?_) rfl rfl (by kernel_rfl) (by kernel_rfl) (by kernel_rfl) (fun _ _ _ h => h) (Or.inl ⟨by rfl, ?_⟩) (by assumption) ?_
  rotate_left
  · intro w1 hSw; (try dsimp only at hSw); go_split_ands; go_simp; (try with_reducible rfl)
  (try simp only [Act.put, List.setIfInBounds_toArray, List.set_cons_zero, List.set_cons_succ])
  refine takeD 3 141 (v := ?_) rfl rfl (by kernel_rfl) (by kernel_rfl) (by kernel_rfl) (fun _ _ _ h => h) (Or.inl ⟨by rfl, ?_⟩) (by assumption) ?_
  rotate_left
  · intro w1 hSw; (try dsimp only at hSw); go_split_ands; go_simp; (try with_reducible rfl)
  (try simp only [Act.put, List.setIfInBounds_toArray, List.set_cons_zero, List.set_cons_succ])
  refine takeD 4 142 (v := ?_) rfl rfl (by kernel_rfl) (by kernel_rfl) (by kernel_rfl) (fun _ _ _ h => h) (Or.inl ⟨by rfl, ?_⟩) (by assumption) ?_
  rotate_left
  · intro w1 hSw; (try dsimp only at hSw); go_split_ands; go_simp; (try with_reducible rfl)
  (try simp only [Act.put, List.setIfInBounds_toArray, List.set_cons_zero, List.set_cons_succ])
  refine wpAnyH_ready (rs := [5]) (by kernel_rfl) (by simp) ?_
  refine AllReadyH.cons rfl (fun K hK => ?_) AllReadyH.nil
  go_simp
  refine (l2At (some ⟨g, 0, none⟩) a B b C d E F L rx _ (by omega) (HG.out.below HD.out).rE).mono ?_
  rintro e w1 ⟨rfl, hb⟩
  have HB1 := Lib.hid (Below.and HD.out hb)
  clear hb
  have hS1 := SB HB1.out
  refine hK.out _ _ hS1 (fun hS2 => ?_)
  clear hK K
  (try simp only [Act.put, List.setIfInBounds_toArray, List.set_cons_zero, List.set_cons_succ])
  refine wpAnyH_ready (rs := [6]) (by kernel_rfl) (by simp) ?_
  refine AllReadyH.cons rfl (fun K hK => ?_) AllReadyH.nil
  go_simp
  refine (HH.out _ (HG.out.below HB1.out)).mono ?_
  rintro e w2 ⟨A', a', B', b', rfl, hG, hA, hB, hb⟩
  have HB2 := Lib.hid (Below.and HB1.out hb)
  have SZ1 := Lib.hid (show w.heap.size + 4 ≤ w1.heap.size by have := HB1.out.size; rw [HSW.out] at this; omega)
  have HG2 := Lib.hid hG
  have FA := Lib.hid hA
  have FB := Lib.hid hB
  clear hb hG hA hB
  obtain ⟨N3, hN3⟩ : ∃ N3, N3 = E'.length := ⟨_, rfl⟩
  obtain ⟨M3, hM3⟩ : ∃ M3, M3 = F'.length := ⟨_, rfl⟩
  have HN3 := Lib.hid hN3
  have HM3 := Lib.hid hM3
  unfold gameV
  rw [← hN3, ← hM3]
  clear hN3 hM3
  have hS3 := SB HB2.out
  refine hK.out _ _ hS3 (fun hS4 => ?_)
  clear hK K
  (try simp only [Act.put, List.setIfInBounds_toArray, List.set_cons_zero, List.set_cons_succ])
  have T1 := Lib.hid (K1.out.below HB2.out (by rw [HSW.out]; omega))
  obtain ⟨z0, z1, z2⟩ := T1.out.cells
  have zf := T1.out.frozen
  obtain ⟨s0, s1, s2, s3⟩ := hS4
  refine takeD 7 145 (v := ?_) rfl rfl (by kernel_rfl) (by kernel_rfl) (by kernel_rfl) (fun _ _ _ h => h) (Or.inl ⟨by rfl, ?_⟩) (by assumption) ?_
  rotate_left
  · intro w1 hSw; (try dsimp only at hSw); go_split_ands; go_simp; (try with_reducible rfl)
  (try simp only [Act.put, List.setIfInBounds_toArray, List.set_cons_zero, List.set_cons_succ])
  refine takeD 8 146 (v := ?_) rfl rfl (by kernel_rfl) (by kernel_rfl) (by kernel_rfl) (fun _ _ _ h => h) (Or.inl ⟨by rfl, ?_⟩) (by assumption) ?_
  rotate_left
  · intro w1 hSw; (try dsimp only at hSw); go_split_ands; go_simp; (try with_reducible rfl)
  (try simp only [Act.put, List.setIfInBounds_toArray, List.set_cons_zero, List.set_cons_succ])
  refine wpAnyH_ready (rs := [9]) (by kernel_rfl) (by simp) ?_
  refine AllReadyH.cons rfl (fun K hK => ?_) AllReadyH.nil
  go_simp
  refine hK.out _ _ ⟨by go_simp, by go_simp, by go_simp, by go_simp⟩ (fun hS5 => ?_)
  clear hK K
  (try simp only [Act.put, List.setIfInBounds_toArray, List.set_cons_zero, List.set_cons_succ])
  refine takeD 10 7 (v := ?_) rfl rfl (by kernel_rfl) (by kernel_rfl) (by kernel_rfl) (fun _ _ _ h => h) (Or.inl ⟨by rfl, ?_⟩) (by assumption) ?_
  rotate_left
  · intro w1 hSw; (try dsimp only at hSw); go_split_ands; go_simp; (try with_reducible rfl)
  (try simp only [Act.put, List.setIfInBounds_toArray, List.set_cons_zero, List.set_cons_succ])
  refine wpAnyH_done (by kernel_rfl) ?_ _
  go_wp2
  refine bodyPost_ret (v := .tuple #[.agg #[.slice A' N3 a', .slice B' M3 b', .slice C L.length d], .int .i64 code]) (by simp [results, Try.results64, go_sem, z0, z1, z2]) rfl ⟨A', a', B', b', by rw [HN3.out, HM3.out], ?_⟩
  have hz := SZ1.out
  have pA : ∀ x, A' = some ⟨x, 0, none⟩ → x ≠ w.heap.size + 1 + 1 := fun x hx => by
    rcases FA.out with h | h
    · rw [h] at hx; have := HG0.out.lA x hx; omega
    · have := h x hx; omega
  have pB : ∀ x, B' = some ⟨x, 0, none⟩ → x ≠ w.heap.size + 1 + 1 := fun x hx => by
    rcases FB.out with h | h
    · rw [h] at hx; have := HG0.out.lB x hx; omega
    · have := h x hx; omega
  have pC : ∀ x, C = some ⟨x, 0, none⟩ → x ≠ w.heap.size + 1 + 1 := fun x hx => by have := HG0.out.lC x hx; omega
  refine ⟨?_, FA.out.imp id (fun h x hx => by have := h x hx; omega), FB.out.imp id (fun h x hx => by have := h x hx; omega), ?_⟩
  · iterate 3 (refine GmR.put ?_ _ _ _ pA pB pC)
    exact HG2.out
  · iterate 3 (refine Below.setCell ?_ (by first | (simp; done) | (simp; omega)) _)
    exact Below.and BW.out HB2.out

end Go.Proofs.Ythjiooocahdfpaa
