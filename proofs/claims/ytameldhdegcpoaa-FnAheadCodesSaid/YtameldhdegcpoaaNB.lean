import Derived.Test.YtameldhdegcpoaaNA
namespace Go.Proofs.Ytameldhdegcpoaa
open Go.ChangeShapes Go.WideShapes Go.ChangeAt Go.RowKit
set_option linter.unusedVariables false
set_option linter.unusedSimpArgs false
theorem lt_at {c : Int} {E : List Fig} (hE : OkE E) {n : Nat} (h : atF c E = some n) : ltF c E = n := by
 obtain ⟨hk, hc, _⟩ := atF_some h
 refine ltF_of c E n (by omega) (fun j hj hjn => ?_) (fun hk' => by omega)
 have := hE.asc j n hj hk hjn
 omega
set_option maxRecDepth 100000 in
set_option maxHeartbeats 4000000 in
theorem otherFarX {w : World} {p lo : Nat} {A : Option Addr} {a : Nat} {B : Option Addr} {b : Nat} {C : Option Addr} {d : Nat} {E : List Fig} {F L : List Int} (h : Bd w p lo A a B b C d E F L) (hE : OkE E) (k n : Nat) (c : Int) (hk : k < E.length) (hn : n < E.length) (hat : atF c E = some n) (hne : n ≠ k)
 (kx k_y nx ny : Int) (ek : (E[k]'hk).x = kx ∧ (E[k]'hk).y = k_y) (en : (E[n]'hn).x = nx ∧ (E[n]'hn).y = ny) (b1 : 0 ≤ kx ∧ kx ≤ 3) (b2 : 0 ≤ k_y ∧ k_y ≤ 3) (b3 : 0 ≤ nx ∧ nx ≤ 3) (b4 : 0 ≤ ny ∧ ny ≤ 3)
 (h1 : inB (kx - nx) (-1) 1 = false) :
 Calls Try.prog 114 #[.agg #[.pointer (some ⟨p, 0, none⟩), .int .i64 k], .int .i64 c] w fun e w' => e = .returned (.tuple #[.agg #[.pointer (some ⟨p, 0, none⟩), .int .i64 n], .bool false]) ∧ Below w.heap.size w w' := by
 obtain ⟨g, rfl, _, _⟩ := own_some h.e (by omega)
 have GW := Lib.hid (own_block_ge h.e g rfl).2
 have BW : Hid (Below w.heap.size w ((w.alloc (.cells #[.pointer (some ⟨p, 0, none⟩), .int .i64 k] 111)).alloc (.cells #[.pointer none, .int .i64 0] 111))) := below_alloc2 w _ _
 have H := Lib.hid (h.below BW.out)
 have KF : Hid (Bkk ((w.alloc (.cells #[.pointer (some ⟨p, 0, none⟩), .int .i64 k] 111)).alloc (.cells #[.pointer none, .int .i64 0] 111)) w.heap.size 111 #[.pointer (some ⟨p, 0, none⟩), .int .i64 k]) := (Bkk.new w).alloc _
 have KZ : Hid (Bkk ((w.alloc (.cells #[.pointer (some ⟨p, 0, none⟩), .int .i64 k] 111)).alloc (.cells #[.pointer none, .int .i64 0] 111)) (w.heap.size + 1) 111 #[.pointer none, .int .i64 0]) := by have := Bkk.new (t := 111) (cs := #[.pointer none, .int .i64 0]) (w.alloc (.cells #[.pointer (some ⟨p, 0, none⟩), .int .i64 k] 111)); simpa [Hid] using this
 have HE := Lib.hid hE
 have HL := Lib.hid (lt_at hE hat)
 have HA := Lib.hid hat
 have H1 := Lib.hid h1
 have EK := Lib.hid ek
 have EN := Lib.hid en
 have m0 : ((n : Int) == (k : Int)) = false := by simp; omega
 clear h hE hat h1 ek en
 go_enter Try.func114, Try.ntmps114
 go_wp2_with (fail)
 refine (figureOf p (some ⟨g, 0, none⟩) a E c _ HE.out (RdF.of_own H.out.e) H.out.at_.cells.1).mono ?_
 rintro e wa ⟨rfl, hb⟩
 rw [HL.out, HA.out]
 simp only [Option.isSome_some]
 have BB : Hid (Below w.heap.size w (wa.alloc (.cells #[.pointer (some ⟨p, 0, none⟩), .int .i64 n] 111))) := (Below.and BW.out hb).alloc (Below.and BW.out hb).size _
 have BN : Hid (Below wa.heap.size wa (wa.alloc (.cells #[.pointer (some ⟨p, 0, none⟩), .int .i64 n] 111))) := (Below.refl _ _).alloc (Nat.le_refl _) _
 have H := Lib.hid ((H.out.below hb).below BN.out)
 have KN : Hid (Bkk (wa.alloc (.cells #[.pointer (some ⟨p, 0, none⟩), .int .i64 n] 111)) wa.heap.size 111 #[.pointer (some ⟨p, 0, none⟩), .int .i64 n]) := Bkk.new wa
 have KF := Lib.hid ((KF.out.below hb).alloc (.cells #[.pointer (some ⟨p, 0, none⟩), .int .i64 n] 111))
 have KZ := Lib.hid ((KZ.out.below hb).alloc (.cells #[.pointer (some ⟨p, 0, none⟩), .int .i64 n] 111))
 have l1 : w.heap.size + 1 < wa.heap.size := by have := hb.size; simp at this; omega
 have l0 : w.heap.size < wa.heap.size := by omega
 clear hb
 have x0 : (wa.alloc (.cells #[.pointer (some ⟨p, 0, none⟩), .int .i64 n] 111)).cell? ⟨w.heap.size, 0, none⟩ = some (.pointer (some ⟨p, 0, none⟩)) := KF.out.cell 0
 have x1 : (wa.alloc (.cells #[.pointer (some ⟨p, 0, none⟩), .int .i64 n] 111)).cell? ⟨w.heap.size, 1, none⟩ = some (.int .i64 k) := KF.out.cell 1
 go_wp2
 obtain ⟨wc, hwc⟩ : ∃ wc, (wa.alloc (.cells #[.pointer (some ⟨p, 0, none⟩), .int .i64 n] 111)) = wc := ⟨_, rfl⟩
 rw [hwc] at BB H KN KF KZ x0 x1 ⊢
 have lc : wa.heap.size < wc.heap.size := KN.out.lt
 have l3 : w.heap.size < wc.heap.size := KF.out.lt
 have y0 : wc.cell? ⟨wa.heap.size, 0, none⟩ = some (.pointer (some ⟨p, 0, none⟩)) := KN.out.cell 0
 have y1 : wc.cell? ⟨wa.heap.size, 1, none⟩ = some (.int .i64 n) := KN.out.cell 1
 clear hwc BN
 refine wp_region_held_drew (S := fun w1 => Below wc.heap.size wc w1) (by kernel_rfl) ((Below.refl _ _).drew) (fun hH => ?_)
 refine tkI 0 27 (v := ?_) rfl rfl ?_ ?_
 rotate_left
 · intro w1 hSw; obtain ⟨hcS, hfS⟩ := bcell hSw; go_simp; (try with_reducible rfl)
 (try simp only [Act.put, pu1, pu2, pu3])
 refine tkI 2 29 (v := ?_) rfl rfl ?_ ?_
 rotate_left
 · intro w1 hSw; obtain ⟨hcS, hfS⟩ := bcell hSw; go_simp; (try with_reducible rfl)
 (try simp only [Act.put, pu1, pu2, pu3])
 refine wpAnyH_ready (rs := [1]) (by kernel_rfl) (by simp) ?_
 refine AllReadyH.cons rfl (fun K hK => ?_) AllReadyH.nil
 go_simp
 refine (entAt p k g E.length a _ (H.out.below hH).at_.cells.1 hk).mono ?_
 rintro e wd ⟨rfl, hb⟩
 refine hK.out _ _ (Below.and hH hb) (fun hH2 => ?_)
 clear hK K
 (try simp only [Act.put, pu1, pu2, pu3])
 refine wpAnyH_ready (rs := [3]) (by kernel_rfl) (by simp) ?_
 refine AllReadyH.cons rfl (fun K hK => ?_) AllReadyH.nil
 go_simp
 refine (entAt p n g E.length a _ (H.out.below hH2).at_.cells.1 hn).mono ?_
 rintro e we ⟨rfl, hb⟩
 refine hK.out _ _ (Below.and hH2 hb) (fun hH3 => ?_)
 clear hK K
 (try simp only [Act.put, pu1, pu2, pu3])
 refine tkI 4 8 (v := ?_) rfl rfl ?_ ?_
 rotate_left
 · intro w1 hSw; obtain ⟨hcS, hfS⟩ := bcell hSw; go_simp; (try with_reducible rfl)
 (try simp only [Act.put, pu1, pu2, pu3])
 refine tkI 5 9 (v := ?_) rfl rfl ?_ ?_
 rotate_left
 · intro w1 hSw; obtain ⟨hcS, hfS⟩ := bcell hSw; go_simp; (try with_reducible rfl)
 (try simp only [Act.put, pu1, pu2, pu3])
 refine wpAnyH_done (by kernel_rfl) ?_ _
 have BB := Lib.hid (Below.and BB.out hH3)
 have H := Lib.hid (H.out.below hH3)
 have KN := Lib.hid (KN.out.below hH3)
 have KZ := Lib.hid (KZ.out.below hH3)
 clear hH3 x0 x1 y0 y1 lc l3 KF
 have c0 : we.cell? ⟨wa.heap.size, 0, none⟩ = some (.pointer (some ⟨p, 0, none⟩)) := KN.out.cell 0
 have c1 : we.cell? ⟨wa.heap.size, 1, none⟩ = some (.int .i64 n) := KN.out.cell 1
 obtain ⟨g', hg', a0, c2, c3, a3, a4⟩ := RdF.of_own H.out.e k hk
 cases hg'
 obtain ⟨g', hg', a5, c4, c5, a8, a9⟩ := RdF.of_own H.out.e n hn
 cases hg'
 rw [EK.out.1] at c2
 rw [EK.out.2] at c3
 rw [EN.out.1] at c4
 rw [EN.out.2] at c5
 clear a0 a3 a4 a5 a8 a9
 have q1 : IntKind.i64.wrap (kx - nx) = kx - nx := IntWalk.i64_in _ (by omega)
 have q2 : IntKind.i64.wrap (k_y - ny) = k_y - ny := IntWalk.i64_in _ (by omega)
 have z0 : we.cell? ⟨w.heap.size + 1, 0, none⟩ = some (.pointer none) := KZ.out.cell 0
 have z1 : we.cell? ⟨w.heap.size + 1, 1, none⟩ = some (.int .i64 0) := KZ.out.cell 1
 have zf := KZ.out.frozen
 have zl := KZ.out.lt
 have d1 : wa.heap.size ≠ w.heap.size + 1 := by omega
 have d2 : g ≠ w.heap.size + 1 := by have := GW.out; omega
 have bw : w.heap.size ≤ we.heap.size := BB.out.size
 go_wp2
 refine wp_region_held_drew (S := (fun w1 => w1.cell? ⟨wa.heap.size, 0, none⟩ = some (.pointer (some ⟨p, 0, none⟩)) ∧ w1.cell? ⟨wa.heap.size, 1, none⟩ = some (.int .i64 n) ∧ w1.cell? ⟨g, k * 5 + 1, none⟩ = some (.int .i64 kx) ∧ w1.cell? ⟨g, k * 5 + 2, none⟩ = some (.int .i64 k_y) ∧ w1.cell? ⟨g, n * 5 + 1, none⟩ = some (.int .i64 nx) ∧ w1.cell? ⟨g, n * 5 + 2, none⟩ = some (.int .i64 ny))) (by kernel_rfl) ⟨c0, c1, c2, c3, c4, c5⟩ (fun hS0 => ?_)
 refine tkI 0 31 (v := ?_) rfl rfl ?_ ?_
 rotate_left
 · intro w1 hSw; (try dsimp only at hSw); go_split_ands; go_simp; (try with_reducible rfl)
 (try simp only [Act.put, pu1, pu2, pu3])
 refine tkI 1 32 (v := ?_) rfl rfl ?_ ?_
 rotate_left
 · intro w1 hSw; (try dsimp only at hSw); go_split_ands; go_simp; (try with_reducible rfl)
 (try simp only [Act.put, pu1, pu2, pu3])
 refine tkI 2 33 (v := ?_) rfl rfl ?_ ?_
 rotate_left
 · intro w1 hSw; (try dsimp only at hSw); go_split_ands; go_simp; (try with_reducible rfl)
 (try simp only [Act.put, pu1, pu2, pu3])
 refine tkI 3 34 (v := ?_) rfl rfl ?_ ?_
 rotate_left
 · intro w1 hSw; (try dsimp only at hSw); go_split_ands; go_simp; (try with_reducible rfl)
 (try simp only [Act.put, pu1, pu2, pu3])
 refine tkI 4 35 (v := ?_) rfl rfl ?_ ?_
 rotate_left
 · intro w1 hSw; (try dsimp only at hSw); go_split_ands; go_simp; (try with_reducible rfl)
 (try simp only [Act.put, pu1, pu2, pu3])
 refine tkI 5 36 (v := ?_) rfl rfl ?_ ?_
 rotate_left
 · intro w1 hSw; (try dsimp only at hSw); go_split_ands; go_simp; (try with_reducible rfl)
 (try simp only [Act.put, pu1, pu2, pu3])
 refine tkI 6 37 (v := ?_) rfl rfl ?_ ?_
 rotate_left
 · intro w1 hSw; (try dsimp only at hSw); go_split_ands; go_simp; (try with_reducible rfl)
 (try simp only [Act.put, pu1, pu2, pu3])
 refine tkI 7 38 (v := ?_) rfl rfl ?_ ?_
 rotate_left
 · intro w1 hSw; (try dsimp only at hSw); go_split_ands; go_simp; (try with_reducible rfl)
 (try simp only [Act.put, pu1, pu2, pu3])
 refine tkI 8 39 (v := ?_) rfl rfl ?_ ?_
 rotate_left
 · intro w1 hSw; (try dsimp only at hSw); go_split_ands; go_simp; (try with_reducible rfl)
 (try simp only [Act.put, pu1, pu2, pu3])
 refine tkI 9 40 (v := ?_) rfl rfl ?_ ?_
 rotate_left
 · intro w1 hSw; (try dsimp only at hSw); go_split_ands; go_simp; (try with_reducible rfl)
 (try simp only [Act.put, pu1, pu2, pu3])
 refine wpAnyH_ready (rs := [10]) (by kernel_rfl) (by simp) ?_
 refine AllReadyH.cons rfl (fun K hK => ?_) AllReadyH.nil
 go_simp
 refine (implIn _ _ _ _).mono ?_
 rintro e w' ⟨rfl, rfl⟩
 rw [H1.out]
 refine hK.out _ _ hS0 (fun hS1 => ?_)
 clear hK K
 (try simp only [Act.put, pu1, pu2, pu3])
 refine tkI 11 42 (v := ?_) rfl rfl ?_ ?_
 rotate_left
 · intro w1 hSw; (try dsimp only at hSw); go_split_ands; go_simp; (try with_reducible rfl)
 (try simp only [Act.put, pu1, pu2, pu3])
 refine tkD 12 43 (v := undef) rfl rfl (Or.inr ⟨by rfl, by rfl⟩) (by assumption) ?_
 (try simp only [Act.put, pu1, pu2, pu3])
 refine tkD 13 44 (v := undef) rfl rfl (Or.inr ⟨by rfl, by rfl⟩) (by assumption) ?_
 (try simp only [Act.put, pu1, pu2, pu3])
 refine tkD 14 45 (v := undef) rfl rfl (Or.inr ⟨by rfl, by rfl⟩) (by assumption) ?_
 (try simp only [Act.put, pu1, pu2, pu3])
 refine tkD 15 46 (v := undef) rfl rfl (Or.inr ⟨by rfl, by rfl⟩) (by assumption) ?_
 (try simp only [Act.put, pu1, pu2, pu3])
 refine tkD 16 47 (v := undef) rfl rfl (Or.inr ⟨by rfl, by rfl⟩) (by assumption) ?_
 (try simp only [Act.put, pu1, pu2, pu3])
 refine tkD 17 48 (v := undef) rfl rfl (Or.inr ⟨by rfl, by rfl⟩) (by assumption) ?_
 (try simp only [Act.put, pu1, pu2, pu3])
 refine tkD 18 49 (v := undef) rfl rfl (Or.inr ⟨by rfl, by rfl⟩) (by assumption) ?_
 (try simp only [Act.put, pu1, pu2, pu3])
 refine tkD 19 50 (v := undef) rfl rfl (Or.inr ⟨by rfl, by rfl⟩) (by assumption) ?_
 (try simp only [Act.put, pu1, pu2, pu3])
 refine tkD 20 51 (v := undef) rfl rfl (Or.inr ⟨by rfl, by rfl⟩) (by assumption) ?_
 (try simp only [Act.put, pu1, pu2, pu3])
 refine tkD 21 52 (v := undef) rfl rfl (Or.inr ⟨by rfl, by rfl⟩) (by assumption) ?_
 (try simp only [Act.put, pu1, pu2, pu3])
 refine tkI 22 53 (v := ?_) rfl rfl ?_ ?_
 rotate_left
 · intro w1 hSw; (try dsimp only at hSw); go_split_ands; go_simp; (try with_reducible rfl)
 (try simp only [Act.put, pu1, pu2, pu3])
 refine wpAnyH_ready (rs := [23]) (by kernel_rfl) (by simp) ?_
 refine AllReadyH.cons rfl (fun K hK => ?_) AllReadyH.nil
 go_simp
 refine hK.out _ _ ?st (fun hS3 => ?_)
 case st => exact ⟨by go_simp, by go_simp, by go_simp, by go_simp, by go_simp, by go_simp⟩
 clear hK K
 (try simp only [Act.put, pu1, pu2, pu3])
 refine tkI 24 5 (v := ?_) rfl rfl ?_ ?_
 rotate_left
 · intro w1 hSw; (try dsimp only at hSw); go_split_ands; go_simp; (try with_reducible rfl)
 (try simp only [Act.put, pu1, pu2, pu3])
 refine wpAnyH_done (by kernel_rfl) ?_ _
 have HZ0 := KZ.out
 go_wp2
 go_light
 refine bodyPost_ret (v := .tuple #[.agg #[.pointer (some ⟨p, 0, none⟩), .int .i64 n], .bool false]) (by simp [results, Try.results114, go_sem, z0, z1]) rfl ⟨rfl, ?_⟩
 refine Below.drew ?_
 iterate 2 (refine Below.setCell ?_ (by first | (simp; done) | (simp; omega)) _)
 exact BB.out
set_option maxRecDepth 100000 in
set_option maxHeartbeats 4000000 in
theorem otherFarY {w : World} {p lo : Nat} {A : Option Addr} {a : Nat} {B : Option Addr} {b : Nat} {C : Option Addr} {d : Nat} {E : List Fig} {F L : List Int} (h : Bd w p lo A a B b C d E F L) (hE : OkE E) (k n : Nat) (c : Int) (hk : k < E.length) (hn : n < E.length) (hat : atF c E = some n) (hne : n ≠ k)
 (kx k_y nx ny : Int) (ek : (E[k]'hk).x = kx ∧ (E[k]'hk).y = k_y) (en : (E[n]'hn).x = nx ∧ (E[n]'hn).y = ny) (b1 : 0 ≤ kx ∧ kx ≤ 3) (b2 : 0 ≤ k_y ∧ k_y ≤ 3) (b3 : 0 ≤ nx ∧ nx ≤ 3) (b4 : 0 ≤ ny ∧ ny ≤ 3)
 (h1 : inB (kx - nx) (-1) 1 = true) (h2 : inB (k_y - ny) (-1) 1 = false) :
 Calls Try.prog 114 #[.agg #[.pointer (some ⟨p, 0, none⟩), .int .i64 k], .int .i64 c] w fun e w' => e = .returned (.tuple #[.agg #[.pointer (some ⟨p, 0, none⟩), .int .i64 n], .bool false]) ∧ Below w.heap.size w w' := by
 obtain ⟨g, rfl, _, _⟩ := own_some h.e (by omega)
 have GW := Lib.hid (own_block_ge h.e g rfl).2
 have BW : Hid (Below w.heap.size w ((w.alloc (.cells #[.pointer (some ⟨p, 0, none⟩), .int .i64 k] 111)).alloc (.cells #[.pointer none, .int .i64 0] 111))) := below_alloc2 w _ _
 have H := Lib.hid (h.below BW.out)
 have KF : Hid (Bkk ((w.alloc (.cells #[.pointer (some ⟨p, 0, none⟩), .int .i64 k] 111)).alloc (.cells #[.pointer none, .int .i64 0] 111)) w.heap.size 111 #[.pointer (some ⟨p, 0, none⟩), .int .i64 k]) := (Bkk.new w).alloc _
 have KZ : Hid (Bkk ((w.alloc (.cells #[.pointer (some ⟨p, 0, none⟩), .int .i64 k] 111)).alloc (.cells #[.pointer none, .int .i64 0] 111)) (w.heap.size + 1) 111 #[.pointer none, .int .i64 0]) := by have := Bkk.new (t := 111) (cs := #[.pointer none, .int .i64 0]) (w.alloc (.cells #[.pointer (some ⟨p, 0, none⟩), .int .i64 k] 111)); simpa [Hid] using this
 have HE := Lib.hid hE
 have HL := Lib.hid (lt_at hE hat)
 have HA := Lib.hid hat
 have H1 := Lib.hid h1
 have H2 := Lib.hid h2
 have EK := Lib.hid ek
 have EN := Lib.hid en
 have m0 : ((n : Int) == (k : Int)) = false := by simp; omega
 clear h hE hat h1 h2 ek en
 go_enter Try.func114, Try.ntmps114
 go_wp2_with (fail)
 refine (figureOf p (some ⟨g, 0, none⟩) a E c _ HE.out (RdF.of_own H.out.e) H.out.at_.cells.1).mono ?_
 rintro e wa ⟨rfl, hb⟩
 rw [HL.out, HA.out]
 simp only [Option.isSome_some]
 have BB : Hid (Below w.heap.size w (wa.alloc (.cells #[.pointer (some ⟨p, 0, none⟩), .int .i64 n] 111))) := (Below.and BW.out hb).alloc (Below.and BW.out hb).size _
 have BN : Hid (Below wa.heap.size wa (wa.alloc (.cells #[.pointer (some ⟨p, 0, none⟩), .int .i64 n] 111))) := (Below.refl _ _).alloc (Nat.le_refl _) _
 have H := Lib.hid ((H.out.below hb).below BN.out)
 have KN : Hid (Bkk (wa.alloc (.cells #[.pointer (some ⟨p, 0, none⟩), .int .i64 n] 111)) wa.heap.size 111 #[.pointer (some ⟨p, 0, none⟩), .int .i64 n]) := Bkk.new wa
 have KF := Lib.hid ((KF.out.below hb).alloc (.cells #[.pointer (some ⟨p, 0, none⟩), .int .i64 n] 111))
 have KZ := Lib.hid ((KZ.out.below hb).alloc (.cells #[.pointer (some ⟨p, 0, none⟩), .int .i64 n] 111))
 have l1 : w.heap.size + 1 < wa.heap.size := by have := hb.size; simp at this; omega
 have l0 : w.heap.size < wa.heap.size := by omega
 clear hb
 have x0 : (wa.alloc (.cells #[.pointer (some ⟨p, 0, none⟩), .int .i64 n] 111)).cell? ⟨w.heap.size, 0, none⟩ = some (.pointer (some ⟨p, 0, none⟩)) := KF.out.cell 0
 have x1 : (wa.alloc (.cells #[.pointer (some ⟨p, 0, none⟩), .int .i64 n] 111)).cell? ⟨w.heap.size, 1, none⟩ = some (.int .i64 k) := KF.out.cell 1
 go_wp2
 obtain ⟨wc, hwc⟩ : ∃ wc, (wa.alloc (.cells #[.pointer (some ⟨p, 0, none⟩), .int .i64 n] 111)) = wc := ⟨_, rfl⟩
 rw [hwc] at BB H KN KF KZ x0 x1 ⊢
 have lc : wa.heap.size < wc.heap.size := KN.out.lt
 have l3 : w.heap.size < wc.heap.size := KF.out.lt
 have y0 : wc.cell? ⟨wa.heap.size, 0, none⟩ = some (.pointer (some ⟨p, 0, none⟩)) := KN.out.cell 0
 have y1 : wc.cell? ⟨wa.heap.size, 1, none⟩ = some (.int .i64 n) := KN.out.cell 1
 clear hwc BN
 refine wp_region_held_drew (S := fun w1 => Below wc.heap.size wc w1) (by kernel_rfl) ((Below.refl _ _).drew) (fun hH => ?_)
 refine tkI 0 27 (v := ?_) rfl rfl ?_ ?_
 rotate_left
 · intro w1 hSw; obtain ⟨hcS, hfS⟩ := bcell hSw; go_simp; (try with_reducible rfl)
 (try simp only [Act.put, pu1, pu2, pu3])
 refine tkI 2 29 (v := ?_) rfl rfl ?_ ?_
 rotate_left
 · intro w1 hSw; obtain ⟨hcS, hfS⟩ := bcell hSw; go_simp; (try with_reducible rfl)
 (try simp only [Act.put, pu1, pu2, pu3])
 refine wpAnyH_ready (rs := [1]) (by kernel_rfl) (by simp) ?_
 refine AllReadyH.cons rfl (fun K hK => ?_) AllReadyH.nil
 go_simp
 refine (entAt p k g E.length a _ (H.out.below hH).at_.cells.1 hk).mono ?_
 rintro e wd ⟨rfl, hb⟩
 refine hK.out _ _ (Below.and hH hb) (fun hH2 => ?_)
 clear hK K
 (try simp only [Act.put, pu1, pu2, pu3])
 refine wpAnyH_ready (rs := [3]) (by kernel_rfl) (by simp) ?_
 refine AllReadyH.cons rfl (fun K hK => ?_) AllReadyH.nil
 go_simp
 refine (entAt p n g E.length a _ (H.out.below hH2).at_.cells.1 hn).mono ?_
 rintro e we ⟨rfl, hb⟩
 refine hK.out _ _ (Below.and hH2 hb) (fun hH3 => ?_)
 clear hK K
 (try simp only [Act.put, pu1, pu2, pu3])
 refine tkI 4 8 (v := ?_) rfl rfl ?_ ?_
 rotate_left
 · intro w1 hSw; obtain ⟨hcS, hfS⟩ := bcell hSw; go_simp; (try with_reducible rfl)
 (try simp only [Act.put, pu1, pu2, pu3])
 refine tkI 5 9 (v := ?_) rfl rfl ?_ ?_
 rotate_left
 · intro w1 hSw; obtain ⟨hcS, hfS⟩ := bcell hSw; go_simp; (try with_reducible rfl)
 (try simp only [Act.put, pu1, pu2, pu3])
 refine wpAnyH_done (by kernel_rfl) ?_ _
 have BB := Lib.hid (Below.and BB.out hH3)
 have H := Lib.hid (H.out.below hH3)
 have KN := Lib.hid (KN.out.below hH3)
 have KZ := Lib.hid (KZ.out.below hH3)
 clear hH3 x0 x1 y0 y1 lc l3 KF
 have c0 : we.cell? ⟨wa.heap.size, 0, none⟩ = some (.pointer (some ⟨p, 0, none⟩)) := KN.out.cell 0
 have c1 : we.cell? ⟨wa.heap.size, 1, none⟩ = some (.int .i64 n) := KN.out.cell 1
 obtain ⟨g', hg', a0, c2, c3, a3, a4⟩ := RdF.of_own H.out.e k hk
 cases hg'
 obtain ⟨g', hg', a5, c4, c5, a8, a9⟩ := RdF.of_own H.out.e n hn
 cases hg'
 rw [EK.out.1] at c2
 rw [EK.out.2] at c3
 rw [EN.out.1] at c4
 rw [EN.out.2] at c5
 clear a0 a3 a4 a5 a8 a9
 have q1 : IntKind.i64.wrap (kx - nx) = kx - nx := IntWalk.i64_in _ (by omega)
 have q2 : IntKind.i64.wrap (k_y - ny) = k_y - ny := IntWalk.i64_in _ (by omega)
 have z0 : we.cell? ⟨w.heap.size + 1, 0, none⟩ = some (.pointer none) := KZ.out.cell 0
 have z1 : we.cell? ⟨w.heap.size + 1, 1, none⟩ = some (.int .i64 0) := KZ.out.cell 1
 have zf := KZ.out.frozen
 have zl := KZ.out.lt
 have d1 : wa.heap.size ≠ w.heap.size + 1 := by omega
 have d2 : g ≠ w.heap.size + 1 := by have := GW.out; omega
 have bw : w.heap.size ≤ we.heap.size := BB.out.size
 go_wp2
 refine wp_region_held_drew (S := (fun w1 => w1.cell? ⟨wa.heap.size, 0, none⟩ = some (.pointer (some ⟨p, 0, none⟩)) ∧ w1.cell? ⟨wa.heap.size, 1, none⟩ = some (.int .i64 n) ∧ w1.cell? ⟨g, k * 5 + 1, none⟩ = some (.int .i64 kx) ∧ w1.cell? ⟨g, k * 5 + 2, none⟩ = some (.int .i64 k_y) ∧ w1.cell? ⟨g, n * 5 + 1, none⟩ = some (.int .i64 nx) ∧ w1.cell? ⟨g, n * 5 + 2, none⟩ = some (.int .i64 ny))) (by kernel_rfl) ⟨c0, c1, c2, c3, c4, c5⟩ (fun hS0 => ?_)
 refine tkI 0 31 (v := ?_) rfl rfl ?_ ?_
 rotate_left
 · intro w1 hSw; (try dsimp only at hSw); go_split_ands; go_simp; (try with_reducible rfl)
 (try simp only [Act.put, pu1, pu2, pu3])
 refine tkI 1 32 (v := ?_) rfl rfl ?_ ?_
 rotate_left
 · intro w1 hSw; (try dsimp only at hSw); go_split_ands; go_simp; (try with_reducible rfl)
 (try simp only [Act.put, pu1, pu2, pu3])
 refine tkI 2 33 (v := ?_) rfl rfl ?_ ?_
 rotate_left
 · intro w1 hSw; (try dsimp only at hSw); go_split_ands; go_simp; (try with_reducible rfl)
 (try simp only [Act.put, pu1, pu2, pu3])
 refine tkI 3 34 (v := ?_) rfl rfl ?_ ?_
 rotate_left
 · intro w1 hSw; (try dsimp only at hSw); go_split_ands; go_simp; (try with_reducible rfl)
 (try simp only [Act.put, pu1, pu2, pu3])
 refine tkI 4 35 (v := ?_) rfl rfl ?_ ?_
 rotate_left
 · intro w1 hSw; (try dsimp only at hSw); go_split_ands; go_simp; (try with_reducible rfl)
 (try simp only [Act.put, pu1, pu2, pu3])
 refine tkI 5 36 (v := ?_) rfl rfl ?_ ?_
 rotate_left
 · intro w1 hSw; (try dsimp only at hSw); go_split_ands; go_simp; (try with_reducible rfl)
 (try simp only [Act.put, pu1, pu2, pu3])
 refine tkI 6 37 (v := ?_) rfl rfl ?_ ?_
 rotate_left
 · intro w1 hSw; (try dsimp only at hSw); go_split_ands; go_simp; (try with_reducible rfl)
 (try simp only [Act.put, pu1, pu2, pu3])
 refine tkI 7 38 (v := ?_) rfl rfl ?_ ?_
 rotate_left
 · intro w1 hSw; (try dsimp only at hSw); go_split_ands; go_simp; (try with_reducible rfl)
 (try simp only [Act.put, pu1, pu2, pu3])
 refine tkI 8 39 (v := ?_) rfl rfl ?_ ?_
 rotate_left
 · intro w1 hSw; (try dsimp only at hSw); go_split_ands; go_simp; (try with_reducible rfl)
 (try simp only [Act.put, pu1, pu2, pu3])
 refine tkI 9 40 (v := ?_) rfl rfl ?_ ?_
 rotate_left
 · intro w1 hSw; (try dsimp only at hSw); go_split_ands; go_simp; (try with_reducible rfl)
 (try simp only [Act.put, pu1, pu2, pu3])
 refine wpAnyH_ready (rs := [10]) (by kernel_rfl) (by simp) ?_
 refine AllReadyH.cons rfl (fun K hK => ?_) AllReadyH.nil
 go_simp
 refine (implIn _ _ _ _).mono ?_
 rintro e w' ⟨rfl, rfl⟩
 rw [H1.out]
 refine hK.out _ _ hS0 (fun hS1 => ?_)
 clear hK K
 (try simp only [Act.put, pu1, pu2, pu3])
 refine tkI 11 42 (v := ?_) rfl rfl ?_ ?_
 rotate_left
 · intro w1 hSw; (try dsimp only at hSw); go_split_ands; go_simp; (try with_reducible rfl)
 (try simp only [Act.put, pu1, pu2, pu3])
 refine tkI 12 43 (v := ?_) rfl rfl ?_ ?_
 rotate_left
 · intro w1 hSw; (try dsimp only at hSw); go_split_ands; go_simp; (try with_reducible rfl)
 (try simp only [Act.put, pu1, pu2, pu3])
 refine tkI 13 44 (v := ?_) rfl rfl ?_ ?_
 rotate_left
 · intro w1 hSw; (try dsimp only at hSw); go_split_ands; go_simp; (try with_reducible rfl)
 (try simp only [Act.put, pu1, pu2, pu3])
 refine tkI 14 45 (v := ?_) rfl rfl ?_ ?_
 rotate_left
 · intro w1 hSw; (try dsimp only at hSw); go_split_ands; go_simp; (try with_reducible rfl)
 (try simp only [Act.put, pu1, pu2, pu3])
 refine tkI 15 46 (v := ?_) rfl rfl ?_ ?_
 rotate_left
 · intro w1 hSw; (try dsimp only at hSw); go_split_ands; go_simp; (try with_reducible rfl)
 (try simp only [Act.put, pu1, pu2, pu3])
 refine tkI 16 47 (v := ?_) rfl rfl ?_ ?_
 rotate_left
 · intro w1 hSw; (try dsimp only at hSw); go_split_ands; go_simp; (try with_reducible rfl)
 (try simp only [Act.put, pu1, pu2, pu3])
 refine tkI 17 48 (v := ?_) rfl rfl ?_ ?_
 rotate_left
 · intro w1 hSw; (try dsimp only at hSw); go_split_ands; go_simp; (try with_reducible rfl)
 (try simp only [Act.put, pu1, pu2, pu3])
 refine tkI 18 49 (v := ?_) rfl rfl ?_ ?_
 rotate_left
 · intro w1 hSw; (try dsimp only at hSw); go_split_ands; go_simp; (try with_reducible rfl)
 (try simp only [Act.put, pu1, pu2, pu3])
 refine tkI 19 50 (v := ?_) rfl rfl ?_ ?_
 rotate_left
 · intro w1 hSw; (try dsimp only at hSw); go_split_ands; go_simp; (try with_reducible rfl)
 (try simp only [Act.put, pu1, pu2, pu3])
 refine tkI 20 51 (v := ?_) rfl rfl ?_ ?_
 rotate_left
 · intro w1 hSw; (try dsimp only at hSw); go_split_ands; go_simp; (try with_reducible rfl)
 (try simp only [Act.put, pu1, pu2, pu3])
 refine wpAnyH_ready (rs := [21]) (by kernel_rfl) (by simp) ?_
 refine AllReadyH.cons rfl (fun K hK => ?_) AllReadyH.nil
 go_simp
 refine (implIn _ _ _ _).mono ?_
 rintro e w' ⟨rfl, rfl⟩
 rw [H2.out]
 refine hK.out _ _ hS0 (fun hS2 => ?_)
 clear hK K
 (try simp only [Act.put, pu1, pu2, pu3])
 refine tkI 22 53 (v := ?_) rfl rfl ?_ ?_
 rotate_left
 · intro w1 hSw; (try dsimp only at hSw); go_split_ands; go_simp; (try with_reducible rfl)
 (try simp only [Act.put, pu1, pu2, pu3])
 refine wpAnyH_ready (rs := [23]) (by kernel_rfl) (by simp) ?_
 refine AllReadyH.cons rfl (fun K hK => ?_) AllReadyH.nil
 go_simp
 refine hK.out _ _ ?st (fun hS3 => ?_)
 case st => exact ⟨by go_simp, by go_simp, by go_simp, by go_simp, by go_simp, by go_simp⟩
 clear hK K
 (try simp only [Act.put, pu1, pu2, pu3])
 refine tkI 24 5 (v := ?_) rfl rfl ?_ ?_
 rotate_left
 · intro w1 hSw; (try dsimp only at hSw); go_split_ands; go_simp; (try with_reducible rfl)
 (try simp only [Act.put, pu1, pu2, pu3])
 refine wpAnyH_done (by kernel_rfl) ?_ _
 have HZ0 := KZ.out
 go_wp2
 go_light
 refine bodyPost_ret (v := .tuple #[.agg #[.pointer (some ⟨p, 0, none⟩), .int .i64 n], .bool false]) (by simp [results, Try.results114, go_sem, z0, z1]) rfl ⟨rfl, ?_⟩
 refine Below.drew ?_
 iterate 2 (refine Below.setCell ?_ (by first | (simp; done) | (simp; omega)) _)
 exact BB.out
set_option maxRecDepth 100000 in
set_option maxHeartbeats 4000000 in
theorem otherYes {w : World} {p lo : Nat} {A : Option Addr} {a : Nat} {B : Option Addr} {b : Nat} {C : Option Addr} {d : Nat} {E : List Fig} {F L : List Int} (h : Bd w p lo A a B b C d E F L) (hE : OkE E) (k n : Nat) (c : Int) (hk : k < E.length) (hn : n < E.length) (hat : atF c E = some n) (hne : n ≠ k)
 (kx k_y nx ny : Int) (ek : (E[k]'hk).x = kx ∧ (E[k]'hk).y = k_y) (en : (E[n]'hn).x = nx ∧ (E[n]'hn).y = ny) (b1 : 0 ≤ kx ∧ kx ≤ 3) (b2 : 0 ≤ k_y ∧ k_y ≤ 3) (b3 : 0 ≤ nx ∧ nx ≤ 3) (b4 : 0 ≤ ny ∧ ny ≤ 3)
 (h1 : inB (kx - nx) (-1) 1 = true) (h2 : inB (k_y - ny) (-1) 1 = true) :
 Calls Try.prog 114 #[.agg #[.pointer (some ⟨p, 0, none⟩), .int .i64 k], .int .i64 c] w fun e w' => e = .returned (.tuple #[.agg #[.pointer (some ⟨p, 0, none⟩), .int .i64 n], .bool true]) ∧ Below w.heap.size w w' := by
 obtain ⟨g, rfl, _, _⟩ := own_some h.e (by omega)
 have GW := Lib.hid (own_block_ge h.e g rfl).2
 have BW : Hid (Below w.heap.size w ((w.alloc (.cells #[.pointer (some ⟨p, 0, none⟩), .int .i64 k] 111)).alloc (.cells #[.pointer none, .int .i64 0] 111))) := below_alloc2 w _ _
 have H := Lib.hid (h.below BW.out)
 have KF : Hid (Bkk ((w.alloc (.cells #[.pointer (some ⟨p, 0, none⟩), .int .i64 k] 111)).alloc (.cells #[.pointer none, .int .i64 0] 111)) w.heap.size 111 #[.pointer (some ⟨p, 0, none⟩), .int .i64 k]) := (Bkk.new w).alloc _
 have KZ : Hid (Bkk ((w.alloc (.cells #[.pointer (some ⟨p, 0, none⟩), .int .i64 k] 111)).alloc (.cells #[.pointer none, .int .i64 0] 111)) (w.heap.size + 1) 111 #[.pointer none, .int .i64 0]) := by have := Bkk.new (t := 111) (cs := #[.pointer none, .int .i64 0]) (w.alloc (.cells #[.pointer (some ⟨p, 0, none⟩), .int .i64 k] 111)); simpa [Hid] using this
 have HE := Lib.hid hE
 have HL := Lib.hid (lt_at hE hat)
 have HA := Lib.hid hat
 have H1 := Lib.hid h1
 have H2 := Lib.hid h2
 have EK := Lib.hid ek
 have EN := Lib.hid en
 have m0 : ((n : Int) == (k : Int)) = false := by simp; omega
 clear h hE hat h1 h2 ek en
 go_enter Try.func114, Try.ntmps114
 go_wp2_with (fail)
 refine (figureOf p (some ⟨g, 0, none⟩) a E c _ HE.out (RdF.of_own H.out.e) H.out.at_.cells.1).mono ?_
 rintro e wa ⟨rfl, hb⟩
 rw [HL.out, HA.out]
 simp only [Option.isSome_some]
 have BB : Hid (Below w.heap.size w (wa.alloc (.cells #[.pointer (some ⟨p, 0, none⟩), .int .i64 n] 111))) := (Below.and BW.out hb).alloc (Below.and BW.out hb).size _
 have BN : Hid (Below wa.heap.size wa (wa.alloc (.cells #[.pointer (some ⟨p, 0, none⟩), .int .i64 n] 111))) := (Below.refl _ _).alloc (Nat.le_refl _) _
 have H := Lib.hid ((H.out.below hb).below BN.out)
 have KN : Hid (Bkk (wa.alloc (.cells #[.pointer (some ⟨p, 0, none⟩), .int .i64 n] 111)) wa.heap.size 111 #[.pointer (some ⟨p, 0, none⟩), .int .i64 n]) := Bkk.new wa
 have KF := Lib.hid ((KF.out.below hb).alloc (.cells #[.pointer (some ⟨p, 0, none⟩), .int .i64 n] 111))
 have KZ := Lib.hid ((KZ.out.below hb).alloc (.cells #[.pointer (some ⟨p, 0, none⟩), .int .i64 n] 111))
 have l1 : w.heap.size + 1 < wa.heap.size := by have := hb.size; simp at this; omega
 have l0 : w.heap.size < wa.heap.size := by omega
 clear hb
 have x0 : (wa.alloc (.cells #[.pointer (some ⟨p, 0, none⟩), .int .i64 n] 111)).cell? ⟨w.heap.size, 0, none⟩ = some (.pointer (some ⟨p, 0, none⟩)) := KF.out.cell 0
 have x1 : (wa.alloc (.cells #[.pointer (some ⟨p, 0, none⟩), .int .i64 n] 111)).cell? ⟨w.heap.size, 1, none⟩ = some (.int .i64 k) := KF.out.cell 1
 go_wp2
 obtain ⟨wc, hwc⟩ : ∃ wc, (wa.alloc (.cells #[.pointer (some ⟨p, 0, none⟩), .int .i64 n] 111)) = wc := ⟨_, rfl⟩
 rw [hwc] at BB H KN KF KZ x0 x1 ⊢
 have lc : wa.heap.size < wc.heap.size := KN.out.lt
 have l3 : w.heap.size < wc.heap.size := KF.out.lt
 have y0 : wc.cell? ⟨wa.heap.size, 0, none⟩ = some (.pointer (some ⟨p, 0, none⟩)) := KN.out.cell 0
 have y1 : wc.cell? ⟨wa.heap.size, 1, none⟩ = some (.int .i64 n) := KN.out.cell 1
 clear hwc BN
 refine wp_region_held_drew (S := fun w1 => Below wc.heap.size wc w1) (by kernel_rfl) ((Below.refl _ _).drew) (fun hH => ?_)
 refine tkI 0 27 (v := ?_) rfl rfl ?_ ?_
 rotate_left
 · intro w1 hSw; obtain ⟨hcS, hfS⟩ := bcell hSw; go_simp; (try with_reducible rfl)
 (try simp only [Act.put, pu1, pu2, pu3])
 refine tkI 2 29 (v := ?_) rfl rfl ?_ ?_
 rotate_left
 · intro w1 hSw; obtain ⟨hcS, hfS⟩ := bcell hSw; go_simp; (try with_reducible rfl)
 (try simp only [Act.put, pu1, pu2, pu3])
 refine wpAnyH_ready (rs := [1]) (by kernel_rfl) (by simp) ?_
 refine AllReadyH.cons rfl (fun K hK => ?_) AllReadyH.nil
 go_simp
 refine (entAt p k g E.length a _ (H.out.below hH).at_.cells.1 hk).mono ?_
 rintro e wd ⟨rfl, hb⟩
 refine hK.out _ _ (Below.and hH hb) (fun hH2 => ?_)
 clear hK K
 (try simp only [Act.put, pu1, pu2, pu3])
 refine wpAnyH_ready (rs := [3]) (by kernel_rfl) (by simp) ?_
 refine AllReadyH.cons rfl (fun K hK => ?_) AllReadyH.nil
 go_simp
 refine (entAt p n g E.length a _ (H.out.below hH2).at_.cells.1 hn).mono ?_
 rintro e we ⟨rfl, hb⟩
 refine hK.out _ _ (Below.and hH2 hb) (fun hH3 => ?_)
 clear hK K
 (try simp only [Act.put, pu1, pu2, pu3])
 refine tkI 4 8 (v := ?_) rfl rfl ?_ ?_
 rotate_left
 · intro w1 hSw; obtain ⟨hcS, hfS⟩ := bcell hSw; go_simp; (try with_reducible rfl)
 (try simp only [Act.put, pu1, pu2, pu3])
 refine tkI 5 9 (v := ?_) rfl rfl ?_ ?_
 rotate_left
 · intro w1 hSw; obtain ⟨hcS, hfS⟩ := bcell hSw; go_simp; (try with_reducible rfl)
 (try simp only [Act.put, pu1, pu2, pu3])
 refine wpAnyH_done (by kernel_rfl) ?_ _
 have BB := Lib.hid (Below.and BB.out hH3)
 have H := Lib.hid (H.out.below hH3)
 have KN := Lib.hid (KN.out.below hH3)
 have KZ := Lib.hid (KZ.out.below hH3)
 clear hH3 x0 x1 y0 y1 lc l3 KF
 have c0 : we.cell? ⟨wa.heap.size, 0, none⟩ = some (.pointer (some ⟨p, 0, none⟩)) := KN.out.cell 0
 have c1 : we.cell? ⟨wa.heap.size, 1, none⟩ = some (.int .i64 n) := KN.out.cell 1
 obtain ⟨g', hg', a0, c2, c3, a3, a4⟩ := RdF.of_own H.out.e k hk
 cases hg'
 obtain ⟨g', hg', a5, c4, c5, a8, a9⟩ := RdF.of_own H.out.e n hn
 cases hg'
 rw [EK.out.1] at c2
 rw [EK.out.2] at c3
 rw [EN.out.1] at c4
 rw [EN.out.2] at c5
 clear a0 a3 a4 a5 a8 a9
 have q1 : IntKind.i64.wrap (kx - nx) = kx - nx := IntWalk.i64_in _ (by omega)
 have q2 : IntKind.i64.wrap (k_y - ny) = k_y - ny := IntWalk.i64_in _ (by omega)
 have z0 : we.cell? ⟨w.heap.size + 1, 0, none⟩ = some (.pointer none) := KZ.out.cell 0
 have z1 : we.cell? ⟨w.heap.size + 1, 1, none⟩ = some (.int .i64 0) := KZ.out.cell 1
 have zf := KZ.out.frozen
 have zl := KZ.out.lt
 have d1 : wa.heap.size ≠ w.heap.size + 1 := by omega
 have d2 : g ≠ w.heap.size + 1 := by have := GW.out; omega
 have bw : w.heap.size ≤ we.heap.size := BB.out.size
 go_wp2
 refine wp_region_held_drew (S := (fun w1 => w1.cell? ⟨wa.heap.size, 0, none⟩ = some (.pointer (some ⟨p, 0, none⟩)) ∧ w1.cell? ⟨wa.heap.size, 1, none⟩ = some (.int .i64 n) ∧ w1.cell? ⟨g, k * 5 + 1, none⟩ = some (.int .i64 kx) ∧ w1.cell? ⟨g, k * 5 + 2, none⟩ = some (.int .i64 k_y) ∧ w1.cell? ⟨g, n * 5 + 1, none⟩ = some (.int .i64 nx) ∧ w1.cell? ⟨g, n * 5 + 2, none⟩ = some (.int .i64 ny))) (by kernel_rfl) ⟨c0, c1, c2, c3, c4, c5⟩ (fun hS0 => ?_)
 refine tkI 0 31 (v := ?_) rfl rfl ?_ ?_
 rotate_left
 · intro w1 hSw; (try dsimp only at hSw); go_split_ands; go_simp; (try with_reducible rfl)
 (try simp only [Act.put, pu1, pu2, pu3])
 refine tkI 1 32 (v := ?_) rfl rfl ?_ ?_
 rotate_left
 · intro w1 hSw; (try dsimp only at hSw); go_split_ands; go_simp; (try with_reducible rfl)
 (try simp only [Act.put, pu1, pu2, pu3])
 refine tkI 2 33 (v := ?_) rfl rfl ?_ ?_
 rotate_left
 · intro w1 hSw; (try dsimp only at hSw); go_split_ands; go_simp; (try with_reducible rfl)
 (try simp only [Act.put, pu1, pu2, pu3])
 refine tkI 3 34 (v := ?_) rfl rfl ?_ ?_
 rotate_left
 · intro w1 hSw; (try dsimp only at hSw); go_split_ands; go_simp; (try with_reducible rfl)
 (try simp only [Act.put, pu1, pu2, pu3])
 refine tkI 4 35 (v := ?_) rfl rfl ?_ ?_
 rotate_left
 · intro w1 hSw; (try dsimp only at hSw); go_split_ands; go_simp; (try with_reducible rfl)
 (try simp only [Act.put, pu1, pu2, pu3])
 refine tkI 5 36 (v := ?_) rfl rfl ?_ ?_
 rotate_left
 · intro w1 hSw; (try dsimp only at hSw); go_split_ands; go_simp; (try with_reducible rfl)
 (try simp only [Act.put, pu1, pu2, pu3])
 refine tkI 6 37 (v := ?_) rfl rfl ?_ ?_
 rotate_left
 · intro w1 hSw; (try dsimp only at hSw); go_split_ands; go_simp; (try with_reducible rfl)
 (try simp only [Act.put, pu1, pu2, pu3])
 refine tkI 7 38 (v := ?_) rfl rfl ?_ ?_
 rotate_left
 · intro w1 hSw; (try dsimp only at hSw); go_split_ands; go_simp; (try with_reducible rfl)
 (try simp only [Act.put, pu1, pu2, pu3])
 refine tkI 8 39 (v := ?_) rfl rfl ?_ ?_
 rotate_left
 · intro w1 hSw; (try dsimp only at hSw); go_split_ands; go_simp; (try with_reducible rfl)
 (try simp only [Act.put, pu1, pu2, pu3])
 refine tkI 9 40 (v := ?_) rfl rfl ?_ ?_
 rotate_left
 · intro w1 hSw; (try dsimp only at hSw); go_split_ands; go_simp; (try with_reducible rfl)
 (try simp only [Act.put, pu1, pu2, pu3])
 refine wpAnyH_ready (rs := [10]) (by kernel_rfl) (by simp) ?_
 refine AllReadyH.cons rfl (fun K hK => ?_) AllReadyH.nil
 go_simp
 refine (implIn _ _ _ _).mono ?_
 rintro e w' ⟨rfl, rfl⟩
 rw [H1.out]
 refine hK.out _ _ hS0 (fun hS1 => ?_)
 clear hK K
 (try simp only [Act.put, pu1, pu2, pu3])
 refine tkI 11 42 (v := ?_) rfl rfl ?_ ?_
 rotate_left
 · intro w1 hSw; (try dsimp only at hSw); go_split_ands; go_simp; (try with_reducible rfl)
 (try simp only [Act.put, pu1, pu2, pu3])
 refine tkI 12 43 (v := ?_) rfl rfl ?_ ?_
 rotate_left
 · intro w1 hSw; (try dsimp only at hSw); go_split_ands; go_simp; (try with_reducible rfl)
 (try simp only [Act.put, pu1, pu2, pu3])
 refine tkI 13 44 (v := ?_) rfl rfl ?_ ?_
 rotate_left
 · intro w1 hSw; (try dsimp only at hSw); go_split_ands; go_simp; (try with_reducible rfl)
 (try simp only [Act.put, pu1, pu2, pu3])
 refine tkI 14 45 (v := ?_) rfl rfl ?_ ?_
 rotate_left
 · intro w1 hSw; (try dsimp only at hSw); go_split_ands; go_simp; (try with_reducible rfl)
 (try simp only [Act.put, pu1, pu2, pu3])
 refine tkI 15 46 (v := ?_) rfl rfl ?_ ?_
 rotate_left
 · intro w1 hSw; (try dsimp only at hSw); go_split_ands; go_simp; (try with_reducible rfl)
 (try simp only [Act.put, pu1, pu2, pu3])
 refine tkI 16 47 (v := ?_) rfl rfl ?_ ?_
 rotate_left
 · intro w1 hSw; (try dsimp only at hSw); go_split_ands; go_simp; (try with_reducible rfl)
 (try simp only [Act.put, pu1, pu2, pu3])
 refine tkI 17 48 (v := ?_) rfl rfl ?_ ?_
 rotate_left
 · intro w1 hSw; (try dsimp only at hSw); go_split_ands; go_simp; (try with_reducible rfl)
 (try simp only [Act.put, pu1, pu2, pu3])
 refine tkI 18 49 (v := ?_) rfl rfl ?_ ?_
 rotate_left
 · intro w1 hSw; (try dsimp only at hSw); go_split_ands; go_simp; (try with_reducible rfl)
 (try simp only [Act.put, pu1, pu2, pu3])
 refine tkI 19 50 (v := ?_) rfl rfl ?_ ?_
 rotate_left
 · intro w1 hSw; (try dsimp only at hSw); go_split_ands; go_simp; (try with_reducible rfl)
 (try simp only [Act.put, pu1, pu2, pu3])
 refine tkI 20 51 (v := ?_) rfl rfl ?_ ?_
 rotate_left
 · intro w1 hSw; (try dsimp only at hSw); go_split_ands; go_simp; (try with_reducible rfl)
 (try simp only [Act.put, pu1, pu2, pu3])
 refine wpAnyH_ready (rs := [21]) (by kernel_rfl) (by simp) ?_
 refine AllReadyH.cons rfl (fun K hK => ?_) AllReadyH.nil
 go_simp
 refine (implIn _ _ _ _).mono ?_
 rintro e w' ⟨rfl, rfl⟩
 rw [H2.out]
 refine hK.out _ _ hS0 (fun hS2 => ?_)
 clear hK K
 (try simp only [Act.put, pu1, pu2, pu3])
 refine tkI 22 53 (v := ?_) rfl rfl ?_ ?_
 rotate_left
 · intro w1 hSw; (try dsimp only at hSw); go_split_ands; go_simp; (try with_reducible rfl)
 (try simp only [Act.put, pu1, pu2, pu3])
 refine wpAnyH_ready (rs := [23]) (by kernel_rfl) (by simp) ?_
 refine AllReadyH.cons rfl (fun K hK => ?_) AllReadyH.nil
 go_simp
 refine hK.out _ _ ?st (fun hS3 => ?_)
 case st => exact ⟨by go_simp, by go_simp, by go_simp, by go_simp, by go_simp, by go_simp⟩
 clear hK K
 (try simp only [Act.put, pu1, pu2, pu3])
 refine tkI 24 5 (v := ?_) rfl rfl ?_ ?_
 rotate_left
 · intro w1 hSw; (try dsimp only at hSw); go_split_ands; go_simp; (try with_reducible rfl)
 (try simp only [Act.put, pu1, pu2, pu3])
 refine wpAnyH_done (by kernel_rfl) ?_ _
 have HZ0 := KZ.out
 go_wp2
 go_light
 refine bodyPost_ret (v := .tuple #[.agg #[.pointer (some ⟨p, 0, none⟩), .int .i64 n], .bool true]) (by simp [results, Try.results114, go_sem, z0, z1]) rfl ⟨rfl, ?_⟩
 refine Below.drew ?_
 iterate 2 (refine Below.setCell ?_ (by first | (simp; done) | (simp; omega)) _)
 exact BB.out
end Go.Proofs.Ytameldhdegcpoaa
namespace Go.Proofs.Ytameldhdegcpoaa
open Go.ChangeShapes Go.WideShapes Go.ChangeAt Go.RowKit
set_option linter.unusedVariables false
set_option linter.unusedSimpArgs false
set_option maxRecDepth 100000 in
set_option maxHeartbeats 4000000 in
theorem otherNone {w : World} {p lo : Nat} {A : Option Addr} {a : Nat} {B : Option Addr} {b : Nat} {C : Option Addr} {d : Nat} {E : List Fig} {F L : List Int} (h : Bd w p lo A a B b C d E F L) (hE : OkE E) (k : Nat) (c : Int) (hat : atF c E = none) :
 Calls Try.prog 114 #[.agg #[.pointer (some ⟨p, 0, none⟩), .int .i64 k], .int .i64 c] w fun e w' => e = .returned (.tuple #[.agg #[.pointer none, .int .i64 0], .bool false]) ∧ Below w.heap.size w w' := by
 have BW : Hid (Below w.heap.size w ((w.alloc (.cells #[.pointer (some ⟨p, 0, none⟩), .int .i64 k] 111)).alloc (.cells #[.pointer none, .int .i64 0] 111))) := below_alloc2 w _ _
 have H := Lib.hid (h.below BW.out)
 have KF : Hid (Bkk ((w.alloc (.cells #[.pointer (some ⟨p, 0, none⟩), .int .i64 k] 111)).alloc (.cells #[.pointer none, .int .i64 0] 111)) w.heap.size 111 #[.pointer (some ⟨p, 0, none⟩), .int .i64 k]) := (Bkk.new w).alloc _
 have KZ : Hid (Bkk ((w.alloc (.cells #[.pointer (some ⟨p, 0, none⟩), .int .i64 k] 111)).alloc (.cells #[.pointer none, .int .i64 0] 111)) (w.heap.size + 1) 111 #[.pointer none, .int .i64 0]) := by have := Bkk.new (t := 111) (cs := #[.pointer none, .int .i64 0]) (w.alloc (.cells #[.pointer (some ⟨p, 0, none⟩), .int .i64 k] 111)); simpa [Hid] using this
 have HE := Lib.hid hE
 obtain ⟨m, hm⟩ : ∃ m, ltF c E = m := ⟨_, rfl⟩
 have HL := Lib.hid hm
 have HA := Lib.hid hat
 clear h hE hat hm
 go_enter Try.func114, Try.ntmps114
 go_wp2_with (fail)
 refine (figureOf p A a E c _ HE.out (RdF.of_own H.out.e) H.out.at_.cells.1).mono ?_
 rintro e wa ⟨rfl, hb⟩
 rw [HL.out, HA.out]
 simp only [Option.isSome_some, Option.isSome_none]
 have BB : Hid (Below w.heap.size w (wa.alloc (.cells #[.pointer (some ⟨p, 0, none⟩), .int .i64 m] 111))) := (Below.and BW.out hb).alloc (Below.and BW.out hb).size _
 have KF := Lib.hid ((KF.out.below hb).alloc (.cells #[.pointer (some ⟨p, 0, none⟩), .int .i64 m] 111))
 have KA := Lib.hid (KZ.out.below hb)
 have v0 : wa.cell? ⟨w.heap.size + 1, 0, none⟩ = some (.pointer none) := KA.out.cell 0
 have v1 : wa.cell? ⟨w.heap.size + 1, 1, none⟩ = some (.int .i64 0) := KA.out.cell 1
 have vf := KA.out.frozen
 have KZ := Lib.hid ((KZ.out.below hb).alloc (.cells #[.pointer (some ⟨p, 0, none⟩), .int .i64 m] 111))
 have BA := Lib.hid (Below.and BW.out hb)
 have l1 : w.heap.size + 1 < wa.heap.size := by have := hb.size; simp at this; omega
 have l0 : w.heap.size < wa.heap.size := by omega
 clear hb
 have x1 : (wa.alloc (.cells #[.pointer (some ⟨p, 0, none⟩), .int .i64 m] 111)).cell? ⟨w.heap.size, 1, none⟩ = some (.int .i64 k) := KF.out.cell 1
 have z0 : (wa.alloc (.cells #[.pointer (some ⟨p, 0, none⟩), .int .i64 m] 111)).cell? ⟨w.heap.size + 1, 0, none⟩ = some (.pointer none) := KZ.out.cell 0
 have z1 : (wa.alloc (.cells #[.pointer (some ⟨p, 0, none⟩), .int .i64 m] 111)).cell? ⟨w.heap.size + 1, 1, none⟩ = some (.int .i64 0) := KZ.out.cell 1
 have zf := KZ.out.frozen
 have bb : w.heap.size ≤ wa.heap.size := by omega
 go_wp2
 go_light
 refine bodyPost_ret (v := .tuple #[.agg #[.pointer none, .int .i64 0], .bool false]) (by simp [results, Try.results114, go_sem, z0, z1, v0, v1, l1]) rfl ⟨rfl, ?_⟩
 exact (Below.setCell (Below.setCell BA.out (by first | (simp; done) | omega) _) (by first | (simp; done) | omega) _).alloc (by first | (simp; done) | (simp; omega)) _
set_option maxRecDepth 100000 in
set_option maxHeartbeats 4000000 in
theorem otherSame {w : World} {p lo : Nat} {A : Option Addr} {a : Nat} {B : Option Addr} {b : Nat} {C : Option Addr} {d : Nat} {E : List Fig} {F L : List Int} (h : Bd w p lo A a B b C d E F L) (hE : OkE E) (k : Nat) (c : Int) (n : Nat) (hat : atF c E = some n) (hnk : n = k) :
 Calls Try.prog 114 #[.agg #[.pointer (some ⟨p, 0, none⟩), .int .i64 k], .int .i64 c] w fun e w' => e = .returned (.tuple #[.agg #[.pointer none, .int .i64 0], .bool false]) ∧ Below w.heap.size w w' := by
 have BW : Hid (Below w.heap.size w ((w.alloc (.cells #[.pointer (some ⟨p, 0, none⟩), .int .i64 k] 111)).alloc (.cells #[.pointer none, .int .i64 0] 111))) := below_alloc2 w _ _
 have H := Lib.hid (h.below BW.out)
 have KF : Hid (Bkk ((w.alloc (.cells #[.pointer (some ⟨p, 0, none⟩), .int .i64 k] 111)).alloc (.cells #[.pointer none, .int .i64 0] 111)) w.heap.size 111 #[.pointer (some ⟨p, 0, none⟩), .int .i64 k]) := (Bkk.new w).alloc _
 have KZ : Hid (Bkk ((w.alloc (.cells #[.pointer (some ⟨p, 0, none⟩), .int .i64 k] 111)).alloc (.cells #[.pointer none, .int .i64 0] 111)) (w.heap.size + 1) 111 #[.pointer none, .int .i64 0]) := by have := Bkk.new (t := 111) (cs := #[.pointer none, .int .i64 0]) (w.alloc (.cells #[.pointer (some ⟨p, 0, none⟩), .int .i64 k] 111)); simpa [Hid] using this
 have HE := Lib.hid hE
 obtain ⟨m, hm⟩ : ∃ m, ltF c E = m := ⟨_, rfl⟩
 have HL := Lib.hid hm
 have HA := Lib.hid hat
 have HK : Hid (m = k) := by have := lt_at hE hat; exact (hm.symm.trans this).trans hnk
 clear h hE hat hm hnk
 go_enter Try.func114, Try.ntmps114
 go_wp2_with (fail)
 refine (figureOf p A a E c _ HE.out (RdF.of_own H.out.e) H.out.at_.cells.1).mono ?_
 rintro e wa ⟨rfl, hb⟩
 rw [HL.out, HA.out]
 rw [HK.out]
 simp only [Option.isSome_some, Option.isSome_none]
 have BB : Hid (Below w.heap.size w (wa.alloc (.cells #[.pointer (some ⟨p, 0, none⟩), .int .i64 k] 111))) := (Below.and BW.out hb).alloc (Below.and BW.out hb).size _
 have KF := Lib.hid ((KF.out.below hb).alloc (.cells #[.pointer (some ⟨p, 0, none⟩), .int .i64 k] 111))
 have KA := Lib.hid (KZ.out.below hb)
 have v0 : wa.cell? ⟨w.heap.size + 1, 0, none⟩ = some (.pointer none) := KA.out.cell 0
 have v1 : wa.cell? ⟨w.heap.size + 1, 1, none⟩ = some (.int .i64 0) := KA.out.cell 1
 have vf := KA.out.frozen
 have KZ := Lib.hid ((KZ.out.below hb).alloc (.cells #[.pointer (some ⟨p, 0, none⟩), .int .i64 k] 111))
 have BA := Lib.hid (Below.and BW.out hb)
 have l1 : w.heap.size + 1 < wa.heap.size := by have := hb.size; simp at this; omega
 have l0 : w.heap.size < wa.heap.size := by omega
 clear hb
 have x1 : (wa.alloc (.cells #[.pointer (some ⟨p, 0, none⟩), .int .i64 k] 111)).cell? ⟨w.heap.size, 1, none⟩ = some (.int .i64 k) := KF.out.cell 1
 have z0 : (wa.alloc (.cells #[.pointer (some ⟨p, 0, none⟩), .int .i64 k] 111)).cell? ⟨w.heap.size + 1, 0, none⟩ = some (.pointer none) := KZ.out.cell 0
 have z1 : (wa.alloc (.cells #[.pointer (some ⟨p, 0, none⟩), .int .i64 k] 111)).cell? ⟨w.heap.size + 1, 1, none⟩ = some (.int .i64 0) := KZ.out.cell 1
 have zf := KZ.out.frozen
 have bb : w.heap.size ≤ wa.heap.size := by omega
 have e0 : ((k : Int) == (k : Int)) = true := by simp
 go_wp2
 go_light
 refine bodyPost_ret (v := .tuple #[.agg #[.pointer none, .int .i64 0], .bool false]) (by simp [results, Try.results114, go_sem, z0, z1, v0, v1, l1]) rfl ⟨rfl, ?_⟩
 exact (Below.setCell (Below.setCell BA.out (by first | (simp; done) | omega) _) (by first | (simp; done) | omega) _).alloc (by first | (simp; done) | (simp; omega)) _
end Go.Proofs.Ytameldhdegcpoaa
