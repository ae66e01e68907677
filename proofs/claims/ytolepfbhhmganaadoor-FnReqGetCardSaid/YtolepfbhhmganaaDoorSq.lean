/- A request read from a text: the model's side, one way. -/
import Derived.Test.YtolepfbhhmganaaDoorSo
namespace Go.Proofs.YtolepfbhhmganaaDoor
open Go.ChangeShapes Go.WideShapes Go.ChangeAt Go.RowKit
set_option linter.unusedVariables false
set_option linter.unusedSimpArgs false

set_option maxRecDepth 100000 in
set_option maxHeartbeats 16000000 in
theorem specGet_yes (s a b c x y : ByteArray) (N0 N1 N2 N3 q : Int) (w : World) (hs : s.size ≤ 1048576) (hl : s.data.toList ≠ [110, 111, 110, 101]) (hS : Lib.splitB ⟨#[32]⟩ 0 5 s = [a, b, c, x, y])
    (h0 : numS a.size a = N0) (h1 : numS b.size b = N1) (h2 : numS x.size x = N2) (h3 : numS y.size y = N3) (hq : opT c.data.toList = q) (hr : reqB N0 N1 q N2 N3 = true) (T : List UInt8) (hT : putN N0 N1 q.toNat N2 N3 = T) (heq : T = s.data.toList) :
    Calls Tryd.prog 14 #[.string s] w fun e w' => e = .returned (.tuple #[.agg #[.int .i64 N0, .int .i64 N1, .int .i64 q, .int .i64 N2, .int .i64 N3], .bool true]) ∧ Below w.heap.size w w' := by
  have e1 : (s.toList == [110, 111, 110, 101]) = false := by rw [beq_eq_false_iff_ne, toList_data]; exact hl
  have hsz : ∀ z ∈ [a, b, c, x, y], z.size ≤ 1048577 := fun z hz => by have := pieces_size s 5 s z (by rw [hS]; exact hz); omega
  have H0 : Hid (∀ W, Calls Tryd.prog 31 #[.string a] W fun e w' => e = .returned (.int .i64 N0) ∧ W = w') := fun W => by rw [← h0]; exact l1Num a.size a W (by omega) (hsz a (by simp))
  have H1 : Hid (∀ W, Calls Tryd.prog 31 #[.string b] W fun e w' => e = .returned (.int .i64 N1) ∧ W = w') := fun W => by rw [← h1]; exact l1Num b.size b W (by omega) (hsz b (by simp))
  have H2 : Hid (∀ W, Calls Tryd.prog 31 #[.string x] W fun e w' => e = .returned (.int .i64 N2) ∧ W = w') := fun W => by rw [← h2]; exact l1Num x.size x W (by omega) (hsz x (by simp))
  have H3 : Hid (∀ W, Calls Tryd.prog 31 #[.string y] W fun e w' => e = .returned (.int .i64 N3) ∧ W = w') := fun W => by rw [← h3]; exact l1Num y.size y W (by omega) (hsz y (by simp))
  obtain ⟨q0, q5⟩ : 0 ≤ q ∧ q ≤ 5 := by rw [← hq]; exact opT_bd _
  have HQ := Lib.hid hq
  have HS := Lib.hid hS
  have HR := Lib.hid hr
  obtain ⟨⟨r0, r1⟩, ⟨r2, r3⟩, ⟨r4, r5⟩, ⟨r6, r7⟩, r8, r9⟩ := rq_bd hr
  obtain ⟨kk, hkk⟩ := Int.eq_ofNat_of_zero_le q0
  have HK := Lib.hid hkk
  have kk5 : kk ≤ 5 := by omega
  have HT : Hid (putN N0 N1 kk N2 N3 = T) := by
    show putN N0 N1 kk N2 N3 = T
    rw [← hT, hkk]; rfl
  clear hr hkk hT r4 r5
  have e9 : (T == s.toList) = true := by rw [toList_data, heq]; simp
  have e9' : (T != s.toList) = false := by simp [bne, e9]
  clear heq
  have B0 : Hid (Below w.heap.size w (w.alloc (.cells #[.int .i64 0, .int .i64 0, .int .i64 0, .int .i64 0, .int .i64 0] 25))) := (Below.refl _ _).alloc (Nat.le_refl _) _
  have K0 : Hid (Bkk (w.alloc (.cells #[.int .i64 0, .int .i64 0, .int .i64 0, .int .i64 0, .int .i64 0] 25)) w.heap.size 25 #[.int .i64 0, .int .i64 0, .int .i64 0, .int .i64 0, .int .i64 0]) := Bkk.new w
  clear h0 h1 h2 h3 hq hS hsz hl
  go_enter Tryd.func14, Tryd.ntmps14
  go_wp2_with (fail)
  refine (l1Cut s _ (by omega)).mono ?_
  rintro e w1 ⟨B, d, he, ho, hb⟩
  rw [HS.out] at he ho
  subst he
  have BW := Lib.hid (Below.and B0.out hb)
  have KR := Lib.hid (K0.out.below hb)
  obtain ⟨g, rfl, g0, g1⟩ := own_some ho (by simp)
  have c0 : w1.cell? ⟨g, 0, none⟩ = some (.string a) := (ho.cellAt 0 (by simp)).trans rfl
  have c1 : w1.cell? ⟨g, 1, none⟩ = some (.string b) := (ho.cellAt 1 (by simp)).trans rfl
  have c2 : w1.cell? ⟨g, 2, none⟩ = some (.string c) := (ho.cellAt 2 (by simp)).trans rfl
  have c3 : w1.cell? ⟨g, 3, none⟩ = some (.string x) := (ho.cellAt 3 (by simp)).trans rfl
  have c4 : w1.cell? ⟨g, 4, none⟩ = some (.string y) := (ho.cellAt 4 (by simp)).trans rfl
  have HC := Lib.hid c2
  have gl1 := Lib.hid g1
  have hw1 := Lib.hid KR.out.lt
  clear hb ho B0 K0 g0
  go_wp2_with (fail)
  refine wp_region_held_drew (S := fun w1' => Below w1.heap.size w1 w1') (by kernel_rfl) ((Below.refl _ _).drew) (fun hH => ?_)
  refine takeD 0 16 (v := ?_) rfl rfl (by kernel_rfl) (by kernel_rfl) (by kernel_rfl) (fun _ _ _ h => h) (Or.inl ⟨by rfl, ?_⟩) (by assumption) ?_
  rotate_left
  · intro w1 hSw; obtain ⟨hcS, hfS⟩ := bcell hSw; go_simp; (try with_reducible rfl)
  (try simp only [Act.put, List.setIfInBounds_toArray, List.set_cons_zero, List.set_cons_succ])
  refine takeD 1 17 (v := ?_) rfl rfl (by kernel_rfl) (by kernel_rfl) (by kernel_rfl) (fun _ _ _ h => h) (Or.inl ⟨by rfl, ?_⟩) (by assumption) ?_
  rotate_left
  · intro w1 hSw; obtain ⟨hcS, hfS⟩ := bcell hSw; go_simp; (try with_reducible rfl)
  (try simp only [Act.put, List.setIfInBounds_toArray, List.set_cons_zero, List.set_cons_succ])
  refine takeD 2 18 (v := ?_) rfl rfl (by kernel_rfl) (by kernel_rfl) (by kernel_rfl) (fun _ _ _ h => h) (Or.inl ⟨by rfl, ?_⟩) (by assumption) ?_
  rotate_left
  · intro w1 hSw; obtain ⟨hcS, hfS⟩ := bcell hSw; go_simp; (try with_reducible rfl)
  (try simp only [Act.put, List.setIfInBounds_toArray, List.set_cons_zero, List.set_cons_succ])
  refine takeD 4 20 (v := ?_) rfl rfl (by kernel_rfl) (by kernel_rfl) (by kernel_rfl) (fun _ _ _ h => h) (Or.inl ⟨by rfl, ?_⟩) (by assumption) ?_
  rotate_left
  · intro w1 hSw; obtain ⟨hcS, hfS⟩ := bcell hSw; go_simp; (try with_reducible rfl)
  (try simp only [Act.put, List.setIfInBounds_toArray, List.set_cons_zero, List.set_cons_succ])
  refine takeD 5 21 (v := ?_) rfl rfl (by kernel_rfl) (by kernel_rfl) (by kernel_rfl) (fun _ _ _ h => h) (Or.inl ⟨by rfl, ?_⟩) (by assumption) ?_
  rotate_left
  · intro w1 hSw; obtain ⟨hcS, hfS⟩ := bcell hSw; go_simp; (try with_reducible rfl)
  (try simp only [Act.put, List.setIfInBounds_toArray, List.set_cons_zero, List.set_cons_succ])
  refine takeD 6 22 (v := ?_) rfl rfl (by kernel_rfl) (by kernel_rfl) (by kernel_rfl) (fun _ _ _ h => h) (Or.inl ⟨by rfl, ?_⟩) (by assumption) ?_
  rotate_left
  · intro w1 hSw; obtain ⟨hcS, hfS⟩ := bcell hSw; go_simp; (try with_reducible rfl)
  (try simp only [Act.put, List.setIfInBounds_toArray, List.set_cons_zero, List.set_cons_succ])
  refine takeD 8 24 (v := ?_) rfl rfl (by kernel_rfl) (by kernel_rfl) (by kernel_rfl) (fun _ _ _ h => h) (Or.inl ⟨by rfl, ?_⟩) (by assumption) ?_
  rotate_left
  · intro w1 hSw; obtain ⟨hcS, hfS⟩ := bcell hSw; go_simp; (try with_reducible rfl)
  (try simp only [Act.put, List.setIfInBounds_toArray, List.set_cons_zero, List.set_cons_succ])
  refine takeD 9 25 (v := ?_) rfl rfl (by kernel_rfl) (by kernel_rfl) (by kernel_rfl) (fun _ _ _ h => h) (Or.inl ⟨by rfl, ?_⟩) (by assumption) ?_
  rotate_left
  · intro w1 hSw; obtain ⟨hcS, hfS⟩ := bcell hSw; go_simp; (try with_reducible rfl)
  (try simp only [Act.put, List.setIfInBounds_toArray, List.set_cons_zero, List.set_cons_succ])
  refine takeD 10 26 (v := ?_) rfl rfl (by kernel_rfl) (by kernel_rfl) (by kernel_rfl) (fun _ _ _ h => h) (Or.inl ⟨by rfl, ?_⟩) (by assumption) ?_
  rotate_left
  · intro w1 hSw; obtain ⟨hcS, hfS⟩ := bcell hSw; go_simp; (try with_reducible rfl)
  (try simp only [Act.put, List.setIfInBounds_toArray, List.set_cons_zero, List.set_cons_succ])
  refine takeD 12 28 (v := ?_) rfl rfl (by kernel_rfl) (by kernel_rfl) (by kernel_rfl) (fun _ _ _ h => h) (Or.inl ⟨by rfl, ?_⟩) (by assumption) ?_
  rotate_left
  · intro w1 hSw; obtain ⟨hcS, hfS⟩ := bcell hSw; go_simp; (try with_reducible rfl)
  (try simp only [Act.put, List.setIfInBounds_toArray, List.set_cons_zero, List.set_cons_succ])
  refine takeD 13 29 (v := ?_) rfl rfl (by kernel_rfl) (by kernel_rfl) (by kernel_rfl) (fun _ _ _ h => h) (Or.inl ⟨by rfl, ?_⟩) (by assumption) ?_
  rotate_left
  · intro w1 hSw; obtain ⟨hcS, hfS⟩ := bcell hSw; go_simp; (try with_reducible rfl)
  (try simp only [Act.put, List.setIfInBounds_toArray, List.set_cons_zero, List.set_cons_succ])
  refine takeD 14 30 (v := ?_) rfl rfl (by kernel_rfl) (by kernel_rfl) (by kernel_rfl) (fun _ _ _ h => h) (Or.inl ⟨by rfl, ?_⟩) (by assumption) ?_
  rotate_left
  · intro w1 hSw; obtain ⟨hcS, hfS⟩ := bcell hSw; go_simp; (try with_reducible rfl)
  (try simp only [Act.put, List.setIfInBounds_toArray, List.set_cons_zero, List.set_cons_succ])
  refine wpAnyH_ready (rs := [3, 17]) (by kernel_rfl) (by simp) ?_
  refine AllReadyH.cons rfl (fun K hK => ?_) (AllReadyH.cons rfl (fun K hK => ?_) AllReadyH.nil)
  · go_simp
    refine (H0.out _).mono ?_
    rintro e w' ⟨rfl, rfl⟩
    refine hK.out _ _ hH (fun h0' => ?_)
    clear hK K
    (try simp only [Act.put, List.setIfInBounds_toArray, List.set_cons_zero, List.set_cons_succ])
    refine wpAnyH_ready (rs := [7, 17]) (by kernel_rfl) (by simp) ?_
    refine AllReadyH.cons rfl (fun K hK => ?_) (AllReadyH.cons rfl (fun K hK => ?_) AllReadyH.nil)
    · go_simp
      refine (H1.out _).mono ?_
      rintro e w' ⟨rfl, rfl⟩
      refine hK.out _ _ h0' (fun h1' => ?_)
      clear hK K
      (try simp only [Act.put, List.setIfInBounds_toArray, List.set_cons_zero, List.set_cons_succ])
      refine wpAnyH_ready (rs := [11, 17]) (by kernel_rfl) (by simp) ?_
      refine AllReadyH.cons rfl (fun K hK => ?_) (AllReadyH.cons rfl (fun K hK => ?_) AllReadyH.nil)
      · go_simp
        refine (H2.out _).mono ?_
        rintro e w' ⟨rfl, rfl⟩
        refine hK.out _ _ h1' (fun h2' => ?_)
        clear hK K
        (try simp only [Act.put, List.setIfInBounds_toArray, List.set_cons_zero, List.set_cons_succ])
        refine wpAnyH_ready (rs := [15, 17]) (by kernel_rfl) (by simp) ?_
        refine AllReadyH.cons rfl (fun K hK => ?_) (AllReadyH.cons rfl (fun K hK => ?_) AllReadyH.nil)
        · go_simp
          refine (H3.out _).mono ?_
          rintro e w' ⟨rfl, rfl⟩
          refine hK.out _ _ h2' (fun h3' => ?_)
          clear hK K
          (try simp only [Act.put, List.setIfInBounds_toArray, List.set_cons_zero, List.set_cons_succ])
          refine takeD 16 32 (v := ?_) rfl rfl (by kernel_rfl) (by kernel_rfl) (by kernel_rfl) (fun _ _ _ h => h) (Or.inl ⟨by rfl, ?_⟩) (by assumption) ?_
          rotate_left
          · intro w1 hSw; obtain ⟨hcS, hfS⟩ := bcell hSw; go_simp; (try with_reducible rfl)
          (try simp only [Act.put, List.setIfInBounds_toArray, List.set_cons_zero, List.set_cons_succ])
          refine wpAnyH_ready (rs := [17]) (by kernel_rfl) (by simp) ?_
          refine AllReadyH.cons rfl (fun K hK => ?_) AllReadyH.nil
          go_simp
          refine hK.out _ _ (h3'.alloc h3'.size _) (fun hA => ?_)
          clear hK K
          (try simp only [Act.put, List.setIfInBounds_toArray, List.set_cons_zero, List.set_cons_succ])
          refine wpAnyH_ready (rs := [18]) (by kernel_rfl) (by simp) ?_
          refine AllReadyH.cons rfl (fun K hK => ?_) AllReadyH.nil
          go_simp
          refine hK.out _ _ (h3'.alloc h3'.size _) (fun hZ => ?_)
          clear hK K
          (try simp only [Act.put, List.setIfInBounds_toArray, List.set_cons_zero, List.set_cons_succ])
          refine wpAnyH_done (by kernel_rfl) ?_ _
          clear hA hZ
          have BX : Hid (Below w.heap.size w (w1.alloc (.cells #[.int .i64 N0, .int .i64 N1, .int .i64 0, .int .i64 N2, .int .i64 N3] 25))) := BW.out.alloc BW.out.size _
          have KP : Hid (Bkk (w1.alloc (.cells #[.int .i64 N0, .int .i64 N1, .int .i64 0, .int .i64 N2, .int .i64 N3] 25)) w1.heap.size 25 #[.int .i64 N0, .int .i64 N1, .int .i64 (opAt q 1), .int .i64 N2, .int .i64 N3]) := by rw [opAt_one q q0]; exact Bkk.new w1
          have KR1 : Hid (Bkk (w1.alloc (.cells #[.int .i64 N0, .int .i64 N1, .int .i64 0, .int .i64 N2, .int .i64 N3] 25)) w.heap.size 25 #[.int .i64 0, .int .i64 0, .int .i64 0, .int .i64 0, .int .i64 0]) := KR.out.alloc _
          have HP : Hid ((w1.alloc (.cells #[.int .i64 N0, .int .i64 N1, .int .i64 0, .int .i64 N2, .int .i64 N3] 25)).cell? ⟨g, 2, none⟩ = some (.string c)) := cell_kept ((Below.refl _ _).alloc (Nat.le_refl _) _) HC.out
          go_wp2
          go_loopw [6] (fun i wr => ∃ k : Nat, 1 ≤ k ∧ k ≤ 6 ∧ i = .int .i64 k ∧ Hid (Below w.heap.size w wr) ∧ Hid (Bkk wr w1.heap.size 25 #[.int .i64 N0, .int .i64 N1, .int .i64 (opAt q k), .int .i64 N2, .int .i64 N3]) ∧ Hid (Bkk wr w.heap.size 25 #[.int .i64 0, .int .i64 0, .int .i64 0, .int .i64 0, .int .i64 0]) ∧ Hid (wr.cell? ⟨g, 2, none⟩ = some (.string c))) (fun i _ => 6 - (intOf i).toNat)
          case atStart => exact ⟨1, by omega, by omega, rfl, BX.out.drew, KP.out, KR1.out, HP.out⟩
          case round =>
            clear BX KP KR1 HP
            obtain ⟨k, k1, k6, rfl, hb, KP, KR1, HP⟩ := hrel
            by_cases hlt : k < 6
            · have n0 : (k : Int) < 6 := by omega
              have n1 : (0 : Int) ≤ (k : Int) := by omega
              go_wp2_with (fail)
              refine (l1WordsB _).mono ?_
              rintro e w2 ⟨rfl, _, hbw⟩
              have hb2 := Lib.hid (Below.trans hb.out (hbw.mono hb.out.size))
              have KP := Lib.hid (KP.out.below hbw)
              have KR1 := Lib.hid (KR1.out.below hbw)
              have HP := Lib.hid (cell_kept hbw HP.out)
              clear hbw
              have p2 := HP.out
              have gl : g < w2.heap.size := World.block_lt_of_cell? _ _ p2
              go_wp2_with (fail)
              by_cases hq : opT c.data.toList = (k : Int)
              · have e2 : (wordN k == c.toList) = true := by rw [toList_data, (opT_is (by omega) (by omega)).2 hq]; simp
                have HO := Lib.hid (opAt_hit (HQ.out.symm.trans hq))
                clear hq
                refine wp_region_held_drew (S := fun w1 => Below w2.heap.size w2 w1) (by kernel_rfl) ((Below.refl _ _).drew) (fun hH => ?_)
                refine takeD 1 40 (v := ?_) rfl rfl (by kernel_rfl) (by kernel_rfl) (by kernel_rfl) (fun _ _ _ h => h) (Or.inl ⟨by rfl, ?_⟩) (by assumption) ?_
                rotate_left
                · intro w1 hSw; obtain ⟨hcS, hfS⟩ := bcell hSw; go_simp; (try with_reducible rfl)
                (try simp only [Act.put, List.setIfInBounds_toArray, List.set_cons_zero, List.set_cons_succ])
                refine takeD 4 43 (v := ?_) rfl rfl (by kernel_rfl) (by kernel_rfl) (by kernel_rfl) (fun _ _ _ h => h) (Or.inl ⟨by rfl, ?_⟩) (by assumption) ?_
                rotate_left
                · intro w1 hSw; obtain ⟨hcS, hfS⟩ := bcell hSw; go_simp; (try with_reducible rfl)
                (try simp only [Act.put, List.setIfInBounds_toArray, List.set_cons_zero, List.set_cons_succ])
                refine takeD 5 44 (v := ?_) rfl rfl (by kernel_rfl) (by kernel_rfl) (by kernel_rfl) (fun _ _ _ h => h) (Or.inl ⟨by rfl, ?_⟩) (by assumption) ?_
                rotate_left
                · intro w1 hSw; obtain ⟨hcS, hfS⟩ := bcell hSw; go_simp; (try with_reducible rfl)
                (try simp only [Act.put, List.setIfInBounds_toArray, List.set_cons_zero, List.set_cons_succ])
                refine takeD 6 45 (v := ?_) rfl rfl (by kernel_rfl) (by kernel_rfl) (by kernel_rfl) (fun _ _ _ h => h) (Or.inl ⟨by rfl, ?_⟩) (by assumption) ?_
                rotate_left
                · intro w1 hSw; obtain ⟨hcS, hfS⟩ := bcell hSw; go_simp; (try with_reducible rfl)
                (try simp only [Act.put, List.setIfInBounds_toArray, List.set_cons_zero, List.set_cons_succ])
                refine wpAnyH_ready (rs := [0]) (by kernel_rfl) (by simp) ?_
                refine AllReadyH.cons rfl (fun K hK => ?_) AllReadyH.nil
                go_simp
                refine (l1WordsB _).mono ?_
                rintro e w3 ⟨rfl, hwds, hbw⟩
                have hwd : w3.cell? ⟨w2.heap.size, k, none⟩ = some (bsV (wordN k)) := hwds.out k (by omega)
                refine hK.out _ _ (Below.and hH hbw) (fun hH2 => ?_)
                clear hK K
                (try simp only [Act.put, List.setIfInBounds_toArray, List.set_cons_zero, List.set_cons_succ])
                refine takeD 2 41 (v := ?_) rfl rfl (by kernel_rfl) (by kernel_rfl) (by kernel_rfl) (fun _ _ _ h => h) (Or.inl ⟨by rfl, ?_⟩) (by assumption) ?_
                rotate_left
                · intro w1 hSw; obtain ⟨hcS, hfS⟩ := bcell hSw; go_simp; (try with_reducible rfl)
                (try simp only [Act.put, List.setIfInBounds_toArray, List.set_cons_zero, List.set_cons_succ])
                refine wpAnyH_ready (rs := [3]) (by kernel_rfl) (by simp) ?_
                refine AllReadyH.cons rfl (fun K hK => ?_) AllReadyH.nil
                go_simp
                refine hK.out _ _ hH2 (fun hH3 => ?_)
                clear hK K
                (try simp only [Act.put, List.setIfInBounds_toArray, List.set_cons_zero, List.set_cons_succ])
                refine takeD 7 46 (v := ?_) rfl rfl (by kernel_rfl) (by kernel_rfl) (by kernel_rfl) (fun _ _ _ h => h) (Or.inl ⟨by rfl, ?_⟩) (by assumption) ?_
                rotate_left
                · intro w1 hSw; obtain ⟨hcS, hfS⟩ := bcell hSw; go_simp; (try with_reducible rfl)
                (try simp only [Act.put, List.setIfInBounds_toArray, List.set_cons_zero, List.set_cons_succ])
                refine wpAnyH_done (by kernel_rfl) ?_ _
                have hb3 := Lib.hid (Below.trans hb2.out (hH3.mono hb2.out.size))
                have KP := Lib.hid (KP.out.below hH3)
                have KR1 := Lib.hid (KR1.out.below hH3)
                have HP := Lib.hid (cell_kept hH3 HP.out)
                clear hH hH2 hH3 p2 gl hwd hwds hbw
                have y0 : w3.cell? ⟨w1.heap.size, 0, none⟩ = some (.int .i64 N0) := KP.out.cell 0
                have y1 : w3.cell? ⟨w1.heap.size, 1, none⟩ = some (.int .i64 N1) := KP.out.cell 1
                have y2 : w3.cell? ⟨w1.heap.size, 2, none⟩ = some (.int .i64 (opAt q k)) := KP.out.cell 2
                have y3 : w3.cell? ⟨w1.heap.size, 3, none⟩ = some (.int .i64 N2) := KP.out.cell 3
                have y4 : w3.cell? ⟨w1.heap.size, 4, none⟩ = some (.int .i64 N3) := KP.out.cell 4
                have yf := KP.out.frozen
                have yl := KP.out.lt
                go_wp2
                go_roundw
                case rel =>
                  have KN : Hid (Bkk (World.setCell w3 ⟨w1.heap.size, 2, none⟩ (.int .i64 (k : Int))) w1.heap.size 25 #[.int .i64 N0, .int .i64 N1, .int .i64 (opAt q (k + 1)), .int .i64 N2, .int .i64 N3]) := by rw [HO.out]; exact KP.out.set 2 _
                  exact ⟨k + 1, by omega, by omega, by go_num, hb3.out.setCell (by simpa using BW.out.size) _, KN.out, KR1.out.far (Nat.ne_of_lt hw1.out) 2 _, cell_far HP.out (Nat.ne_of_lt gl1.out) 2 _⟩
                case measure => simp [intOf]; omega
              · have e2 : (wordN k == c.toList) = false := by
                  rw [beq_eq_false_iff_ne, toList_data]; exact fun h => hq ((opT_is (by omega) (by omega)).1 h)
                have HO := Lib.hid (opAt_miss (fun h => hq (HQ.out.trans h)))
                clear hq
                refine wp_region_held_drew (S := fun w1 => Below w2.heap.size w2 w1) (by kernel_rfl) ((Below.refl _ _).drew) (fun hH => ?_)
                refine takeD 1 40 (v := ?_) rfl rfl (by kernel_rfl) (by kernel_rfl) (by kernel_rfl) (fun _ _ _ h => h) (Or.inl ⟨by rfl, ?_⟩) (by assumption) ?_
                rotate_left
                · intro w1 hSw; obtain ⟨hcS, hfS⟩ := bcell hSw; go_simp; (try with_reducible rfl)
                (try simp only [Act.put, List.setIfInBounds_toArray, List.set_cons_zero, List.set_cons_succ])
                refine takeD 4 43 (v := ?_) rfl rfl (by kernel_rfl) (by kernel_rfl) (by kernel_rfl) (fun _ _ _ h => h) (Or.inl ⟨by rfl, ?_⟩) (by assumption) ?_
                rotate_left
                · intro w1 hSw; obtain ⟨hcS, hfS⟩ := bcell hSw; go_simp; (try with_reducible rfl)
                (try simp only [Act.put, List.setIfInBounds_toArray, List.set_cons_zero, List.set_cons_succ])
                refine takeD 5 44 (v := ?_) rfl rfl (by kernel_rfl) (by kernel_rfl) (by kernel_rfl) (fun _ _ _ h => h) (Or.inl ⟨by rfl, ?_⟩) (by assumption) ?_
                rotate_left
                · intro w1 hSw; obtain ⟨hcS, hfS⟩ := bcell hSw; go_simp; (try with_reducible rfl)
                (try simp only [Act.put, List.setIfInBounds_toArray, List.set_cons_zero, List.set_cons_succ])
                refine takeD 6 45 (v := ?_) rfl rfl (by kernel_rfl) (by kernel_rfl) (by kernel_rfl) (fun _ _ _ h => h) (Or.inl ⟨by rfl, ?_⟩) (by assumption) ?_
                rotate_left
                · intro w1 hSw; obtain ⟨hcS, hfS⟩ := bcell hSw; go_simp; (try with_reducible rfl)
                (try simp only [Act.put, List.setIfInBounds_toArray, List.set_cons_zero, List.set_cons_succ])
                refine wpAnyH_ready (rs := [0]) (by kernel_rfl) (by simp) ?_
                refine AllReadyH.cons rfl (fun K hK => ?_) AllReadyH.nil
                go_simp
                refine (l1WordsB _).mono ?_
                rintro e w3 ⟨rfl, hwds, hbw⟩
                have hwd : w3.cell? ⟨w2.heap.size, k, none⟩ = some (bsV (wordN k)) := hwds.out k (by omega)
                refine hK.out _ _ (Below.and hH hbw) (fun hH2 => ?_)
                clear hK K
                (try simp only [Act.put, List.setIfInBounds_toArray, List.set_cons_zero, List.set_cons_succ])
                refine takeD 2 41 (v := ?_) rfl rfl (by kernel_rfl) (by kernel_rfl) (by kernel_rfl) (fun _ _ _ h => h) (Or.inl ⟨by rfl, ?_⟩) (by assumption) ?_
                rotate_left
                · intro w1 hSw; obtain ⟨hcS, hfS⟩ := bcell hSw; go_simp; (try with_reducible rfl)
                (try simp only [Act.put, List.setIfInBounds_toArray, List.set_cons_zero, List.set_cons_succ])
                refine wpAnyH_ready (rs := [3]) (by kernel_rfl) (by simp) ?_
                refine AllReadyH.cons rfl (fun K hK => ?_) AllReadyH.nil
                go_simp
                refine hK.out _ _ hH2 (fun hH3 => ?_)
                clear hK K
                (try simp only [Act.put, List.setIfInBounds_toArray, List.set_cons_zero, List.set_cons_succ])
                refine takeD 7 46 (v := ?_) rfl rfl (by kernel_rfl) (by kernel_rfl) (by kernel_rfl) (fun _ _ _ h => h) (Or.inl ⟨by rfl, ?_⟩) (by assumption) ?_
                rotate_left
                · intro w1 hSw; obtain ⟨hcS, hfS⟩ := bcell hSw; go_simp; (try with_reducible rfl)
                (try simp only [Act.put, List.setIfInBounds_toArray, List.set_cons_zero, List.set_cons_succ])
                refine wpAnyH_done (by kernel_rfl) ?_ _
                have hb3 := Lib.hid (Below.trans hb2.out (hH3.mono hb2.out.size))
                have KP := Lib.hid (KP.out.below hH3)
                have KR1 := Lib.hid (KR1.out.below hH3)
                have HP := Lib.hid (cell_kept hH3 HP.out)
                clear hH hH2 hH3 p2 gl hwd hwds hbw
                go_wp2
                go_roundw
                case rel => exact ⟨k + 1, by omega, by omega, by go_num, hb3.out, (by rw [HO.out]; exact KP.out), KR1.out, HP.out⟩
                case measure => simp [intOf]; omega
            · obtain rfl : k = 6 := by omega
              have n0 : ¬ ((6 : Nat) : Int) < 6 := by omega
              go_wp2_with (fail)
              refine (l1WordsB _).mono ?_
              rintro e w2 ⟨rfl, _, hbw⟩
              have hb2 := Lib.hid (Below.trans hb.out (hbw.mono hb.out.size))
              have KP : Hid (Bkk w2 w1.heap.size 25 #[.int .i64 N0, .int .i64 N1, .int .i64 q, .int .i64 N2, .int .i64 N3]) := by have := KP.out.below hbw; rw [opAt_six q q5] at this; exact this
              have KR1 := Lib.hid (KR1.out.below hbw)
              clear hbw
              have y0 : w2.cell? ⟨w1.heap.size, 0, none⟩ = some (.int .i64 N0) := KP.out.cell 0
              have y1 : w2.cell? ⟨w1.heap.size, 1, none⟩ = some (.int .i64 N1) := KP.out.cell 1
              have y2 : w2.cell? ⟨w1.heap.size, 2, none⟩ = some (.int .i64 q) := KP.out.cell 2
              have y3 : w2.cell? ⟨w1.heap.size, 3, none⟩ = some (.int .i64 N2) := KP.out.cell 3
              have y4 : w2.cell? ⟨w1.heap.size, 4, none⟩ = some (.int .i64 N3) := KP.out.cell 4
              go_wp2_with (fail)
              refine (l1Ok N0 N1 q N2 N3 _).mono ?_
              rintro e w6 ⟨rfl, hb6⟩
              rw [HR.out]
              have BX := Lib.hid (Below.and hb2.out hb6)
              have KP := Lib.hid (KP.out.below hb6)
              have KR1 := Lib.hid (KR1.out.below hb6)
              clear hb6 y0 y1 y2 y3 y4
              have y0 : w6.cell? ⟨w1.heap.size, 0, none⟩ = some (.int .i64 N0) := KP.out.cell 0
              have y1 : w6.cell? ⟨w1.heap.size, 1, none⟩ = some (.int .i64 N1) := KP.out.cell 1
              have y2 : w6.cell? ⟨w1.heap.size, 2, none⟩ = some (.int .i64 q) := KP.out.cell 2
              have y3 : w6.cell? ⟨w1.heap.size, 3, none⟩ = some (.int .i64 N2) := KP.out.cell 3
              have y4 : w6.cell? ⟨w1.heap.size, 4, none⟩ = some (.int .i64 N3) := KP.out.cell 4
              go_wp2_with (fail)
              rw [HK.out]
              refine (l1Put N0 N1 kk N2 N3 _ kk5 (by omega) (by omega) (by omega) (by omega) (by omega) (by omega) (by omega) (by omega)).mono ?_
              rintro e w7 ⟨rfl, hb7⟩
              rw [HT.out]
              have BX := Lib.hid (Below.and BX.out hb7)
              have KP := Lib.hid (KP.out.below hb7)
              have KR1 := Lib.hid (KR1.out.below hb7)
              clear hb7 y0 y1 y2 y3 y4
              have y0 : w7.cell? ⟨w1.heap.size, 0, none⟩ = some (.int .i64 N0) := KP.out.cell 0
              have y1 : w7.cell? ⟨w1.heap.size, 1, none⟩ = some (.int .i64 N1) := KP.out.cell 1
              have y2 : w7.cell? ⟨w1.heap.size, 2, none⟩ = some (.int .i64 q) := KP.out.cell 2
              have y3 : w7.cell? ⟨w1.heap.size, 3, none⟩ = some (.int .i64 N2) := KP.out.cell 3
              have y4 : w7.cell? ⟨w1.heap.size, 4, none⟩ = some (.int .i64 N3) := KP.out.cell 4
              have z0 : w7.cell? ⟨w.heap.size, 0, none⟩ = some (.int .i64 0) := KR1.out.cell 0
              have z1 : w7.cell? ⟨w.heap.size, 1, none⟩ = some (.int .i64 0) := KR1.out.cell 1
              have z2 : w7.cell? ⟨w.heap.size, 2, none⟩ = some (.int .i64 0) := KR1.out.cell 2
              have z3 : w7.cell? ⟨w.heap.size, 3, none⟩ = some (.int .i64 0) := KR1.out.cell 3
              have z4 : w7.cell? ⟨w.heap.size, 4, none⟩ = some (.int .i64 0) := KR1.out.cell 4
              have zf := KR1.out.frozen
              have zl := KR1.out.lt
              have zb : w.heap.size ≤ w7.heap.size := BX.out.size
              go_wp2
              refine bodyPost_ret (v := .tuple #[.agg #[.int .i64 N0, .int .i64 N1, .int .i64 q, .int .i64 N2, .int .i64 N3], .bool true]) (by simp [results, Tryd.results14, go_sem, z0, z1, z2, z3, z4]) rfl ⟨rfl, ?_⟩
              iterate 5 (refine Below.setCell ?_ (by first | (simp; done) | (simp; omega)) _)
              exact BX.out
        · go_simp
          refine hK.out _ _ (h2'.alloc h2'.size _) (fun hA => ?_)
          clear hK K
          (try simp only [Act.put, List.setIfInBounds_toArray, List.set_cons_zero, List.set_cons_succ])
          refine wpAnyH_ready (rs := [15]) (by kernel_rfl) (by simp) ?_
          refine AllReadyH.cons rfl (fun K hK => ?_) AllReadyH.nil
          go_simp
          refine (H3.out _).mono ?_
          rintro e w' ⟨rfl, rfl⟩
          refine hK.out _ _ hA (fun hA' => ?_)
          clear hA
          have hA := hA'
          clear hA'
          clear hK K
          (try simp only [Act.put, List.setIfInBounds_toArray, List.set_cons_zero, List.set_cons_succ])
          refine takeD 16 32 (v := ?_) rfl rfl (by kernel_rfl) (by kernel_rfl) (by kernel_rfl) (fun _ _ _ h => h) (Or.inl ⟨by rfl, ?_⟩) (by assumption) ?_
          rotate_left
          · intro w1 hSw; obtain ⟨hcS, hfS⟩ := bcell hSw; go_simp; (try with_reducible rfl)
          (try simp only [Act.put, List.setIfInBounds_toArray, List.set_cons_zero, List.set_cons_succ])
          refine wpAnyH_ready (rs := [18]) (by kernel_rfl) (by simp) ?_
          refine AllReadyH.cons rfl (fun K hK => ?_) AllReadyH.nil
          go_simp
          refine hK.out _ _ (h2'.alloc h2'.size _) (fun hZ => ?_)
          clear hK K
          (try simp only [Act.put, List.setIfInBounds_toArray, List.set_cons_zero, List.set_cons_succ])
          refine wpAnyH_done (by kernel_rfl) ?_ _
          clear hA hZ
          have BX : Hid (Below w.heap.size w (w1.alloc (.cells #[.int .i64 N0, .int .i64 N1, .int .i64 0, .int .i64 N2, .int .i64 N3] 25))) := BW.out.alloc BW.out.size _
          have KP : Hid (Bkk (w1.alloc (.cells #[.int .i64 N0, .int .i64 N1, .int .i64 0, .int .i64 N2, .int .i64 N3] 25)) w1.heap.size 25 #[.int .i64 N0, .int .i64 N1, .int .i64 (opAt q 1), .int .i64 N2, .int .i64 N3]) := by rw [opAt_one q q0]; exact Bkk.new w1
          have KR1 : Hid (Bkk (w1.alloc (.cells #[.int .i64 N0, .int .i64 N1, .int .i64 0, .int .i64 N2, .int .i64 N3] 25)) w.heap.size 25 #[.int .i64 0, .int .i64 0, .int .i64 0, .int .i64 0, .int .i64 0]) := KR.out.alloc _
          have HP : Hid ((w1.alloc (.cells #[.int .i64 N0, .int .i64 N1, .int .i64 0, .int .i64 N2, .int .i64 N3] 25)).cell? ⟨g, 2, none⟩ = some (.string c)) := cell_kept ((Below.refl _ _).alloc (Nat.le_refl _) _) HC.out
          go_wp2
          go_loopw [6] (fun i wr => ∃ k : Nat, 1 ≤ k ∧ k ≤ 6 ∧ i = .int .i64 k ∧ Hid (Below w.heap.size w wr) ∧ Hid (Bkk wr w1.heap.size 25 #[.int .i64 N0, .int .i64 N1, .int .i64 (opAt q k), .int .i64 N2, .int .i64 N3]) ∧ Hid (Bkk wr w.heap.size 25 #[.int .i64 0, .int .i64 0, .int .i64 0, .int .i64 0, .int .i64 0]) ∧ Hid (wr.cell? ⟨g, 2, none⟩ = some (.string c))) (fun i _ => 6 - (intOf i).toNat)
          case atStart => exact ⟨1, by omega, by omega, rfl, BX.out.drew, KP.out, KR1.out, HP.out⟩
          case round =>
            clear BX KP KR1 HP
            obtain ⟨k, k1, k6, rfl, hb, KP, KR1, HP⟩ := hrel
            by_cases hlt : k < 6
            · have n0 : (k : Int) < 6 := by omega
              have n1 : (0 : Int) ≤ (k : Int) := by omega
              go_wp2_with (fail)
              refine (l1WordsB _).mono ?_
              rintro e w2 ⟨rfl, _, hbw⟩
              have hb2 := Lib.hid (Below.trans hb.out (hbw.mono hb.out.size))
              have KP := Lib.hid (KP.out.below hbw)
              have KR1 := Lib.hid (KR1.out.below hbw)
              have HP := Lib.hid (cell_kept hbw HP.out)
              clear hbw
              have p2 := HP.out
              have gl : g < w2.heap.size := World.block_lt_of_cell? _ _ p2
              go_wp2_with (fail)
              by_cases hq : opT c.data.toList = (k : Int)
              · have e2 : (wordN k == c.toList) = true := by rw [toList_data, (opT_is (by omega) (by omega)).2 hq]; simp
                have HO := Lib.hid (opAt_hit (HQ.out.symm.trans hq))
                clear hq
                refine wp_region_held_drew (S := fun w1 => Below w2.heap.size w2 w1) (by kernel_rfl) ((Below.refl _ _).drew) (fun hH => ?_)
                refine takeD 1 40 (v := ?_) rfl rfl (by kernel_rfl) (by kernel_rfl) (by kernel_rfl) (fun _ _ _ h => h) (Or.inl ⟨by rfl, ?_⟩) (by assumption) ?_
                rotate_left
                · intro w1 hSw; obtain ⟨hcS, hfS⟩ := bcell hSw; go_simp; (try with_reducible rfl)
                (try simp only [Act.put, List.setIfInBounds_toArray, List.set_cons_zero, List.set_cons_succ])
                refine takeD 4 43 (v := ?_) rfl rfl (by kernel_rfl) (by kernel_rfl) (by kernel_rfl) (fun _ _ _ h => h) (Or.inl ⟨by rfl, ?_⟩) (by assumption) ?_
                rotate_left
                · intro w1 hSw; obtain ⟨hcS, hfS⟩ := bcell hSw; go_simp; (try with_reducible rfl)
                (try simp only [Act.put, List.setIfInBounds_toArray, List.set_cons_zero, List.set_cons_succ])
                refine takeD 5 44 (v := ?_) rfl rfl (by kernel_rfl) (by kernel_rfl) (by kernel_rfl) (fun _ _ _ h => h) (Or.inl ⟨by rfl, ?_⟩) (by assumption) ?_
                rotate_left
                · intro w1 hSw; obtain ⟨hcS, hfS⟩ := bcell hSw; go_simp; (try with_reducible rfl)
                (try simp only [Act.put, List.setIfInBounds_toArray, List.set_cons_zero, List.set_cons_succ])
                refine takeD 6 45 (v := ?_) rfl rfl (by kernel_rfl) (by kernel_rfl) (by kernel_rfl) (fun _ _ _ h => h) (Or.inl ⟨by rfl, ?_⟩) (by assumption) ?_
                rotate_left
                · intro w1 hSw; obtain ⟨hcS, hfS⟩ := bcell hSw; go_simp; (try with_reducible rfl)
                (try simp only [Act.put, List.setIfInBounds_toArray, List.set_cons_zero, List.set_cons_succ])
                refine wpAnyH_ready (rs := [0]) (by kernel_rfl) (by simp) ?_
                refine AllReadyH.cons rfl (fun K hK => ?_) AllReadyH.nil
                go_simp
                refine (l1WordsB _).mono ?_
                rintro e w3 ⟨rfl, hwds, hbw⟩
                have hwd : w3.cell? ⟨w2.heap.size, k, none⟩ = some (bsV (wordN k)) := hwds.out k (by omega)
                refine hK.out _ _ (Below.and hH hbw) (fun hH2 => ?_)
                clear hK K
                (try simp only [Act.put, List.setIfInBounds_toArray, List.set_cons_zero, List.set_cons_succ])
                refine takeD 2 41 (v := ?_) rfl rfl (by kernel_rfl) (by kernel_rfl) (by kernel_rfl) (fun _ _ _ h => h) (Or.inl ⟨by rfl, ?_⟩) (by assumption) ?_
                rotate_left
                · intro w1 hSw; obtain ⟨hcS, hfS⟩ := bcell hSw; go_simp; (try with_reducible rfl)
                (try simp only [Act.put, List.setIfInBounds_toArray, List.set_cons_zero, List.set_cons_succ])
                refine wpAnyH_ready (rs := [3]) (by kernel_rfl) (by simp) ?_
                refine AllReadyH.cons rfl (fun K hK => ?_) AllReadyH.nil
                go_simp
                refine hK.out _ _ hH2 (fun hH3 => ?_)
                clear hK K
                (try simp only [Act.put, List.setIfInBounds_toArray, List.set_cons_zero, List.set_cons_succ])
                refine takeD 7 46 (v := ?_) rfl rfl (by kernel_rfl) (by kernel_rfl) (by kernel_rfl) (fun _ _ _ h => h) (Or.inl ⟨by rfl, ?_⟩) (by assumption) ?_
                rotate_left
                · intro w1 hSw; obtain ⟨hcS, hfS⟩ := bcell hSw; go_simp; (try with_reducible rfl)
                (try simp only [Act.put, List.setIfInBounds_toArray, List.set_cons_zero, List.set_cons_succ])
                refine wpAnyH_done (by kernel_rfl) ?_ _
                have hb3 := Lib.hid (Below.trans hb2.out (hH3.mono hb2.out.size))
                have KP := Lib.hid (KP.out.below hH3)
                have KR1 := Lib.hid (KR1.out.below hH3)
                have HP := Lib.hid (cell_kept hH3 HP.out)
                clear hH hH2 hH3 p2 gl hwd hwds hbw
                have y0 : w3.cell? ⟨w1.heap.size, 0, none⟩ = some (.int .i64 N0) := KP.out.cell 0
                have y1 : w3.cell? ⟨w1.heap.size, 1, none⟩ = some (.int .i64 N1) := KP.out.cell 1
                have y2 : w3.cell? ⟨w1.heap.size, 2, none⟩ = some (.int .i64 (opAt q k)) := KP.out.cell 2
                have y3 : w3.cell? ⟨w1.heap.size, 3, none⟩ = some (.int .i64 N2) := KP.out.cell 3
                have y4 : w3.cell? ⟨w1.heap.size, 4, none⟩ = some (.int .i64 N3) := KP.out.cell 4
                have yf := KP.out.frozen
                have yl := KP.out.lt
                go_wp2
                go_roundw
                case rel =>
                  have KN : Hid (Bkk (World.setCell w3 ⟨w1.heap.size, 2, none⟩ (.int .i64 (k : Int))) w1.heap.size 25 #[.int .i64 N0, .int .i64 N1, .int .i64 (opAt q (k + 1)), .int .i64 N2, .int .i64 N3]) := by rw [HO.out]; exact KP.out.set 2 _
                  exact ⟨k + 1, by omega, by omega, by go_num, hb3.out.setCell (by simpa using BW.out.size) _, KN.out, KR1.out.far (Nat.ne_of_lt hw1.out) 2 _, cell_far HP.out (Nat.ne_of_lt gl1.out) 2 _⟩
                case measure => simp [intOf]; omega
              · have e2 : (wordN k == c.toList) = false := by
                  rw [beq_eq_false_iff_ne, toList_data]; exact fun h => hq ((opT_is (by omega) (by omega)).1 h)
                have HO := Lib.hid (opAt_miss (fun h => hq (HQ.out.trans h)))
                clear hq
                refine wp_region_held_drew (S := fun w1 => Below w2.heap.size w2 w1) (by kernel_rfl) ((Below.refl _ _).drew) (fun hH => ?_)
                refine takeD 1 40 (v := ?_) rfl rfl (by kernel_rfl) (by kernel_rfl) (by kernel_rfl) (fun _ _ _ h => h) (Or.inl ⟨by rfl, ?_⟩) (by assumption) ?_
                rotate_left
                · intro w1 hSw; obtain ⟨hcS, hfS⟩ := bcell hSw; go_simp; (try with_reducible rfl)
                (try simp only [Act.put, List.setIfInBounds_toArray, List.set_cons_zero, List.set_cons_succ])
                refine takeD 4 43 (v := ?_) rfl rfl (by kernel_rfl) (by kernel_rfl) (by kernel_rfl) (fun _ _ _ h => h) (Or.inl ⟨by rfl, ?_⟩) (by assumption) ?_
                rotate_left
                · intro w1 hSw; obtain ⟨hcS, hfS⟩ := bcell hSw; go_simp; (try with_reducible rfl)
                (try simp only [Act.put, List.setIfInBounds_toArray, List.set_cons_zero, List.set_cons_succ])
                refine takeD 5 44 (v := ?_) rfl rfl (by kernel_rfl) (by kernel_rfl) (by kernel_rfl) (fun _ _ _ h => h) (Or.inl ⟨by rfl, ?_⟩) (by assumption) ?_
                rotate_left
                · intro w1 hSw; obtain ⟨hcS, hfS⟩ := bcell hSw; go_simp; (try with_reducible rfl)
                (try simp only [Act.put, List.setIfInBounds_toArray, List.set_cons_zero, List.set_cons_succ])
                refine takeD 6 45 (v := ?_) rfl rfl (by kernel_rfl) (by kernel_rfl) (by kernel_rfl) (fun _ _ _ h => h) (Or.inl ⟨by rfl, ?_⟩) (by assumption) ?_
                rotate_left
                · intro w1 hSw; obtain ⟨hcS, hfS⟩ := bcell hSw; go_simp; (try with_reducible rfl)
                (try simp only [Act.put, List.setIfInBounds_toArray, List.set_cons_zero, List.set_cons_succ])
                refine wpAnyH_ready (rs := [0]) (by kernel_rfl) (by simp) ?_
                refine AllReadyH.cons rfl (fun K hK => ?_) AllReadyH.nil
                go_simp
                refine (l1WordsB _).mono ?_
                rintro e w3 ⟨rfl, hwds, hbw⟩
                have hwd : w3.cell? ⟨w2.heap.size, k, none⟩ = some (bsV (wordN k)) := hwds.out k (by omega)
                refine hK.out _ _ (Below.and hH hbw) (fun hH2 => ?_)
                clear hK K
                (try simp only [Act.put, List.setIfInBounds_toArray, List.set_cons_zero, List.set_cons_succ])
                refine takeD 2 41 (v := ?_) rfl rfl (by kernel_rfl) (by kernel_rfl) (by kernel_rfl) (fun _ _ _ h => h) (Or.inl ⟨by rfl, ?_⟩) (by assumption) ?_
                rotate_left
                · intro w1 hSw; obtain ⟨hcS, hfS⟩ := bcell hSw; go_simp; (try with_reducible rfl)
                (try simp only [Act.put, List.setIfInBounds_toArray, List.set_cons_zero, List.set_cons_succ])
                refine wpAnyH_ready (rs := [3]) (by kernel_rfl) (by simp) ?_
                refine AllReadyH.cons rfl (fun K hK => ?_) AllReadyH.nil
                go_simp
                refine hK.out _ _ hH2 (fun hH3 => ?_)
                clear hK K
                (try simp only [Act.put, List.setIfInBounds_toArray, List.set_cons_zero, List.set_cons_succ])
                refine takeD 7 46 (v := ?_) rfl rfl (by kernel_rfl) (by kernel_rfl) (by kernel_rfl) (fun _ _ _ h => h) (Or.inl ⟨by rfl, ?_⟩) (by assumption) ?_
                rotate_left
                · intro w1 hSw; obtain ⟨hcS, hfS⟩ := bcell hSw; go_simp; (try with_reducible rfl)
                (try simp only [Act.put, List.setIfInBounds_toArray, List.set_cons_zero, List.set_cons_succ])
                refine wpAnyH_done (by kernel_rfl) ?_ _
                have hb3 := Lib.hid (Below.trans hb2.out (hH3.mono hb2.out.size))
                have KP := Lib.hid (KP.out.below hH3)
                have KR1 := Lib.hid (KR1.out.below hH3)
                have HP := Lib.hid (cell_kept hH3 HP.out)
                clear hH hH2 hH3 p2 gl hwd hwds hbw
                go_wp2
                go_roundw
                case rel => exact ⟨k + 1, by omega, by omega, by go_num, hb3.out, (by rw [HO.out]; exact KP.out), KR1.out, HP.out⟩
                case measure => simp [intOf]; omega
            · obtain rfl : k = 6 := by omega
              have n0 : ¬ ((6 : Nat) : Int) < 6 := by omega
              go_wp2_with (fail)
              refine (l1WordsB _).mono ?_
              rintro e w2 ⟨rfl, _, hbw⟩
              have hb2 := Lib.hid (Below.trans hb.out (hbw.mono hb.out.size))
              have KP : Hid (Bkk w2 w1.heap.size 25 #[.int .i64 N0, .int .i64 N1, .int .i64 q, .int .i64 N2, .int .i64 N3]) := by have := KP.out.below hbw; rw [opAt_six q q5] at this; exact this
              have KR1 := Lib.hid (KR1.out.below hbw)
              clear hbw
              have y0 : w2.cell? ⟨w1.heap.size, 0, none⟩ = some (.int .i64 N0) := KP.out.cell 0
              have y1 : w2.cell? ⟨w1.heap.size, 1, none⟩ = some (.int .i64 N1) := KP.out.cell 1
              have y2 : w2.cell? ⟨w1.heap.size, 2, none⟩ = some (.int .i64 q) := KP.out.cell 2
              have y3 : w2.cell? ⟨w1.heap.size, 3, none⟩ = some (.int .i64 N2) := KP.out.cell 3
              have y4 : w2.cell? ⟨w1.heap.size, 4, none⟩ = some (.int .i64 N3) := KP.out.cell 4
              go_wp2_with (fail)
              refine (l1Ok N0 N1 q N2 N3 _).mono ?_
              rintro e w6 ⟨rfl, hb6⟩
              rw [HR.out]
              have BX := Lib.hid (Below.and hb2.out hb6)
              have KP := Lib.hid (KP.out.below hb6)
              have KR1 := Lib.hid (KR1.out.below hb6)
              clear hb6 y0 y1 y2 y3 y4
              have y0 : w6.cell? ⟨w1.heap.size, 0, none⟩ = some (.int .i64 N0) := KP.out.cell 0
              have y1 : w6.cell? ⟨w1.heap.size, 1, none⟩ = some (.int .i64 N1) := KP.out.cell 1
              have y2 : w6.cell? ⟨w1.heap.size, 2, none⟩ = some (.int .i64 q) := KP.out.cell 2
              have y3 : w6.cell? ⟨w1.heap.size, 3, none⟩ = some (.int .i64 N2) := KP.out.cell 3
              have y4 : w6.cell? ⟨w1.heap.size, 4, none⟩ = some (.int .i64 N3) := KP.out.cell 4
              go_wp2_with (fail)
              rw [HK.out]
              refine (l1Put N0 N1 kk N2 N3 _ kk5 (by omega) (by omega) (by omega) (by omega) (by omega) (by omega) (by omega) (by omega)).mono ?_
              rintro e w7 ⟨rfl, hb7⟩
              rw [HT.out]
              have BX := Lib.hid (Below.and BX.out hb7)
              have KP := Lib.hid (KP.out.below hb7)
              have KR1 := Lib.hid (KR1.out.below hb7)
              clear hb7 y0 y1 y2 y3 y4
              have y0 : w7.cell? ⟨w1.heap.size, 0, none⟩ = some (.int .i64 N0) := KP.out.cell 0
              have y1 : w7.cell? ⟨w1.heap.size, 1, none⟩ = some (.int .i64 N1) := KP.out.cell 1
              have y2 : w7.cell? ⟨w1.heap.size, 2, none⟩ = some (.int .i64 q) := KP.out.cell 2
              have y3 : w7.cell? ⟨w1.heap.size, 3, none⟩ = some (.int .i64 N2) := KP.out.cell 3
              have y4 : w7.cell? ⟨w1.heap.size, 4, none⟩ = some (.int .i64 N3) := KP.out.cell 4
              have z0 : w7.cell? ⟨w.heap.size, 0, none⟩ = some (.int .i64 0) := KR1.out.cell 0
              have z1 : w7.cell? ⟨w.heap.size, 1, none⟩ = some (.int .i64 0) := KR1.out.cell 1
              have z2 : w7.cell? ⟨w.heap.size, 2, none⟩ = some (.int .i64 0) := KR1.out.cell 2
              have z3 : w7.cell? ⟨w.heap.size, 3, none⟩ = some (.int .i64 0) := KR1.out.cell 3
              have z4 : w7.cell? ⟨w.heap.size, 4, none⟩ = some (.int .i64 0) := KR1.out.cell 4
              have zf := KR1.out.frozen
              have zl := KR1.out.lt
              have zb : w.heap.size ≤ w7.heap.size := BX.out.size
              go_wp2
              refine bodyPost_ret (v := .tuple #[.agg #[.int .i64 N0, .int .i64 N1, .int .i64 q, .int .i64 N2, .int .i64 N3], .bool true]) (by simp [results, Tryd.results14, go_sem, z0, z1, z2, z3, z4]) rfl ⟨rfl, ?_⟩
              iterate 5 (refine Below.setCell ?_ (by first | (simp; done) | (simp; omega)) _)
              exact BX.out
      · go_simp
        refine hK.out _ _ (h1'.alloc h1'.size _) (fun hA => ?_)
        clear hK K
        (try simp only [Act.put, List.setIfInBounds_toArray, List.set_cons_zero, List.set_cons_succ])
        refine wpAnyH_ready (rs := [11]) (by kernel_rfl) (by simp) ?_
        refine AllReadyH.cons rfl (fun K hK => ?_) AllReadyH.nil
        go_simp
        refine (H2.out _).mono ?_
        rintro e w' ⟨rfl, rfl⟩
        refine hK.out _ _ hA (fun hA' => ?_)
        clear hA
        have hA := hA'
        clear hA'
        clear hK K
        (try simp only [Act.put, List.setIfInBounds_toArray, List.set_cons_zero, List.set_cons_succ])
        refine wpAnyH_ready (rs := [15]) (by kernel_rfl) (by simp) ?_
        refine AllReadyH.cons rfl (fun K hK => ?_) AllReadyH.nil
        go_simp
        refine (H3.out _).mono ?_
        rintro e w' ⟨rfl, rfl⟩
        refine hK.out _ _ hA (fun hA' => ?_)
        clear hA
        have hA := hA'
        clear hA'
        clear hK K
        (try simp only [Act.put, List.setIfInBounds_toArray, List.set_cons_zero, List.set_cons_succ])
        refine takeD 16 32 (v := ?_) rfl rfl (by kernel_rfl) (by kernel_rfl) (by kernel_rfl) (fun _ _ _ h => h) (Or.inl ⟨by rfl, ?_⟩) (by assumption) ?_
        rotate_left
        · intro w1 hSw; obtain ⟨hcS, hfS⟩ := bcell hSw; go_simp; (try with_reducible rfl)
        (try simp only [Act.put, List.setIfInBounds_toArray, List.set_cons_zero, List.set_cons_succ])
        refine wpAnyH_ready (rs := [18]) (by kernel_rfl) (by simp) ?_
        refine AllReadyH.cons rfl (fun K hK => ?_) AllReadyH.nil
        go_simp
        refine hK.out _ _ (h1'.alloc h1'.size _) (fun hZ => ?_)
        clear hK K
        (try simp only [Act.put, List.setIfInBounds_toArray, List.set_cons_zero, List.set_cons_succ])
        refine wpAnyH_done (by kernel_rfl) ?_ _
        clear hA hZ
        have BX : Hid (Below w.heap.size w (w1.alloc (.cells #[.int .i64 N0, .int .i64 N1, .int .i64 0, .int .i64 N2, .int .i64 N3] 25))) := BW.out.alloc BW.out.size _
        have KP : Hid (Bkk (w1.alloc (.cells #[.int .i64 N0, .int .i64 N1, .int .i64 0, .int .i64 N2, .int .i64 N3] 25)) w1.heap.size 25 #[.int .i64 N0, .int .i64 N1, .int .i64 (opAt q 1), .int .i64 N2, .int .i64 N3]) := by rw [opAt_one q q0]; exact Bkk.new w1
        have KR1 : Hid (Bkk (w1.alloc (.cells #[.int .i64 N0, .int .i64 N1, .int .i64 0, .int .i64 N2, .int .i64 N3] 25)) w.heap.size 25 #[.int .i64 0, .int .i64 0, .int .i64 0, .int .i64 0, .int .i64 0]) := KR.out.alloc _
        have HP : Hid ((w1.alloc (.cells #[.int .i64 N0, .int .i64 N1, .int .i64 0, .int .i64 N2, .int .i64 N3] 25)).cell? ⟨g, 2, none⟩ = some (.string c)) := cell_kept ((Below.refl _ _).alloc (Nat.le_refl _) _) HC.out
        go_wp2
        go_loopw [6] (fun i wr => ∃ k : Nat, 1 ≤ k ∧ k ≤ 6 ∧ i = .int .i64 k ∧ Hid (Below w.heap.size w wr) ∧ Hid (Bkk wr w1.heap.size 25 #[.int .i64 N0, .int .i64 N1, .int .i64 (opAt q k), .int .i64 N2, .int .i64 N3]) ∧ Hid (Bkk wr w.heap.size 25 #[.int .i64 0, .int .i64 0, .int .i64 0, .int .i64 0, .int .i64 0]) ∧ Hid (wr.cell? ⟨g, 2, none⟩ = some (.string c))) (fun i _ => 6 - (intOf i).toNat)
        case atStart => exact ⟨1, by omega, by omega, rfl, BX.out.drew, KP.out, KR1.out, HP.out⟩
        case round =>
          clear BX KP KR1 HP
          obtain ⟨k, k1, k6, rfl, hb, KP, KR1, HP⟩ := hrel
          by_cases hlt : k < 6
          · have n0 : (k : Int) < 6 := by omega
            have n1 : (0 : Int) ≤ (k : Int) := by omega
            go_wp2_with (fail)
            refine (l1WordsB _).mono ?_
            rintro e w2 ⟨rfl, _, hbw⟩
            have hb2 := Lib.hid (Below.trans hb.out (hbw.mono hb.out.size))
            have KP := Lib.hid (KP.out.below hbw)
            have KR1 := Lib.hid (KR1.out.below hbw)
            have HP := Lib.hid (cell_kept hbw HP.out)
            clear hbw
            have p2 := HP.out
            have gl : g < w2.heap.size := World.block_lt_of_cell? _ _ p2
            go_wp2_with (fail)
            by_cases hq : opT c.data.toList = (k : Int)
            · have e2 : (wordN k == c.toList) = true := by rw [toList_data, (opT_is (by omega) (by omega)).2 hq]; simp
              have HO := Lib.hid (opAt_hit (HQ.out.symm.trans hq))
              clear hq
              refine wp_region_held_drew (S := fun w1 => Below w2.heap.size w2 w1) (by kernel_rfl) ((Below.refl _ _).drew) (fun hH => ?_)
              refine takeD 1 40 (v := ?_) rfl rfl (by kernel_rfl) (by kernel_rfl) (by kernel_rfl) (fun _ _ _ h => h) (Or.inl ⟨by rfl, ?_⟩) (by assumption) ?_
              rotate_left
              · intro w1 hSw; obtain ⟨hcS, hfS⟩ := bcell hSw; go_simp; (try with_reducible rfl)
              (try simp only [Act.put, List.setIfInBounds_toArray, List.set_cons_zero, List.set_cons_succ])
              refine takeD 4 43 (v := ?_) rfl rfl (by kernel_rfl) (by kernel_rfl) (by kernel_rfl) (fun _ _ _ h => h) (Or.inl ⟨by rfl, ?_⟩) (by assumption) ?_
              rotate_left
              · intro w1 hSw; obtain ⟨hcS, hfS⟩ := bcell hSw; go_simp; (try with_reducible rfl)
              (try simp only [Act.put, List.setIfInBounds_toArray, List.set_cons_zero, List.set_cons_succ])
              refine takeD 5 44 (v := ?_) rfl rfl (by kernel_rfl) (by kernel_rfl) (by kernel_rfl) (fun _ _ _ h => h) (Or.inl ⟨by rfl, ?_⟩) (by assumption) ?_
              rotate_left
              · intro w1 hSw; obtain ⟨hcS, hfS⟩ := bcell hSw; go_simp; (try with_reducible rfl)
              (try simp only [Act.put, List.setIfInBounds_toArray, List.set_cons_zero, List.set_cons_succ])
              refine takeD 6 45 (v := ?_) rfl rfl (by kernel_rfl) (by kernel_rfl) (by kernel_rfl) (fun _ _ _ h => h) (Or.inl ⟨by rfl, ?_⟩) (by assumption) ?_
              rotate_left
              · intro w1 hSw; obtain ⟨hcS, hfS⟩ := bcell hSw; go_simp; (try with_reducible rfl)
              (try simp only [Act.put, List.setIfInBounds_toArray, List.set_cons_zero, List.set_cons_succ])
              refine wpAnyH_ready (rs := [0]) (by kernel_rfl) (by simp) ?_
              refine AllReadyH.cons rfl (fun K hK => ?_) AllReadyH.nil
              go_simp
              refine (l1WordsB _).mono ?_
              rintro e w3 ⟨rfl, hwds, hbw⟩
              have hwd : w3.cell? ⟨w2.heap.size, k, none⟩ = some (bsV (wordN k)) := hwds.out k (by omega)
              refine hK.out _ _ (Below.and hH hbw) (fun hH2 => ?_)
              clear hK K
              (try simp only [Act.put, List.setIfInBounds_toArray, List.set_cons_zero, List.set_cons_succ])
              refine takeD 2 41 (v := ?_) rfl rfl (by kernel_rfl) (by kernel_rfl) (by kernel_rfl) (fun _ _ _ h => h) (Or.inl ⟨by rfl, ?_⟩) (by assumption) ?_
              rotate_left
              · intro w1 hSw; obtain ⟨hcS, hfS⟩ := bcell hSw; go_simp; (try with_reducible rfl)
              (try simp only [Act.put, List.setIfInBounds_toArray, List.set_cons_zero, List.set_cons_succ])
              refine wpAnyH_ready (rs := [3]) (by kernel_rfl) (by simp) ?_
              refine AllReadyH.cons rfl (fun K hK => ?_) AllReadyH.nil
              go_simp
              refine hK.out _ _ hH2 (fun hH3 => ?_)
              clear hK K
              (try simp only [Act.put, List.setIfInBounds_toArray, List.set_cons_zero, List.set_cons_succ])
              refine takeD 7 46 (v := ?_) rfl rfl (by kernel_rfl) (by kernel_rfl) (by kernel_rfl) (fun _ _ _ h => h) (Or.inl ⟨by rfl, ?_⟩) (by assumption) ?_
              rotate_left
              · intro w1 hSw; obtain ⟨hcS, hfS⟩ := bcell hSw; go_simp; (try with_reducible rfl)
              (try simp only [Act.put, List.setIfInBounds_toArray, List.set_cons_zero, List.set_cons_succ])
              refine wpAnyH_done (by kernel_rfl) ?_ _
              have hb3 := Lib.hid (Below.trans hb2.out (hH3.mono hb2.out.size))
              have KP := Lib.hid (KP.out.below hH3)
              have KR1 := Lib.hid (KR1.out.below hH3)
              have HP := Lib.hid (cell_kept hH3 HP.out)
              clear hH hH2 hH3 p2 gl hwd hwds hbw
              have y0 : w3.cell? ⟨w1.heap.size, 0, none⟩ = some (.int .i64 N0) := KP.out.cell 0
              have y1 : w3.cell? ⟨w1.heap.size, 1, none⟩ = some (.int .i64 N1) := KP.out.cell 1
              have y2 : w3.cell? ⟨w1.heap.size, 2, none⟩ = some (.int .i64 (opAt q k)) := KP.out.cell 2
              have y3 : w3.cell? ⟨w1.heap.size, 3, none⟩ = some (.int .i64 N2) := KP.out.cell 3
              have y4 : w3.cell? ⟨w1.heap.size, 4, none⟩ = some (.int .i64 N3) := KP.out.cell 4
              have yf := KP.out.frozen
              have yl := KP.out.lt
              go_wp2
              go_roundw
              case rel =>
                have KN : Hid (Bkk (World.setCell w3 ⟨w1.heap.size, 2, none⟩ (.int .i64 (k : Int))) w1.heap.size 25 #[.int .i64 N0, .int .i64 N1, .int .i64 (opAt q (k + 1)), .int .i64 N2, .int .i64 N3]) := by rw [HO.out]; exact KP.out.set 2 _
                exact ⟨k + 1, by omega, by omega, by go_num, hb3.out.setCell (by simpa using BW.out.size) _, KN.out, KR1.out.far (Nat.ne_of_lt hw1.out) 2 _, cell_far HP.out (Nat.ne_of_lt gl1.out) 2 _⟩
              case measure => simp [intOf]; omega
            · have e2 : (wordN k == c.toList) = false := by
                rw [beq_eq_false_iff_ne, toList_data]; exact fun h => hq ((opT_is (by omega) (by omega)).1 h)
              have HO := Lib.hid (opAt_miss (fun h => hq (HQ.out.trans h)))
              clear hq
              refine wp_region_held_drew (S := fun w1 => Below w2.heap.size w2 w1) (by kernel_rfl) ((Below.refl _ _).drew) (fun hH => ?_)
              refine takeD 1 40 (v := ?_) rfl rfl (by kernel_rfl) (by kernel_rfl) (by kernel_rfl) (fun _ _ _ h => h) (Or.inl ⟨by rfl, ?_⟩) (by assumption) ?_
              rotate_left
              · intro w1 hSw; obtain ⟨hcS, hfS⟩ := bcell hSw; go_simp; (try with_reducible rfl)
              (try simp only [Act.put, List.setIfInBounds_toArray, List.set_cons_zero, List.set_cons_succ])
              refine takeD 4 43 (v := ?_) rfl rfl (by kernel_rfl) (by kernel_rfl) (by kernel_rfl) (fun _ _ _ h => h) (Or.inl ⟨by rfl, ?_⟩) (by assumption) ?_
              rotate_left
              · intro w1 hSw; obtain ⟨hcS, hfS⟩ := bcell hSw; go_simp; (try with_reducible rfl)
              (try simp only [Act.put, List.setIfInBounds_toArray, List.set_cons_zero, List.set_cons_succ])
              refine takeD 5 44 (v := ?_) rfl rfl (by kernel_rfl) (by kernel_rfl) (by kernel_rfl) (fun _ _ _ h => h) (Or.inl ⟨by rfl, ?_⟩) (by assumption) ?_
              rotate_left
              · intro w1 hSw; obtain ⟨hcS, hfS⟩ := bcell hSw; go_simp; (try with_reducible rfl)
              (try simp only [Act.put, List.setIfInBounds_toArray, List.set_cons_zero, List.set_cons_succ])
              refine takeD 6 45 (v := ?_) rfl rfl (by kernel_rfl) (by kernel_rfl) (by kernel_rfl) (fun _ _ _ h => h) (Or.inl ⟨by rfl, ?_⟩) (by assumption) ?_
              rotate_left
              · intro w1 hSw; obtain ⟨hcS, hfS⟩ := bcell hSw; go_simp; (try with_reducible rfl)
              (try simp only [Act.put, List.setIfInBounds_toArray, List.set_cons_zero, List.set_cons_succ])
              refine wpAnyH_ready (rs := [0]) (by kernel_rfl) (by simp) ?_
              refine AllReadyH.cons rfl (fun K hK => ?_) AllReadyH.nil
              go_simp
              refine (l1WordsB _).mono ?_
              rintro e w3 ⟨rfl, hwds, hbw⟩
              have hwd : w3.cell? ⟨w2.heap.size, k, none⟩ = some (bsV (wordN k)) := hwds.out k (by omega)
              refine hK.out _ _ (Below.and hH hbw) (fun hH2 => ?_)
              clear hK K
              (try simp only [Act.put, List.setIfInBounds_toArray, List.set_cons_zero, List.set_cons_succ])
              refine takeD 2 41 (v := ?_) rfl rfl (by kernel_rfl) (by kernel_rfl) (by kernel_rfl) (fun _ _ _ h => h) (Or.inl ⟨by rfl, ?_⟩) (by assumption) ?_
              rotate_left
              · intro w1 hSw; obtain ⟨hcS, hfS⟩ := bcell hSw; go_simp; (try with_reducible rfl)
              (try simp only [Act.put, List.setIfInBounds_toArray, List.set_cons_zero, List.set_cons_succ])
              refine wpAnyH_ready (rs := [3]) (by kernel_rfl) (by simp) ?_
              refine AllReadyH.cons rfl (fun K hK => ?_) AllReadyH.nil
              go_simp
              refine hK.out _ _ hH2 (fun hH3 => ?_)
              clear hK K
              (try simp only [Act.put, List.setIfInBounds_toArray, List.set_cons_zero, List.set_cons_succ])
              refine takeD 7 46 (v := ?_) rfl rfl (by kernel_rfl) (by kernel_rfl) (by kernel_rfl) (fun _ _ _ h => h) (Or.inl ⟨by rfl, ?_⟩) (by assumption) ?_
              rotate_left
              · intro w1 hSw; obtain ⟨hcS, hfS⟩ := bcell hSw; go_simp; (try with_reducible rfl)
              (try simp only [Act.put, List.setIfInBounds_toArray, List.set_cons_zero, List.set_cons_succ])
              refine wpAnyH_done (by kernel_rfl) ?_ _
              have hb3 := Lib.hid (Below.trans hb2.out (hH3.mono hb2.out.size))
              have KP := Lib.hid (KP.out.below hH3)
              have KR1 := Lib.hid (KR1.out.below hH3)
              have HP := Lib.hid (cell_kept hH3 HP.out)
              clear hH hH2 hH3 p2 gl hwd hwds hbw
              go_wp2
              go_roundw
              case rel => exact ⟨k + 1, by omega, by omega, by go_num, hb3.out, (by rw [HO.out]; exact KP.out), KR1.out, HP.out⟩
              case measure => simp [intOf]; omega
          · obtain rfl : k = 6 := by omega
            have n0 : ¬ ((6 : Nat) : Int) < 6 := by omega
            go_wp2_with (fail)
            refine (l1WordsB _).mono ?_
            rintro e w2 ⟨rfl, _, hbw⟩
            have hb2 := Lib.hid (Below.trans hb.out (hbw.mono hb.out.size))
            have KP : Hid (Bkk w2 w1.heap.size 25 #[.int .i64 N0, .int .i64 N1, .int .i64 q, .int .i64 N2, .int .i64 N3]) := by have := KP.out.below hbw; rw [opAt_six q q5] at this; exact this
            have KR1 := Lib.hid (KR1.out.below hbw)
            clear hbw
            have y0 : w2.cell? ⟨w1.heap.size, 0, none⟩ = some (.int .i64 N0) := KP.out.cell 0
            have y1 : w2.cell? ⟨w1.heap.size, 1, none⟩ = some (.int .i64 N1) := KP.out.cell 1
            have y2 : w2.cell? ⟨w1.heap.size, 2, none⟩ = some (.int .i64 q) := KP.out.cell 2
            have y3 : w2.cell? ⟨w1.heap.size, 3, none⟩ = some (.int .i64 N2) := KP.out.cell 3
            have y4 : w2.cell? ⟨w1.heap.size, 4, none⟩ = some (.int .i64 N3) := KP.out.cell 4
            go_wp2_with (fail)
            refine (l1Ok N0 N1 q N2 N3 _).mono ?_
            rintro e w6 ⟨rfl, hb6⟩
            rw [HR.out]
            have BX := Lib.hid (Below.and hb2.out hb6)
            have KP := Lib.hid (KP.out.below hb6)
            have KR1 := Lib.hid (KR1.out.below hb6)
            clear hb6 y0 y1 y2 y3 y4
            have y0 : w6.cell? ⟨w1.heap.size, 0, none⟩ = some (.int .i64 N0) := KP.out.cell 0
            have y1 : w6.cell? ⟨w1.heap.size, 1, none⟩ = some (.int .i64 N1) := KP.out.cell 1
            have y2 : w6.cell? ⟨w1.heap.size, 2, none⟩ = some (.int .i64 q) := KP.out.cell 2
            have y3 : w6.cell? ⟨w1.heap.size, 3, none⟩ = some (.int .i64 N2) := KP.out.cell 3
            have y4 : w6.cell? ⟨w1.heap.size, 4, none⟩ = some (.int .i64 N3) := KP.out.cell 4
            go_wp2_with (fail)
            rw [HK.out]
            refine (l1Put N0 N1 kk N2 N3 _ kk5 (by omega) (by omega) (by omega) (by omega) (by omega) (by omega) (by omega) (by omega)).mono ?_
            rintro e w7 ⟨rfl, hb7⟩
            rw [HT.out]
            have BX := Lib.hid (Below.and BX.out hb7)
            have KP := Lib.hid (KP.out.below hb7)
            have KR1 := Lib.hid (KR1.out.below hb7)
            clear hb7 y0 y1 y2 y3 y4
            have y0 : w7.cell? ⟨w1.heap.size, 0, none⟩ = some (.int .i64 N0) := KP.out.cell 0
            have y1 : w7.cell? ⟨w1.heap.size, 1, none⟩ = some (.int .i64 N1) := KP.out.cell 1
            have y2 : w7.cell? ⟨w1.heap.size, 2, none⟩ = some (.int .i64 q) := KP.out.cell 2
            have y3 : w7.cell? ⟨w1.heap.size, 3, none⟩ = some (.int .i64 N2) := KP.out.cell 3
            have y4 : w7.cell? ⟨w1.heap.size, 4, none⟩ = some (.int .i64 N3) := KP.out.cell 4
            have z0 : w7.cell? ⟨w.heap.size, 0, none⟩ = some (.int .i64 0) := KR1.out.cell 0
            have z1 : w7.cell? ⟨w.heap.size, 1, none⟩ = some (.int .i64 0) := KR1.out.cell 1
            have z2 : w7.cell? ⟨w.heap.size, 2, none⟩ = some (.int .i64 0) := KR1.out.cell 2
            have z3 : w7.cell? ⟨w.heap.size, 3, none⟩ = some (.int .i64 0) := KR1.out.cell 3
            have z4 : w7.cell? ⟨w.heap.size, 4, none⟩ = some (.int .i64 0) := KR1.out.cell 4
            have zf := KR1.out.frozen
            have zl := KR1.out.lt
            have zb : w.heap.size ≤ w7.heap.size := BX.out.size
            go_wp2
            refine bodyPost_ret (v := .tuple #[.agg #[.int .i64 N0, .int .i64 N1, .int .i64 q, .int .i64 N2, .int .i64 N3], .bool true]) (by simp [results, Tryd.results14, go_sem, z0, z1, z2, z3, z4]) rfl ⟨rfl, ?_⟩
            iterate 5 (refine Below.setCell ?_ (by first | (simp; done) | (simp; omega)) _)
            exact BX.out
    · go_simp
      refine hK.out _ _ (h0'.alloc h0'.size _) (fun hA => ?_)
      clear hK K
      (try simp only [Act.put, List.setIfInBounds_toArray, List.set_cons_zero, List.set_cons_succ])
      refine wpAnyH_ready (rs := [7]) (by kernel_rfl) (by simp) ?_
      refine AllReadyH.cons rfl (fun K hK => ?_) AllReadyH.nil
      go_simp
      refine (H1.out _).mono ?_
      rintro e w' ⟨rfl, rfl⟩
      refine hK.out _ _ hA (fun hA' => ?_)
      clear hA
      have hA := hA'
      clear hA'
      clear hK K
      (try simp only [Act.put, List.setIfInBounds_toArray, List.set_cons_zero, List.set_cons_succ])
      refine wpAnyH_ready (rs := [11]) (by kernel_rfl) (by simp) ?_
      refine AllReadyH.cons rfl (fun K hK => ?_) AllReadyH.nil
      go_simp
      refine (H2.out _).mono ?_
      rintro e w' ⟨rfl, rfl⟩
      refine hK.out _ _ hA (fun hA' => ?_)
      clear hA
      have hA := hA'
      clear hA'
      clear hK K
      (try simp only [Act.put, List.setIfInBounds_toArray, List.set_cons_zero, List.set_cons_succ])
      refine wpAnyH_ready (rs := [15]) (by kernel_rfl) (by simp) ?_
      refine AllReadyH.cons rfl (fun K hK => ?_) AllReadyH.nil
      go_simp
      refine (H3.out _).mono ?_
      rintro e w' ⟨rfl, rfl⟩
      refine hK.out _ _ hA (fun hA' => ?_)
      clear hA
      have hA := hA'
      clear hA'
      clear hK K
      (try simp only [Act.put, List.setIfInBounds_toArray, List.set_cons_zero, List.set_cons_succ])
      refine takeD 16 32 (v := ?_) rfl rfl (by kernel_rfl) (by kernel_rfl) (by kernel_rfl) (fun _ _ _ h => h) (Or.inl ⟨by rfl, ?_⟩) (by assumption) ?_
      rotate_left
      · intro w1 hSw; obtain ⟨hcS, hfS⟩ := bcell hSw; go_simp; (try with_reducible rfl)
      (try simp only [Act.put, List.setIfInBounds_toArray, List.set_cons_zero, List.set_cons_succ])
      refine wpAnyH_ready (rs := [18]) (by kernel_rfl) (by simp) ?_
      refine AllReadyH.cons rfl (fun K hK => ?_) AllReadyH.nil
      go_simp
      refine hK.out _ _ (h0'.alloc h0'.size _) (fun hZ => ?_)
      clear hK K
      (try simp only [Act.put, List.setIfInBounds_toArray, List.set_cons_zero, List.set_cons_succ])
      refine wpAnyH_done (by kernel_rfl) ?_ _
      clear hA hZ
      have BX : Hid (Below w.heap.size w (w1.alloc (.cells #[.int .i64 N0, .int .i64 N1, .int .i64 0, .int .i64 N2, .int .i64 N3] 25))) := BW.out.alloc BW.out.size _
      have KP : Hid (Bkk (w1.alloc (.cells #[.int .i64 N0, .int .i64 N1, .int .i64 0, .int .i64 N2, .int .i64 N3] 25)) w1.heap.size 25 #[.int .i64 N0, .int .i64 N1, .int .i64 (opAt q 1), .int .i64 N2, .int .i64 N3]) := by rw [opAt_one q q0]; exact Bkk.new w1
      have KR1 : Hid (Bkk (w1.alloc (.cells #[.int .i64 N0, .int .i64 N1, .int .i64 0, .int .i64 N2, .int .i64 N3] 25)) w.heap.size 25 #[.int .i64 0, .int .i64 0, .int .i64 0, .int .i64 0, .int .i64 0]) := KR.out.alloc _
      have HP : Hid ((w1.alloc (.cells #[.int .i64 N0, .int .i64 N1, .int .i64 0, .int .i64 N2, .int .i64 N3] 25)).cell? ⟨g, 2, none⟩ = some (.string c)) := cell_kept ((Below.refl _ _).alloc (Nat.le_refl _) _) HC.out
      go_wp2
      go_loopw [6] (fun i wr => ∃ k : Nat, 1 ≤ k ∧ k ≤ 6 ∧ i = .int .i64 k ∧ Hid (Below w.heap.size w wr) ∧ Hid (Bkk wr w1.heap.size 25 #[.int .i64 N0, .int .i64 N1, .int .i64 (opAt q k), .int .i64 N2, .int .i64 N3]) ∧ Hid (Bkk wr w.heap.size 25 #[.int .i64 0, .int .i64 0, .int .i64 0, .int .i64 0, .int .i64 0]) ∧ Hid (wr.cell? ⟨g, 2, none⟩ = some (.string c))) (fun i _ => 6 - (intOf i).toNat)
      case atStart => exact ⟨1, by omega, by omega, rfl, BX.out.drew, KP.out, KR1.out, HP.out⟩
      case round =>
        clear BX KP KR1 HP
        obtain ⟨k, k1, k6, rfl, hb, KP, KR1, HP⟩ := hrel
        by_cases hlt : k < 6
        · have n0 : (k : Int) < 6 := by omega
          have n1 : (0 : Int) ≤ (k : Int) := by omega
          go_wp2_with (fail)
          refine (l1WordsB _).mono ?_
          rintro e w2 ⟨rfl, _, hbw⟩
          have hb2 := Lib.hid (Below.trans hb.out (hbw.mono hb.out.size))
          have KP := Lib.hid (KP.out.below hbw)
          have KR1 := Lib.hid (KR1.out.below hbw)
          have HP := Lib.hid (cell_kept hbw HP.out)
          clear hbw
          have p2 := HP.out
          have gl : g < w2.heap.size := World.block_lt_of_cell? _ _ p2
          go_wp2_with (fail)
          by_cases hq : opT c.data.toList = (k : Int)
          · have e2 : (wordN k == c.toList) = true := by rw [toList_data, (opT_is (by omega) (by omega)).2 hq]; simp
            have HO := Lib.hid (opAt_hit (HQ.out.symm.trans hq))
            clear hq
            refine wp_region_held_drew (S := fun w1 => Below w2.heap.size w2 w1) (by kernel_rfl) ((Below.refl _ _).drew) (fun hH => ?_)
            refine takeD 1 40 (v := ?_) rfl rfl (by kernel_rfl) (by kernel_rfl) (by kernel_rfl) (fun _ _ _ h => h) (Or.inl ⟨by rfl, ?_⟩) (by assumption) ?_
            rotate_left
            · intro w1 hSw; obtain ⟨hcS, hfS⟩ := bcell hSw; go_simp; (try with_reducible rfl)
            (try simp only [Act.put, List.setIfInBounds_toArray, List.set_cons_zero, List.set_cons_succ])
            refine takeD 4 43 (v := ?_) rfl rfl (by kernel_rfl) (by kernel_rfl) (by kernel_rfl) (fun _ _ _ h => h) (Or.inl ⟨by rfl, ?_⟩) (by assumption) ?_
            rotate_left
            · intro w1 hSw; obtain ⟨hcS, hfS⟩ := bcell hSw; go_simp; (try with_reducible rfl)
            (try simp only [Act.put, List.setIfInBounds_toArray, List.set_cons_zero, List.set_cons_succ])
            refine takeD 5 44 (v := ?_) rfl rfl (by kernel_rfl) (by kernel_rfl) (by kernel_rfl) (fun _ _ _ h => h) (Or.inl ⟨by rfl, ?_⟩) (by assumption) ?_
            rotate_left
            · intro w1 hSw; obtain ⟨hcS, hfS⟩ := bcell hSw; go_simp; (try with_reducible rfl)
            (try simp only [Act.put, List.setIfInBounds_toArray, List.set_cons_zero, List.set_cons_succ])
            refine takeD 6 45 (v := ?_) rfl rfl (by kernel_rfl) (by kernel_rfl) (by kernel_rfl) (fun _ _ _ h => h) (Or.inl ⟨by rfl, ?_⟩) (by assumption) ?_
            rotate_left
            · intro w1 hSw; obtain ⟨hcS, hfS⟩ := bcell hSw; go_simp; (try with_reducible rfl)
            (try simp only [Act.put, List.setIfInBounds_toArray, List.set_cons_zero, List.set_cons_succ])
            refine wpAnyH_ready (rs := [0]) (by kernel_rfl) (by simp) ?_
            refine AllReadyH.cons rfl (fun K hK => ?_) AllReadyH.nil
            go_simp
            refine (l1WordsB _).mono ?_
            rintro e w3 ⟨rfl, hwds, hbw⟩
            have hwd : w3.cell? ⟨w2.heap.size, k, none⟩ = some (bsV (wordN k)) := hwds.out k (by omega)
            refine hK.out _ _ (Below.and hH hbw) (fun hH2 => ?_)
            clear hK K
            (try simp only [Act.put, List.setIfInBounds_toArray, List.set_cons_zero, List.set_cons_succ])
            refine takeD 2 41 (v := ?_) rfl rfl (by kernel_rfl) (by kernel_rfl) (by kernel_rfl) (fun _ _ _ h => h) (Or.inl ⟨by rfl, ?_⟩) (by assumption) ?_
            rotate_left
            · intro w1 hSw; obtain ⟨hcS, hfS⟩ := bcell hSw; go_simp; (try with_reducible rfl)
            (try simp only [Act.put, List.setIfInBounds_toArray, List.set_cons_zero, List.set_cons_succ])
            refine wpAnyH_ready (rs := [3]) (by kernel_rfl) (by simp) ?_
            refine AllReadyH.cons rfl (fun K hK => ?_) AllReadyH.nil
            go_simp
            refine hK.out _ _ hH2 (fun hH3 => ?_)
            clear hK K
            (try simp only [Act.put, List.setIfInBounds_toArray, List.set_cons_zero, List.set_cons_succ])
            refine takeD 7 46 (v := ?_) rfl rfl (by kernel_rfl) (by kernel_rfl) (by kernel_rfl) (fun _ _ _ h => h) (Or.inl ⟨by rfl, ?_⟩) (by assumption) ?_
            rotate_left
            · intro w1 hSw; obtain ⟨hcS, hfS⟩ := bcell hSw; go_simp; (try with_reducible rfl)
            (try simp only [Act.put, List.setIfInBounds_toArray, List.set_cons_zero, List.set_cons_succ])
            refine wpAnyH_done (by kernel_rfl) ?_ _
            have hb3 := Lib.hid (Below.trans hb2.out (hH3.mono hb2.out.size))
            have KP := Lib.hid (KP.out.below hH3)
            have KR1 := Lib.hid (KR1.out.below hH3)
            have HP := Lib.hid (cell_kept hH3 HP.out)
            clear hH hH2 hH3 p2 gl hwd hwds hbw
            have y0 : w3.cell? ⟨w1.heap.size, 0, none⟩ = some (.int .i64 N0) := KP.out.cell 0
            have y1 : w3.cell? ⟨w1.heap.size, 1, none⟩ = some (.int .i64 N1) := KP.out.cell 1
            have y2 : w3.cell? ⟨w1.heap.size, 2, none⟩ = some (.int .i64 (opAt q k)) := KP.out.cell 2
            have y3 : w3.cell? ⟨w1.heap.size, 3, none⟩ = some (.int .i64 N2) := KP.out.cell 3
            have y4 : w3.cell? ⟨w1.heap.size, 4, none⟩ = some (.int .i64 N3) := KP.out.cell 4
            have yf := KP.out.frozen
            have yl := KP.out.lt
            go_wp2
            go_roundw
            case rel =>
              have KN : Hid (Bkk (World.setCell w3 ⟨w1.heap.size, 2, none⟩ (.int .i64 (k : Int))) w1.heap.size 25 #[.int .i64 N0, .int .i64 N1, .int .i64 (opAt q (k + 1)), .int .i64 N2, .int .i64 N3]) := by rw [HO.out]; exact KP.out.set 2 _
              exact ⟨k + 1, by omega, by omega, by go_num, hb3.out.setCell (by simpa using BW.out.size) _, KN.out, KR1.out.far (Nat.ne_of_lt hw1.out) 2 _, cell_far HP.out (Nat.ne_of_lt gl1.out) 2 _⟩
            case measure => simp [intOf]; omega
          · have e2 : (wordN k == c.toList) = false := by
              rw [beq_eq_false_iff_ne, toList_data]; exact fun h => hq ((opT_is (by omega) (by omega)).1 h)
            have HO := Lib.hid (opAt_miss (fun h => hq (HQ.out.trans h)))
            clear hq
            refine wp_region_held_drew (S := fun w1 => Below w2.heap.size w2 w1) (by kernel_rfl) ((Below.refl _ _).drew) (fun hH => ?_)
            refine takeD 1 40 (v := ?_) rfl rfl (by kernel_rfl) (by kernel_rfl) (by kernel_rfl) (fun _ _ _ h => h) (Or.inl ⟨by rfl, ?_⟩) (by assumption) ?_
            rotate_left
            · intro w1 hSw; obtain ⟨hcS, hfS⟩ := bcell hSw; go_simp; (try with_reducible rfl)
            (try simp only [Act.put, List.setIfInBounds_toArray, List.set_cons_zero, List.set_cons_succ])
            refine takeD 4 43 (v := ?_) rfl rfl (by kernel_rfl) (by kernel_rfl) (by kernel_rfl) (fun _ _ _ h => h) (Or.inl ⟨by rfl, ?_⟩) (by assumption) ?_
            rotate_left
            · intro w1 hSw; obtain ⟨hcS, hfS⟩ := bcell hSw; go_simp; (try with_reducible rfl)
            (try simp only [Act.put, List.setIfInBounds_toArray, List.set_cons_zero, List.set_cons_succ])
            refine takeD 5 44 (v := ?_) rfl rfl (by kernel_rfl) (by kernel_rfl) (by kernel_rfl) (fun _ _ _ h => h) (Or.inl ⟨by rfl, ?_⟩) (by assumption) ?_
            rotate_left
            · intro w1 hSw; obtain ⟨hcS, hfS⟩ := bcell hSw; go_simp; (try with_reducible rfl)
            (try simp only [Act.put, List.setIfInBounds_toArray, List.set_cons_zero, List.set_cons_succ])
            refine takeD 6 45 (v := ?_) rfl rfl (by kernel_rfl) (by kernel_rfl) (by kernel_rfl) (fun _ _ _ h => h) (Or.inl ⟨by rfl, ?_⟩) (by assumption) ?_
            rotate_left
            · intro w1 hSw; obtain ⟨hcS, hfS⟩ := bcell hSw; go_simp; (try with_reducible rfl)
            (try simp only [Act.put, List.setIfInBounds_toArray, List.set_cons_zero, List.set_cons_succ])
            refine wpAnyH_ready (rs := [0]) (by kernel_rfl) (by simp) ?_
            refine AllReadyH.cons rfl (fun K hK => ?_) AllReadyH.nil
            go_simp
            refine (l1WordsB _).mono ?_
            rintro e w3 ⟨rfl, hwds, hbw⟩
            have hwd : w3.cell? ⟨w2.heap.size, k, none⟩ = some (bsV (wordN k)) := hwds.out k (by omega)
            refine hK.out _ _ (Below.and hH hbw) (fun hH2 => ?_)
            clear hK K
            (try simp only [Act.put, List.setIfInBounds_toArray, List.set_cons_zero, List.set_cons_succ])
            refine takeD 2 41 (v := ?_) rfl rfl (by kernel_rfl) (by kernel_rfl) (by kernel_rfl) (fun _ _ _ h => h) (Or.inl ⟨by rfl, ?_⟩) (by assumption) ?_
            rotate_left
            · intro w1 hSw; obtain ⟨hcS, hfS⟩ := bcell hSw; go_simp; (try with_reducible rfl)
            (try simp only [Act.put, List.setIfInBounds_toArray, List.set_cons_zero, List.set_cons_succ])
            refine wpAnyH_ready (rs := [3]) (by kernel_rfl) (by simp) ?_
            refine AllReadyH.cons rfl (fun K hK => ?_) AllReadyH.nil
            go_simp
            refine hK.out _ _ hH2 (fun hH3 => ?_)
            clear hK K
            (try simp only [Act.put, List.setIfInBounds_toArray, List.set_cons_zero, List.set_cons_succ])
            refine takeD 7 46 (v := ?_) rfl rfl (by kernel_rfl) (by kernel_rfl) (by kernel_rfl) (fun _ _ _ h => h) (Or.inl ⟨by rfl, ?_⟩) (by assumption) ?_
            rotate_left
            · intro w1 hSw; obtain ⟨hcS, hfS⟩ := bcell hSw; go_simp; (try with_reducible rfl)
            (try simp only [Act.put, List.setIfInBounds_toArray, List.set_cons_zero, List.set_cons_succ])
            refine wpAnyH_done (by kernel_rfl) ?_ _
            have hb3 := Lib.hid (Below.trans hb2.out (hH3.mono hb2.out.size))
            have KP := Lib.hid (KP.out.below hH3)
            have KR1 := Lib.hid (KR1.out.below hH3)
            have HP := Lib.hid (cell_kept hH3 HP.out)
            clear hH hH2 hH3 p2 gl hwd hwds hbw
            go_wp2
            go_roundw
            case rel => exact ⟨k + 1, by omega, by omega, by go_num, hb3.out, (by rw [HO.out]; exact KP.out), KR1.out, HP.out⟩
            case measure => simp [intOf]; omega
        · obtain rfl : k = 6 := by omega
          have n0 : ¬ ((6 : Nat) : Int) < 6 := by omega
          go_wp2_with (fail)
          refine (l1WordsB _).mono ?_
          rintro e w2 ⟨rfl, _, hbw⟩
          have hb2 := Lib.hid (Below.trans hb.out (hbw.mono hb.out.size))
          have KP : Hid (Bkk w2 w1.heap.size 25 #[.int .i64 N0, .int .i64 N1, .int .i64 q, .int .i64 N2, .int .i64 N3]) := by have := KP.out.below hbw; rw [opAt_six q q5] at this; exact this
          have KR1 := Lib.hid (KR1.out.below hbw)
          clear hbw
          have y0 : w2.cell? ⟨w1.heap.size, 0, none⟩ = some (.int .i64 N0) := KP.out.cell 0
          have y1 : w2.cell? ⟨w1.heap.size, 1, none⟩ = some (.int .i64 N1) := KP.out.cell 1
          have y2 : w2.cell? ⟨w1.heap.size, 2, none⟩ = some (.int .i64 q) := KP.out.cell 2
          have y3 : w2.cell? ⟨w1.heap.size, 3, none⟩ = some (.int .i64 N2) := KP.out.cell 3
          have y4 : w2.cell? ⟨w1.heap.size, 4, none⟩ = some (.int .i64 N3) := KP.out.cell 4
          go_wp2_with (fail)
          refine (l1Ok N0 N1 q N2 N3 _).mono ?_
          rintro e w6 ⟨rfl, hb6⟩
          rw [HR.out]
          have BX := Lib.hid (Below.and hb2.out hb6)
          have KP := Lib.hid (KP.out.below hb6)
          have KR1 := Lib.hid (KR1.out.below hb6)
          clear hb6 y0 y1 y2 y3 y4
          have y0 : w6.cell? ⟨w1.heap.size, 0, none⟩ = some (.int .i64 N0) := KP.out.cell 0
          have y1 : w6.cell? ⟨w1.heap.size, 1, none⟩ = some (.int .i64 N1) := KP.out.cell 1
          have y2 : w6.cell? ⟨w1.heap.size, 2, none⟩ = some (.int .i64 q) := KP.out.cell 2
          have y3 : w6.cell? ⟨w1.heap.size, 3, none⟩ = some (.int .i64 N2) := KP.out.cell 3
          have y4 : w6.cell? ⟨w1.heap.size, 4, none⟩ = some (.int .i64 N3) := KP.out.cell 4
          go_wp2_with (fail)
          rw [HK.out]
          refine (l1Put N0 N1 kk N2 N3 _ kk5 (by omega) (by omega) (by omega) (by omega) (by omega) (by omega) (by omega) (by omega)).mono ?_
          rintro e w7 ⟨rfl, hb7⟩
          rw [HT.out]
          have BX := Lib.hid (Below.and BX.out hb7)
          have KP := Lib.hid (KP.out.below hb7)
          have KR1 := Lib.hid (KR1.out.below hb7)
          clear hb7 y0 y1 y2 y3 y4
          have y0 : w7.cell? ⟨w1.heap.size, 0, none⟩ = some (.int .i64 N0) := KP.out.cell 0
          have y1 : w7.cell? ⟨w1.heap.size, 1, none⟩ = some (.int .i64 N1) := KP.out.cell 1
          have y2 : w7.cell? ⟨w1.heap.size, 2, none⟩ = some (.int .i64 q) := KP.out.cell 2
          have y3 : w7.cell? ⟨w1.heap.size, 3, none⟩ = some (.int .i64 N2) := KP.out.cell 3
          have y4 : w7.cell? ⟨w1.heap.size, 4, none⟩ = some (.int .i64 N3) := KP.out.cell 4
          have z0 : w7.cell? ⟨w.heap.size, 0, none⟩ = some (.int .i64 0) := KR1.out.cell 0
          have z1 : w7.cell? ⟨w.heap.size, 1, none⟩ = some (.int .i64 0) := KR1.out.cell 1
          have z2 : w7.cell? ⟨w.heap.size, 2, none⟩ = some (.int .i64 0) := KR1.out.cell 2
          have z3 : w7.cell? ⟨w.heap.size, 3, none⟩ = some (.int .i64 0) := KR1.out.cell 3
          have z4 : w7.cell? ⟨w.heap.size, 4, none⟩ = some (.int .i64 0) := KR1.out.cell 4
          have zf := KR1.out.frozen
          have zl := KR1.out.lt
          have zb : w.heap.size ≤ w7.heap.size := BX.out.size
          go_wp2
          refine bodyPost_ret (v := .tuple #[.agg #[.int .i64 N0, .int .i64 N1, .int .i64 q, .int .i64 N2, .int .i64 N3], .bool true]) (by simp [results, Tryd.results14, go_sem, z0, z1, z2, z3, z4]) rfl ⟨rfl, ?_⟩
          iterate 5 (refine Below.setCell ?_ (by first | (simp; done) | (simp; omega)) _)
          exact BX.out
  · go_simp
    refine hK.out _ _ (hH.alloc hH.size _) (fun hA => ?_)
    clear hK K
    (try simp only [Act.put, List.setIfInBounds_toArray, List.set_cons_zero, List.set_cons_succ])
    refine wpAnyH_ready (rs := [3]) (by kernel_rfl) (by simp) ?_
    refine AllReadyH.cons rfl (fun K hK => ?_) AllReadyH.nil
    go_simp
    refine (H0.out _).mono ?_
    rintro e w' ⟨rfl, rfl⟩
    refine hK.out _ _ hA (fun hA' => ?_)
    clear hA
    have hA := hA'
    clear hA'
    clear hK K
    (try simp only [Act.put, List.setIfInBounds_toArray, List.set_cons_zero, List.set_cons_succ])
    refine wpAnyH_ready (rs := [7]) (by kernel_rfl) (by simp) ?_
    refine AllReadyH.cons rfl (fun K hK => ?_) AllReadyH.nil
    go_simp
    refine (H1.out _).mono ?_
    rintro e w' ⟨rfl, rfl⟩
    refine hK.out _ _ hA (fun hA' => ?_)
    clear hA
    have hA := hA'
    clear hA'
    clear hK K
    (try simp only [Act.put, List.setIfInBounds_toArray, List.set_cons_zero, List.set_cons_succ])
    refine wpAnyH_ready (rs := [11]) (by kernel_rfl) (by simp) ?_
    refine AllReadyH.cons rfl (fun K hK => ?_) AllReadyH.nil
    go_simp
    refine (H2.out _).mono ?_
    rintro e w' ⟨rfl, rfl⟩
    refine hK.out _ _ hA (fun hA' => ?_)
    clear hA
    have hA := hA'
    clear hA'
    clear hK K
    (try simp only [Act.put, List.setIfInBounds_toArray, List.set_cons_zero, List.set_cons_succ])
    refine wpAnyH_ready (rs := [15]) (by kernel_rfl) (by simp) ?_
    refine AllReadyH.cons rfl (fun K hK => ?_) AllReadyH.nil
    go_simp
    refine (H3.out _).mono ?_
    rintro e w' ⟨rfl, rfl⟩
    refine hK.out _ _ hA (fun hA' => ?_)
    clear hA
    have hA := hA'
    clear hA'
    clear hK K
    (try simp only [Act.put, List.setIfInBounds_toArray, List.set_cons_zero, List.set_cons_succ])
    refine takeD 16 32 (v := ?_) rfl rfl (by kernel_rfl) (by kernel_rfl) (by kernel_rfl) (fun _ _ _ h => h) (Or.inl ⟨by rfl, ?_⟩) (by assumption) ?_
    rotate_left
    · intro w1 hSw; obtain ⟨hcS, hfS⟩ := bcell hSw; go_simp; (try with_reducible rfl)
    (try simp only [Act.put, List.setIfInBounds_toArray, List.set_cons_zero, List.set_cons_succ])
    refine wpAnyH_ready (rs := [18]) (by kernel_rfl) (by simp) ?_
    refine AllReadyH.cons rfl (fun K hK => ?_) AllReadyH.nil
    go_simp
    refine hK.out _ _ (hH.alloc hH.size _) (fun hZ => ?_)
    clear hK K
    (try simp only [Act.put, List.setIfInBounds_toArray, List.set_cons_zero, List.set_cons_succ])
    refine wpAnyH_done (by kernel_rfl) ?_ _
    clear hA hZ
    have BX : Hid (Below w.heap.size w (w1.alloc (.cells #[.int .i64 N0, .int .i64 N1, .int .i64 0, .int .i64 N2, .int .i64 N3] 25))) := BW.out.alloc BW.out.size _
    have KP : Hid (Bkk (w1.alloc (.cells #[.int .i64 N0, .int .i64 N1, .int .i64 0, .int .i64 N2, .int .i64 N3] 25)) w1.heap.size 25 #[.int .i64 N0, .int .i64 N1, .int .i64 (opAt q 1), .int .i64 N2, .int .i64 N3]) := by rw [opAt_one q q0]; exact Bkk.new w1
    have KR1 : Hid (Bkk (w1.alloc (.cells #[.int .i64 N0, .int .i64 N1, .int .i64 0, .int .i64 N2, .int .i64 N3] 25)) w.heap.size 25 #[.int .i64 0, .int .i64 0, .int .i64 0, .int .i64 0, .int .i64 0]) := KR.out.alloc _
    have HP : Hid ((w1.alloc (.cells #[.int .i64 N0, .int .i64 N1, .int .i64 0, .int .i64 N2, .int .i64 N3] 25)).cell? ⟨g, 2, none⟩ = some (.string c)) := cell_kept ((Below.refl _ _).alloc (Nat.le_refl _) _) HC.out
    go_wp2
    go_loopw [6] (fun i wr => ∃ k : Nat, 1 ≤ k ∧ k ≤ 6 ∧ i = .int .i64 k ∧ Hid (Below w.heap.size w wr) ∧ Hid (Bkk wr w1.heap.size 25 #[.int .i64 N0, .int .i64 N1, .int .i64 (opAt q k), .int .i64 N2, .int .i64 N3]) ∧ Hid (Bkk wr w.heap.size 25 #[.int .i64 0, .int .i64 0, .int .i64 0, .int .i64 0, .int .i64 0]) ∧ Hid (wr.cell? ⟨g, 2, none⟩ = some (.string c))) (fun i _ => 6 - (intOf i).toNat)
    case atStart => exact ⟨1, by omega, by omega, rfl, BX.out.drew, KP.out, KR1.out, HP.out⟩
    case round =>
      clear BX KP KR1 HP
      obtain ⟨k, k1, k6, rfl, hb, KP, KR1, HP⟩ := hrel
      by_cases hlt : k < 6
      · have n0 : (k : Int) < 6 := by omega
        have n1 : (0 : Int) ≤ (k : Int) := by omega
        go_wp2_with (fail)
        refine (l1WordsB _).mono ?_
        rintro e w2 ⟨rfl, _, hbw⟩
        have hb2 := Lib.hid (Below.trans hb.out (hbw.mono hb.out.size))
        have KP := Lib.hid (KP.out.below hbw)
        have KR1 := Lib.hid (KR1.out.below hbw)
        have HP := Lib.hid (cell_kept hbw HP.out)
        clear hbw
        have p2 := HP.out
        have gl : g < w2.heap.size := World.block_lt_of_cell? _ _ p2
        go_wp2_with (fail)
        by_cases hq : opT c.data.toList = (k : Int)
        · have e2 : (wordN k == c.toList) = true := by rw [toList_data, (opT_is (by omega) (by omega)).2 hq]; simp
          have HO := Lib.hid (opAt_hit (HQ.out.symm.trans hq))
          clear hq
          refine wp_region_held_drew (S := fun w1 => Below w2.heap.size w2 w1) (by kernel_rfl) ((Below.refl _ _).drew) (fun hH => ?_)
          refine takeD 1 40 (v := ?_) rfl rfl (by kernel_rfl) (by kernel_rfl) (by kernel_rfl) (fun _ _ _ h => h) (Or.inl ⟨by rfl, ?_⟩) (by assumption) ?_
          rotate_left
          · intro w1 hSw; obtain ⟨hcS, hfS⟩ := bcell hSw; go_simp; (try with_reducible rfl)
          (try simp only [Act.put, List.setIfInBounds_toArray, List.set_cons_zero, List.set_cons_succ])
          refine takeD 4 43 (v := ?_) rfl rfl (by kernel_rfl) (by kernel_rfl) (by kernel_rfl) (fun _ _ _ h => h) (Or.inl ⟨by rfl, ?_⟩) (by assumption) ?_
          rotate_left
          · intro w1 hSw; obtain ⟨hcS, hfS⟩ := bcell hSw; go_simp; (try with_reducible rfl)
          (try simp only [Act.put, List.setIfInBounds_toArray, List.set_cons_zero, List.set_cons_succ])
          refine takeD 5 44 (v := ?_) rfl rfl (by kernel_rfl) (by kernel_rfl) (by kernel_rfl) (fun _ _ _ h => h) (Or.inl ⟨by rfl, ?_⟩) (by assumption) ?_
          rotate_left
          · intro w1 hSw; obtain ⟨hcS, hfS⟩ := bcell hSw; go_simp; (try with_reducible rfl)
          (try simp only [Act.put, List.setIfInBounds_toArray, List.set_cons_zero, List.set_cons_succ])
          refine takeD 6 45 (v := ?_) rfl rfl (by kernel_rfl) (by kernel_rfl) (by kernel_rfl) (fun _ _ _ h => h) (Or.inl ⟨by rfl, ?_⟩) (by assumption) ?_
          rotate_left
          · intro w1 hSw; obtain ⟨hcS, hfS⟩ := bcell hSw; go_simp; (try with_reducible rfl)
          (try simp only [Act.put, List.setIfInBounds_toArray, List.set_cons_zero, List.set_cons_succ])
          refine wpAnyH_ready (rs := [0]) (by kernel_rfl) (by simp) ?_
          refine AllReadyH.cons rfl (fun K hK => ?_) AllReadyH.nil
          go_simp
          refine (l1WordsB _).mono ?_
          rintro e w3 ⟨rfl, hwds, hbw⟩
          have hwd : w3.cell? ⟨w2.heap.size, k, none⟩ = some (bsV (wordN k)) := hwds.out k (by omega)
          refine hK.out _ _ (Below.and hH hbw) (fun hH2 => ?_)
          clear hK K
          (try simp only [Act.put, List.setIfInBounds_toArray, List.set_cons_zero, List.set_cons_succ])
          refine takeD 2 41 (v := ?_) rfl rfl (by kernel_rfl) (by kernel_rfl) (by kernel_rfl) (fun _ _ _ h => h) (Or.inl ⟨by rfl, ?_⟩) (by assumption) ?_
          rotate_left
          · intro w1 hSw; obtain ⟨hcS, hfS⟩ := bcell hSw; go_simp; (try with_reducible rfl)
          (try simp only [Act.put, List.setIfInBounds_toArray, List.set_cons_zero, List.set_cons_succ])
          refine wpAnyH_ready (rs := [3]) (by kernel_rfl) (by simp) ?_
          refine AllReadyH.cons rfl (fun K hK => ?_) AllReadyH.nil
          go_simp
          refine hK.out _ _ hH2 (fun hH3 => ?_)
          clear hK K
          (try simp only [Act.put, List.setIfInBounds_toArray, List.set_cons_zero, List.set_cons_succ])
          refine takeD 7 46 (v := ?_) rfl rfl (by kernel_rfl) (by kernel_rfl) (by kernel_rfl) (fun _ _ _ h => h) (Or.inl ⟨by rfl, ?_⟩) (by assumption) ?_
          rotate_left
          · intro w1 hSw; obtain ⟨hcS, hfS⟩ := bcell hSw; go_simp; (try with_reducible rfl)
          (try simp only [Act.put, List.setIfInBounds_toArray, List.set_cons_zero, List.set_cons_succ])
          refine wpAnyH_done (by kernel_rfl) ?_ _
          have hb3 := Lib.hid (Below.trans hb2.out (hH3.mono hb2.out.size))
          have KP := Lib.hid (KP.out.below hH3)
          have KR1 := Lib.hid (KR1.out.below hH3)
          have HP := Lib.hid (cell_kept hH3 HP.out)
          clear hH hH2 hH3 p2 gl hwd hwds hbw
          have y0 : w3.cell? ⟨w1.heap.size, 0, none⟩ = some (.int .i64 N0) := KP.out.cell 0
          have y1 : w3.cell? ⟨w1.heap.size, 1, none⟩ = some (.int .i64 N1) := KP.out.cell 1
          have y2 : w3.cell? ⟨w1.heap.size, 2, none⟩ = some (.int .i64 (opAt q k)) := KP.out.cell 2
          have y3 : w3.cell? ⟨w1.heap.size, 3, none⟩ = some (.int .i64 N2) := KP.out.cell 3
          have y4 : w3.cell? ⟨w1.heap.size, 4, none⟩ = some (.int .i64 N3) := KP.out.cell 4
          have yf := KP.out.frozen
          have yl := KP.out.lt
          go_wp2
          go_roundw
          case rel =>
            have KN : Hid (Bkk (World.setCell w3 ⟨w1.heap.size, 2, none⟩ (.int .i64 (k : Int))) w1.heap.size 25 #[.int .i64 N0, .int .i64 N1, .int .i64 (opAt q (k + 1)), .int .i64 N2, .int .i64 N3]) := by rw [HO.out]; exact KP.out.set 2 _
            exact ⟨k + 1, by omega, by omega, by go_num, hb3.out.setCell (by simpa using BW.out.size) _, KN.out, KR1.out.far (Nat.ne_of_lt hw1.out) 2 _, cell_far HP.out (Nat.ne_of_lt gl1.out) 2 _⟩
          case measure => simp [intOf]; omega
        · have e2 : (wordN k == c.toList) = false := by
            rw [beq_eq_false_iff_ne, toList_data]; exact fun h => hq ((opT_is (by omega) (by omega)).1 h)
          have HO := Lib.hid (opAt_miss (fun h => hq (HQ.out.trans h)))
          clear hq
          refine wp_region_held_drew (S := fun w1 => Below w2.heap.size w2 w1) (by kernel_rfl) ((Below.refl _ _).drew) (fun hH => ?_)
          refine takeD 1 40 (v := ?_) rfl rfl (by kernel_rfl) (by kernel_rfl) (by kernel_rfl) (fun _ _ _ h => h) (Or.inl ⟨by rfl, ?_⟩) (by assumption) ?_
          rotate_left
          · intro w1 hSw; obtain ⟨hcS, hfS⟩ := bcell hSw; go_simp; (try with_reducible rfl)
          (try simp only [Act.put, List.setIfInBounds_toArray, List.set_cons_zero, List.set_cons_succ])
          refine takeD 4 43 (v := ?_) rfl rfl (by kernel_rfl) (by kernel_rfl) (by kernel_rfl) (fun _ _ _ h => h) (Or.inl ⟨by rfl, ?_⟩) (by assumption) ?_
          rotate_left
          · intro w1 hSw; obtain ⟨hcS, hfS⟩ := bcell hSw; go_simp; (try with_reducible rfl)
          (try simp only [Act.put, List.setIfInBounds_toArray, List.set_cons_zero, List.set_cons_succ])
          refine takeD 5 44 (v := ?_) rfl rfl (by kernel_rfl) (by kernel_rfl) (by kernel_rfl) (fun _ _ _ h => h) (Or.inl ⟨by rfl, ?_⟩) (by assumption) ?_
          rotate_left
          · intro w1 hSw; obtain ⟨hcS, hfS⟩ := bcell hSw; go_simp; (try with_reducible rfl)
          (try simp only [Act.put, List.setIfInBounds_toArray, List.set_cons_zero, List.set_cons_succ])
          refine takeD 6 45 (v := ?_) rfl rfl (by kernel_rfl) (by kernel_rfl) (by kernel_rfl) (fun _ _ _ h => h) (Or.inl ⟨by rfl, ?_⟩) (by assumption) ?_
          rotate_left
          · intro w1 hSw; obtain ⟨hcS, hfS⟩ := bcell hSw; go_simp; (try with_reducible rfl)
          (try simp only [Act.put, List.setIfInBounds_toArray, List.set_cons_zero, List.set_cons_succ])
          refine wpAnyH_ready (rs := [0]) (by kernel_rfl) (by simp) ?_
          refine AllReadyH.cons rfl (fun K hK => ?_) AllReadyH.nil
          go_simp
          refine (l1WordsB _).mono ?_
          rintro e w3 ⟨rfl, hwds, hbw⟩
          have hwd : w3.cell? ⟨w2.heap.size, k, none⟩ = some (bsV (wordN k)) := hwds.out k (by omega)
          refine hK.out _ _ (Below.and hH hbw) (fun hH2 => ?_)
          clear hK K
          (try simp only [Act.put, List.setIfInBounds_toArray, List.set_cons_zero, List.set_cons_succ])
          refine takeD 2 41 (v := ?_) rfl rfl (by kernel_rfl) (by kernel_rfl) (by kernel_rfl) (fun _ _ _ h => h) (Or.inl ⟨by rfl, ?_⟩) (by assumption) ?_
          rotate_left
          · intro w1 hSw; obtain ⟨hcS, hfS⟩ := bcell hSw; go_simp; (try with_reducible rfl)
          (try simp only [Act.put, List.setIfInBounds_toArray, List.set_cons_zero, List.set_cons_succ])
          refine wpAnyH_ready (rs := [3]) (by kernel_rfl) (by simp) ?_
          refine AllReadyH.cons rfl (fun K hK => ?_) AllReadyH.nil
          go_simp
          refine hK.out _ _ hH2 (fun hH3 => ?_)
          clear hK K
          (try simp only [Act.put, List.setIfInBounds_toArray, List.set_cons_zero, List.set_cons_succ])
          refine takeD 7 46 (v := ?_) rfl rfl (by kernel_rfl) (by kernel_rfl) (by kernel_rfl) (fun _ _ _ h => h) (Or.inl ⟨by rfl, ?_⟩) (by assumption) ?_
          rotate_left
          · intro w1 hSw; obtain ⟨hcS, hfS⟩ := bcell hSw; go_simp; (try with_reducible rfl)
          (try simp only [Act.put, List.setIfInBounds_toArray, List.set_cons_zero, List.set_cons_succ])
          refine wpAnyH_done (by kernel_rfl) ?_ _
          have hb3 := Lib.hid (Below.trans hb2.out (hH3.mono hb2.out.size))
          have KP := Lib.hid (KP.out.below hH3)
          have KR1 := Lib.hid (KR1.out.below hH3)
          have HP := Lib.hid (cell_kept hH3 HP.out)
          clear hH hH2 hH3 p2 gl hwd hwds hbw
          go_wp2
          go_roundw
          case rel => exact ⟨k + 1, by omega, by omega, by go_num, hb3.out, (by rw [HO.out]; exact KP.out), KR1.out, HP.out⟩
          case measure => simp [intOf]; omega
      · obtain rfl : k = 6 := by omega
        have n0 : ¬ ((6 : Nat) : Int) < 6 := by omega
        go_wp2_with (fail)
        refine (l1WordsB _).mono ?_
        rintro e w2 ⟨rfl, _, hbw⟩
        have hb2 := Lib.hid (Below.trans hb.out (hbw.mono hb.out.size))
        have KP : Hid (Bkk w2 w1.heap.size 25 #[.int .i64 N0, .int .i64 N1, .int .i64 q, .int .i64 N2, .int .i64 N3]) := by have := KP.out.below hbw; rw [opAt_six q q5] at this; exact this
        have KR1 := Lib.hid (KR1.out.below hbw)
        clear hbw
        have y0 : w2.cell? ⟨w1.heap.size, 0, none⟩ = some (.int .i64 N0) := KP.out.cell 0
        have y1 : w2.cell? ⟨w1.heap.size, 1, none⟩ = some (.int .i64 N1) := KP.out.cell 1
        have y2 : w2.cell? ⟨w1.heap.size, 2, none⟩ = some (.int .i64 q) := KP.out.cell 2
        have y3 : w2.cell? ⟨w1.heap.size, 3, none⟩ = some (.int .i64 N2) := KP.out.cell 3
        have y4 : w2.cell? ⟨w1.heap.size, 4, none⟩ = some (.int .i64 N3) := KP.out.cell 4
        go_wp2_with (fail)
        refine (l1Ok N0 N1 q N2 N3 _).mono ?_
        rintro e w6 ⟨rfl, hb6⟩
        rw [HR.out]
        have BX := Lib.hid (Below.and hb2.out hb6)
        have KP := Lib.hid (KP.out.below hb6)
        have KR1 := Lib.hid (KR1.out.below hb6)
        clear hb6 y0 y1 y2 y3 y4
        have y0 : w6.cell? ⟨w1.heap.size, 0, none⟩ = some (.int .i64 N0) := KP.out.cell 0
        have y1 : w6.cell? ⟨w1.heap.size, 1, none⟩ = some (.int .i64 N1) := KP.out.cell 1
        have y2 : w6.cell? ⟨w1.heap.size, 2, none⟩ = some (.int .i64 q) := KP.out.cell 2
        have y3 : w6.cell? ⟨w1.heap.size, 3, none⟩ = some (.int .i64 N2) := KP.out.cell 3
        have y4 : w6.cell? ⟨w1.heap.size, 4, none⟩ = some (.int .i64 N3) := KP.out.cell 4
        go_wp2_with (fail)
        rw [HK.out]
        refine (l1Put N0 N1 kk N2 N3 _ kk5 (by omega) (by omega) (by omega) (by omega) (by omega) (by omega) (by omega) (by omega)).mono ?_
        rintro e w7 ⟨rfl, hb7⟩
        rw [HT.out]
        have BX := Lib.hid (Below.and BX.out hb7)
        have KP := Lib.hid (KP.out.below hb7)
        have KR1 := Lib.hid (KR1.out.below hb7)
        clear hb7 y0 y1 y2 y3 y4
        have y0 : w7.cell? ⟨w1.heap.size, 0, none⟩ = some (.int .i64 N0) := KP.out.cell 0
        have y1 : w7.cell? ⟨w1.heap.size, 1, none⟩ = some (.int .i64 N1) := KP.out.cell 1
        have y2 : w7.cell? ⟨w1.heap.size, 2, none⟩ = some (.int .i64 q) := KP.out.cell 2
        have y3 : w7.cell? ⟨w1.heap.size, 3, none⟩ = some (.int .i64 N2) := KP.out.cell 3
        have y4 : w7.cell? ⟨w1.heap.size, 4, none⟩ = some (.int .i64 N3) := KP.out.cell 4
        have z0 : w7.cell? ⟨w.heap.size, 0, none⟩ = some (.int .i64 0) := KR1.out.cell 0
        have z1 : w7.cell? ⟨w.heap.size, 1, none⟩ = some (.int .i64 0) := KR1.out.cell 1
        have z2 : w7.cell? ⟨w.heap.size, 2, none⟩ = some (.int .i64 0) := KR1.out.cell 2
        have z3 : w7.cell? ⟨w.heap.size, 3, none⟩ = some (.int .i64 0) := KR1.out.cell 3
        have z4 : w7.cell? ⟨w.heap.size, 4, none⟩ = some (.int .i64 0) := KR1.out.cell 4
        have zf := KR1.out.frozen
        have zl := KR1.out.lt
        have zb : w.heap.size ≤ w7.heap.size := BX.out.size
        go_wp2
        refine bodyPost_ret (v := .tuple #[.agg #[.int .i64 N0, .int .i64 N1, .int .i64 q, .int .i64 N2, .int .i64 N3], .bool true]) (by simp [results, Tryd.results14, go_sem, z0, z1, z2, z3, z4]) rfl ⟨rfl, ?_⟩
        iterate 5 (refine Below.setCell ?_ (by first | (simp; done) | (simp; omega)) _)
        exact BX.out

end Go.Proofs.YtolepfbhhmganaaDoor
