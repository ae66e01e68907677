/- A request read from a text: the program's side, read whole. -/
import Derived.Test.YtolepfbhhmganaaDoorSi
namespace Go.Proofs.YtolepfbhhmganaaDoor
open Go.ChangeShapes Go.WideShapes Go.ChangeAt Go.RowKit
set_option linter.unusedVariables false
set_option linter.unusedSimpArgs false

theorem below_undrew' {a w : World} (h : Below a.drew.heap.size a.drew w) : Below a.heap.size a w := below_undrew h
theorem Bkk.stor5 {w : World} {g : Nat} {t : TypeId} {a0 a1 a2 a3 a4 : Value} (b0 b1 b2 b3 b4 : Value) (h : Bkk w g t #[a0, a1, a2, a3, a4]) : Bkk (((((w.setCell ⟨g, 0, none⟩ b0).setCell ⟨g, 1, none⟩ b1).setCell ⟨g, 2, none⟩ b2).setCell ⟨g, 3, none⟩ b3).setCell ⟨g, 4, none⟩ b4) g t #[b0, b1, b2, b3, b4] := by
  have := (((((h.set 0 b0).set 1 b1).set 2 b2).set 3 b3).set 4 b4)
  simpa using this
theorem Bkk.awa5 {w : World} {g g' : Nat} {t : TypeId} {cs : Array Value} (b0 b1 b2 b3 b4 : Value) (hg : g ≠ g') (h : Bkk w g t cs) : Bkk (((((w.setCell ⟨g', 0, none⟩ b0).setCell ⟨g', 1, none⟩ b1).setCell ⟨g', 2, none⟩ b2).setCell ⟨g', 3, none⟩ b3).setCell ⟨g', 4, none⟩ b4) g t cs := (((((h.far hg 0 b0).far hg 1 b1).far hg 2 b2).far hg 3 b3).far hg 4 b4)
theorem Below.stor5 {w w' : World} {k g : Nat} (b0 b1 b2 b3 b4 : Value) (hg : k ≤ g) (h : Below k w w') : Below k w (((((w'.setCell ⟨g, 0, none⟩ b0).setCell ⟨g, 1, none⟩ b1).setCell ⟨g, 2, none⟩ b2).setCell ⟨g, 3, none⟩ b3).setCell ⟨g, 4, none⟩ b4) := by
  iterate 5 (refine Below.setCell ?_ (by simpa using hg) _)
  exact h

set_option maxRecDepth 100000 in
set_option maxHeartbeats 8000000 in
theorem implGet_no (s a b c x y : ByteArray) (v0 v1 v2 v3 : Int) (w : World) (hs : s.size ≤ 1048576) (hl : s.data.toList ≠ [110, 111, 110, 101]) (h5 : piecesB s = [a, b, c, x, y]) (hN : Nums [a, b, x, y] [v0, v1, v2, v3]) (O : Int) (hO : opT c.data.toList = O)
    (T : List UInt8) (hT : putT ⟨v0, v1, O, v2, v3⟩ = T) (hne : T ≠ s.data.toList) (E : Env w) :
    Calls Tryd.prog 13 #[.string s] w fun e w' => e = .returned (.tuple #[.agg #[.int .i64 0, .int .i64 0, .int .i64 0, .int .i64 0, .int .i64 0], .bool false]) ∧ Below w.heap.size w w' := by
  have hc : Lib.countB s ⟨#[32]⟩ + 1 = 5 := by have h1 := split_len s _ rfl; rw [h5] at h1; simpa using h1.symm
  have HP : Hid (((Lib.splitB ⟨#[32]⟩ 0 (Lib.countB s ⟨#[32]⟩) s).map Value.string).toArray = #[.string a, .string b, .string c, .string x, .string y]) := by
    show ((piecesB s).map Value.string).toArray = _
    rw [h5]; rfl
  have hsz : ∀ z ∈ piecesB s, z.size ≤ 1048577 := fun z hz => by have := pieces_size s _ s z hz; omega
  have HS : Hid (∀ z ∈ [a, b, x, y], z.size ≤ 1048577) := fun z hz => hsz z (by rw [h5]; simp at hz ⊢; (rcases hz with rfl | rfl | rfl | rfl <;> simp))
  have HV := Lib.hid h5
  have BW : Hid (Below w.heap.size w ((w.alloc (.cells #[.int .i64 0, .int .i64 0, .int .i64 0, .int .i64 0, .int .i64 0] 25)).alloc (.cells #[.string a, .string b, .string c, .string x, .string y] 9))) := below_alloc2 _ _ _
  have KW : Hid (Bkk ((w.alloc (.cells #[.int .i64 0, .int .i64 0, .int .i64 0, .int .i64 0, .int .i64 0] 25)).alloc (.cells #[.string a, .string b, .string c, .string x, .string y] 9)) (w.heap.size + 1) 9 #[.string a, .string b, .string c, .string x, .string y]) := by have := Bkk.new (t := 9) (cs := #[.string a, .string b, .string c, .string x, .string y]) (w.alloc (.cells #[.int .i64 0, .int .i64 0, .int .i64 0, .int .i64 0, .int .i64 0] 25)); simpa [Hid] using this
  have KR : Hid (Bkk ((w.alloc (.cells #[.int .i64 0, .int .i64 0, .int .i64 0, .int .i64 0, .int .i64 0] 25)).alloc (.cells #[.string a, .string b, .string c, .string x, .string y] 9)) w.heap.size 25 #[.int .i64 0, .int .i64 0, .int .i64 0, .int .i64 0, .int .i64 0]) := (Bkk.new (t := 25) (cs := #[.int .i64 0, .int .i64 0, .int .i64 0, .int .i64 0, .int .i64 0]) w).alloc _
  have HN := Lib.hid hN
  have HO := Lib.hid hO
  have HT := Lib.hid hT
  have hBW0 : Below w.heap.size w (w.alloc (.cells #[.int .i64 0, .int .i64 0, .int .i64 0, .int .i64 0, .int .i64 0] 25)) := (Below.refl _ _).alloc (Nat.le_refl _) _
  have hm0 : ∃ m, (w.alloc (.cells #[.int .i64 0, .int .i64 0, .int .i64 0, .int .i64 0, .int .i64 0] 25)).cell? ⟨1, 0, none⟩ = some (.int .i64 m) := (E.below hBW0).max
  obtain ⟨m, hm⟩ := hm0
  have HM := Lib.hid hm
  have E0 := Lib.hid E
  have e1 : (s.toList == [110, 111, 110, 101]) = false := by rw [beq_eq_false_iff_ne, toList_data]; exact hl
  have HC := Lib.hid hc
  clear hm h5 hN hsz hc E hO hT
  have e9 : (T == s.toList) = false := by rw [beq_eq_false_iff_ne, toList_data]; exact hne
  have e9' : (T != s.toList) = true := by simp [bne, e9]
  go_enter Tryd.func13, Tryd.ntmps13
  go_wp2_with (fail)
  refine (Tryd.strings_Split s ⟨#[32]⟩ m _ (by omega) HM.out (by decide)).mono ?_
  rintro e w' ⟨rfl, rfl⟩
  rw [HC.out, show ((Lib.splitB ⟨#[32]⟩ 0 (Lib.countB s ⟨#[32]⟩) s).map Value.string).toArray = _ from HP.out]
  go_wp2_with (fail)
  refine wp_region_held_drew (S := fun w1 => Below ((w.alloc (.cells #[.int .i64 0, .int .i64 0, .int .i64 0, .int .i64 0, .int .i64 0] 25)).alloc (.cells #[.string a, .string b, .string c, .string x, .string y] 9)).heap.size ((w.alloc (.cells #[.int .i64 0, .int .i64 0, .int .i64 0, .int .i64 0, .int .i64 0] 25)).alloc (.cells #[.string a, .string b, .string c, .string x, .string y] 9)) w1) (by kernel_rfl) ((Below.refl _ _).drew) (fun hH => ?_)
  refine takeD 0 18 (v := ?_) rfl rfl (by kernel_rfl) (by kernel_rfl) (by kernel_rfl) (fun _ _ _ h => h) (Or.inl ⟨by rfl, ?_⟩) (by assumption) ?_
  rotate_left
  · intro w1 hSw; obtain ⟨hcS, hfS⟩ := bcell hSw; go_simp; (try with_reducible rfl)
  (try simp only [Act.put, List.setIfInBounds_toArray, List.set_cons_zero, List.set_cons_succ])
  refine takeD 1 19 (v := ?_) rfl rfl (by kernel_rfl) (by kernel_rfl) (by kernel_rfl) (fun _ _ _ h => h) (Or.inl ⟨by rfl, ?_⟩) (by assumption) ?_
  rotate_left
  · intro w1 hSw; obtain ⟨hcS, hfS⟩ := bcell hSw; go_simp; (try with_reducible rfl)
  (try simp only [Act.put, List.setIfInBounds_toArray, List.set_cons_zero, List.set_cons_succ])
  refine takeD 2 20 (v := ?_) rfl rfl (by kernel_rfl) (by kernel_rfl) (by kernel_rfl) (fun _ _ _ h => h) (Or.inl ⟨by rfl, ?_⟩) (by assumption) ?_
  rotate_left
  · intro w1 hSw; obtain ⟨hcS, hfS⟩ := bcell hSw; go_simp; (try with_reducible rfl)
  (try simp only [Act.put, List.setIfInBounds_toArray, List.set_cons_zero, List.set_cons_succ])
  refine takeD 3 21 (v := ?_) rfl rfl (by kernel_rfl) (by kernel_rfl) (by kernel_rfl) (fun _ _ _ h => h) (Or.inl ⟨by rfl, ?_⟩) (by assumption) ?_
  rotate_left
  · intro w1 hSw; obtain ⟨hcS, hfS⟩ := bcell hSw; go_simp; (try with_reducible rfl)
  (try simp only [Act.put, List.setIfInBounds_toArray, List.set_cons_zero, List.set_cons_succ])
  refine takeD 4 22 (v := ?_) rfl rfl (by kernel_rfl) (by kernel_rfl) (by kernel_rfl) (fun _ _ _ h => h) (Or.inl ⟨by rfl, ?_⟩) (by assumption) ?_
  rotate_left
  · intro w1 hSw; obtain ⟨hcS, hfS⟩ := bcell hSw; go_simp; (try with_reducible rfl)
  (try simp only [Act.put, List.setIfInBounds_toArray, List.set_cons_zero, List.set_cons_succ])
  refine takeD 5 23 (v := ?_) rfl rfl (by kernel_rfl) (by kernel_rfl) (by kernel_rfl) (fun _ _ _ h => h) (Or.inl ⟨by rfl, ?_⟩) (by assumption) ?_
  rotate_left
  · intro w1 hSw; obtain ⟨hcS, hfS⟩ := bcell hSw; go_simp; (try with_reducible rfl)
  (try simp only [Act.put, List.setIfInBounds_toArray, List.set_cons_zero, List.set_cons_succ])
  refine takeD 6 24 (v := ?_) rfl rfl (by kernel_rfl) (by kernel_rfl) (by kernel_rfl) (fun _ _ _ h => h) (Or.inl ⟨by rfl, ?_⟩) (by assumption) ?_
  rotate_left
  · intro w1 hSw; obtain ⟨hcS, hfS⟩ := bcell hSw; go_simp; (try with_reducible rfl)
  (try simp only [Act.put, List.setIfInBounds_toArray, List.set_cons_zero, List.set_cons_succ])
  refine takeD 7 25 (v := ?_) rfl rfl (by kernel_rfl) (by kernel_rfl) (by kernel_rfl) (fun _ _ _ h => h) (Or.inl ⟨by rfl, ?_⟩) (by assumption) ?_
  rotate_left
  · intro w1 hSw; obtain ⟨hcS, hfS⟩ := bcell hSw; go_simp; (try with_reducible rfl)
  (try simp only [Act.put, List.setIfInBounds_toArray, List.set_cons_zero, List.set_cons_succ])
  refine takeD 8 26 (v := ?_) rfl rfl (by kernel_rfl) (by kernel_rfl) (by kernel_rfl) (fun _ _ _ h => h) (Or.inl ⟨by rfl, ?_⟩) (by assumption) ?_
  rotate_left
  · intro w1 hSw; obtain ⟨hcS, hfS⟩ := bcell hSw; go_simp; (try with_reducible rfl)
  (try simp only [Act.put, List.setIfInBounds_toArray, List.set_cons_zero, List.set_cons_succ])
  refine takeD 9 27 (v := ?_) rfl rfl (by kernel_rfl) (by kernel_rfl) (by kernel_rfl) (fun _ _ _ h => h) (Or.inl ⟨by rfl, ?_⟩) (by assumption) ?_
  rotate_left
  · intro w1 hSw; obtain ⟨hcS, hfS⟩ := bcell hSw; go_simp; (try with_reducible rfl)
  (try simp only [Act.put, List.setIfInBounds_toArray, List.set_cons_zero, List.set_cons_succ])
  refine takeD 10 28 (v := ?_) rfl rfl (by kernel_rfl) (by kernel_rfl) (by kernel_rfl) (fun _ _ _ h => h) (Or.inl ⟨by rfl, ?_⟩) (by assumption) ?_
  rotate_left
  · intro w1 hSw; obtain ⟨hcS, hfS⟩ := bcell hSw; go_simp; (try with_reducible rfl)
  (try simp only [Act.put, List.setIfInBounds_toArray, List.set_cons_zero, List.set_cons_succ])
  refine takeD 11 29 (v := ?_) rfl rfl (by kernel_rfl) (by kernel_rfl) (by kernel_rfl) (fun _ _ _ h => h) (Or.inl ⟨by rfl, ?_⟩) (by assumption) ?_
  rotate_left
  · intro w1 hSw; obtain ⟨hcS, hfS⟩ := bcell hSw; go_simp; (try with_reducible rfl)
  (try simp only [Act.put, List.setIfInBounds_toArray, List.set_cons_zero, List.set_cons_succ])
  refine wpAnyH_ready (rs := [12]) (by kernel_rfl) (by simp) ?_
  refine AllReadyH.cons rfl (fun K hK => ?_) AllReadyH.nil
  go_simp
  refine hK.out _ _ (hH.alloc hH.size _) (fun hH2 => ?_)
  clear hK K
  (try simp only [Act.put, List.setIfInBounds_toArray, List.set_cons_zero, List.set_cons_succ])
  refine wpAnyH_ready (rs := [13]) (by kernel_rfl) (by simp) ?_
  refine AllReadyH.cons rfl (fun K hK => ?_) AllReadyH.nil
  go_simp
  refine (readYes _ 4 [a, b, x, y] [v0, v1, v2, v3] _ HN.out (by simp) ?_ HS.out (E0.out.below (Below.and BW.out hH2))).mono ?_
  · exact rds4 _ _ a b x y (by have h := heap_alloc_new ((w.alloc (.cells #[.int .i64 0, .int .i64 0, .int .i64 0, .int .i64 0, .int .i64 0] 25)).alloc (.cells #[.string a, .string b, .string c, .string x, .string y] 9)) (.cells #[.string a, .string b, .string x, .string y] 9); rw [show ((w.alloc (.cells #[.int .i64 0, .int .i64 0, .int .i64 0, .int .i64 0, .int .i64 0] 25)).alloc (.cells #[.string a, .string b, .string c, .string x, .string y] 9)).heap.size = w.heap.size + 1 + 1 by simp] at h; exact h)
  rintro e w3 ⟨B, d, rfl, ho, hb⟩
  refine hK.out _ _ (Below.and hH2 hb) (fun hH3 => ?_)
  clear hK K
  (try simp only [Act.put, List.setIfInBounds_toArray, List.set_cons_zero, List.set_cons_succ])
  refine takeD 14 17 (v := ?_) rfl rfl (by kernel_rfl) (by kernel_rfl) (by kernel_rfl) (fun _ _ _ h => h) (Or.inl ⟨by rfl, ?_⟩) (by assumption) ?_
  rotate_left
  · intro w1 hSw; obtain ⟨hcS, hfS⟩ := bcell hSw; go_simp; (try with_reducible rfl)
  (try simp only [Act.put, List.setIfInBounds_toArray, List.set_cons_zero, List.set_cons_succ])
  refine takeD 15 32 (v := ?_) rfl rfl (by kernel_rfl) (by kernel_rfl) (by kernel_rfl) (fun _ _ _ h => h) (Or.inl ⟨by rfl, ?_⟩) (by assumption) ?_
  rotate_left
  · intro w1 hSw; obtain ⟨hcS, hfS⟩ := bcell hSw; go_simp; (try with_reducible rfl)
  (try simp only [Act.put, List.setIfInBounds_toArray, List.set_cons_zero, List.set_cons_succ])
  refine takeD 16 33 (v := ?_) rfl rfl (by kernel_rfl) (by kernel_rfl) (by kernel_rfl) (fun _ _ _ h => h) (Or.inl ⟨by rfl, ?_⟩) (by assumption) ?_
  rotate_left
  · intro w1 hSw; obtain ⟨hcS, hfS⟩ := bcell hSw; go_simp; (try with_reducible rfl)
  (try simp only [Act.put, List.setIfInBounds_toArray, List.set_cons_zero, List.set_cons_succ])
  refine takeD 17 5 (v := ?_) rfl rfl (by kernel_rfl) (by kernel_rfl) (by kernel_rfl) (fun _ _ _ h => h) (Or.inl ⟨by rfl, ?_⟩) (by assumption) ?_
  rotate_left
  · intro w1 hSw; obtain ⟨hcS, hfS⟩ := bcell hSw; go_simp; (try with_reducible rfl)
  (try simp only [Act.put, List.setIfInBounds_toArray, List.set_cons_zero, List.set_cons_succ])
  refine takeD 18 6 (v := ?_) rfl rfl (by kernel_rfl) (by kernel_rfl) (by kernel_rfl) (fun _ _ _ h => h) (Or.inl ⟨by rfl, ?_⟩) (by assumption) ?_
  rotate_left
  · intro w1 hSw; obtain ⟨hcS, hfS⟩ := bcell hSw; go_simp; (try with_reducible rfl)
  (try simp only [Act.put, List.setIfInBounds_toArray, List.set_cons_zero, List.set_cons_succ])
  refine wpAnyH_done (by kernel_rfl) ?_ _
  have BX := Lib.hid (Below.and BW.out hH3)
  have KR := Lib.hid (KR.out.below hH3)
  have KW := Lib.hid (KW.out.below hH3)
  obtain ⟨q, rfl, hq0, hq1⟩ := own_some ho (by simp)
  have j0 : w3.cell? ⟨q, 0, none⟩ = some (.int .i64 v0) := (ho.cellAt 0 (by simp)).trans rfl
  have j1 : w3.cell? ⟨q, 1, none⟩ = some (.int .i64 v1) := (ho.cellAt 1 (by simp)).trans rfl
  have j2 : w3.cell? ⟨q, 2, none⟩ = some (.int .i64 v2) := (ho.cellAt 2 (by simp)).trans rfl
  have j3 : w3.cell? ⟨q, 3, none⟩ = some (.int .i64 v3) := (ho.cellAt 3 (by simp)).trans rfl
  have k2 : w3.cell? ⟨w.heap.size + 1, 2, none⟩ = some (.string c) := KW.out.cell 2
  have kl : w.heap.size + 1 < w3.heap.size := KW.out.lt
  have KR3 := Lib.hid KR.out.lt
  clear hH hH2 hH3 hBW0 ho hb hq0
  go_wp2_with (fail)
  refine wp_region_held_drew (S := fun w1 => Below w3.heap.size w3 w1) (by kernel_rfl) ((Below.refl _ _).drew) (fun hH => ?_)
  refine takeD 0 37 (v := ?_) rfl rfl (by kernel_rfl) (by kernel_rfl) (by kernel_rfl) (fun _ _ _ h => h) (Or.inl ⟨by rfl, ?_⟩) (by assumption) ?_
  rotate_left
  · intro w1 hSw; obtain ⟨hcS, hfS⟩ := bcell hSw; go_simp; (try with_reducible rfl)
  (try simp only [Act.put, List.setIfInBounds_toArray, List.set_cons_zero, List.set_cons_succ])
  refine takeD 1 38 (v := ?_) rfl rfl (by kernel_rfl) (by kernel_rfl) (by kernel_rfl) (fun _ _ _ h => h) (Or.inl ⟨by rfl, ?_⟩) (by assumption) ?_
  rotate_left
  · intro w1 hSw; obtain ⟨hcS, hfS⟩ := bcell hSw; go_simp; (try with_reducible rfl)
  (try simp only [Act.put, List.setIfInBounds_toArray, List.set_cons_zero, List.set_cons_succ])
  refine takeD 2 39 (v := ?_) rfl rfl (by kernel_rfl) (by kernel_rfl) (by kernel_rfl) (fun _ _ _ h => h) (Or.inl ⟨by rfl, ?_⟩) (by assumption) ?_
  rotate_left
  · intro w1 hSw; obtain ⟨hcS, hfS⟩ := bcell hSw; go_simp; (try with_reducible rfl)
  (try simp only [Act.put, List.setIfInBounds_toArray, List.set_cons_zero, List.set_cons_succ])
  refine takeD 3 40 (v := ?_) rfl rfl (by kernel_rfl) (by kernel_rfl) (by kernel_rfl) (fun _ _ _ h => h) (Or.inl ⟨by rfl, ?_⟩) (by assumption) ?_
  rotate_left
  · intro w1 hSw; obtain ⟨hcS, hfS⟩ := bcell hSw; go_simp; (try with_reducible rfl)
  (try simp only [Act.put, List.setIfInBounds_toArray, List.set_cons_zero, List.set_cons_succ])
  refine takeD 4 41 (v := ?_) rfl rfl (by kernel_rfl) (by kernel_rfl) (by kernel_rfl) (fun _ _ _ h => h) (Or.inl ⟨by rfl, ?_⟩) (by assumption) ?_
  rotate_left
  · intro w1 hSw; obtain ⟨hcS, hfS⟩ := bcell hSw; go_simp; (try with_reducible rfl)
  (try simp only [Act.put, List.setIfInBounds_toArray, List.set_cons_zero, List.set_cons_succ])
  refine takeD 5 42 (v := ?_) rfl rfl (by kernel_rfl) (by kernel_rfl) (by kernel_rfl) (fun _ _ _ h => h) (Or.inl ⟨by rfl, ?_⟩) (by assumption) ?_
  rotate_left
  · intro w1 hSw; obtain ⟨hcS, hfS⟩ := bcell hSw; go_simp; (try with_reducible rfl)
  (try simp only [Act.put, List.setIfInBounds_toArray, List.set_cons_zero, List.set_cons_succ])
  refine takeD 6 43 (v := ?_) rfl rfl (by kernel_rfl) (by kernel_rfl) (by kernel_rfl) (fun _ _ _ h => h) (Or.inl ⟨by rfl, ?_⟩) (by assumption) ?_
  rotate_left
  · intro w1 hSw; obtain ⟨hcS, hfS⟩ := bcell hSw; go_simp; (try with_reducible rfl)
  (try simp only [Act.put, List.setIfInBounds_toArray, List.set_cons_zero, List.set_cons_succ])
  refine takeD 7 44 (v := ?_) rfl rfl (by kernel_rfl) (by kernel_rfl) (by kernel_rfl) (fun _ _ _ h => h) (Or.inl ⟨by rfl, ?_⟩) (by assumption) ?_
  rotate_left
  · intro w1 hSw; obtain ⟨hcS, hfS⟩ := bcell hSw; go_simp; (try with_reducible rfl)
  (try simp only [Act.put, List.setIfInBounds_toArray, List.set_cons_zero, List.set_cons_succ])
  refine takeD 8 45 (v := ?_) rfl rfl (by kernel_rfl) (by kernel_rfl) (by kernel_rfl) (fun _ _ _ h => h) (Or.inl ⟨by rfl, ?_⟩) (by assumption) ?_
  rotate_left
  · intro w1 hSw; obtain ⟨hcS, hfS⟩ := bcell hSw; go_simp; (try with_reducible rfl)
  (try simp only [Act.put, List.setIfInBounds_toArray, List.set_cons_zero, List.set_cons_succ])
  refine takeD 10 47 (v := ?_) rfl rfl (by kernel_rfl) (by kernel_rfl) (by kernel_rfl) (fun _ _ _ h => h) (Or.inl ⟨by rfl, ?_⟩) (by assumption) ?_
  rotate_left
  · intro w1 hSw; obtain ⟨hcS, hfS⟩ := bcell hSw; go_simp; (try with_reducible rfl)
  (try simp only [Act.put, List.setIfInBounds_toArray, List.set_cons_zero, List.set_cons_succ])
  refine takeD 11 48 (v := ?_) rfl rfl (by kernel_rfl) (by kernel_rfl) (by kernel_rfl) (fun _ _ _ h => h) (Or.inl ⟨by rfl, ?_⟩) (by assumption) ?_
  rotate_left
  · intro w1 hSw; obtain ⟨hcS, hfS⟩ := bcell hSw; go_simp; (try with_reducible rfl)
  (try simp only [Act.put, List.setIfInBounds_toArray, List.set_cons_zero, List.set_cons_succ])
  refine takeD 12 49 (v := ?_) rfl rfl (by kernel_rfl) (by kernel_rfl) (by kernel_rfl) (fun _ _ _ h => h) (Or.inl ⟨by rfl, ?_⟩) (by assumption) ?_
  rotate_left
  · intro w1 hSw; obtain ⟨hcS, hfS⟩ := bcell hSw; go_simp; (try with_reducible rfl)
  (try simp only [Act.put, List.setIfInBounds_toArray, List.set_cons_zero, List.set_cons_succ])
  refine takeD 13 50 (v := ?_) rfl rfl (by kernel_rfl) (by kernel_rfl) (by kernel_rfl) (fun _ _ _ h => h) (Or.inl ⟨by rfl, ?_⟩) (by assumption) ?_
  rotate_left
  · intro w1 hSw; obtain ⟨hcS, hfS⟩ := bcell hSw; go_simp; (try with_reducible rfl)
  (try simp only [Act.put, List.setIfInBounds_toArray, List.set_cons_zero, List.set_cons_succ])
  refine takeD 14 51 (v := ?_) rfl rfl (by kernel_rfl) (by kernel_rfl) (by kernel_rfl) (fun _ _ _ h => h) (Or.inl ⟨by rfl, ?_⟩) (by assumption) ?_
  rotate_left
  · intro w1 hSw; obtain ⟨hcS, hfS⟩ := bcell hSw; go_simp; (try with_reducible rfl)
  (try simp only [Act.put, List.setIfInBounds_toArray, List.set_cons_zero, List.set_cons_succ])
  refine takeD 15 52 (v := ?_) rfl rfl (by kernel_rfl) (by kernel_rfl) (by kernel_rfl) (fun _ _ _ h => h) (Or.inl ⟨by rfl, ?_⟩) (by assumption) ?_
  rotate_left
  · intro w1 hSw; obtain ⟨hcS, hfS⟩ := bcell hSw; go_simp; (try with_reducible rfl)
  (try simp only [Act.put, List.setIfInBounds_toArray, List.set_cons_zero, List.set_cons_succ])
  refine wpAnyH_ready (rs := [9, 17]) (by kernel_rfl) (by simp) ?_
  refine AllReadyH.cons rfl (fun K hK => ?_) (AllReadyH.cons rfl (fun K hK => ?_) AllReadyH.nil)
  · go_simp
    refine (opOf c _).mono ?_
    rintro e w4 ⟨rfl, hb⟩
    rw [HO.out]
    refine hK.out _ _ (Below.and hH hb) (fun hH2 => ?_)
    clear hK K
    (try simp only [Act.put, List.setIfInBounds_toArray, List.set_cons_zero, List.set_cons_succ])
    refine takeD 16 53 (v := ?_) rfl rfl (by kernel_rfl) (by kernel_rfl) (by kernel_rfl) (fun _ _ _ h => h) (Or.inl ⟨by rfl, ?_⟩) (by assumption) ?_
    rotate_left
    · intro w1 hSw; obtain ⟨hcS, hfS⟩ := bcell hSw; go_simp; (try with_reducible rfl)
    (try simp only [Act.put, List.setIfInBounds_toArray, List.set_cons_zero, List.set_cons_succ])
    refine wpAnyH_ready (rs := [17]) (by kernel_rfl) (by simp) ?_
    refine AllReadyH.cons rfl (fun K hK => ?_) AllReadyH.nil
    go_simp
    refine hK.out _ _ (hH2.alloc hH2.size _) (fun hH3 => ?_)
    clear hK K
    (try simp only [Act.put, List.setIfInBounds_toArray, List.set_cons_zero, List.set_cons_succ])
    refine wpAnyH_ready (rs := [18]) (by kernel_rfl) (by simp) ?_
    refine AllReadyH.cons rfl (fun K hK => ?_) AllReadyH.nil
    go_simp
    refine hK.out _ _ (hH2.alloc hH2.size _) (fun hH4 => ?_)
    clear hK K
    (try simp only [Act.put, List.setIfInBounds_toArray, List.set_cons_zero, List.set_cons_succ])
    refine wpAnyH_done (by kernel_rfl) ?_ _
    have BX : Hid (Below w.heap.size w (w4.alloc (.cells #[.int .i64 v0, .int .i64 v1, .int .i64 O, .int .i64 v2, .int .i64 v3] 25))) := (Below.and BX.out hH2).alloc (Below.and BX.out hH2).size _
    have KP : Hid (Bkk (w4.alloc (.cells #[.int .i64 v0, .int .i64 v1, .int .i64 O, .int .i64 v2, .int .i64 v3] 25)) w4.heap.size 25 #[.int .i64 v0, .int .i64 v1, .int .i64 O, .int .i64 v2, .int .i64 v3]) := Bkk.new w4
    have KR : Hid (Bkk (w4.alloc (.cells #[.int .i64 v0, .int .i64 v1, .int .i64 O, .int .i64 v2, .int .i64 v3] 25)) w.heap.size 25 #[.int .i64 0, .int .i64 0, .int .i64 0, .int .i64 0, .int .i64 0]) := (KR.out.below hH2).alloc _
    have p0 : (w4.alloc (.cells #[.int .i64 v0, .int .i64 v1, .int .i64 O, .int .i64 v2, .int .i64 v3] 25)).cell? ⟨w4.heap.size, 0, none⟩ = some (.int .i64 v0) := KP.out.cell 0
    have p1 : (w4.alloc (.cells #[.int .i64 v0, .int .i64 v1, .int .i64 O, .int .i64 v2, .int .i64 v3] 25)).cell? ⟨w4.heap.size, 1, none⟩ = some (.int .i64 v1) := KP.out.cell 1
    have p2 : (w4.alloc (.cells #[.int .i64 v0, .int .i64 v1, .int .i64 O, .int .i64 v2, .int .i64 v3] 25)).cell? ⟨w4.heap.size, 2, none⟩ = some (.int .i64 O) := KP.out.cell 2
    have p3 : (w4.alloc (.cells #[.int .i64 v0, .int .i64 v1, .int .i64 O, .int .i64 v2, .int .i64 v3] 25)).cell? ⟨w4.heap.size, 3, none⟩ = some (.int .i64 v2) := KP.out.cell 3
    have p4 : (w4.alloc (.cells #[.int .i64 v0, .int .i64 v1, .int .i64 O, .int .i64 v2, .int .i64 v3] 25)).cell? ⟨w4.heap.size, 4, none⟩ = some (.int .i64 v3) := KP.out.cell 4
    go_wp2_with (fail)
    refine (implReqPut ⟨v0, v1, O, v2, v3⟩ _ ((E0.out.below BX.out).tab)).mono ?_
    rintro e w6 ⟨rfl, hb6⟩
    rw [HT.out]
    have BX := Lib.hid (Below.and BX.out hb6)
    have KP := Lib.hid (KP.out.below hb6)
    have KR := Lib.hid (KR.out.below hb6)
    clear hb6 p0 p1 p2 p3 p4
    have p0 : w6.cell? ⟨w4.heap.size, 0, none⟩ = some (.int .i64 v0) := KP.out.cell 0
    have p1 : w6.cell? ⟨w4.heap.size, 1, none⟩ = some (.int .i64 v1) := KP.out.cell 1
    have p2 : w6.cell? ⟨w4.heap.size, 2, none⟩ = some (.int .i64 O) := KP.out.cell 2
    have p3 : w6.cell? ⟨w4.heap.size, 3, none⟩ = some (.int .i64 v2) := KP.out.cell 3
    have p4 : w6.cell? ⟨w4.heap.size, 4, none⟩ = some (.int .i64 v3) := KP.out.cell 4
    have z0 : w6.cell? ⟨w.heap.size, 0, none⟩ = some (.int .i64 0) := KR.out.cell 0
    have z1 : w6.cell? ⟨w.heap.size, 1, none⟩ = some (.int .i64 0) := KR.out.cell 1
    have z2 : w6.cell? ⟨w.heap.size, 2, none⟩ = some (.int .i64 0) := KR.out.cell 2
    have z3 : w6.cell? ⟨w.heap.size, 3, none⟩ = some (.int .i64 0) := KR.out.cell 3
    have z4 : w6.cell? ⟨w.heap.size, 4, none⟩ = some (.int .i64 0) := KR.out.cell 4
    have zf := KR.out.frozen
    have zl := KR.out.lt
    have zb : w.heap.size ≤ w6.heap.size := BX.out.size
    go_wp2
    refine bodyPost_ret (v := .tuple #[.agg #[.int .i64 0, .int .i64 0, .int .i64 0, .int .i64 0, .int .i64 0], .bool false]) (by simp [results, Tryd.results13, go_sem, z0, z1, z2, z3, z4]) rfl ⟨rfl, ?_⟩
    iterate 5 (refine Below.setCell ?_ (by first | (simp; done) | (simp; omega)) _)
    exact BX.out
  · go_simp
    refine hK.out _ _ (hH.alloc hH.size _) (fun hH2 => ?_)
    clear hK K
    (try simp only [Act.put, List.setIfInBounds_toArray, List.set_cons_zero, List.set_cons_succ])
    refine wpAnyH_ready (rs := [9]) (by kernel_rfl) (by simp) ?_
    refine AllReadyH.cons rfl (fun K hK => ?_) AllReadyH.nil
    go_simp
    refine (opOf c _).mono ?_
    rintro e w4 ⟨rfl, hb⟩
    rw [HO.out]
    have KZ : Hid (Bkk w4 w3.heap.size 25 #[.int .i64 0, .int .i64 0, .int .i64 0, .int .i64 0, .int .i64 0]) := ((Bkk.new (t := 25) (cs := #[.int .i64 0, .int .i64 0, .int .i64 0, .int .i64 0, .int .i64 0]) w3).below (below_undrew' hb))
    refine hK.out _ _ (Below.and hH2 hb) (fun hH3 => ?_)
    clear hK K
    (try simp only [Act.put, List.setIfInBounds_toArray, List.set_cons_zero, List.set_cons_succ])
    refine takeD 16 53 (v := ?_) rfl rfl (by kernel_rfl) (by kernel_rfl) (by kernel_rfl) (fun _ _ _ h => h) (Or.inl ⟨by rfl, ?_⟩) (by assumption) ?_
    rotate_left
    · intro w1 hSw; obtain ⟨hcS, hfS⟩ := bcell hSw; go_simp; (try with_reducible rfl)
    (try simp only [Act.put, List.setIfInBounds_toArray, List.set_cons_zero, List.set_cons_succ])
    have y0 : w4.cell? ⟨w3.heap.size, 0, none⟩ = some (.int .i64 0) := KZ.out.cell 0
    have y1 : w4.cell? ⟨w3.heap.size, 1, none⟩ = some (.int .i64 0) := KZ.out.cell 1
    have y2 : w4.cell? ⟨w3.heap.size, 2, none⟩ = some (.int .i64 0) := KZ.out.cell 2
    have y3 : w4.cell? ⟨w3.heap.size, 3, none⟩ = some (.int .i64 0) := KZ.out.cell 3
    have y4 : w4.cell? ⟨w3.heap.size, 4, none⟩ = some (.int .i64 0) := KZ.out.cell 4
    have yf := KZ.out.frozen
    have yl := KZ.out.lt
    refine wpAnyH_ready (rs := [18]) (by kernel_rfl) (by simp) ?_
    refine AllReadyH.cons rfl (fun K hK => ?_) AllReadyH.nil
    go_simp
    refine hK.out _ _ (Below.stor5 _ _ _ _ _ (Nat.le_refl _) hH3) (fun hH4 => ?_)
    clear hK K
    (try simp only [Act.put, List.setIfInBounds_toArray, List.set_cons_zero, List.set_cons_succ])
    refine wpAnyH_done (by kernel_rfl) ?_ _
    clear y0 y1 y2 y3 y4 yf
    have BX : Hid (Below w.heap.size w (((((w4.setCell ⟨w3.heap.size, 0, none⟩ (.int .i64 v0)).setCell ⟨w3.heap.size, 1, none⟩ (.int .i64 v1)).setCell ⟨w3.heap.size, 2, none⟩ (.int .i64 O)).setCell ⟨w3.heap.size, 3, none⟩ (.int .i64 v2)).setCell ⟨w3.heap.size, 4, none⟩ (.int .i64 v3))) := Below.stor5 _ _ _ _ _ BX.out.size (Below.and BX.out hH3)
    have KP : Hid (Bkk (((((w4.setCell ⟨w3.heap.size, 0, none⟩ (.int .i64 v0)).setCell ⟨w3.heap.size, 1, none⟩ (.int .i64 v1)).setCell ⟨w3.heap.size, 2, none⟩ (.int .i64 O)).setCell ⟨w3.heap.size, 3, none⟩ (.int .i64 v2)).setCell ⟨w3.heap.size, 4, none⟩ (.int .i64 v3)) w3.heap.size 25 #[.int .i64 v0, .int .i64 v1, .int .i64 O, .int .i64 v2, .int .i64 v3]) := Bkk.stor5 _ _ _ _ _ KZ.out
    have KR : Hid (Bkk (((((w4.setCell ⟨w3.heap.size, 0, none⟩ (.int .i64 v0)).setCell ⟨w3.heap.size, 1, none⟩ (.int .i64 v1)).setCell ⟨w3.heap.size, 2, none⟩ (.int .i64 O)).setCell ⟨w3.heap.size, 3, none⟩ (.int .i64 v2)).setCell ⟨w3.heap.size, 4, none⟩ (.int .i64 v3)) w.heap.size 25 #[.int .i64 0, .int .i64 0, .int .i64 0, .int .i64 0, .int .i64 0]) := Bkk.awa5 _ _ _ _ _ (Nat.ne_of_lt KR3.out) (KR.out.below hH3)
    have p0 : (((((w4.setCell ⟨w3.heap.size, 0, none⟩ (.int .i64 v0)).setCell ⟨w3.heap.size, 1, none⟩ (.int .i64 v1)).setCell ⟨w3.heap.size, 2, none⟩ (.int .i64 O)).setCell ⟨w3.heap.size, 3, none⟩ (.int .i64 v2)).setCell ⟨w3.heap.size, 4, none⟩ (.int .i64 v3)).cell? ⟨w3.heap.size, 0, none⟩ = some (.int .i64 v0) := KP.out.cell 0
    have p1 : (((((w4.setCell ⟨w3.heap.size, 0, none⟩ (.int .i64 v0)).setCell ⟨w3.heap.size, 1, none⟩ (.int .i64 v1)).setCell ⟨w3.heap.size, 2, none⟩ (.int .i64 O)).setCell ⟨w3.heap.size, 3, none⟩ (.int .i64 v2)).setCell ⟨w3.heap.size, 4, none⟩ (.int .i64 v3)).cell? ⟨w3.heap.size, 1, none⟩ = some (.int .i64 v1) := KP.out.cell 1
    have p2 : (((((w4.setCell ⟨w3.heap.size, 0, none⟩ (.int .i64 v0)).setCell ⟨w3.heap.size, 1, none⟩ (.int .i64 v1)).setCell ⟨w3.heap.size, 2, none⟩ (.int .i64 O)).setCell ⟨w3.heap.size, 3, none⟩ (.int .i64 v2)).setCell ⟨w3.heap.size, 4, none⟩ (.int .i64 v3)).cell? ⟨w3.heap.size, 2, none⟩ = some (.int .i64 O) := KP.out.cell 2
    have p3 : (((((w4.setCell ⟨w3.heap.size, 0, none⟩ (.int .i64 v0)).setCell ⟨w3.heap.size, 1, none⟩ (.int .i64 v1)).setCell ⟨w3.heap.size, 2, none⟩ (.int .i64 O)).setCell ⟨w3.heap.size, 3, none⟩ (.int .i64 v2)).setCell ⟨w3.heap.size, 4, none⟩ (.int .i64 v3)).cell? ⟨w3.heap.size, 3, none⟩ = some (.int .i64 v2) := KP.out.cell 3
    have p4 : (((((w4.setCell ⟨w3.heap.size, 0, none⟩ (.int .i64 v0)).setCell ⟨w3.heap.size, 1, none⟩ (.int .i64 v1)).setCell ⟨w3.heap.size, 2, none⟩ (.int .i64 O)).setCell ⟨w3.heap.size, 3, none⟩ (.int .i64 v2)).setCell ⟨w3.heap.size, 4, none⟩ (.int .i64 v3)).cell? ⟨w3.heap.size, 4, none⟩ = some (.int .i64 v3) := KP.out.cell 4
    go_wp2_with (fail)
    refine (implReqPut ⟨v0, v1, O, v2, v3⟩ _ ((E0.out.below BX.out).tab)).mono ?_
    rintro e w6 ⟨rfl, hb6⟩
    rw [HT.out]
    have BX := Lib.hid (Below.and BX.out hb6)
    have KP := Lib.hid (KP.out.below hb6)
    have KR := Lib.hid (KR.out.below hb6)
    clear hb6 p0 p1 p2 p3 p4
    have p0 : w6.cell? ⟨w3.heap.size, 0, none⟩ = some (.int .i64 v0) := KP.out.cell 0
    have p1 : w6.cell? ⟨w3.heap.size, 1, none⟩ = some (.int .i64 v1) := KP.out.cell 1
    have p2 : w6.cell? ⟨w3.heap.size, 2, none⟩ = some (.int .i64 O) := KP.out.cell 2
    have p3 : w6.cell? ⟨w3.heap.size, 3, none⟩ = some (.int .i64 v2) := KP.out.cell 3
    have p4 : w6.cell? ⟨w3.heap.size, 4, none⟩ = some (.int .i64 v3) := KP.out.cell 4
    have z0 : w6.cell? ⟨w.heap.size, 0, none⟩ = some (.int .i64 0) := KR.out.cell 0
    have z1 : w6.cell? ⟨w.heap.size, 1, none⟩ = some (.int .i64 0) := KR.out.cell 1
    have z2 : w6.cell? ⟨w.heap.size, 2, none⟩ = some (.int .i64 0) := KR.out.cell 2
    have z3 : w6.cell? ⟨w.heap.size, 3, none⟩ = some (.int .i64 0) := KR.out.cell 3
    have z4 : w6.cell? ⟨w.heap.size, 4, none⟩ = some (.int .i64 0) := KR.out.cell 4
    have zf := KR.out.frozen
    have zl := KR.out.lt
    have zb : w.heap.size ≤ w6.heap.size := BX.out.size
    go_wp2
    refine bodyPost_ret (v := .tuple #[.agg #[.int .i64 0, .int .i64 0, .int .i64 0, .int .i64 0, .int .i64 0], .bool false]) (by simp [results, Tryd.results13, go_sem, z0, z1, z2, z3, z4]) rfl ⟨rfl, ?_⟩
    iterate 5 (refine Below.setCell ?_ (by first | (simp; done) | (simp; omega)) _)
    exact BX.out

set_option maxRecDepth 100000 in
set_option maxHeartbeats 8000000 in
theorem implGet_yes (s a b c x y : ByteArray) (v0 v1 v2 v3 : Int) (w : World) (hs : s.size ≤ 1048576) (hl : s.data.toList ≠ [110, 111, 110, 101]) (h5 : piecesB s = [a, b, c, x, y]) (hN : Nums [a, b, x, y] [v0, v1, v2, v3]) (O : Int) (hO : opT c.data.toList = O)
    (T : List UInt8) (hT : putT ⟨v0, v1, O, v2, v3⟩ = T) (heq : T = s.data.toList) (E : Env w) :
    Calls Tryd.prog 13 #[.string s] w fun e w' => e = .returned (.tuple #[.agg #[.int .i64 v0, .int .i64 v1, .int .i64 O, .int .i64 v2, .int .i64 v3], .bool true]) ∧ Below w.heap.size w w' := by
  have hc : Lib.countB s ⟨#[32]⟩ + 1 = 5 := by have h1 := split_len s _ rfl; rw [h5] at h1; simpa using h1.symm
  have HP : Hid (((Lib.splitB ⟨#[32]⟩ 0 (Lib.countB s ⟨#[32]⟩) s).map Value.string).toArray = #[.string a, .string b, .string c, .string x, .string y]) := by
    show ((piecesB s).map Value.string).toArray = _
    rw [h5]; rfl
  have hsz : ∀ z ∈ piecesB s, z.size ≤ 1048577 := fun z hz => by have := pieces_size s _ s z hz; omega
  have HS : Hid (∀ z ∈ [a, b, x, y], z.size ≤ 1048577) := fun z hz => hsz z (by rw [h5]; simp at hz ⊢; (rcases hz with rfl | rfl | rfl | rfl <;> simp))
  have HV := Lib.hid h5
  have BW : Hid (Below w.heap.size w ((w.alloc (.cells #[.int .i64 0, .int .i64 0, .int .i64 0, .int .i64 0, .int .i64 0] 25)).alloc (.cells #[.string a, .string b, .string c, .string x, .string y] 9))) := below_alloc2 _ _ _
  have KW : Hid (Bkk ((w.alloc (.cells #[.int .i64 0, .int .i64 0, .int .i64 0, .int .i64 0, .int .i64 0] 25)).alloc (.cells #[.string a, .string b, .string c, .string x, .string y] 9)) (w.heap.size + 1) 9 #[.string a, .string b, .string c, .string x, .string y]) := by have := Bkk.new (t := 9) (cs := #[.string a, .string b, .string c, .string x, .string y]) (w.alloc (.cells #[.int .i64 0, .int .i64 0, .int .i64 0, .int .i64 0, .int .i64 0] 25)); simpa [Hid] using this
  have KR : Hid (Bkk ((w.alloc (.cells #[.int .i64 0, .int .i64 0, .int .i64 0, .int .i64 0, .int .i64 0] 25)).alloc (.cells #[.string a, .string b, .string c, .string x, .string y] 9)) w.heap.size 25 #[.int .i64 0, .int .i64 0, .int .i64 0, .int .i64 0, .int .i64 0]) := (Bkk.new (t := 25) (cs := #[.int .i64 0, .int .i64 0, .int .i64 0, .int .i64 0, .int .i64 0]) w).alloc _
  have HN := Lib.hid hN
  have HO := Lib.hid hO
  have HT := Lib.hid hT
  have hBW0 : Below w.heap.size w (w.alloc (.cells #[.int .i64 0, .int .i64 0, .int .i64 0, .int .i64 0, .int .i64 0] 25)) := (Below.refl _ _).alloc (Nat.le_refl _) _
  have hm0 : ∃ m, (w.alloc (.cells #[.int .i64 0, .int .i64 0, .int .i64 0, .int .i64 0, .int .i64 0] 25)).cell? ⟨1, 0, none⟩ = some (.int .i64 m) := (E.below hBW0).max
  obtain ⟨m, hm⟩ := hm0
  have HM := Lib.hid hm
  have E0 := Lib.hid E
  have e1 : (s.toList == [110, 111, 110, 101]) = false := by rw [beq_eq_false_iff_ne, toList_data]; exact hl
  have HC := Lib.hid hc
  clear hm h5 hN hsz hc E hO hT
  have e9 : (T == s.toList) = true := by rw [toList_data, heq]; simp
  have e9' : (T != s.toList) = false := by simp [bne, e9]
  clear heq
  go_enter Tryd.func13, Tryd.ntmps13
  go_wp2_with (fail)
  refine (Tryd.strings_Split s ⟨#[32]⟩ m _ (by omega) HM.out (by decide)).mono ?_
  rintro e w' ⟨rfl, rfl⟩
  rw [HC.out, show ((Lib.splitB ⟨#[32]⟩ 0 (Lib.countB s ⟨#[32]⟩) s).map Value.string).toArray = _ from HP.out]
  go_wp2_with (fail)
  refine wp_region_held_drew (S := fun w1 => Below ((w.alloc (.cells #[.int .i64 0, .int .i64 0, .int .i64 0, .int .i64 0, .int .i64 0] 25)).alloc (.cells #[.string a, .string b, .string c, .string x, .string y] 9)).heap.size ((w.alloc (.cells #[.int .i64 0, .int .i64 0, .int .i64 0, .int .i64 0, .int .i64 0] 25)).alloc (.cells #[.string a, .string b, .string c, .string x, .string y] 9)) w1) (by kernel_rfl) ((Below.refl _ _).drew) (fun hH => ?_)
  refine takeD 0 18 (v := ?_) rfl rfl (by kernel_rfl) (by kernel_rfl) (by kernel_rfl) (fun _ _ _ h => h) (Or.inl ⟨by rfl, ?_⟩) (by assumption) ?_
  rotate_left
  · intro w1 hSw; obtain ⟨hcS, hfS⟩ := bcell hSw; go_simp; (try with_reducible rfl)
  (try simp only [Act.put, List.setIfInBounds_toArray, List.set_cons_zero, List.set_cons_succ])
  refine takeD 1 19 (v := ?_) rfl rfl (by kernel_rfl) (by kernel_rfl) (by kernel_rfl) (fun _ _ _ h => h) (Or.inl ⟨by rfl, ?_⟩) (by assumption) ?_
  rotate_left
  · intro w1 hSw; obtain ⟨hcS, hfS⟩ := bcell hSw; go_simp; (try with_reducible rfl)
  (try simp only [Act.put, List.setIfInBounds_toArray, List.set_cons_zero, List.set_cons_succ])
  refine takeD 2 20 (v := ?_) rfl rfl (by kernel_rfl) (by kernel_rfl) (by kernel_rfl) (fun _ _ _ h => h) (Or.inl ⟨by rfl, ?_⟩) (by assumption) ?_
  rotate_left
  · intro w1 hSw; obtain ⟨hcS, hfS⟩ := bcell hSw; go_simp; (try with_reducible rfl)
  (try simp only [Act.put, List.setIfInBounds_toArray, List.set_cons_zero, List.set_cons_succ])
  refine takeD 3 21 (v := ?_) rfl rfl (by kernel_rfl) (by kernel_rfl) (by kernel_rfl) (fun _ _ _ h => h) (Or.inl ⟨by rfl, ?_⟩) (by assumption) ?_
  rotate_left
  · intro w1 hSw; obtain ⟨hcS, hfS⟩ := bcell hSw; go_simp; (try with_reducible rfl)
  (try simp only [Act.put, List.setIfInBounds_toArray, List.set_cons_zero, List.set_cons_succ])
  refine takeD 4 22 (v := ?_) rfl rfl (by kernel_rfl) (by kernel_rfl) (by kernel_rfl) (fun _ _ _ h => h) (Or.inl ⟨by rfl, ?_⟩) (by assumption) ?_
  rotate_left
  · intro w1 hSw; obtain ⟨hcS, hfS⟩ := bcell hSw; go_simp; (try with_reducible rfl)
  (try simp only [Act.put, List.setIfInBounds_toArray, List.set_cons_zero, List.set_cons_succ])
  refine takeD 5 23 (v := ?_) rfl rfl (by kernel_rfl) (by kernel_rfl) (by kernel_rfl) (fun _ _ _ h => h) (Or.inl ⟨by rfl, ?_⟩) (by assumption) ?_
  rotate_left
  · intro w1 hSw; obtain ⟨hcS, hfS⟩ := bcell hSw; go_simp; (try with_reducible rfl)
  (try simp only [Act.put, List.setIfInBounds_toArray, List.set_cons_zero, List.set_cons_succ])
  refine takeD 6 24 (v := ?_) rfl rfl (by kernel_rfl) (by kernel_rfl) (by kernel_rfl) (fun _ _ _ h => h) (Or.inl ⟨by rfl, ?_⟩) (by assumption) ?_
  rotate_left
  · intro w1 hSw; obtain ⟨hcS, hfS⟩ := bcell hSw; go_simp; (try with_reducible rfl)
  (try simp only [Act.put, List.setIfInBounds_toArray, List.set_cons_zero, List.set_cons_succ])
  refine takeD 7 25 (v := ?_) rfl rfl (by kernel_rfl) (by kernel_rfl) (by kernel_rfl) (fun _ _ _ h => h) (Or.inl ⟨by rfl, ?_⟩) (by assumption) ?_
  rotate_left
  · intro w1 hSw; obtain ⟨hcS, hfS⟩ := bcell hSw; go_simp; (try with_reducible rfl)
  (try simp only [Act.put, List.setIfInBounds_toArray, List.set_cons_zero, List.set_cons_succ])
  refine takeD 8 26 (v := ?_) rfl rfl (by kernel_rfl) (by kernel_rfl) (by kernel_rfl) (fun _ _ _ h => h) (Or.inl ⟨by rfl, ?_⟩) (by assumption) ?_
  rotate_left
  · intro w1 hSw; obtain ⟨hcS, hfS⟩ := bcell hSw; go_simp; (try with_reducible rfl)
  (try simp only [Act.put, List.setIfInBounds_toArray, List.set_cons_zero, List.set_cons_succ])
  refine takeD 9 27 (v := ?_) rfl rfl (by kernel_rfl) (by kernel_rfl) (by kernel_rfl) (fun _ _ _ h => h) (Or.inl ⟨by rfl, ?_⟩) (by assumption) ?_
  rotate_left
  · intro w1 hSw; obtain ⟨hcS, hfS⟩ := bcell hSw; go_simp; (try with_reducible rfl)
  (try simp only [Act.put, List.setIfInBounds_toArray, List.set_cons_zero, List.set_cons_succ])
  refine takeD 10 28 (v := ?_) rfl rfl (by kernel_rfl) (by kernel_rfl) (by kernel_rfl) (fun _ _ _ h => h) (Or.inl ⟨by rfl, ?_⟩) (by assumption) ?_
  rotate_left
  · intro w1 hSw; obtain ⟨hcS, hfS⟩ := bcell hSw; go_simp; (try with_reducible rfl)
  (try simp only [Act.put, List.setIfInBounds_toArray, List.set_cons_zero, List.set_cons_succ])
  refine takeD 11 29 (v := ?_) rfl rfl (by kernel_rfl) (by kernel_rfl) (by kernel_rfl) (fun _ _ _ h => h) (Or.inl ⟨by rfl, ?_⟩) (by assumption) ?_
  rotate_left
  · intro w1 hSw; obtain ⟨hcS, hfS⟩ := bcell hSw; go_simp; (try with_reducible rfl)
  (try simp only [Act.put, List.setIfInBounds_toArray, List.set_cons_zero, List.set_cons_succ])
  refine wpAnyH_ready (rs := [12]) (by kernel_rfl) (by simp) ?_
  refine AllReadyH.cons rfl (fun K hK => ?_) AllReadyH.nil
  go_simp
  refine hK.out _ _ (hH.alloc hH.size _) (fun hH2 => ?_)
  clear hK K
  (try simp only [Act.put, List.setIfInBounds_toArray, List.set_cons_zero, List.set_cons_succ])
  refine wpAnyH_ready (rs := [13]) (by kernel_rfl) (by simp) ?_
  refine AllReadyH.cons rfl (fun K hK => ?_) AllReadyH.nil
  go_simp
  refine (readYes _ 4 [a, b, x, y] [v0, v1, v2, v3] _ HN.out (by simp) ?_ HS.out (E0.out.below (Below.and BW.out hH2))).mono ?_
  · exact rds4 _ _ a b x y (by have h := heap_alloc_new ((w.alloc (.cells #[.int .i64 0, .int .i64 0, .int .i64 0, .int .i64 0, .int .i64 0] 25)).alloc (.cells #[.string a, .string b, .string c, .string x, .string y] 9)) (.cells #[.string a, .string b, .string x, .string y] 9); rw [show ((w.alloc (.cells #[.int .i64 0, .int .i64 0, .int .i64 0, .int .i64 0, .int .i64 0] 25)).alloc (.cells #[.string a, .string b, .string c, .string x, .string y] 9)).heap.size = w.heap.size + 1 + 1 by simp] at h; exact h)
  rintro e w3 ⟨B, d, rfl, ho, hb⟩
  refine hK.out _ _ (Below.and hH2 hb) (fun hH3 => ?_)
  clear hK K
  (try simp only [Act.put, List.setIfInBounds_toArray, List.set_cons_zero, List.set_cons_succ])
  refine takeD 14 17 (v := ?_) rfl rfl (by kernel_rfl) (by kernel_rfl) (by kernel_rfl) (fun _ _ _ h => h) (Or.inl ⟨by rfl, ?_⟩) (by assumption) ?_
  rotate_left
  · intro w1 hSw; obtain ⟨hcS, hfS⟩ := bcell hSw; go_simp; (try with_reducible rfl)
  (try simp only [Act.put, List.setIfInBounds_toArray, List.set_cons_zero, List.set_cons_succ])
  refine takeD 15 32 (v := ?_) rfl rfl (by kernel_rfl) (by kernel_rfl) (by kernel_rfl) (fun _ _ _ h => h) (Or.inl ⟨by rfl, ?_⟩) (by assumption) ?_
  rotate_left
  · intro w1 hSw; obtain ⟨hcS, hfS⟩ := bcell hSw; go_simp; (try with_reducible rfl)
  (try simp only [Act.put, List.setIfInBounds_toArray, List.set_cons_zero, List.set_cons_succ])
  refine takeD 16 33 (v := ?_) rfl rfl (by kernel_rfl) (by kernel_rfl) (by kernel_rfl) (fun _ _ _ h => h) (Or.inl ⟨by rfl, ?_⟩) (by assumption) ?_
  rotate_left
  · intro w1 hSw; obtain ⟨hcS, hfS⟩ := bcell hSw; go_simp; (try with_reducible rfl)
  (try simp only [Act.put, List.setIfInBounds_toArray, List.set_cons_zero, List.set_cons_succ])
  refine takeD 17 5 (v := ?_) rfl rfl (by kernel_rfl) (by kernel_rfl) (by kernel_rfl) (fun _ _ _ h => h) (Or.inl ⟨by rfl, ?_⟩) (by assumption) ?_
  rotate_left
  · intro w1 hSw; obtain ⟨hcS, hfS⟩ := bcell hSw; go_simp; (try with_reducible rfl)
  (try simp only [Act.put, List.setIfInBounds_toArray, List.set_cons_zero, List.set_cons_succ])
  refine takeD 18 6 (v := ?_) rfl rfl (by kernel_rfl) (by kernel_rfl) (by kernel_rfl) (fun _ _ _ h => h) (Or.inl ⟨by rfl, ?_⟩) (by assumption) ?_
  rotate_left
  · intro w1 hSw; obtain ⟨hcS, hfS⟩ := bcell hSw; go_simp; (try with_reducible rfl)
  (try simp only [Act.put, List.setIfInBounds_toArray, List.set_cons_zero, List.set_cons_succ])
  refine wpAnyH_done (by kernel_rfl) ?_ _
  have BX := Lib.hid (Below.and BW.out hH3)
  have KR := Lib.hid (KR.out.below hH3)
  have KW := Lib.hid (KW.out.below hH3)
  obtain ⟨q, rfl, hq0, hq1⟩ := own_some ho (by simp)
  have j0 : w3.cell? ⟨q, 0, none⟩ = some (.int .i64 v0) := (ho.cellAt 0 (by simp)).trans rfl
  have j1 : w3.cell? ⟨q, 1, none⟩ = some (.int .i64 v1) := (ho.cellAt 1 (by simp)).trans rfl
  have j2 : w3.cell? ⟨q, 2, none⟩ = some (.int .i64 v2) := (ho.cellAt 2 (by simp)).trans rfl
  have j3 : w3.cell? ⟨q, 3, none⟩ = some (.int .i64 v3) := (ho.cellAt 3 (by simp)).trans rfl
  have k2 : w3.cell? ⟨w.heap.size + 1, 2, none⟩ = some (.string c) := KW.out.cell 2
  have kl : w.heap.size + 1 < w3.heap.size := KW.out.lt
  have KR3 := Lib.hid KR.out.lt
  clear hH hH2 hH3 hBW0 ho hb hq0
  go_wp2_with (fail)
  refine wp_region_held_drew (S := fun w1 => Below w3.heap.size w3 w1) (by kernel_rfl) ((Below.refl _ _).drew) (fun hH => ?_)
  refine takeD 0 37 (v := ?_) rfl rfl (by kernel_rfl) (by kernel_rfl) (by kernel_rfl) (fun _ _ _ h => h) (Or.inl ⟨by rfl, ?_⟩) (by assumption) ?_
  rotate_left
  · intro w1 hSw; obtain ⟨hcS, hfS⟩ := bcell hSw; go_simp; (try with_reducible rfl)
  (try simp only [Act.put, List.setIfInBounds_toArray, List.set_cons_zero, List.set_cons_succ])
  refine takeD 1 38 (v := ?_) rfl rfl (by kernel_rfl) (by kernel_rfl) (by kernel_rfl) (fun _ _ _ h => h) (Or.inl ⟨by rfl, ?_⟩) (by assumption) ?_
  rotate_left
  · intro w1 hSw; obtain ⟨hcS, hfS⟩ := bcell hSw; go_simp; (try with_reducible rfl)
  (try simp only [Act.put, List.setIfInBounds_toArray, List.set_cons_zero, List.set_cons_succ])
  refine takeD 2 39 (v := ?_) rfl rfl (by kernel_rfl) (by kernel_rfl) (by kernel_rfl) (fun _ _ _ h => h) (Or.inl ⟨by rfl, ?_⟩) (by assumption) ?_
  rotate_left
  · intro w1 hSw; obtain ⟨hcS, hfS⟩ := bcell hSw; go_simp; (try with_reducible rfl)
  (try simp only [Act.put, List.setIfInBounds_toArray, List.set_cons_zero, List.set_cons_succ])
  refine takeD 3 40 (v := ?_) rfl rfl (by kernel_rfl) (by kernel_rfl) (by kernel_rfl) (fun _ _ _ h => h) (Or.inl ⟨by rfl, ?_⟩) (by assumption) ?_
  rotate_left
  · intro w1 hSw; obtain ⟨hcS, hfS⟩ := bcell hSw; go_simp; (try with_reducible rfl)
  (try simp only [Act.put, List.setIfInBounds_toArray, List.set_cons_zero, List.set_cons_succ])
  refine takeD 4 41 (v := ?_) rfl rfl (by kernel_rfl) (by kernel_rfl) (by kernel_rfl) (fun _ _ _ h => h) (Or.inl ⟨by rfl, ?_⟩) (by assumption) ?_
  rotate_left
  · intro w1 hSw; obtain ⟨hcS, hfS⟩ := bcell hSw; go_simp; (try with_reducible rfl)
  (try simp only [Act.put, List.setIfInBounds_toArray, List.set_cons_zero, List.set_cons_succ])
  refine takeD 5 42 (v := ?_) rfl rfl (by kernel_rfl) (by kernel_rfl) (by kernel_rfl) (fun _ _ _ h => h) (Or.inl ⟨by rfl, ?_⟩) (by assumption) ?_
  rotate_left
  · intro w1 hSw; obtain ⟨hcS, hfS⟩ := bcell hSw; go_simp; (try with_reducible rfl)
  (try simp only [Act.put, List.setIfInBounds_toArray, List.set_cons_zero, List.set_cons_succ])
  refine takeD 6 43 (v := ?_) rfl rfl (by kernel_rfl) (by kernel_rfl) (by kernel_rfl) (fun _ _ _ h => h) (Or.inl ⟨by rfl, ?_⟩) (by assumption) ?_
  rotate_left
  · intro w1 hSw; obtain ⟨hcS, hfS⟩ := bcell hSw; go_simp; (try with_reducible rfl)
  (try simp only [Act.put, List.setIfInBounds_toArray, List.set_cons_zero, List.set_cons_succ])
  refine takeD 7 44 (v := ?_) rfl rfl (by kernel_rfl) (by kernel_rfl) (by kernel_rfl) (fun _ _ _ h => h) (Or.inl ⟨by rfl, ?_⟩) (by assumption) ?_
  rotate_left
  · intro w1 hSw; obtain ⟨hcS, hfS⟩ := bcell hSw; go_simp; (try with_reducible rfl)
  (try simp only [Act.put, List.setIfInBounds_toArray, List.set_cons_zero, List.set_cons_succ])
  refine takeD 8 45 (v := ?_) rfl rfl (by kernel_rfl) (by kernel_rfl) (by kernel_rfl) (fun _ _ _ h => h) (Or.inl ⟨by rfl, ?_⟩) (by assumption) ?_
  rotate_left
  · intro w1 hSw; obtain ⟨hcS, hfS⟩ := bcell hSw; go_simp; (try with_reducible rfl)
  (try simp only [Act.put, List.setIfInBounds_toArray, List.set_cons_zero, List.set_cons_succ])
  refine takeD 10 47 (v := ?_) rfl rfl (by kernel_rfl) (by kernel_rfl) (by kernel_rfl) (fun _ _ _ h => h) (Or.inl ⟨by rfl, ?_⟩) (by assumption) ?_
  rotate_left
  · intro w1 hSw; obtain ⟨hcS, hfS⟩ := bcell hSw; go_simp; (try with_reducible rfl)
  (try simp only [Act.put, List.setIfInBounds_toArray, List.set_cons_zero, List.set_cons_succ])
  refine takeD 11 48 (v := ?_) rfl rfl (by kernel_rfl) (by kernel_rfl) (by kernel_rfl) (fun _ _ _ h => h) (Or.inl ⟨by rfl, ?_⟩) (by assumption) ?_
  rotate_left
  · intro w1 hSw; obtain ⟨hcS, hfS⟩ := bcell hSw; go_simp; (try with_reducible rfl)
  (try simp only [Act.put, List.setIfInBounds_toArray, List.set_cons_zero, List.set_cons_succ])
  refine takeD 12 49 (v := ?_) rfl rfl (by kernel_rfl) (by kernel_rfl) (by kernel_rfl) (fun _ _ _ h => h) (Or.inl ⟨by rfl, ?_⟩) (by assumption) ?_
  rotate_left
  · intro w1 hSw; obtain ⟨hcS, hfS⟩ := bcell hSw; go_simp; (try with_reducible rfl)
  (try simp only [Act.put, List.setIfInBounds_toArray, List.set_cons_zero, List.set_cons_succ])
  refine takeD 13 50 (v := ?_) rfl rfl (by kernel_rfl) (by kernel_rfl) (by kernel_rfl) (fun _ _ _ h => h) (Or.inl ⟨by rfl, ?_⟩) (by assumption) ?_
  rotate_left
  · intro w1 hSw; obtain ⟨hcS, hfS⟩ := bcell hSw; go_simp; (try with_reducible rfl)
  (try simp only [Act.put, List.setIfInBounds_toArray, List.set_cons_zero, List.set_cons_succ])
  refine takeD 14 51 (v := ?_) rfl rfl (by kernel_rfl) (by kernel_rfl) (by kernel_rfl) (fun _ _ _ h => h) (Or.inl ⟨by rfl, ?_⟩) (by assumption) ?_
  rotate_left
  · intro w1 hSw; obtain ⟨hcS, hfS⟩ := bcell hSw; go_simp; (try with_reducible rfl)
  (try simp only [Act.put, List.setIfInBounds_toArray, List.set_cons_zero, List.set_cons_succ])
  refine takeD 15 52 (v := ?_) rfl rfl (by kernel_rfl) (by kernel_rfl) (by kernel_rfl) (fun _ _ _ h => h) (Or.inl ⟨by rfl, ?_⟩) (by assumption) ?_
  rotate_left
  · intro w1 hSw; obtain ⟨hcS, hfS⟩ := bcell hSw; go_simp; (try with_reducible rfl)
  (try simp only [Act.put, List.setIfInBounds_toArray, List.set_cons_zero, List.set_cons_succ])
  refine wpAnyH_ready (rs := [9, 17]) (by kernel_rfl) (by simp) ?_
  refine AllReadyH.cons rfl (fun K hK => ?_) (AllReadyH.cons rfl (fun K hK => ?_) AllReadyH.nil)
  · go_simp
    refine (opOf c _).mono ?_
    rintro e w4 ⟨rfl, hb⟩
    rw [HO.out]
    refine hK.out _ _ (Below.and hH hb) (fun hH2 => ?_)
    clear hK K
    (try simp only [Act.put, List.setIfInBounds_toArray, List.set_cons_zero, List.set_cons_succ])
    refine takeD 16 53 (v := ?_) rfl rfl (by kernel_rfl) (by kernel_rfl) (by kernel_rfl) (fun _ _ _ h => h) (Or.inl ⟨by rfl, ?_⟩) (by assumption) ?_
    rotate_left
    · intro w1 hSw; obtain ⟨hcS, hfS⟩ := bcell hSw; go_simp; (try with_reducible rfl)
    (try simp only [Act.put, List.setIfInBounds_toArray, List.set_cons_zero, List.set_cons_succ])
    refine wpAnyH_ready (rs := [17]) (by kernel_rfl) (by simp) ?_
    refine AllReadyH.cons rfl (fun K hK => ?_) AllReadyH.nil
    go_simp
    refine hK.out _ _ (hH2.alloc hH2.size _) (fun hH3 => ?_)
    clear hK K
    (try simp only [Act.put, List.setIfInBounds_toArray, List.set_cons_zero, List.set_cons_succ])
    refine wpAnyH_ready (rs := [18]) (by kernel_rfl) (by simp) ?_
    refine AllReadyH.cons rfl (fun K hK => ?_) AllReadyH.nil
    go_simp
    refine hK.out _ _ (hH2.alloc hH2.size _) (fun hH4 => ?_)
    clear hK K
    (try simp only [Act.put, List.setIfInBounds_toArray, List.set_cons_zero, List.set_cons_succ])
    refine wpAnyH_done (by kernel_rfl) ?_ _
    have BX : Hid (Below w.heap.size w (w4.alloc (.cells #[.int .i64 v0, .int .i64 v1, .int .i64 O, .int .i64 v2, .int .i64 v3] 25))) := (Below.and BX.out hH2).alloc (Below.and BX.out hH2).size _
    have KP : Hid (Bkk (w4.alloc (.cells #[.int .i64 v0, .int .i64 v1, .int .i64 O, .int .i64 v2, .int .i64 v3] 25)) w4.heap.size 25 #[.int .i64 v0, .int .i64 v1, .int .i64 O, .int .i64 v2, .int .i64 v3]) := Bkk.new w4
    have KR : Hid (Bkk (w4.alloc (.cells #[.int .i64 v0, .int .i64 v1, .int .i64 O, .int .i64 v2, .int .i64 v3] 25)) w.heap.size 25 #[.int .i64 0, .int .i64 0, .int .i64 0, .int .i64 0, .int .i64 0]) := (KR.out.below hH2).alloc _
    have p0 : (w4.alloc (.cells #[.int .i64 v0, .int .i64 v1, .int .i64 O, .int .i64 v2, .int .i64 v3] 25)).cell? ⟨w4.heap.size, 0, none⟩ = some (.int .i64 v0) := KP.out.cell 0
    have p1 : (w4.alloc (.cells #[.int .i64 v0, .int .i64 v1, .int .i64 O, .int .i64 v2, .int .i64 v3] 25)).cell? ⟨w4.heap.size, 1, none⟩ = some (.int .i64 v1) := KP.out.cell 1
    have p2 : (w4.alloc (.cells #[.int .i64 v0, .int .i64 v1, .int .i64 O, .int .i64 v2, .int .i64 v3] 25)).cell? ⟨w4.heap.size, 2, none⟩ = some (.int .i64 O) := KP.out.cell 2
    have p3 : (w4.alloc (.cells #[.int .i64 v0, .int .i64 v1, .int .i64 O, .int .i64 v2, .int .i64 v3] 25)).cell? ⟨w4.heap.size, 3, none⟩ = some (.int .i64 v2) := KP.out.cell 3
    have p4 : (w4.alloc (.cells #[.int .i64 v0, .int .i64 v1, .int .i64 O, .int .i64 v2, .int .i64 v3] 25)).cell? ⟨w4.heap.size, 4, none⟩ = some (.int .i64 v3) := KP.out.cell 4
    go_wp2_with (fail)
    refine (implReqPut ⟨v0, v1, O, v2, v3⟩ _ ((E0.out.below BX.out).tab)).mono ?_
    rintro e w6 ⟨rfl, hb6⟩
    rw [HT.out]
    have BX := Lib.hid (Below.and BX.out hb6)
    have KP := Lib.hid (KP.out.below hb6)
    have KR := Lib.hid (KR.out.below hb6)
    clear hb6 p0 p1 p2 p3 p4
    have p0 : w6.cell? ⟨w4.heap.size, 0, none⟩ = some (.int .i64 v0) := KP.out.cell 0
    have p1 : w6.cell? ⟨w4.heap.size, 1, none⟩ = some (.int .i64 v1) := KP.out.cell 1
    have p2 : w6.cell? ⟨w4.heap.size, 2, none⟩ = some (.int .i64 O) := KP.out.cell 2
    have p3 : w6.cell? ⟨w4.heap.size, 3, none⟩ = some (.int .i64 v2) := KP.out.cell 3
    have p4 : w6.cell? ⟨w4.heap.size, 4, none⟩ = some (.int .i64 v3) := KP.out.cell 4
    have z0 : w6.cell? ⟨w.heap.size, 0, none⟩ = some (.int .i64 0) := KR.out.cell 0
    have z1 : w6.cell? ⟨w.heap.size, 1, none⟩ = some (.int .i64 0) := KR.out.cell 1
    have z2 : w6.cell? ⟨w.heap.size, 2, none⟩ = some (.int .i64 0) := KR.out.cell 2
    have z3 : w6.cell? ⟨w.heap.size, 3, none⟩ = some (.int .i64 0) := KR.out.cell 3
    have z4 : w6.cell? ⟨w.heap.size, 4, none⟩ = some (.int .i64 0) := KR.out.cell 4
    have zf := KR.out.frozen
    have zl := KR.out.lt
    have zb : w.heap.size ≤ w6.heap.size := BX.out.size
    go_wp2
    refine bodyPost_ret (v := .tuple #[.agg #[.int .i64 v0, .int .i64 v1, .int .i64 O, .int .i64 v2, .int .i64 v3], .bool true]) (by simp [results, Tryd.results13, go_sem, z0, z1, z2, z3, z4]) rfl ⟨rfl, ?_⟩
    iterate 5 (refine Below.setCell ?_ (by first | (simp; done) | (simp; omega)) _)
    exact BX.out
  · go_simp
    refine hK.out _ _ (hH.alloc hH.size _) (fun hH2 => ?_)
    clear hK K
    (try simp only [Act.put, List.setIfInBounds_toArray, List.set_cons_zero, List.set_cons_succ])
    refine wpAnyH_ready (rs := [9]) (by kernel_rfl) (by simp) ?_
    refine AllReadyH.cons rfl (fun K hK => ?_) AllReadyH.nil
    go_simp
    refine (opOf c _).mono ?_
    rintro e w4 ⟨rfl, hb⟩
    rw [HO.out]
    have KZ : Hid (Bkk w4 w3.heap.size 25 #[.int .i64 0, .int .i64 0, .int .i64 0, .int .i64 0, .int .i64 0]) := ((Bkk.new (t := 25) (cs := #[.int .i64 0, .int .i64 0, .int .i64 0, .int .i64 0, .int .i64 0]) w3).below (below_undrew' hb))
    refine hK.out _ _ (Below.and hH2 hb) (fun hH3 => ?_)
    clear hK K
    (try simp only [Act.put, List.setIfInBounds_toArray, List.set_cons_zero, List.set_cons_succ])
    refine takeD 16 53 (v := ?_) rfl rfl (by kernel_rfl) (by kernel_rfl) (by kernel_rfl) (fun _ _ _ h => h) (Or.inl ⟨by rfl, ?_⟩) (by assumption) ?_
    rotate_left
    · intro w1 hSw; obtain ⟨hcS, hfS⟩ := bcell hSw; go_simp; (try with_reducible rfl)
    (try simp only [Act.put, List.setIfInBounds_toArray, List.set_cons_zero, List.set_cons_succ])
    have y0 : w4.cell? ⟨w3.heap.size, 0, none⟩ = some (.int .i64 0) := KZ.out.cell 0
    have y1 : w4.cell? ⟨w3.heap.size, 1, none⟩ = some (.int .i64 0) := KZ.out.cell 1
    have y2 : w4.cell? ⟨w3.heap.size, 2, none⟩ = some (.int .i64 0) := KZ.out.cell 2
    have y3 : w4.cell? ⟨w3.heap.size, 3, none⟩ = some (.int .i64 0) := KZ.out.cell 3
    have y4 : w4.cell? ⟨w3.heap.size, 4, none⟩ = some (.int .i64 0) := KZ.out.cell 4
    have yf := KZ.out.frozen
    have yl := KZ.out.lt
    refine wpAnyH_ready (rs := [18]) (by kernel_rfl) (by simp) ?_
    refine AllReadyH.cons rfl (fun K hK => ?_) AllReadyH.nil
    go_simp
    refine hK.out _ _ (Below.stor5 _ _ _ _ _ (Nat.le_refl _) hH3) (fun hH4 => ?_)
    clear hK K
    (try simp only [Act.put, List.setIfInBounds_toArray, List.set_cons_zero, List.set_cons_succ])
    refine wpAnyH_done (by kernel_rfl) ?_ _
    clear y0 y1 y2 y3 y4 yf
    have BX : Hid (Below w.heap.size w (((((w4.setCell ⟨w3.heap.size, 0, none⟩ (.int .i64 v0)).setCell ⟨w3.heap.size, 1, none⟩ (.int .i64 v1)).setCell ⟨w3.heap.size, 2, none⟩ (.int .i64 O)).setCell ⟨w3.heap.size, 3, none⟩ (.int .i64 v2)).setCell ⟨w3.heap.size, 4, none⟩ (.int .i64 v3))) := Below.stor5 _ _ _ _ _ BX.out.size (Below.and BX.out hH3)
    have KP : Hid (Bkk (((((w4.setCell ⟨w3.heap.size, 0, none⟩ (.int .i64 v0)).setCell ⟨w3.heap.size, 1, none⟩ (.int .i64 v1)).setCell ⟨w3.heap.size, 2, none⟩ (.int .i64 O)).setCell ⟨w3.heap.size, 3, none⟩ (.int .i64 v2)).setCell ⟨w3.heap.size, 4, none⟩ (.int .i64 v3)) w3.heap.size 25 #[.int .i64 v0, .int .i64 v1, .int .i64 O, .int .i64 v2, .int .i64 v3]) := Bkk.stor5 _ _ _ _ _ KZ.out
    have KR : Hid (Bkk (((((w4.setCell ⟨w3.heap.size, 0, none⟩ (.int .i64 v0)).setCell ⟨w3.heap.size, 1, none⟩ (.int .i64 v1)).setCell ⟨w3.heap.size, 2, none⟩ (.int .i64 O)).setCell ⟨w3.heap.size, 3, none⟩ (.int .i64 v2)).setCell ⟨w3.heap.size, 4, none⟩ (.int .i64 v3)) w.heap.size 25 #[.int .i64 0, .int .i64 0, .int .i64 0, .int .i64 0, .int .i64 0]) := Bkk.awa5 _ _ _ _ _ (Nat.ne_of_lt KR3.out) (KR.out.below hH3)
    have p0 : (((((w4.setCell ⟨w3.heap.size, 0, none⟩ (.int .i64 v0)).setCell ⟨w3.heap.size, 1, none⟩ (.int .i64 v1)).setCell ⟨w3.heap.size, 2, none⟩ (.int .i64 O)).setCell ⟨w3.heap.size, 3, none⟩ (.int .i64 v2)).setCell ⟨w3.heap.size, 4, none⟩ (.int .i64 v3)).cell? ⟨w3.heap.size, 0, none⟩ = some (.int .i64 v0) := KP.out.cell 0
    have p1 : (((((w4.setCell ⟨w3.heap.size, 0, none⟩ (.int .i64 v0)).setCell ⟨w3.heap.size, 1, none⟩ (.int .i64 v1)).setCell ⟨w3.heap.size, 2, none⟩ (.int .i64 O)).setCell ⟨w3.heap.size, 3, none⟩ (.int .i64 v2)).setCell ⟨w3.heap.size, 4, none⟩ (.int .i64 v3)).cell? ⟨w3.heap.size, 1, none⟩ = some (.int .i64 v1) := KP.out.cell 1
    have p2 : (((((w4.setCell ⟨w3.heap.size, 0, none⟩ (.int .i64 v0)).setCell ⟨w3.heap.size, 1, none⟩ (.int .i64 v1)).setCell ⟨w3.heap.size, 2, none⟩ (.int .i64 O)).setCell ⟨w3.heap.size, 3, none⟩ (.int .i64 v2)).setCell ⟨w3.heap.size, 4, none⟩ (.int .i64 v3)).cell? ⟨w3.heap.size, 2, none⟩ = some (.int .i64 O) := KP.out.cell 2
    have p3 : (((((w4.setCell ⟨w3.heap.size, 0, none⟩ (.int .i64 v0)).setCell ⟨w3.heap.size, 1, none⟩ (.int .i64 v1)).setCell ⟨w3.heap.size, 2, none⟩ (.int .i64 O)).setCell ⟨w3.heap.size, 3, none⟩ (.int .i64 v2)).setCell ⟨w3.heap.size, 4, none⟩ (.int .i64 v3)).cell? ⟨w3.heap.size, 3, none⟩ = some (.int .i64 v2) := KP.out.cell 3
    have p4 : (((((w4.setCell ⟨w3.heap.size, 0, none⟩ (.int .i64 v0)).setCell ⟨w3.heap.size, 1, none⟩ (.int .i64 v1)).setCell ⟨w3.heap.size, 2, none⟩ (.int .i64 O)).setCell ⟨w3.heap.size, 3, none⟩ (.int .i64 v2)).setCell ⟨w3.heap.size, 4, none⟩ (.int .i64 v3)).cell? ⟨w3.heap.size, 4, none⟩ = some (.int .i64 v3) := KP.out.cell 4
    go_wp2_with (fail)
    refine (implReqPut ⟨v0, v1, O, v2, v3⟩ _ ((E0.out.below BX.out).tab)).mono ?_
    rintro e w6 ⟨rfl, hb6⟩
    rw [HT.out]
    have BX := Lib.hid (Below.and BX.out hb6)
    have KP := Lib.hid (KP.out.below hb6)
    have KR := Lib.hid (KR.out.below hb6)
    clear hb6 p0 p1 p2 p3 p4
    have p0 : w6.cell? ⟨w3.heap.size, 0, none⟩ = some (.int .i64 v0) := KP.out.cell 0
    have p1 : w6.cell? ⟨w3.heap.size, 1, none⟩ = some (.int .i64 v1) := KP.out.cell 1
    have p2 : w6.cell? ⟨w3.heap.size, 2, none⟩ = some (.int .i64 O) := KP.out.cell 2
    have p3 : w6.cell? ⟨w3.heap.size, 3, none⟩ = some (.int .i64 v2) := KP.out.cell 3
    have p4 : w6.cell? ⟨w3.heap.size, 4, none⟩ = some (.int .i64 v3) := KP.out.cell 4
    have z0 : w6.cell? ⟨w.heap.size, 0, none⟩ = some (.int .i64 0) := KR.out.cell 0
    have z1 : w6.cell? ⟨w.heap.size, 1, none⟩ = some (.int .i64 0) := KR.out.cell 1
    have z2 : w6.cell? ⟨w.heap.size, 2, none⟩ = some (.int .i64 0) := KR.out.cell 2
    have z3 : w6.cell? ⟨w.heap.size, 3, none⟩ = some (.int .i64 0) := KR.out.cell 3
    have z4 : w6.cell? ⟨w.heap.size, 4, none⟩ = some (.int .i64 0) := KR.out.cell 4
    have zf := KR.out.frozen
    have zl := KR.out.lt
    have zb : w.heap.size ≤ w6.heap.size := BX.out.size
    go_wp2
    refine bodyPost_ret (v := .tuple #[.agg #[.int .i64 v0, .int .i64 v1, .int .i64 O, .int .i64 v2, .int .i64 v3], .bool true]) (by simp [results, Tryd.results13, go_sem, z0, z1, z2, z3, z4]) rfl ⟨rfl, ?_⟩
    iterate 5 (refine Below.setCell ?_ (by first | (simp; done) | (simp; omega)) _)
    exact BX.out

end Go.Proofs.YtolepfbhhmganaaDoor
