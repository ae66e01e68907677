/- Of a new world: the law. -/
import Derived.Test.YtfelhnchnaggmaaWi
import Derived.Test.YtfelhnchnaggmaaWg
import Derived.Test.YtfelhnchnaggmaaRh
namespace Go.Proofs.Ytfelhnchnaggmaa
open Go.ChangeShapes Go.WideShapes Go.ChangeAt Go.RowKit
set_option linter.unusedVariables false
set_option linter.unusedSimpArgs false

theorem drawWorldNew {w : World} {A : Option Addr} {n c : Nat} (hn : n ≤ 1048576) (hc : n ≤ c) (hb : InB w A n) :
    Calls Try.prog 7 #[.slice A n c] w fun e w' => ∃ v : Int, e = .returned (.int .i64 v) ∧ Below w.heap.size w w' := by
  have HB := Lib.hid hb
  clear hb
  go_enter Try.func7, Try.ntmps7
  go_wp2_with (fail)
  refine (l20Open hn hc HB.out).mono ?_
  rintro e w1 ⟨m, rfl, hr, hbl⟩
  have hlt := hr.lt
  have RD := Lib.hid (hr.below ((Below.refl w1.heap.size w1).alloc (Nat.le_refl _) (.cells #[.int .i64 0, .int .i64 1, .int .i64 2, .int .i64 3, .int .i64 4, .int .i64 (-1)] 3)))
  have BL := Lib.hid (hbl.alloc hbl.size (.cells #[.int .i64 0, .int .i64 1, .int .i64 2, .int .i64 3, .int .i64 4, .int .i64 (-1)] 3))
  have HC := Lib.hid (cells_of_ints [0, 1, 2, 3, 4, -1] (heap_alloc_new w1 (.cells #[.int .i64 0, .int .i64 1, .int .i64 2, .int .i64 3, .int .i64 4, .int .i64 (-1)] 3)))
  clear hr hbl
  go_wp2_with (fail)
  refine (oneR w1.heap.size [0, 1, 2, 3, 4, -1] RD.out (by omega) (by simp) (by simp) (by omega) HC.out).mono ?_
  rintro e w2 ⟨v, rfl, q, q0, q1, hr, hgr⟩
  have BL2 := Lib.hid (BL.out.grown hgr (by simp; omega) (by simp))
  clear hr hgr
  go_wp2
  go_ret
  exact ⟨v, rfl, BL2.out⟩

theorem newK_at {k j : Nat} (h : j < (newK k).length) : (newK k)[j] = nilR (j : Int) true 1 := by simp [newK]
theorem newCell {w : World} {A : Option Addr} {k j : Nat} (hr : Rd 7 RpP.cells w A (newK k)) (h : j < k) : ∃ g o, A = some ⟨g, o, none⟩ ∧ ∀ i u, ([.int .i64 (j : Int), .int .i64 0, .bool true, .int .i64 1, .slice none 0 0, .slice none 0 0, .slice none 0 0] : List Value)[i]? = some u → w.cell? ⟨g, o + j * 7 + i, none⟩ = some u := by
  obtain ⟨g, o, hA, hc⟩ := hr j (by rw [newK_len]; exact h)
  refine ⟨g, o, hA, fun i u hu => hc i u ?_⟩
  rw [newK_at]
  exact hu
set_option maxRecDepth 100000 in
set_option maxHeartbeats 4000000 in
theorem wpWorldNew (bad : Int) (k : Nat) (A B : Option Addr) (a b : Nat) (w : World) (hk : k ≤ 4) (hA : Rd 7 RpP.cells w A (newK k)) (hB : Rd 7 RpP.cells w B (newK k)) :
    Calls Try.prog 9 #[.agg #[.int .i64 bad, .slice A k a, .slice none 0 0], .agg #[.int .i64 bad, .slice B k b, .slice none 0 0]] w fun e w' => e = .returned (.bool true) ∧ Below w.heap.size w w' := by
  have BW : Hid (Below w.heap.size w ((w.alloc (.cells #[.int .i64 bad, .slice A k a, .slice none 0 0] 27)).alloc (.cells #[.int .i64 bad, .slice B k b, .slice none 0 0] 27))) := below_alloc2 _ _ _
  have K0 : Hid (Blk ((w.alloc (.cells #[.int .i64 bad, .slice A k a, .slice none 0 0] 27)).alloc (.cells #[.int .i64 bad, .slice B k b, .slice none 0 0] 27)) w.heap.size 27 #[.int .i64 bad, .slice A k a, .slice none 0 0]) := (Blk.new w).alloc _
  have K1 : Hid (Blk ((w.alloc (.cells #[.int .i64 bad, .slice A k a, .slice none 0 0] 27)).alloc (.cells #[.int .i64 bad, .slice B k b, .slice none 0 0] 27)) (w.heap.size + 1) 27 #[.int .i64 bad, .slice B k b, .slice none 0 0]) := by have := Blk.new (t := 27) (cs := #[.int .i64 bad, .slice B k b, .slice none 0 0]) (w.alloc (.cells #[.int .i64 bad, .slice A k a, .slice none 0 0] 27)); simpa [Hid] using this
  have RA := Lib.hid hA
  have RB := Lib.hid hB
  have e0 : (bad != bad) = false := by simp
  have e1 : ((k : Int) != (k : Int)) = false := by simp
  clear hA hB
  go_enter Try.func9, Try.ntmps9
  go_wp2_with (go_at_call 24; refine (wpMsgsNil _).mono ?_; rintro e w' ⟨rfl, rfl⟩)
  clear e0 e1
  go_loopw [5] (fun i wr => ∃ j : Nat, j ≤ k ∧ i = .int .i64 (j : Int) ∧ Hid (Blk wr w.heap.size 27 #[.int .i64 bad, .slice A k a, .slice none 0 0]) ∧ Hid (Blk wr (w.heap.size + 1) 27 #[.int .i64 bad, .slice B k b, .slice none 0 0]) ∧ Hid (Below w.heap.size w wr)) (fun i _ => k - (intOf i).toNat)
  case atStart => exact ⟨0, Nat.zero_le _, rfl, K0, K1, BW⟩
  case round =>
    clear K0 K1 BW
    obtain ⟨j, hj, rfl, K0, K1, hb⟩ := hrel
    have l0 := K0.out.lt
    have l1 := K1.out.lt
    have x1 : wr.cell? ⟨w.heap.size, 1, none⟩ = some (.slice A k a) := K0.out.cell 1
    have y1 : wr.cell? ⟨w.heap.size + 1, 1, none⟩ = some (.slice B k b) := K1.out.cell 1
    by_cases hlt : j < k
    · obtain ⟨g, o, rfl, ca⟩ := newCell (Rd.below RA.out hb.out) hlt
      obtain ⟨g', o', rfl, cb⟩ := newCell (Rd.below RB.out hb.out) hlt
      have a0 : wr.cell? ⟨g, o + j * 7, none⟩ = some (.int .i64 (j : Int)) := ca 0 _ rfl
      have a1 : wr.cell? ⟨g, o + j * 7 + 1, none⟩ = some (.int .i64 0) := ca 1 _ rfl
      have a2 : wr.cell? ⟨g, o + j * 7 + 2, none⟩ = some (.bool true) := ca 2 _ rfl
      have a3 : wr.cell? ⟨g, o + j * 7 + 3, none⟩ = some (.int .i64 1) := ca 3 _ rfl
      have a4 : wr.cell? ⟨g, o + j * 7 + 4, none⟩ = some (.slice none 0 0) := ca 4 _ rfl
      have a5 : wr.cell? ⟨g, o + j * 7 + 5, none⟩ = some (.slice none 0 0) := ca 5 _ rfl
      have a6 : wr.cell? ⟨g, o + j * 7 + 6, none⟩ = some (.slice none 0 0) := ca 6 _ rfl
      have b0 : wr.cell? ⟨g', o' + j * 7, none⟩ = some (.int .i64 (j : Int)) := cb 0 _ rfl
      have b1 : wr.cell? ⟨g', o' + j * 7 + 1, none⟩ = some (.int .i64 0) := cb 1 _ rfl
      have b2 : wr.cell? ⟨g', o' + j * 7 + 2, none⟩ = some (.bool true) := cb 2 _ rfl
      have b3 : wr.cell? ⟨g', o' + j * 7 + 3, none⟩ = some (.int .i64 1) := cb 3 _ rfl
      have b4 : wr.cell? ⟨g', o' + j * 7 + 4, none⟩ = some (.slice none 0 0) := cb 4 _ rfl
      have b5 : wr.cell? ⟨g', o' + j * 7 + 5, none⟩ = some (.slice none 0 0) := cb 5 _ rfl
      have b6 : wr.cell? ⟨g', o' + j * 7 + 6, none⟩ = some (.slice none 0 0) := cb 6 _ rfl
      clear ca cb
      have i0 : (0 : Int) ≤ (j : Int) := by omega
      have i1 : (j : Int) < (k : Int) := by omega
      have hg : g < wr.heap.size := by have := World.block_lt_of_cell? wr _ a0; simpa using this
      have hg' : g' < wr.heap.size := by have := World.block_lt_of_cell? wr _ b0; simpa using this
      have HBW := hb
      go_wp2_with (fail)
      refine wp_region_held_drew (S := fun w1 => Below wr.heap.size wr w1) (by kernel_rfl) ((Below.refl _ _).drew) (fun hq => ?_)
      refine takeD 0 35 (v := ?_) rfl rfl (by kernel_rfl) (by kernel_rfl) (by kernel_rfl) (fun _ _ _ h => h) (Or.inl ⟨by rfl, ?_⟩) (by assumption) ?_
      rotate_left
      · intro w1 hSw; obtain ⟨hcS, hfS⟩ := bcell hSw; go_simp; (try with_reducible rfl)
      (try simp only [Act.put, List.setIfInBounds_toArray, List.set_cons_zero, List.set_cons_succ])
      refine takeD 1 36 (v := ?_) rfl rfl (by kernel_rfl) (by kernel_rfl) (by kernel_rfl) (fun _ _ _ h => h) (Or.inl ⟨by rfl, ?_⟩) (by assumption) ?_
      rotate_left
      · intro w1 hSw; obtain ⟨hcS, hfS⟩ := bcell hSw; go_simp; (try with_reducible rfl)
      (try simp only [Act.put, List.setIfInBounds_toArray, List.set_cons_zero, List.set_cons_succ])
      refine takeD 2 37 (v := ?_) rfl rfl (by kernel_rfl) (by kernel_rfl) (by kernel_rfl) (fun _ _ _ h => h) (Or.inl ⟨by rfl, ?_⟩) (by assumption) ?_
      rotate_left
      · intro w1 hSw; obtain ⟨hcS, hfS⟩ := bcell hSw; go_simp; (try with_reducible rfl)
      (try simp only [Act.put, List.setIfInBounds_toArray, List.set_cons_zero, List.set_cons_succ])
      refine takeD 3 38 (v := ?_) rfl rfl (by kernel_rfl) (by kernel_rfl) (by kernel_rfl) (fun _ _ _ h => h) (Or.inl ⟨by rfl, ?_⟩) (by assumption) ?_
      rotate_left
      · intro w1 hSw; obtain ⟨hcS, hfS⟩ := bcell hSw; go_simp; (try with_reducible rfl)
      (try simp only [Act.put, List.setIfInBounds_toArray, List.set_cons_zero, List.set_cons_succ])
      refine takeD 4 39 (v := ?_) rfl rfl (by kernel_rfl) (by kernel_rfl) (by kernel_rfl) (fun _ _ _ h => h) (Or.inl ⟨by rfl, ?_⟩) (by assumption) ?_
      rotate_left
      · intro w1 hSw; obtain ⟨hcS, hfS⟩ := bcell hSw; go_simp; (try with_reducible rfl)
      (try simp only [Act.put, List.setIfInBounds_toArray, List.set_cons_zero, List.set_cons_succ])
      refine takeD 5 40 (v := ?_) rfl rfl (by kernel_rfl) (by kernel_rfl) (by kernel_rfl) (fun _ _ _ h => h) (Or.inl ⟨by rfl, ?_⟩) (by assumption) ?_
      rotate_left
      · intro w1 hSw; obtain ⟨hcS, hfS⟩ := bcell hSw; go_simp; (try with_reducible rfl)
      (try simp only [Act.put, List.setIfInBounds_toArray, List.set_cons_zero, List.set_cons_succ])
      refine takeD 6 41 (v := ?_) rfl rfl (by kernel_rfl) (by kernel_rfl) (by kernel_rfl) (fun _ _ _ h => h) (Or.inl ⟨by rfl, ?_⟩) (by assumption) ?_
      rotate_left
      · intro w1 hSw; obtain ⟨hcS, hfS⟩ := bcell hSw; go_simp; (try with_reducible rfl)
      (try simp only [Act.put, List.setIfInBounds_toArray, List.set_cons_zero, List.set_cons_succ])
      refine takeD 7 42 (v := ?_) rfl rfl (by kernel_rfl) (by kernel_rfl) (by kernel_rfl) (fun _ _ _ h => h) (Or.inl ⟨by rfl, ?_⟩) (by assumption) ?_
      rotate_left
      · intro w1 hSw; obtain ⟨hcS, hfS⟩ := bcell hSw; go_simp; (try with_reducible rfl)
      (try simp only [Act.put, List.setIfInBounds_toArray, List.set_cons_zero, List.set_cons_succ])
      refine takeD 8 43 (v := ?_) rfl rfl (by kernel_rfl) (by kernel_rfl) (by kernel_rfl) (fun _ _ _ h => h) (Or.inl ⟨by rfl, ?_⟩) (by assumption) ?_
      rotate_left
      · intro w1 hSw; obtain ⟨hcS, hfS⟩ := bcell hSw; go_simp; (try with_reducible rfl)
      (try simp only [Act.put, List.setIfInBounds_toArray, List.set_cons_zero, List.set_cons_succ])
      refine takeD 9 44 (v := ?_) rfl rfl (by kernel_rfl) (by kernel_rfl) (by kernel_rfl) (fun _ _ _ h => h) (Or.inl ⟨by rfl, ?_⟩) (by assumption) ?_
      rotate_left
      · intro w1 hSw; obtain ⟨hcS, hfS⟩ := bcell hSw; go_simp; (try with_reducible rfl)
      (try simp only [Act.put, List.setIfInBounds_toArray, List.set_cons_zero, List.set_cons_succ])
      refine wpAnyH_ready (rs := [10]) (by kernel_rfl) (by simp) ?_
      refine AllReadyH.cons rfl (fun K hK => ?_) AllReadyH.nil
      go_simp
      refine (wpRepNil (j : Int) true 1 _).mono ?_
      rintro e w4 ⟨rfl, hb⟩
      refine hK.out _ _ (Below.and hq hb) (fun hq2 => ?_)
      clear hK K
      (try simp only [Act.put, List.setIfInBounds_toArray, List.set_cons_zero, List.set_cons_succ])
      refine takeD 11 46 (v := ?_) rfl rfl (by kernel_rfl) (by kernel_rfl) (by kernel_rfl) (fun _ _ _ h => h) (Or.inl ⟨by rfl, ?_⟩) (by assumption) ?_
      rotate_left
      · intro w1 hSw; obtain ⟨hcS, hfS⟩ := bcell hSw; go_simp; (try with_reducible rfl)
      (try simp only [Act.put, List.setIfInBounds_toArray, List.set_cons_zero, List.set_cons_succ])
      refine wpAnyH_done (by kernel_rfl) ?_ _
      have K0 := Lib.hid (K0.out.below hq2)
      have K1 := Lib.hid (K1.out.below hq2)
      have BB := Lib.hid (Below.and HBW.out hq2)
      clear hq2 x1 y1 a0 b0 a1 b1 a2 b2 a3 b3 a4 b4 a5 b5 a6 b6
      go_wp2
      go_roundw
      case rel => exact ⟨j + 1, by omega, by go_num, K0, K1, BB⟩
      case measure => simp [intOf]; omega
    · have i1 : ¬ (j : Int) < (k : Int) := by omega
      go_wp2
      go_light
      go_ret
      exact ⟨rfl, hb.out⟩

theorem newW_facts {bad : Int} (h : inB bad 0 3 = true) (A : Option Addr) (c : Nat) : wdB ⟨bad, A, c, newK 4, none, 0, []⟩ = true ∧ agB ⟨bad, A, c, newK 4, none, 0, []⟩ = true := by
  have h0 : ∀ (i : Int), inB i 0 3 = true → repB (nilR i true 1) = true := fun i hi => rep_new hi
  have hr : rsB 0 (newK 4) = true := by
    show rsB 0 [nilR ((0 : Nat) : Int) true 1, nilR ((1 : Nat) : Int) true 1, nilR ((2 : Nat) : Int) true 1, nilR ((3 : Nat) : Int) true 1] = true
    simp only [rsB, h0 ((0 : Nat) : Int) (by decide), h0 ((1 : Nat) : Int) (by decide), h0 ((2 : Nat) : Int) (by decide), h0 ((3 : Nat) : Int) (by decide)]
    decide
  have hw : wdB ⟨bad, A, c, newK 4, none, 0, []⟩ = true := by
    unfold wdB
    simp only [h, hr, newK_len]
    rfl
  refine ⟨hw, ?_⟩
  have hd : dnsB bad (newK 4) = [] := by
    unfold dnsB
    apply List.flatMap_eq_nil_iff.2
    intro p hp
    have := (List.mem_filter.1 hp).1
    simp only [newK, List.mem_map] at this
    obtain ⟨i, _, rfl⟩ := this
    rfl
  unfold agB
  rw [hw, hd]
  rfl
theorem newRd {w : World} {A : Option Addr} {c : Nat} (bad : Int) (hr : Rd 7 RpP.cells w A (newK 4)) : (⟨bad, A, c, newK 4, none, 0, []⟩ : WdP).rd w := by
  refine ⟨by rw [newK_len]; decide, by simp, ⟨hr, fun p hp => ?_⟩, ⟨(fun i h => by cases h), (fun p hp => by cases hp)⟩⟩
  simp only [newK, List.mem_map] at hp
  obtain ⟨i, _, rfl⟩ := hp
  exact nilR_rd _ _ _ _
theorem implWorldOkN {bad : Int} (h : inB bad 0 3 = true) {A : Option Addr} {c : Nat} (w : World) (hr : Rd 7 RpP.cells w A (newK 4)) :
    Calls Try.prog 11 #[.agg #[.int .i64 bad, .slice A 4 c, .slice none 0 0]] w fun e w' => e = .returned (.bool true) ∧ Below w.heap.size w w' :=
  (implWorldOk ⟨bad, A, c, newK 4, none, 0, []⟩ w (newRd bad hr)).mono fun _ _ h' => ⟨h'.1.trans (ret_bool (newW_facts h A c).1), h'.2⟩
theorem implWorldAgreeN {bad : Int} (h : inB bad 0 3 = true) {A : Option Addr} {c : Nat} (w : World) (hr : Rd 7 RpP.cells w A (newK 4)) :
    Calls Try.prog 12 #[.agg #[.int .i64 bad, .slice A 4 c, .slice none 0 0]] w fun e w' => e = .returned (.bool true) ∧ Below w.heap.size w w' :=
  (implWorldAgree ⟨bad, A, c, newK 4, none, 0, []⟩ w (newRd bad hr)).mono fun _ _ h' => ⟨h'.1.trans (ret_bool (newW_facts h A c).2), h'.2⟩
theorem implNewW {bad b' : Int} {k : Nat} (h1 : newB bad = b') (h2 : newL bad = newK k) (w : World) :
    Calls Try.prog 8 #[.int .i64 bad] w fun e w' => ∃ (A : Option Addr) (c : Nat), e = .returned (.agg #[.int .i64 b', .slice A k c, .slice none 0 0]) ∧ w'.ownsRow w.heap.size 47 7 (.slice A k c) k ((newK k).flatMap RpP.cells) ∧ Below w.heap.size w w' := by
  refine (implWorldNew bad w).mono fun e w' h => ?_
  rw [h1, h2, newK_len] at h
  exact h
theorem specNewW {bad b' : Int} {k : Nat} (h1 : newB bad = b') (h2 : newL bad = newK k) (w : World) :
    Calls Try.prog 10 #[.int .i64 bad] w fun e w' => ∃ (A : Option Addr) (c : Nat), e = .returned (.agg #[.int .i64 b', .slice A k c, .slice none 0 0]) ∧ w'.ownsRow w.heap.size 47 7 (.slice A k c) k ((newK k).flatMap RpP.cells) ∧ Below w.heap.size w w' := by
  refine (specWorldNew bad w).mono fun e w' h => ?_
  rw [h1, h2, newK_len] at h
  exact h

set_option maxRecDepth 100000 in
set_option maxHeartbeats 8000000 in
theorem lawWorldNew {w : World} {A : Option Addr} {m c : Nat} (hm : m ≤ maxLen) (hc : m ≤ c) (hb : InB w A m) :
    Calls Try.prog 3 #[.slice A m c] w fun e w' => e = .returned (.bool true) ∧ Below w.heap.size w w' := by
  unfold maxLen at hm
  have HB := Lib.hid hb
  clear hb
  go_enter Try.func3, Try.ntmps3
  by_cases hn : 1048576 < m
  · have e0 : (decide ((1048576 : Int) < (m : Int))) = true := by simp; omega
    go_wp2
    go_light
    go_ret
    exact ⟨rfl, Below.refl _ _⟩
  have e0 : (decide ((1048576 : Int) < (m : Int))) = false := by simp; omega
  go_wp2_with (fail)
  refine (drawWorldNew (by omega) hc HB.out).mono ?_
  rintro e w1 ⟨bad, rfl, hbl⟩
  have BV := Lib.hid hbl
  clear hbl HB hc hm e0 hn
  rcases hk : inB bad 0 3 with _ | _
  · have H1 := Lib.hid (show newB bad = 0 by unfold newB; rw [hk]; rfl)
    have H2 := Lib.hid (show newL bad = newK 0 by unfold newL; rw [hk]; rfl)
    have HK := Lib.hid hk
    clear hk
    go_wp2_with (fail)
    refine (implNewW H1.out H2.out _).mono ?_
    rintro e w2 ⟨A, c', rfl, hoA, hb⟩
    have BW := Lib.hid ((Below.and BV.out hb).alloc (Below.and BV.out hb).size (.cells #[.int .i64 0, .slice A 0 c', .slice none 0 0] 27))
    have K3 : Hid (Blk (w2.alloc (.cells #[.int .i64 0, .slice A 0 c', .slice none 0 0] 27)) w2.heap.size 27 #[.int .i64 0, .slice A 0 c', .slice none 0 0]) := Blk.new w2
    have RA : Hid (Rd 7 RpP.cells (w2.alloc (.cells #[.int .i64 0, .slice A 0 c', .slice none 0 0] 27)) A (newK 0)) := Rd.below (Rd.of_own RpP.len hoA (newK_len _)) ((Below.refl _ _).alloc (Nat.le_refl _) _)
    have lk : w2.heap.size < (w2.alloc (.cells #[.int .i64 0, .slice A 0 c', .slice none 0 0] 27)).heap.size := by simp
    clear hb hoA
    have x0 : (w2.alloc (.cells #[.int .i64 0, .slice A 0 c', .slice none 0 0] 27)).cell? ⟨w2.heap.size, 0, none⟩ = some (.int .i64 0) := K3.out.cell 0
    have x1 : (w2.alloc (.cells #[.int .i64 0, .slice A 0 c', .slice none 0 0] 27)).cell? ⟨w2.heap.size, 1, none⟩ = some (.slice A 0 c') := K3.out.cell 1
    have x2 : (w2.alloc (.cells #[.int .i64 0, .slice A 0 c', .slice none 0 0] 27)).cell? ⟨w2.heap.size, 2, none⟩ = some (.slice none 0 0) := K3.out.cell 2
    go_wp2_with (fail)
    refine wp_region_held_drew (S := fun w1 => Below (w2.alloc (.cells #[.int .i64 0, .slice A 0 c', .slice none 0 0] 27)).heap.size (w2.alloc (.cells #[.int .i64 0, .slice A 0 c', .slice none 0 0] 27)) w1) (by kernel_rfl) ((Below.refl _ _).drew) (fun hHeld => ?_)
    refine takeD 0 12 (v := ?_) rfl rfl (by kernel_rfl) (by kernel_rfl) (by kernel_rfl) (fun _ _ _ h => h) (Or.inl ⟨by rfl, ?_⟩) (by assumption) ?_
    rotate_left
    · intro w1 hSw; obtain ⟨hcS, hfS⟩ := bcell hSw; go_simp; (try with_reducible rfl)
    (try simp only [Act.put, List.setIfInBounds_toArray, List.set_cons_zero, List.set_cons_succ])
    refine takeD 1 13 (v := ?_) rfl rfl (by kernel_rfl) (by kernel_rfl) (by kernel_rfl) (fun _ _ _ h => h) (Or.inl ⟨by rfl, ?_⟩) (by assumption) ?_
    rotate_left
    · intro w1 hSw; obtain ⟨hcS, hfS⟩ := bcell hSw; go_simp; (try with_reducible rfl)
    (try simp only [Act.put, List.setIfInBounds_toArray, List.set_cons_zero, List.set_cons_succ])
    refine wpAnyH_ready (rs := [2]) (by kernel_rfl) (by simp) ?_
    refine AllReadyH.cons rfl (fun K hK => ?_) AllReadyH.nil
    go_simp
    refine (specNewW H1.out H2.out _).mono ?_
    rintro e w3 ⟨B, d, rfl, hoB, hb⟩
    have RB := Lib.hid (Rd.of_own RpP.len hoB (newK_len _))
    refine hK.out _ _ (Below.and hHeld hb) (fun hHeld2 => ?_)
    clear hK K
    (try simp only [Act.put, List.setIfInBounds_toArray, List.set_cons_zero, List.set_cons_succ])
    refine wpAnyH_ready (rs := [3]) (by kernel_rfl) (by simp) ?_
    refine AllReadyH.cons rfl (fun K hK => ?_) AllReadyH.nil
    go_simp
    refine (wpWorldNew 0 0 A B c' d _ (by omega) (Rd.below RA.out hHeld2) RB.out).mono ?_
    rintro e w4 ⟨rfl, hb⟩
    refine hK.out _ _ (Below.and hHeld2 hb) (fun hHeld3 => ?_)
    clear hK K
    (try simp only [Act.put, List.setIfInBounds_toArray, List.set_cons_zero, List.set_cons_succ])
    refine takeD 4 16 (v := ?_) rfl rfl (by kernel_rfl) (by kernel_rfl) (by kernel_rfl) (fun _ _ _ h => h) (Or.inl ⟨by rfl, ?_⟩) (by assumption) ?_
    rotate_left
    · intro w1 hSw; obtain ⟨hcS, hfS⟩ := bcell hSw; go_simp; (try with_reducible rfl)
    (try simp only [Act.put, List.setIfInBounds_toArray, List.set_cons_zero, List.set_cons_succ])
    refine takeD 5 17 (v := ?_) rfl rfl (by kernel_rfl) (by kernel_rfl) (by kernel_rfl) (fun _ _ _ h => h) (Or.inl ⟨by rfl, ?_⟩) (by assumption) ?_
    rotate_left
    · intro w1 hSw; obtain ⟨hcS, hfS⟩ := bcell hSw; go_simp; (try with_reducible rfl)
    (try simp only [Act.put, List.setIfInBounds_toArray, List.set_cons_zero, List.set_cons_succ])
    refine takeD 6 18 (v := ?_) rfl rfl (by kernel_rfl) (by kernel_rfl) (by kernel_rfl) (fun _ _ _ h => h) (Or.inl ⟨by rfl, ?_⟩) (by assumption) ?_
    rotate_left
    · intro w1 hSw; obtain ⟨hcS, hfS⟩ := bcell hSw; go_simp; (try with_reducible rfl)
    (try simp only [Act.put, List.setIfInBounds_toArray, List.set_cons_zero, List.set_cons_succ])
    refine takeD 7 19 (v := ?_) rfl rfl (by kernel_rfl) (by kernel_rfl) (by kernel_rfl) (fun _ _ _ h => h) (Or.inl ⟨by rfl, ?_⟩) (by assumption) ?_
    rotate_left
    · intro w1 hSw; obtain ⟨hcS, hfS⟩ := bcell hSw; go_simp; (try with_reducible rfl)
    (try simp only [Act.put, List.setIfInBounds_toArray, List.set_cons_zero, List.set_cons_succ])
    refine takeD 8 20 (v := ?_) rfl rfl (by kernel_rfl) (by kernel_rfl) (by kernel_rfl) (fun _ _ _ h => h) (Or.inl ⟨by rfl, ?_⟩) (by assumption) ?_
    rotate_left
    · intro w1 hSw; obtain ⟨hcS, hfS⟩ := bcell hSw; go_simp; (try with_reducible rfl)
    (try simp only [Act.put, List.setIfInBounds_toArray, List.set_cons_zero, List.set_cons_succ])
    refine takeD 9 21 (v := ?_) rfl rfl (by kernel_rfl) (by kernel_rfl) (by kernel_rfl) (fun _ _ _ h => h) (Or.inl ⟨by rfl, ?_⟩) (by assumption) ?_
    rotate_left
    · intro w1 hSw; obtain ⟨hcS, hfS⟩ := bcell hSw; go_simp; (try with_reducible rfl)
    (try simp only [Act.put, List.setIfInBounds_toArray, List.set_cons_zero, List.set_cons_succ])
    refine takeD 10 22 (v := ?_) rfl rfl (by kernel_rfl) (by kernel_rfl) (by kernel_rfl) (fun _ _ _ h => h) (Or.inl ⟨by rfl, ?_⟩) (by assumption) ?_
    rotate_left
    · intro w1 hSw; obtain ⟨hcS, hfS⟩ := bcell hSw; go_simp; (try with_reducible rfl)
    (try simp only [Act.put, List.setIfInBounds_toArray, List.set_cons_zero, List.set_cons_succ])
    refine wpAnyH_done (by kernel_rfl) ?_ _
    have BX := Lib.hid (Below.and BW.out hHeld3)
    have K3 := Lib.hid (K3.out.below hHeld3)
    have RA := Lib.hid (Rd.below RA.out hHeld3)
    clear hHeld3 x0 x1 x2 lk RB
    have x0 : w4.cell? ⟨w2.heap.size, 0, none⟩ = some (.int .i64 0) := K3.out.cell 0
    have x1 : w4.cell? ⟨w2.heap.size, 1, none⟩ = some (.slice A 0 c') := K3.out.cell 1
    have x2 : w4.cell? ⟨w2.heap.size, 2, none⟩ = some (.slice none 0 0) := K3.out.cell 2
    have lk := K3.out.lt
    go_wp2_with (fail)
    refine wp_region_held_drew (S := fun w1 => Below w4.heap.size w4 w1) (by kernel_rfl) ((Below.refl _ _).drew) (fun hHeld => ?_)
    refine takeD 0 23 (v := ?_) rfl rfl (by kernel_rfl) (by kernel_rfl) (by kernel_rfl) (fun _ _ _ h => h) (Or.inl ⟨by rfl, ?_⟩) (by assumption) ?_
    rotate_left
    · intro w1 hSw; obtain ⟨hcS, hfS⟩ := bcell hSw; go_simp; (try with_reducible rfl)
    (try simp only [Act.put, List.setIfInBounds_toArray, List.set_cons_zero, List.set_cons_succ])
    refine takeD 1 24 (v := ?_) rfl rfl (by kernel_rfl) (by kernel_rfl) (by kernel_rfl) (fun _ _ _ h => h) (Or.inl ⟨by rfl, ?_⟩) (by assumption) ?_
    rotate_left
    · intro w1 hSw; obtain ⟨hcS, hfS⟩ := bcell hSw; go_simp; (try with_reducible rfl)
    (try simp only [Act.put, List.setIfInBounds_toArray, List.set_cons_zero, List.set_cons_succ])
    refine wpAnyH_ready (rs := [2]) (by kernel_rfl) (by simp) ?_
    refine AllReadyH.cons rfl (fun K hK => ?_) AllReadyH.nil
    go_simp
    refine (specNewW H1.out H2.out _).mono ?_
    rintro e w5 ⟨B, d, rfl, hoB, hb⟩
    have RB := Lib.hid (Rd.of_own RpP.len hoB (newK_len _))
    refine hK.out _ _ (Below.and hHeld hb) (fun hHeld2 => ?_)
    clear hK K
    (try simp only [Act.put, List.setIfInBounds_toArray, List.set_cons_zero, List.set_cons_succ])
    refine wpAnyH_ready (rs := [3]) (by kernel_rfl) (by simp) ?_
    refine AllReadyH.cons rfl (fun K hK => ?_) AllReadyH.nil
    go_simp
    refine (wpWorldNew 0 0 A B c' d _ (by omega) (Rd.below RA.out hHeld2) RB.out).mono ?_
    rintro e w6 ⟨rfl, hb⟩
    refine hK.out _ _ (Below.and hHeld2 hb) (fun hHeld3 => ?_)
    clear hK K
    (try simp only [Act.put, List.setIfInBounds_toArray, List.set_cons_zero, List.set_cons_succ])
    refine takeD 4 2 (v := ?_) rfl rfl (by kernel_rfl) (by kernel_rfl) (by kernel_rfl) (fun _ _ _ h => h) (Or.inl ⟨by rfl, ?_⟩) (by assumption) ?_
    rotate_left
    · intro w1 hSw; obtain ⟨hcS, hfS⟩ := bcell hSw; go_simp; (try with_reducible rfl)
    (try simp only [Act.put, List.setIfInBounds_toArray, List.set_cons_zero, List.set_cons_succ])
    refine wpAnyH_done (by kernel_rfl) ?_ _
    have BX := Lib.hid (Below.and BX.out hHeld3)
    go_wp2
    go_light
    go_ret
    exact ⟨rfl, BX.out⟩
  · have H1 := Lib.hid (show newB bad = bad by unfold newB; rw [hk]; rfl)
    have H2 := Lib.hid (show newL bad = newK 4 by unfold newL; rw [hk]; rfl)
    have HK := Lib.hid hk
    clear hk
    go_wp2_with (fail)
    refine (implNewW H1.out H2.out _).mono ?_
    rintro e w2 ⟨A, c', rfl, hoA, hb⟩
    have BW := Lib.hid ((Below.and BV.out hb).alloc (Below.and BV.out hb).size (.cells #[.int .i64 bad, .slice A 4 c', .slice none 0 0] 27))
    have K3 : Hid (Blk (w2.alloc (.cells #[.int .i64 bad, .slice A 4 c', .slice none 0 0] 27)) w2.heap.size 27 #[.int .i64 bad, .slice A 4 c', .slice none 0 0]) := Blk.new w2
    have RA : Hid (Rd 7 RpP.cells (w2.alloc (.cells #[.int .i64 bad, .slice A 4 c', .slice none 0 0] 27)) A (newK 4)) := Rd.below (Rd.of_own RpP.len hoA (newK_len _)) ((Below.refl _ _).alloc (Nat.le_refl _) _)
    have lk : w2.heap.size < (w2.alloc (.cells #[.int .i64 bad, .slice A 4 c', .slice none 0 0] 27)).heap.size := by simp
    clear hb hoA
    have x0 : (w2.alloc (.cells #[.int .i64 bad, .slice A 4 c', .slice none 0 0] 27)).cell? ⟨w2.heap.size, 0, none⟩ = some (.int .i64 bad) := K3.out.cell 0
    have x1 : (w2.alloc (.cells #[.int .i64 bad, .slice A 4 c', .slice none 0 0] 27)).cell? ⟨w2.heap.size, 1, none⟩ = some (.slice A 4 c') := K3.out.cell 1
    have x2 : (w2.alloc (.cells #[.int .i64 bad, .slice A 4 c', .slice none 0 0] 27)).cell? ⟨w2.heap.size, 2, none⟩ = some (.slice none 0 0) := K3.out.cell 2
    go_wp2_with (fail)
    refine wp_region_held_drew (S := fun w1 => Below (w2.alloc (.cells #[.int .i64 bad, .slice A 4 c', .slice none 0 0] 27)).heap.size (w2.alloc (.cells #[.int .i64 bad, .slice A 4 c', .slice none 0 0] 27)) w1) (by kernel_rfl) ((Below.refl _ _).drew) (fun hHeld => ?_)
    refine takeD 0 12 (v := ?_) rfl rfl (by kernel_rfl) (by kernel_rfl) (by kernel_rfl) (fun _ _ _ h => h) (Or.inl ⟨by rfl, ?_⟩) (by assumption) ?_
    rotate_left
    · intro w1 hSw; obtain ⟨hcS, hfS⟩ := bcell hSw; go_simp; (try with_reducible rfl)
    (try simp only [Act.put, List.setIfInBounds_toArray, List.set_cons_zero, List.set_cons_succ])
    refine takeD 1 13 (v := ?_) rfl rfl (by kernel_rfl) (by kernel_rfl) (by kernel_rfl) (fun _ _ _ h => h) (Or.inl ⟨by rfl, ?_⟩) (by assumption) ?_
    rotate_left
    · intro w1 hSw; obtain ⟨hcS, hfS⟩ := bcell hSw; go_simp; (try with_reducible rfl)
    (try simp only [Act.put, List.setIfInBounds_toArray, List.set_cons_zero, List.set_cons_succ])
    refine wpAnyH_ready (rs := [2]) (by kernel_rfl) (by simp) ?_
    refine AllReadyH.cons rfl (fun K hK => ?_) AllReadyH.nil
    go_simp
    refine (specNewW H1.out H2.out _).mono ?_
    rintro e w3 ⟨B, d, rfl, hoB, hb⟩
    have RB := Lib.hid (Rd.of_own RpP.len hoB (newK_len _))
    refine hK.out _ _ (Below.and hHeld hb) (fun hHeld2 => ?_)
    clear hK K
    (try simp only [Act.put, List.setIfInBounds_toArray, List.set_cons_zero, List.set_cons_succ])
    refine wpAnyH_ready (rs := [3]) (by kernel_rfl) (by simp) ?_
    refine AllReadyH.cons rfl (fun K hK => ?_) AllReadyH.nil
    go_simp
    refine (wpWorldNew bad 4 A B c' d _ (by omega) (Rd.below RA.out hHeld2) RB.out).mono ?_
    rintro e w4 ⟨rfl, hb⟩
    refine hK.out _ _ (Below.and hHeld2 hb) (fun hHeld3 => ?_)
    clear hK K
    (try simp only [Act.put, List.setIfInBounds_toArray, List.set_cons_zero, List.set_cons_succ])
    refine takeD 4 16 (v := ?_) rfl rfl (by kernel_rfl) (by kernel_rfl) (by kernel_rfl) (fun _ _ _ h => h) (Or.inl ⟨by rfl, ?_⟩) (by assumption) ?_
    rotate_left
    · intro w1 hSw; obtain ⟨hcS, hfS⟩ := bcell hSw; go_simp; (try with_reducible rfl)
    (try simp only [Act.put, List.setIfInBounds_toArray, List.set_cons_zero, List.set_cons_succ])
    refine takeD 5 17 (v := ?_) rfl rfl (by kernel_rfl) (by kernel_rfl) (by kernel_rfl) (fun _ _ _ h => h) (Or.inl ⟨by rfl, ?_⟩) (by assumption) ?_
    rotate_left
    · intro w1 hSw; obtain ⟨hcS, hfS⟩ := bcell hSw; go_simp; (try with_reducible rfl)
    (try simp only [Act.put, List.setIfInBounds_toArray, List.set_cons_zero, List.set_cons_succ])
    refine takeD 6 18 (v := ?_) rfl rfl (by kernel_rfl) (by kernel_rfl) (by kernel_rfl) (fun _ _ _ h => h) (Or.inl ⟨by rfl, ?_⟩) (by assumption) ?_
    rotate_left
    · intro w1 hSw; obtain ⟨hcS, hfS⟩ := bcell hSw; go_simp; (try with_reducible rfl)
    (try simp only [Act.put, List.setIfInBounds_toArray, List.set_cons_zero, List.set_cons_succ])
    refine takeD 7 19 (v := ?_) rfl rfl (by kernel_rfl) (by kernel_rfl) (by kernel_rfl) (fun _ _ _ h => h) (Or.inl ⟨by rfl, ?_⟩) (by assumption) ?_
    rotate_left
    · intro w1 hSw; obtain ⟨hcS, hfS⟩ := bcell hSw; go_simp; (try with_reducible rfl)
    (try simp only [Act.put, List.setIfInBounds_toArray, List.set_cons_zero, List.set_cons_succ])
    refine takeD 8 20 (v := ?_) rfl rfl (by kernel_rfl) (by kernel_rfl) (by kernel_rfl) (fun _ _ _ h => h) (Or.inl ⟨by rfl, ?_⟩) (by assumption) ?_
    rotate_left
    · intro w1 hSw; obtain ⟨hcS, hfS⟩ := bcell hSw; go_simp; (try with_reducible rfl)
    (try simp only [Act.put, List.setIfInBounds_toArray, List.set_cons_zero, List.set_cons_succ])
    refine takeD 9 21 (v := ?_) rfl rfl (by kernel_rfl) (by kernel_rfl) (by kernel_rfl) (fun _ _ _ h => h) (Or.inl ⟨by rfl, ?_⟩) (by assumption) ?_
    rotate_left
    · intro w1 hSw; obtain ⟨hcS, hfS⟩ := bcell hSw; go_simp; (try with_reducible rfl)
    (try simp only [Act.put, List.setIfInBounds_toArray, List.set_cons_zero, List.set_cons_succ])
    refine takeD 10 22 (v := ?_) rfl rfl (by kernel_rfl) (by kernel_rfl) (by kernel_rfl) (fun _ _ _ h => h) (Or.inl ⟨by rfl, ?_⟩) (by assumption) ?_
    rotate_left
    · intro w1 hSw; obtain ⟨hcS, hfS⟩ := bcell hSw; go_simp; (try with_reducible rfl)
    (try simp only [Act.put, List.setIfInBounds_toArray, List.set_cons_zero, List.set_cons_succ])
    refine wpAnyH_done (by kernel_rfl) ?_ _
    have BX := Lib.hid (Below.and BW.out hHeld3)
    have K3 := Lib.hid (K3.out.below hHeld3)
    have RA := Lib.hid (Rd.below RA.out hHeld3)
    clear hHeld3 x0 x1 x2 lk RB
    have x0 : w4.cell? ⟨w2.heap.size, 0, none⟩ = some (.int .i64 bad) := K3.out.cell 0
    have x1 : w4.cell? ⟨w2.heap.size, 1, none⟩ = some (.slice A 4 c') := K3.out.cell 1
    have x2 : w4.cell? ⟨w2.heap.size, 2, none⟩ = some (.slice none 0 0) := K3.out.cell 2
    have lk := K3.out.lt
    go_wp2_with (fail)
    refine (implWorldOkN HK.out _ RA.out).mono ?_
    rintro e w5 ⟨rfl, hb⟩
    have BX := Lib.hid (Below.and BX.out hb)
    have K3 := Lib.hid (K3.out.below hb)
    have RA := Lib.hid (Rd.below RA.out hb)
    clear hb x0 x1 x2
    have x0 : w5.cell? ⟨w2.heap.size, 0, none⟩ = some (.int .i64 bad) := K3.out.cell 0
    have x1 : w5.cell? ⟨w2.heap.size, 1, none⟩ = some (.slice A 4 c') := K3.out.cell 1
    have x2 : w5.cell? ⟨w2.heap.size, 2, none⟩ = some (.slice none 0 0) := K3.out.cell 2
    go_wp2_with (fail)
    refine (implWorldAgreeN HK.out _ RA.out).mono ?_
    rintro e w6 ⟨rfl, hb⟩
    have BX := Lib.hid (Below.and BX.out hb)
    have K3 := Lib.hid (K3.out.below hb)
    clear hb x0 x1 x2
    have x0 : w6.cell? ⟨w2.heap.size, 0, none⟩ = some (.int .i64 bad) := K3.out.cell 0
    have x1 : w6.cell? ⟨w2.heap.size, 1, none⟩ = some (.slice A 4 c') := K3.out.cell 1
    have x2 : w6.cell? ⟨w2.heap.size, 2, none⟩ = some (.slice none 0 0) := K3.out.cell 2
    have e1 : (bad == bad) = true := by simp
    go_wp2
    go_light
    go_ret
    exact ⟨rfl, BX.out⟩

end Go.Proofs.Ytfelhnchnaggmaa
