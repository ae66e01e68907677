/- Each keeper is heard once: the law. -/
import Derived.Test.YtdpladihacgobaaNq
import Derived.Test.YtdpladihacgobaaNr
import Derived.Test.YtdpladihacgobaaNf
import Derived.Test.YtdpladihacgobaaNi
namespace Go.Proofs.Ytdpladihacgobaa
open Go.ChangeShapes Go.WideShapes Go.ChangeAt Go.RowKit
set_option linter.unusedVariables false
set_option linter.unusedSimpArgs false

theorem hear_cases {q : Rq} {L : List Rp} {r : Rp} (h : plB q L = true) : hearP q L r = ((q, L), false) ∨ (hearP q L r = ((q, L ++ [r]), true) ∧ rpB r = true ∧ (r.n != q.n) = false ∧ L.countP (fromP r.f) = 0) := by
  unfold hearP
  rw [h, if_pos rfl]
  split
  · rename_i h1
    simp only [Bool.and_eq_true, Bool.not_eq_true', decide_eq_false_iff_not] at h1
    exact .inr ⟨rfl, h1.1, h1.2.1, by omega⟩
  · exact .inl rfl
theorem hear_ok {q : Rq} {L : List Rp} {r : Rp} (h : plB q L = true) (h1 : rpB r = true) (h2 : (r.n != q.n) = false) (h3 : L.countP (fromP r.f) = 0) : plB q (L ++ [r]) = true := by
  rw [plB_eq] at h ⊢
  simp only [Bool.and_eq_true, decide_eq_true_iff] at h ⊢
  refine ⟨h.1, ?_, ?_⟩
  · rw [List.all_append, h.2.1]
    simp [gdR, h1, h2]
  · rw [List.pairwise_append]
    refine ⟨h.2.2, by simp, fun a ha b hb => ?_⟩
    simp only [List.mem_singleton] at hb
    subst hb
    intro e
    rw [List.countP_eq_zero] at h3
    exact h3 a ha (by simp [fromP, e])
theorem hear_again (q : Rq) (L : List Rp) (r : Rp) : (hearP q (L ++ [r]) r).2 = false := by
  unfold hearP
  have h : (0 : Int) < (((L ++ [r]).countP (fromP r.f) : Nat) : Int) := by
    rw [List.countP_append]
    simp [fromP]
  split
  · rw [decide_eq_true h]
    simp
  · rfl
theorem like_symm (a b : Rp) : likeP a b = likeP b a := by
  rw [Bool.eq_iff_iff]
  simp only [likeP, Bool.and_eq_true, beq_iff_eq]
  exact ⟨fun h => ⟨h.1.symm, h.2.symm⟩, fun h => ⟨h.1.symm, h.2.symm⟩⟩
theorem like_self (a : Rp) : likeP a a = true := by simp [likeP]
theorem sure_still {q : Rq} {L : List Rp} {r : Rp} (h : plB q L = true) (h' : plB q (L ++ [r]) = true) (hs : (sureP q L).2 = true) : (sureP q (L ++ [r])).2 = true := by
  have e : sureP q L = firstR (sureX L) L := by unfold sureP; rw [h]; rfl
  have e' : sureP q (L ++ [r]) = firstR (sureX (L ++ [r])) (L ++ [r]) := by unfold sureP; rw [h']; rfl
  rw [e, firstR_all, Bool.not_eq_true', List.all_eq_false] at hs
  obtain ⟨x, hx, hp⟩ := hs
  rw [e', firstR_all, Bool.not_eq_true', List.all_eq_false]
  refine ⟨x, by simp [hx], ?_⟩
  simp [sureX] at hp ⊢
  omega
theorem sure_same {q : Rq} {L : List Rp} {r : Rp} (h : plB q L = true) (h' : plB q (L ++ [r]) = true) (hs : (sureP q L).2 = true) (hl : (L ++ [r]).length ≤ 3) : (sureP q (L ++ [r])).1 = (sureP q L).1 := by
  have e : sureP q L = firstR (sureX L) L := by unfold sureP; rw [h]; rfl
  have e' : sureP q (L ++ [r]) = firstR (sureX (L ++ [r])) (L ++ [r]) := by unfold sureP; rw [h']; rfl
  rw [e] at hs
  rw [e, e']
  clear e e' h h'
  match L, hs, hl with
  | [], hs, _ => cases hs
  | [a], hs, _ =>
    rw [firstR_all, Bool.not_eq_true', List.all_eq_false] at hs
    obtain ⟨x, hx, hp⟩ := hs
    simp only [List.mem_singleton] at hx
    subst hx
    simp [sureX, like_self] at hp
  | [a, b], hs, _ =>
    have hab : likeP a b = true := by
      rw [firstR_all, Bool.not_eq_true', List.all_eq_false] at hs
      obtain ⟨x, hx, hp⟩ := hs
      rcases hy : likeP a b with _ | _
      · exfalso
        have hy' : likeP b a = false := by rw [like_symm]; exact hy
        simp only [List.mem_cons, List.not_mem_nil, or_false] at hx
        rcases hx with rfl | rfl
        · apply hp
          simp [sureX, List.countP_cons, like_self, hy]
        · apply hp
          simp [sureX, List.countP_cons, like_self, hy']
      · rfl
    have h1 : sureX [a, b] a = true := by simp [sureX, List.countP_cons, like_self, hab]
    have h2 : sureX ([a, b] ++ [r]) a = true := by
      simp [sureX, List.countP_cons, like_self, hab]
      omega
    show (firstR (sureX ([a, b] ++ [r])) (a :: ([b] ++ [r]))).1 = (firstR (sureX [a, b]) (a :: [b])).1
    unfold firstR
    rw [h1, h2]
    rfl
  | _ :: _ :: _ :: _, _, hl => simp at hl

set_option maxRecDepth 100000 in
set_option maxHeartbeats 16000000 in
theorem lawPlayerHear (A : Option Addr) (c n : Nat) (w : World) (hn : n ≤ maxLen) (hc : n ≤ c) (hb : InB w A n) :
    Calls Try.prog 3 #[.slice A n c] w fun e w' => e = .returned (.bool true) ∧ Below w.heap.size w w' := by
  have HB := Lib.hid hb
  clear hb
  go_enter Try.func3, Try.ntmps3
  by_cases h : n > 1048576
  · go_wp2
    go_light
    go_ret
    exact ⟨rfl, Below.refl _ _⟩
  go_wp2_with (fail)
  refine (drawPlayerHear (by omega) hc HB.out).mono ?_
  rintro e w1 ⟨q0, D1, d, L, r, rfl, hL, oa, hbz⟩
  have Z := Lib.hid hbz
  have RA := Lib.hid oa.rdP
  clear oa hbz HB h
  have hb : Below w1.heap.size w1 ((w1.alloc (.cells #[.int .i64 q0.c, .int .i64 q0.n, .int .i64 q0.o, .int .i64 q0.x, .int .i64 q0.y, .slice D1 L.length d] 27)).alloc (.cells #[.int .i64 r.f, .int .i64 r.n, .int .i64 r.c, .int .i64 r.s] 29)) := below_alloc2 w1 _ _
  have T3 : Hid (Bkk ((w1.alloc (.cells #[.int .i64 q0.c, .int .i64 q0.n, .int .i64 q0.o, .int .i64 q0.x, .int .i64 q0.y, .slice D1 L.length d] 27)).alloc (.cells #[.int .i64 r.f, .int .i64 r.n, .int .i64 r.c, .int .i64 r.s] 29)) w1.heap.size 27 #[.int .i64 q0.c, .int .i64 q0.n, .int .i64 q0.o, .int .i64 q0.x, .int .i64 q0.y, .slice D1 L.length d]) := (Bkk.new (cs := #[.int .i64 q0.c, .int .i64 q0.n, .int .i64 q0.o, .int .i64 q0.x, .int .i64 q0.y, .slice D1 L.length d]) (t := 27) w1).alloc _
  have T4 : Hid (Bkk ((w1.alloc (.cells #[.int .i64 q0.c, .int .i64 q0.n, .int .i64 q0.o, .int .i64 q0.x, .int .i64 q0.y, .slice D1 L.length d] 27)).alloc (.cells #[.int .i64 r.f, .int .i64 r.n, .int .i64 r.c, .int .i64 r.s] 29)) (w1.heap.size + 1) 29 #[.int .i64 r.f, .int .i64 r.n, .int .i64 r.c, .int .i64 r.s]) := by have := Bkk.new (cs := #[.int .i64 r.f, .int .i64 r.n, .int .i64 r.c, .int .i64 r.s]) (t := 29) (w1.alloc (.cells #[.int .i64 q0.c, .int .i64 q0.n, .int .i64 q0.o, .int .i64 q0.x, .int .i64 q0.y, .slice D1 L.length d] 27)); simpa [Hid] using this
  replace RA := Lib.hid (RA.out.below hb)
  replace Z := Lib.hid (Below.and Z.out hb)
  clear hb
  go_upto_region 4 with (fail)
  obtain ⟨w2, hw2⟩ : ∃ X, X = ((w1.alloc (.cells #[.int .i64 q0.c, .int .i64 q0.n, .int .i64 q0.o, .int .i64 q0.x, .int .i64 q0.y, .slice D1 L.length d] 27)).alloc (.cells #[.int .i64 r.f, .int .i64 r.n, .int .i64 r.c, .int .i64 r.s] 29)) := ⟨_, rfl⟩
  obtain ⟨blk3, hp3⟩ : ∃ X, X = w1.heap.size := ⟨_, rfl⟩
  obtain ⟨blk4, hp4⟩ : ∃ X, X = w1.heap.size + 1 := ⟨_, rfl⟩
  rw [← hw2] at T3 T4 RA Z ⊢
  rw [← hp4] at T4 ⊢
  rw [← hp3] at T3 ⊢
  clear hw2 hp3 hp4
  obtain ⟨⟨⟨q1, L1⟩, x2⟩, hX⟩ : ∃ Y : (Rq × List Rp) × Bool, Y = hearP q0 L r := ⟨_, rfl⟩
  have HX := Lib.hid hX
  have hl1 : L1.length ≤ L.length + 1 := by have := hearP_len q0 L r; rw [← hX] at this; exact this
  clear hX
  have p0 : w2.cell? ⟨blk3, 0, none⟩ = some (.int .i64 q0.c) := T3.out.cell 0
  have p1 : w2.cell? ⟨blk3, 1, none⟩ = some (.int .i64 q0.n) := T3.out.cell 1
  have p2 : w2.cell? ⟨blk3, 2, none⟩ = some (.int .i64 q0.o) := T3.out.cell 2
  have p3 : w2.cell? ⟨blk3, 3, none⟩ = some (.int .i64 q0.x) := T3.out.cell 3
  have p4 : w2.cell? ⟨blk3, 4, none⟩ = some (.int .i64 q0.y) := T3.out.cell 4
  have p5 : w2.cell? ⟨blk3, 5, none⟩ = some (.slice D1 L.length d) := T3.out.cell 5
  have g0 : w2.cell? ⟨blk4, 0, none⟩ = some (.int .i64 r.f) := T4.out.cell 0
  have g1 : w2.cell? ⟨blk4, 1, none⟩ = some (.int .i64 r.n) := T4.out.cell 1
  have g2 : w2.cell? ⟨blk4, 2, none⟩ = some (.int .i64 r.c) := T4.out.cell 2
  have g3 : w2.cell? ⟨blk4, 3, none⟩ = some (.int .i64 r.s) := T4.out.cell 3
  go_wp2_with (fail)
  have hs := implPlayerHear q0 D1 d L r w2 (by omega) RA.out
  rw [← HX.out] at hs
  refine hs.mono ?_
  clear hs
  rintro e w3 ⟨A5, a5, rfl, oa, hb⟩
  clear p0 p1 p2 p3 p4 p5 g0 g1 g2 g3
  replace T3 := Lib.hid (T3.out.below hb)
  replace T4 := Lib.hid (T4.out.below hb)
  replace RA := Lib.hid (RA.out.below hb)
  replace Z := Lib.hid (Below.and Z.out hb)
  clear hb
  have R5 := Lib.hid oa.rdP
  clear oa
  have hb : Below w3.heap.size w3 (w3.alloc (.cells #[.int .i64 q1.c, .int .i64 q1.n, .int .i64 q1.o, .int .i64 q1.x, .int .i64 q1.y, .slice A5 L1.length a5] 27)) := (Below.refl _ _).alloc (Nat.le_refl _) _
  have T5 : Hid (Bkk (w3.alloc (.cells #[.int .i64 q1.c, .int .i64 q1.n, .int .i64 q1.o, .int .i64 q1.x, .int .i64 q1.y, .slice A5 L1.length a5] 27)) w3.heap.size 27 #[.int .i64 q1.c, .int .i64 q1.n, .int .i64 q1.o, .int .i64 q1.x, .int .i64 q1.y, .slice A5 L1.length a5]) := Bkk.new _
  replace T3 := Lib.hid (T3.out.below hb)
  replace T4 := Lib.hid (T4.out.below hb)
  replace RA := Lib.hid (RA.out.below hb)
  replace R5 := Lib.hid (R5.out.below hb)
  replace Z := Lib.hid (Below.and Z.out hb)
  clear hb
  go_upto_region 5 with (fail)
  obtain ⟨w4, hw4⟩ : ∃ X, X = (w3.alloc (.cells #[.int .i64 q1.c, .int .i64 q1.n, .int .i64 q1.o, .int .i64 q1.x, .int .i64 q1.y, .slice A5 L1.length a5] 27)) := ⟨_, rfl⟩
  obtain ⟨blk5, hblk5⟩ : ∃ X, X = w3.heap.size := ⟨_, rfl⟩
  rw [← hw4] at T5 T3 T4 RA R5 Z ⊢
  rw [← hblk5] at T5 ⊢
  clear hw4 hblk5
  have p0 : w4.cell? ⟨blk3, 0, none⟩ = some (.int .i64 q0.c) := T3.out.cell 0
  have p1 : w4.cell? ⟨blk3, 1, none⟩ = some (.int .i64 q0.n) := T3.out.cell 1
  have p2 : w4.cell? ⟨blk3, 2, none⟩ = some (.int .i64 q0.o) := T3.out.cell 2
  have p3 : w4.cell? ⟨blk3, 3, none⟩ = some (.int .i64 q0.x) := T3.out.cell 3
  have p4 : w4.cell? ⟨blk3, 4, none⟩ = some (.int .i64 q0.y) := T3.out.cell 4
  have p5 : w4.cell? ⟨blk3, 5, none⟩ = some (.slice D1 L.length d) := T3.out.cell 5
  have g0 : w4.cell? ⟨blk4, 0, none⟩ = some (.int .i64 r.f) := T4.out.cell 0
  have g1 : w4.cell? ⟨blk4, 1, none⟩ = some (.int .i64 r.n) := T4.out.cell 1
  have g2 : w4.cell? ⟨blk4, 2, none⟩ = some (.int .i64 r.c) := T4.out.cell 2
  have g3 : w4.cell? ⟨blk4, 3, none⟩ = some (.int .i64 r.s) := T4.out.cell 3
  go_wp2_with (fail)
  have hs := specPlayerHear q0 D1 d L r w4 (by omega) RA.out
  rw [← HX.out] at hs
  refine hs.mono ?_
  clear hs
  rintro e w5 ⟨A7, a7, rfl, oa, hb⟩
  clear p0 p1 p2 p3 p4 p5 g0 g1 g2 g3
  replace T3 := Lib.hid (T3.out.below hb)
  replace T4 := Lib.hid (T4.out.below hb)
  replace T5 := Lib.hid (T5.out.below hb)
  replace RA := Lib.hid (RA.out.below hb)
  replace R5 := Lib.hid (R5.out.below hb)
  replace Z := Lib.hid (Below.and Z.out hb)
  clear hb
  have R7 := Lib.hid oa.rdP
  clear oa
  have hb : Below w5.heap.size w5 (w5.alloc (.cells #[.int .i64 q1.c, .int .i64 q1.n, .int .i64 q1.o, .int .i64 q1.x, .int .i64 q1.y, .slice A7 L1.length a7] 27)) := (Below.refl _ _).alloc (Nat.le_refl _) _
  have T7 : Hid (Bkk (w5.alloc (.cells #[.int .i64 q1.c, .int .i64 q1.n, .int .i64 q1.o, .int .i64 q1.x, .int .i64 q1.y, .slice A7 L1.length a7] 27)) w5.heap.size 27 #[.int .i64 q1.c, .int .i64 q1.n, .int .i64 q1.o, .int .i64 q1.x, .int .i64 q1.y, .slice A7 L1.length a7]) := Bkk.new _
  replace T3 := Lib.hid (T3.out.below hb)
  replace T4 := Lib.hid (T4.out.below hb)
  replace T5 := Lib.hid (T5.out.below hb)
  replace RA := Lib.hid (RA.out.below hb)
  replace R5 := Lib.hid (R5.out.below hb)
  replace R7 := Lib.hid (R7.out.below hb)
  replace Z := Lib.hid (Below.and Z.out hb)
  clear hb
  go_upto_region 6 with (fail)
  obtain ⟨w6, hw6⟩ : ∃ X, X = (w5.alloc (.cells #[.int .i64 q1.c, .int .i64 q1.n, .int .i64 q1.o, .int .i64 q1.x, .int .i64 q1.y, .slice A7 L1.length a7] 27)) := ⟨_, rfl⟩
  obtain ⟨blk7, hblk7⟩ : ∃ X, X = w5.heap.size := ⟨_, rfl⟩
  rw [← hw6] at T7 T3 T4 T5 RA R5 R7 Z ⊢
  rw [← hblk7] at T7 ⊢
  clear hw6 hblk7
  have nx : (x2 != x2) = false := by simp
  have ne : (x2 == x2) = true := by simp
  rcases hok : plB q0 L with _ | _
  · skip
    have p0 : w6.cell? ⟨blk3, 0, none⟩ = some (.int .i64 q0.c) := T3.out.cell 0
    have p1 : w6.cell? ⟨blk3, 1, none⟩ = some (.int .i64 q0.n) := T3.out.cell 1
    have p2 : w6.cell? ⟨blk3, 2, none⟩ = some (.int .i64 q0.o) := T3.out.cell 2
    have p3 : w6.cell? ⟨blk3, 3, none⟩ = some (.int .i64 q0.x) := T3.out.cell 3
    have p4 : w6.cell? ⟨blk3, 4, none⟩ = some (.int .i64 q0.y) := T3.out.cell 4
    have p5 : w6.cell? ⟨blk3, 5, none⟩ = some (.slice D1 L.length d) := T3.out.cell 5
    have u0 : w6.cell? ⟨blk5, 0, none⟩ = some (.int .i64 q1.c) := T5.out.cell 0
    have u1 : w6.cell? ⟨blk5, 1, none⟩ = some (.int .i64 q1.n) := T5.out.cell 1
    have u2 : w6.cell? ⟨blk5, 2, none⟩ = some (.int .i64 q1.o) := T5.out.cell 2
    have u3 : w6.cell? ⟨blk5, 3, none⟩ = some (.int .i64 q1.x) := T5.out.cell 3
    have u4 : w6.cell? ⟨blk5, 4, none⟩ = some (.int .i64 q1.y) := T5.out.cell 4
    have u5 : w6.cell? ⟨blk5, 5, none⟩ = some (.slice A5 L1.length a5) := T5.out.cell 5
    have v0 : w6.cell? ⟨blk7, 0, none⟩ = some (.int .i64 q1.c) := T7.out.cell 0
    have v1 : w6.cell? ⟨blk7, 1, none⟩ = some (.int .i64 q1.n) := T7.out.cell 1
    have v2 : w6.cell? ⟨blk7, 2, none⟩ = some (.int .i64 q1.o) := T7.out.cell 2
    have v3 : w6.cell? ⟨blk7, 3, none⟩ = some (.int .i64 q1.x) := T7.out.cell 3
    have v4 : w6.cell? ⟨blk7, 4, none⟩ = some (.int .i64 q1.y) := T7.out.cell 4
    have v5 : w6.cell? ⟨blk7, 5, none⟩ = some (.slice A7 L1.length a7) := T7.out.cell 5
    have ltT3 := T3.out.lt
    have ltT5 := T5.out.lt
    have ltT7 := T7.out.lt
    refine wp_region_held_drew (S := fun w1 => Below w6.heap.size w6 w1) (by kernel_rfl) ((Below.refl _ _).drew) (fun hq => ?_)
    refine takeD 0 35 (v := ?_) rfl rfl (by kernel_rfl) (by kernel_rfl) (by kernel_rfl) (fun _ _ _ h => h) (Or.inl ⟨by rfl, ?_⟩) (by assumption) ?_
    rotate_left
    · intro w1 hSw; obtain ⟨hcS, hfS⟩ := bcell hSw; go_simp; (try with_reducible rfl)
    (try simp only [Act.put, List.setIfInBounds_toArray, List.set_cons_zero, List.set_cons_succ])
    refine takeD 1 36 (v := ?_) rfl rfl (by kernel_rfl) (by kernel_rfl) (by kernel_rfl) (fun _ _ _ h => h) (Or.inl ⟨by rfl, ?_⟩) (by assumption) ?_
    rotate_left
    · intro w1 hSw; obtain ⟨hcS, hfS⟩ := bcell hSw; go_simp; (try with_reducible rfl)
    (try simp only [Act.put, List.setIfInBounds_toArray, List.set_cons_zero, List.set_cons_succ])
    refine takeD 2 37 (v := ?_) rfl rfl (by kernel_rfl) (by kernel_rfl) (by kernel_rfl) (fun _ _ _ h => h) (Or.inl ⟨by rfl, ?_⟩) (by assumption) ?_
    rotate_left
    · intro w1 hSw; obtain ⟨hcS, hfS⟩ := bcell hSw; go_simp; (try with_reducible rfl)
    (try simp only [Act.put, List.setIfInBounds_toArray, List.set_cons_zero, List.set_cons_succ])
    refine takeD 3 38 (v := ?_) rfl rfl (by kernel_rfl) (by kernel_rfl) (by kernel_rfl) (fun _ _ _ h => h) (Or.inl ⟨by rfl, ?_⟩) (by assumption) ?_
    rotate_left
    · intro w1 hSw; obtain ⟨hcS, hfS⟩ := bcell hSw; go_simp; (try with_reducible rfl)
    (try simp only [Act.put, List.setIfInBounds_toArray, List.set_cons_zero, List.set_cons_succ])
    refine takeD 4 39 (v := ?_) rfl rfl (by kernel_rfl) (by kernel_rfl) (by kernel_rfl) (fun _ _ _ h => h) (Or.inl ⟨by rfl, ?_⟩) (by assumption) ?_
    rotate_left
    · intro w1 hSw; obtain ⟨hcS, hfS⟩ := bcell hSw; go_simp; (try with_reducible rfl)
    (try simp only [Act.put, List.setIfInBounds_toArray, List.set_cons_zero, List.set_cons_succ])
    refine takeD 5 40 (v := ?_) rfl rfl (by kernel_rfl) (by kernel_rfl) (by kernel_rfl) (fun _ _ _ h => h) (Or.inl ⟨by rfl, ?_⟩) (by assumption) ?_
    rotate_left
    · intro w1 hSw; obtain ⟨hcS, hfS⟩ := bcell hSw; go_simp; (try with_reducible rfl)
    (try simp only [Act.put, List.setIfInBounds_toArray, List.set_cons_zero, List.set_cons_succ])
    refine wpAnyH_ready (rs := [6]) (by kernel_rfl) (by simp) ?_
    refine AllReadyH.cons rfl (fun K hK => ?_) AllReadyH.nil
    go_simp
    refine (wpPlayer_rd q1 A5 A7 a5 a7 L1 _ (by omega) (Rd.below R5.out.r hq) (Rd.below R7.out.r hq)).mono ?_
    rintro e wv ⟨rfl, hb⟩
    refine hK.out _ _ (Below.and hq hb) (fun hq2 => ?_)
    clear hK K
    (try simp only [Act.put, List.setIfInBounds_toArray, List.set_cons_zero, List.set_cons_succ])
    refine takeD 7 42 (v := ?_) rfl rfl (by kernel_rfl) (by kernel_rfl) (by kernel_rfl) (fun _ _ _ h => h) (Or.inl ⟨by rfl, ?_⟩) (by assumption) ?_
    rotate_left
    · intro w1 hSw; obtain ⟨hcS, hfS⟩ := bcell hSw; go_simp; (try with_reducible rfl)
    (try simp only [Act.put, List.setIfInBounds_toArray, List.set_cons_zero, List.set_cons_succ])
    refine takeD 8 43 (v := ?_) rfl rfl (by kernel_rfl) (by kernel_rfl) (by kernel_rfl) (fun _ _ _ h => h) (Or.inl ⟨by rfl, ?_⟩) (by assumption) ?_
    rotate_left
    · intro w1 hSw; obtain ⟨hcS, hfS⟩ := bcell hSw; go_simp; (try with_reducible rfl)
    (try simp only [Act.put, List.setIfInBounds_toArray, List.set_cons_zero, List.set_cons_succ])
    refine takeD 9 44 (v := ?_) rfl rfl (by kernel_rfl) (by kernel_rfl) (by kernel_rfl) (fun _ _ _ h => h) (Or.inl ⟨by rfl, ?_⟩) (by assumption) ?_
    rotate_left
    · intro w1 hSw; obtain ⟨hcS, hfS⟩ := bcell hSw; go_simp; (try with_reducible rfl)
    (try simp only [Act.put, List.setIfInBounds_toArray, List.set_cons_zero, List.set_cons_succ])
    refine takeD 10 45 (v := ?_) rfl rfl (by kernel_rfl) (by kernel_rfl) (by kernel_rfl) (fun _ _ _ h => h) (Or.inl ⟨by rfl, ?_⟩) (by assumption) ?_
    rotate_left
    · intro w1 hSw; obtain ⟨hcS, hfS⟩ := bcell hSw; go_simp; (try with_reducible rfl)
    (try simp only [Act.put, List.setIfInBounds_toArray, List.set_cons_zero, List.set_cons_succ])
    refine takeD 12 47 (v := ?_) rfl rfl (by kernel_rfl) (by kernel_rfl) (by kernel_rfl) (fun _ _ _ h => h) (Or.inl ⟨by rfl, ?_⟩) (by assumption) ?_
    rotate_left
    · intro w1 hSw; obtain ⟨hcS, hfS⟩ := bcell hSw; go_simp; (try with_reducible rfl)
    (try simp only [Act.put, List.setIfInBounds_toArray, List.set_cons_zero, List.set_cons_succ])
    refine wpAnyH_ready (rs := [11]) (by kernel_rfl) (by simp) ?_
    refine AllReadyH.cons rfl (fun K hK => ?_) AllReadyH.nil
    go_simp
    refine (implPlayerOk q0 D1 d L _ (by unfold maxLen; omega) (Rd.below RA.out.r hq2)).mono ?_
    rintro e wt ⟨rfl, hb⟩
    rw [hok]
    refine hK.out _ _ (Below.and hq2 hb) (fun hq3 => ?_)
    clear hK K
    (try simp only [Act.put, List.setIfInBounds_toArray, List.set_cons_zero, List.set_cons_succ])
    refine wpAnyH_ready (rs := [13]) (by kernel_rfl) (by simp) ?_
    refine AllReadyH.cons rfl (fun K hK => ?_) AllReadyH.nil
    go_simp
    refine (specPlayerOk q0 D1 d L _ (by unfold maxLen; omega) (Rd.below RA.out.r hq3)).mono ?_
    rintro e wu ⟨rfl, hb⟩
    rw [hok]
    refine hK.out _ _ (Below.and hq3 hb) (fun hq4 => ?_)
    clear hK K
    (try simp only [Act.put, List.setIfInBounds_toArray, List.set_cons_zero, List.set_cons_succ])
    refine takeD 14 49 (v := ?_) rfl rfl (by kernel_rfl) (by kernel_rfl) (by kernel_rfl) (fun _ _ _ h => h) (Or.inl ⟨by rfl, ?_⟩) (by assumption) ?_
    rotate_left
    · intro w1 hSw; obtain ⟨hcS, hfS⟩ := bcell hSw; go_simp; (try with_reducible rfl)
    (try simp only [Act.put, List.setIfInBounds_toArray, List.set_cons_zero, List.set_cons_succ])
    refine takeD 15 50 (v := ?_) rfl rfl (by kernel_rfl) (by kernel_rfl) (by kernel_rfl) (fun _ _ _ h => h) (Or.inl ⟨by rfl, ?_⟩) (by assumption) ?_
    rotate_left
    · intro w1 hSw; obtain ⟨hcS, hfS⟩ := bcell hSw; go_simp; (try with_reducible rfl)
    (try simp only [Act.put, List.setIfInBounds_toArray, List.set_cons_zero, List.set_cons_succ])
    refine takeD 16 51 (v := ?_) rfl rfl (by kernel_rfl) (by kernel_rfl) (by kernel_rfl) (fun _ _ _ h => h) (Or.inl ⟨by rfl, ?_⟩) (by assumption) ?_
    rotate_left
    · intro w1 hSw; obtain ⟨hcS, hfS⟩ := bcell hSw; go_simp; (try with_reducible rfl)
    (try simp only [Act.put, List.setIfInBounds_toArray, List.set_cons_zero, List.set_cons_succ])
    refine takeD 17 52 (v := ?_) rfl rfl (by kernel_rfl) (by kernel_rfl) (by kernel_rfl) (fun _ _ _ h => h) (Or.inl ⟨by rfl, ?_⟩) (by assumption) ?_
    rotate_left
    · intro w1 hSw; obtain ⟨hcS, hfS⟩ := bcell hSw; go_simp; (try with_reducible rfl)
    (try simp only [Act.put, List.setIfInBounds_toArray, List.set_cons_zero, List.set_cons_succ])
    refine wpAnyH_ready (rs := [18]) (by kernel_rfl) (by simp) ?_
    refine AllReadyH.cons rfl (fun K hK => ?_) AllReadyH.nil
    go_simp
    refine (implPlayerOk q0 D1 d L _ (by unfold maxLen; omega) (Rd.below RA.out.r hq4)).mono ?_
    rintro e wy ⟨rfl, hb⟩
    rw [hok]
    refine hK.out _ _ (Below.and hq4 hb) (fun hq5 => ?_)
    clear hK K
    (try simp only [Act.put, List.setIfInBounds_toArray, List.set_cons_zero, List.set_cons_succ])
    refine takeD 19 54 (v := ?_) rfl rfl (by kernel_rfl) (by kernel_rfl) (by kernel_rfl) (fun _ _ _ h => h) (Or.inl ⟨by rfl, ?_⟩) (by assumption) ?_
    rotate_left
    · intro w1 hSw; obtain ⟨hcS, hfS⟩ := bcell hSw; go_simp; (try with_reducible rfl)
    (try simp only [Act.put, List.setIfInBounds_toArray, List.set_cons_zero, List.set_cons_succ])
    refine takeD 20 55 (v := ?_) rfl rfl (by kernel_rfl) (by kernel_rfl) (by kernel_rfl) (fun _ _ _ h => h) (Or.inl ⟨by rfl, ?_⟩) (by assumption) ?_
    rotate_left
    · intro w1 hSw; obtain ⟨hcS, hfS⟩ := bcell hSw; go_simp; (try with_reducible rfl)
    (try simp only [Act.put, List.setIfInBounds_toArray, List.set_cons_zero, List.set_cons_succ])
    refine wpAnyH_done (by kernel_rfl) ?_ _
    have hb := hq5
    clear p0 p1 p2 p3 p4 p5 u0 u1 u2 u3 u4 u5 v0 v1 v2 v3 v4 v5
    clear ltT3 ltT5 ltT7
    obtain ⟨w7, hw7⟩ : ∃ X, X = wy := ⟨_, rfl⟩
    rw [← hw7] at hb
    rw [← hw7]
    clear hw7
    replace T3 := Lib.hid (T3.out.below hb)
    replace T4 := Lib.hid (T4.out.below hb)
    replace T5 := Lib.hid (T5.out.below hb)
    replace T7 := Lib.hid (T7.out.below hb)
    replace RA := Lib.hid (RA.out.below hb)
    replace R5 := Lib.hid (R5.out.below hb)
    replace R7 := Lib.hid (R7.out.below hb)
    replace Z := Lib.hid (Below.and Z.out hb)
    clear hb
    have p0 : w7.cell? ⟨blk3, 0, none⟩ = some (.int .i64 q0.c) := T3.out.cell 0
    have p1 : w7.cell? ⟨blk3, 1, none⟩ = some (.int .i64 q0.n) := T3.out.cell 1
    have p2 : w7.cell? ⟨blk3, 2, none⟩ = some (.int .i64 q0.o) := T3.out.cell 2
    have p3 : w7.cell? ⟨blk3, 3, none⟩ = some (.int .i64 q0.x) := T3.out.cell 3
    have p4 : w7.cell? ⟨blk3, 4, none⟩ = some (.int .i64 q0.y) := T3.out.cell 4
    have p5 : w7.cell? ⟨blk3, 5, none⟩ = some (.slice D1 L.length d) := T3.out.cell 5
    have u0 : w7.cell? ⟨blk5, 0, none⟩ = some (.int .i64 q1.c) := T5.out.cell 0
    have u1 : w7.cell? ⟨blk5, 1, none⟩ = some (.int .i64 q1.n) := T5.out.cell 1
    have u2 : w7.cell? ⟨blk5, 2, none⟩ = some (.int .i64 q1.o) := T5.out.cell 2
    have u3 : w7.cell? ⟨blk5, 3, none⟩ = some (.int .i64 q1.x) := T5.out.cell 3
    have u4 : w7.cell? ⟨blk5, 4, none⟩ = some (.int .i64 q1.y) := T5.out.cell 4
    have u5 : w7.cell? ⟨blk5, 5, none⟩ = some (.slice A5 L1.length a5) := T5.out.cell 5
    have v0 : w7.cell? ⟨blk7, 0, none⟩ = some (.int .i64 q1.c) := T7.out.cell 0
    have v1 : w7.cell? ⟨blk7, 1, none⟩ = some (.int .i64 q1.n) := T7.out.cell 1
    have v2 : w7.cell? ⟨blk7, 2, none⟩ = some (.int .i64 q1.o) := T7.out.cell 2
    have v3 : w7.cell? ⟨blk7, 3, none⟩ = some (.int .i64 q1.x) := T7.out.cell 3
    have v4 : w7.cell? ⟨blk7, 4, none⟩ = some (.int .i64 q1.y) := T7.out.cell 4
    have v5 : w7.cell? ⟨blk7, 5, none⟩ = some (.slice A7 L1.length a7) := T7.out.cell 5
    have ltT3 := T3.out.lt
    have ltT5 := T5.out.lt
    have ltT7 := T7.out.lt
    go_upto_region 7 with (fail)
    refine wp_region_held_drew (S := fun w1 => Below w7.heap.size w7 w1) (by kernel_rfl) ((Below.refl _ _).drew) (fun hq => ?_)
    refine takeD 0 56 (v := ?_) rfl rfl (by kernel_rfl) (by kernel_rfl) (by kernel_rfl) (fun _ _ _ h => h) (Or.inl ⟨by rfl, ?_⟩) (by assumption) ?_
    rotate_left
    · intro w1 hSw; obtain ⟨hcS, hfS⟩ := bcell hSw; go_simp; (try with_reducible rfl)
    (try simp only [Act.put, List.setIfInBounds_toArray, List.set_cons_zero, List.set_cons_succ])
    refine takeD 1 57 (v := ?_) rfl rfl (by kernel_rfl) (by kernel_rfl) (by kernel_rfl) (fun _ _ _ h => h) (Or.inl ⟨by rfl, ?_⟩) (by assumption) ?_
    rotate_left
    · intro w1 hSw; obtain ⟨hcS, hfS⟩ := bcell hSw; go_simp; (try with_reducible rfl)
    (try simp only [Act.put, List.setIfInBounds_toArray, List.set_cons_zero, List.set_cons_succ])
    refine takeD 2 58 (v := ?_) rfl rfl (by kernel_rfl) (by kernel_rfl) (by kernel_rfl) (fun _ _ _ h => h) (Or.inl ⟨by rfl, ?_⟩) (by assumption) ?_
    rotate_left
    · intro w1 hSw; obtain ⟨hcS, hfS⟩ := bcell hSw; go_simp; (try with_reducible rfl)
    (try simp only [Act.put, List.setIfInBounds_toArray, List.set_cons_zero, List.set_cons_succ])
    refine takeD 3 59 (v := ?_) rfl rfl (by kernel_rfl) (by kernel_rfl) (by kernel_rfl) (fun _ _ _ h => h) (Or.inl ⟨by rfl, ?_⟩) (by assumption) ?_
    rotate_left
    · intro w1 hSw; obtain ⟨hcS, hfS⟩ := bcell hSw; go_simp; (try with_reducible rfl)
    (try simp only [Act.put, List.setIfInBounds_toArray, List.set_cons_zero, List.set_cons_succ])
    refine takeD 4 60 (v := ?_) rfl rfl (by kernel_rfl) (by kernel_rfl) (by kernel_rfl) (fun _ _ _ h => h) (Or.inl ⟨by rfl, ?_⟩) (by assumption) ?_
    rotate_left
    · intro w1 hSw; obtain ⟨hcS, hfS⟩ := bcell hSw; go_simp; (try with_reducible rfl)
    (try simp only [Act.put, List.setIfInBounds_toArray, List.set_cons_zero, List.set_cons_succ])
    refine takeD 5 61 (v := ?_) rfl rfl (by kernel_rfl) (by kernel_rfl) (by kernel_rfl) (fun _ _ _ h => h) (Or.inl ⟨by rfl, ?_⟩) (by assumption) ?_
    rotate_left
    · intro w1 hSw; obtain ⟨hcS, hfS⟩ := bcell hSw; go_simp; (try with_reducible rfl)
    (try simp only [Act.put, List.setIfInBounds_toArray, List.set_cons_zero, List.set_cons_succ])
    refine wpAnyH_ready (rs := [6]) (by kernel_rfl) (by simp) ?_
    refine AllReadyH.cons rfl (fun K hK => ?_) AllReadyH.nil
    go_simp
    refine (wpPlayer_rd q1 A5 A7 a5 a7 L1 _ (by omega) (Rd.below R5.out.r hq) (Rd.below R7.out.r hq)).mono ?_
    rintro e wv ⟨rfl, hb⟩
    refine hK.out _ _ (Below.and hq hb) (fun hq2 => ?_)
    clear hK K
    (try simp only [Act.put, List.setIfInBounds_toArray, List.set_cons_zero, List.set_cons_succ])
    refine takeD 7 63 (v := ?_) rfl rfl (by kernel_rfl) (by kernel_rfl) (by kernel_rfl) (fun _ _ _ h => h) (Or.inl ⟨by rfl, ?_⟩) (by assumption) ?_
    rotate_left
    · intro w1 hSw; obtain ⟨hcS, hfS⟩ := bcell hSw; go_simp; (try with_reducible rfl)
    (try simp only [Act.put, List.setIfInBounds_toArray, List.set_cons_zero, List.set_cons_succ])
    refine takeD 8 64 (v := ?_) rfl rfl (by kernel_rfl) (by kernel_rfl) (by kernel_rfl) (fun _ _ _ h => h) (Or.inl ⟨by rfl, ?_⟩) (by assumption) ?_
    rotate_left
    · intro w1 hSw; obtain ⟨hcS, hfS⟩ := bcell hSw; go_simp; (try with_reducible rfl)
    (try simp only [Act.put, List.setIfInBounds_toArray, List.set_cons_zero, List.set_cons_succ])
    refine takeD 9 65 (v := ?_) rfl rfl (by kernel_rfl) (by kernel_rfl) (by kernel_rfl) (fun _ _ _ h => h) (Or.inl ⟨by rfl, ?_⟩) (by assumption) ?_
    rotate_left
    · intro w1 hSw; obtain ⟨hcS, hfS⟩ := bcell hSw; go_simp; (try with_reducible rfl)
    (try simp only [Act.put, List.setIfInBounds_toArray, List.set_cons_zero, List.set_cons_succ])
    refine takeD 11 67 (v := ?_) rfl rfl (by kernel_rfl) (by kernel_rfl) (by kernel_rfl) (fun _ _ _ h => h) (Or.inl ⟨by rfl, ?_⟩) (by assumption) ?_
    rotate_left
    · intro w1 hSw; obtain ⟨hcS, hfS⟩ := bcell hSw; go_simp; (try with_reducible rfl)
    (try simp only [Act.put, List.setIfInBounds_toArray, List.set_cons_zero, List.set_cons_succ])
    refine wpAnyH_ready (rs := [10]) (by kernel_rfl) (by simp) ?_
    refine AllReadyH.cons rfl (fun K hK => ?_) AllReadyH.nil
    go_simp
    refine (implPlayerOk q0 D1 d L _ (by unfold maxLen; omega) (Rd.below RA.out.r hq2)).mono ?_
    rintro e wt ⟨rfl, hb⟩
    rw [hok]
    refine hK.out _ _ (Below.and hq2 hb) (fun hq3 => ?_)
    clear hK K
    (try simp only [Act.put, List.setIfInBounds_toArray, List.set_cons_zero, List.set_cons_succ])
    refine wpAnyH_ready (rs := [12]) (by kernel_rfl) (by simp) ?_
    refine AllReadyH.cons rfl (fun K hK => ?_) AllReadyH.nil
    go_simp
    refine (specPlayerOk q0 D1 d L _ (by unfold maxLen; omega) (Rd.below RA.out.r hq3)).mono ?_
    rintro e wu ⟨rfl, hb⟩
    rw [hok]
    refine hK.out _ _ (Below.and hq3 hb) (fun hq4 => ?_)
    clear hK K
    (try simp only [Act.put, List.setIfInBounds_toArray, List.set_cons_zero, List.set_cons_succ])
    refine takeD 13 69 (v := ?_) rfl rfl (by kernel_rfl) (by kernel_rfl) (by kernel_rfl) (fun _ _ _ h => h) (Or.inl ⟨by rfl, ?_⟩) (by assumption) ?_
    rotate_left
    · intro w1 hSw; obtain ⟨hcS, hfS⟩ := bcell hSw; go_simp; (try with_reducible rfl)
    (try simp only [Act.put, List.setIfInBounds_toArray, List.set_cons_zero, List.set_cons_succ])
    refine takeD 14 70 (v := ?_) rfl rfl (by kernel_rfl) (by kernel_rfl) (by kernel_rfl) (fun _ _ _ h => h) (Or.inl ⟨by rfl, ?_⟩) (by assumption) ?_
    rotate_left
    · intro w1 hSw; obtain ⟨hcS, hfS⟩ := bcell hSw; go_simp; (try with_reducible rfl)
    (try simp only [Act.put, List.setIfInBounds_toArray, List.set_cons_zero, List.set_cons_succ])
    refine takeD 15 2 (v := ?_) rfl rfl (by kernel_rfl) (by kernel_rfl) (by kernel_rfl) (fun _ _ _ h => h) (Or.inl ⟨by rfl, ?_⟩) (by assumption) ?_
    rotate_left
    · intro w1 hSw; obtain ⟨hcS, hfS⟩ := bcell hSw; go_simp; (try with_reducible rfl)
    (try simp only [Act.put, List.setIfInBounds_toArray, List.set_cons_zero, List.set_cons_succ])
    refine wpAnyH_done (by kernel_rfl) ?_ _
    have hb := hq4
    clear p0 p1 p2 p3 p4 p5 u0 u1 u2 u3 u4 u5 v0 v1 v2 v3 v4 v5
    clear ltT3 ltT5 ltT7
    have Z := Lib.hid (Below.and Z.out hb)
    go_wp2
    go_light
    go_ret
    exact ⟨rfl, Z.out⟩
  have p0 : w6.cell? ⟨blk3, 0, none⟩ = some (.int .i64 q0.c) := T3.out.cell 0
  have p1 : w6.cell? ⟨blk3, 1, none⟩ = some (.int .i64 q0.n) := T3.out.cell 1
  have p2 : w6.cell? ⟨blk3, 2, none⟩ = some (.int .i64 q0.o) := T3.out.cell 2
  have p3 : w6.cell? ⟨blk3, 3, none⟩ = some (.int .i64 q0.x) := T3.out.cell 3
  have p4 : w6.cell? ⟨blk3, 4, none⟩ = some (.int .i64 q0.y) := T3.out.cell 4
  have p5 : w6.cell? ⟨blk3, 5, none⟩ = some (.slice D1 L.length d) := T3.out.cell 5
  have u0 : w6.cell? ⟨blk5, 0, none⟩ = some (.int .i64 q1.c) := T5.out.cell 0
  have u1 : w6.cell? ⟨blk5, 1, none⟩ = some (.int .i64 q1.n) := T5.out.cell 1
  have u2 : w6.cell? ⟨blk5, 2, none⟩ = some (.int .i64 q1.o) := T5.out.cell 2
  have u3 : w6.cell? ⟨blk5, 3, none⟩ = some (.int .i64 q1.x) := T5.out.cell 3
  have u4 : w6.cell? ⟨blk5, 4, none⟩ = some (.int .i64 q1.y) := T5.out.cell 4
  have u5 : w6.cell? ⟨blk5, 5, none⟩ = some (.slice A5 L1.length a5) := T5.out.cell 5
  have v0 : w6.cell? ⟨blk7, 0, none⟩ = some (.int .i64 q1.c) := T7.out.cell 0
  have v1 : w6.cell? ⟨blk7, 1, none⟩ = some (.int .i64 q1.n) := T7.out.cell 1
  have v2 : w6.cell? ⟨blk7, 2, none⟩ = some (.int .i64 q1.o) := T7.out.cell 2
  have v3 : w6.cell? ⟨blk7, 3, none⟩ = some (.int .i64 q1.x) := T7.out.cell 3
  have v4 : w6.cell? ⟨blk7, 4, none⟩ = some (.int .i64 q1.y) := T7.out.cell 4
  have v5 : w6.cell? ⟨blk7, 5, none⟩ = some (.slice A7 L1.length a7) := T7.out.cell 5
  have ltT3 := T3.out.lt
  have ltT5 := T5.out.lt
  have ltT7 := T7.out.lt
  refine wp_region_held_drew (S := fun w1 => Below w6.heap.size w6 w1) (by kernel_rfl) ((Below.refl _ _).drew) (fun hq => ?_)
  refine takeD 0 35 (v := ?_) rfl rfl (by kernel_rfl) (by kernel_rfl) (by kernel_rfl) (fun _ _ _ h => h) (Or.inl ⟨by rfl, ?_⟩) (by assumption) ?_
  rotate_left
  · intro w1 hSw; obtain ⟨hcS, hfS⟩ := bcell hSw; go_simp; (try with_reducible rfl)
  (try simp only [Act.put, List.setIfInBounds_toArray, List.set_cons_zero, List.set_cons_succ])
  refine takeD 1 36 (v := ?_) rfl rfl (by kernel_rfl) (by kernel_rfl) (by kernel_rfl) (fun _ _ _ h => h) (Or.inl ⟨by rfl, ?_⟩) (by assumption) ?_
  rotate_left
  · intro w1 hSw; obtain ⟨hcS, hfS⟩ := bcell hSw; go_simp; (try with_reducible rfl)
  (try simp only [Act.put, List.setIfInBounds_toArray, List.set_cons_zero, List.set_cons_succ])
  refine takeD 2 37 (v := ?_) rfl rfl (by kernel_rfl) (by kernel_rfl) (by kernel_rfl) (fun _ _ _ h => h) (Or.inl ⟨by rfl, ?_⟩) (by assumption) ?_
  rotate_left
  · intro w1 hSw; obtain ⟨hcS, hfS⟩ := bcell hSw; go_simp; (try with_reducible rfl)
  (try simp only [Act.put, List.setIfInBounds_toArray, List.set_cons_zero, List.set_cons_succ])
  refine takeD 3 38 (v := ?_) rfl rfl (by kernel_rfl) (by kernel_rfl) (by kernel_rfl) (fun _ _ _ h => h) (Or.inl ⟨by rfl, ?_⟩) (by assumption) ?_
  rotate_left
  · intro w1 hSw; obtain ⟨hcS, hfS⟩ := bcell hSw; go_simp; (try with_reducible rfl)
  (try simp only [Act.put, List.setIfInBounds_toArray, List.set_cons_zero, List.set_cons_succ])
  refine takeD 4 39 (v := ?_) rfl rfl (by kernel_rfl) (by kernel_rfl) (by kernel_rfl) (fun _ _ _ h => h) (Or.inl ⟨by rfl, ?_⟩) (by assumption) ?_
  rotate_left
  · intro w1 hSw; obtain ⟨hcS, hfS⟩ := bcell hSw; go_simp; (try with_reducible rfl)
  (try simp only [Act.put, List.setIfInBounds_toArray, List.set_cons_zero, List.set_cons_succ])
  refine takeD 5 40 (v := ?_) rfl rfl (by kernel_rfl) (by kernel_rfl) (by kernel_rfl) (fun _ _ _ h => h) (Or.inl ⟨by rfl, ?_⟩) (by assumption) ?_
  rotate_left
  · intro w1 hSw; obtain ⟨hcS, hfS⟩ := bcell hSw; go_simp; (try with_reducible rfl)
  (try simp only [Act.put, List.setIfInBounds_toArray, List.set_cons_zero, List.set_cons_succ])
  refine wpAnyH_ready (rs := [6]) (by kernel_rfl) (by simp) ?_
  refine AllReadyH.cons rfl (fun K hK => ?_) AllReadyH.nil
  go_simp
  refine (wpPlayer_rd q1 A5 A7 a5 a7 L1 _ (by omega) (Rd.below R5.out.r hq) (Rd.below R7.out.r hq)).mono ?_
  rintro e wv ⟨rfl, hb⟩
  refine hK.out _ _ (Below.and hq hb) (fun hq2 => ?_)
  clear hK K
  (try simp only [Act.put, List.setIfInBounds_toArray, List.set_cons_zero, List.set_cons_succ])
  refine takeD 7 42 (v := ?_) rfl rfl (by kernel_rfl) (by kernel_rfl) (by kernel_rfl) (fun _ _ _ h => h) (Or.inl ⟨by rfl, ?_⟩) (by assumption) ?_
  rotate_left
  · intro w1 hSw; obtain ⟨hcS, hfS⟩ := bcell hSw; go_simp; (try with_reducible rfl)
  (try simp only [Act.put, List.setIfInBounds_toArray, List.set_cons_zero, List.set_cons_succ])
  refine takeD 8 43 (v := ?_) rfl rfl (by kernel_rfl) (by kernel_rfl) (by kernel_rfl) (fun _ _ _ h => h) (Or.inl ⟨by rfl, ?_⟩) (by assumption) ?_
  rotate_left
  · intro w1 hSw; obtain ⟨hcS, hfS⟩ := bcell hSw; go_simp; (try with_reducible rfl)
  (try simp only [Act.put, List.setIfInBounds_toArray, List.set_cons_zero, List.set_cons_succ])
  refine takeD 9 44 (v := ?_) rfl rfl (by kernel_rfl) (by kernel_rfl) (by kernel_rfl) (fun _ _ _ h => h) (Or.inl ⟨by rfl, ?_⟩) (by assumption) ?_
  rotate_left
  · intro w1 hSw; obtain ⟨hcS, hfS⟩ := bcell hSw; go_simp; (try with_reducible rfl)
  (try simp only [Act.put, List.setIfInBounds_toArray, List.set_cons_zero, List.set_cons_succ])
  refine takeD 10 45 (v := ?_) rfl rfl (by kernel_rfl) (by kernel_rfl) (by kernel_rfl) (fun _ _ _ h => h) (Or.inl ⟨by rfl, ?_⟩) (by assumption) ?_
  rotate_left
  · intro w1 hSw; obtain ⟨hcS, hfS⟩ := bcell hSw; go_simp; (try with_reducible rfl)
  (try simp only [Act.put, List.setIfInBounds_toArray, List.set_cons_zero, List.set_cons_succ])
  refine takeD 12 47 (v := ?_) rfl rfl (by kernel_rfl) (by kernel_rfl) (by kernel_rfl) (fun _ _ _ h => h) (Or.inl ⟨by rfl, ?_⟩) (by assumption) ?_
  rotate_left
  · intro w1 hSw; obtain ⟨hcS, hfS⟩ := bcell hSw; go_simp; (try with_reducible rfl)
  (try simp only [Act.put, List.setIfInBounds_toArray, List.set_cons_zero, List.set_cons_succ])
  refine wpAnyH_ready (rs := [11]) (by kernel_rfl) (by simp) ?_
  refine AllReadyH.cons rfl (fun K hK => ?_) AllReadyH.nil
  go_simp
  refine (implPlayerOk q0 D1 d L _ (by unfold maxLen; omega) (Rd.below RA.out.r hq2)).mono ?_
  rintro e wt ⟨rfl, hb⟩
  rw [hok]
  refine hK.out _ _ (Below.and hq2 hb) (fun hq3 => ?_)
  clear hK K
  (try simp only [Act.put, List.setIfInBounds_toArray, List.set_cons_zero, List.set_cons_succ])
  refine wpAnyH_ready (rs := [13]) (by kernel_rfl) (by simp) ?_
  refine AllReadyH.cons rfl (fun K hK => ?_) AllReadyH.nil
  go_simp
  refine (specPlayerOk q0 D1 d L _ (by unfold maxLen; omega) (Rd.below RA.out.r hq3)).mono ?_
  rintro e wu ⟨rfl, hb⟩
  rw [hok]
  refine hK.out _ _ (Below.and hq3 hb) (fun hq4 => ?_)
  clear hK K
  (try simp only [Act.put, List.setIfInBounds_toArray, List.set_cons_zero, List.set_cons_succ])
  refine takeD 14 49 (v := ?_) rfl rfl (by kernel_rfl) (by kernel_rfl) (by kernel_rfl) (fun _ _ _ h => h) (Or.inl ⟨by rfl, ?_⟩) (by assumption) ?_
  rotate_left
  · intro w1 hSw; obtain ⟨hcS, hfS⟩ := bcell hSw; go_simp; (try with_reducible rfl)
  (try simp only [Act.put, List.setIfInBounds_toArray, List.set_cons_zero, List.set_cons_succ])
  refine takeD 15 50 (v := ?_) rfl rfl (by kernel_rfl) (by kernel_rfl) (by kernel_rfl) (fun _ _ _ h => h) (Or.inl ⟨by rfl, ?_⟩) (by assumption) ?_
  rotate_left
  · intro w1 hSw; obtain ⟨hcS, hfS⟩ := bcell hSw; go_simp; (try with_reducible rfl)
  (try simp only [Act.put, List.setIfInBounds_toArray, List.set_cons_zero, List.set_cons_succ])
  refine takeD 16 51 (v := ?_) rfl rfl (by kernel_rfl) (by kernel_rfl) (by kernel_rfl) (fun _ _ _ h => h) (Or.inl ⟨by rfl, ?_⟩) (by assumption) ?_
  rotate_left
  · intro w1 hSw; obtain ⟨hcS, hfS⟩ := bcell hSw; go_simp; (try with_reducible rfl)
  (try simp only [Act.put, List.setIfInBounds_toArray, List.set_cons_zero, List.set_cons_succ])
  refine takeD 17 52 (v := ?_) rfl rfl (by kernel_rfl) (by kernel_rfl) (by kernel_rfl) (fun _ _ _ h => h) (Or.inl ⟨by rfl, ?_⟩) (by assumption) ?_
  rotate_left
  · intro w1 hSw; obtain ⟨hcS, hfS⟩ := bcell hSw; go_simp; (try with_reducible rfl)
  (try simp only [Act.put, List.setIfInBounds_toArray, List.set_cons_zero, List.set_cons_succ])
  refine wpAnyH_ready (rs := [18]) (by kernel_rfl) (by simp) ?_
  refine AllReadyH.cons rfl (fun K hK => ?_) AllReadyH.nil
  go_simp
  refine (implPlayerOk q0 D1 d L _ (by unfold maxLen; omega) (Rd.below RA.out.r hq4)).mono ?_
  rintro e wy ⟨rfl, hb⟩
  rw [hok]
  refine hK.out _ _ (Below.and hq4 hb) (fun hq5 => ?_)
  clear hK K
  (try simp only [Act.put, List.setIfInBounds_toArray, List.set_cons_zero, List.set_cons_succ])
  refine takeD 19 54 (v := ?_) rfl rfl (by kernel_rfl) (by kernel_rfl) (by kernel_rfl) (fun _ _ _ h => h) (Or.inl ⟨by rfl, ?_⟩) (by assumption) ?_
  rotate_left
  · intro w1 hSw; obtain ⟨hcS, hfS⟩ := bcell hSw; go_simp; (try with_reducible rfl)
  (try simp only [Act.put, List.setIfInBounds_toArray, List.set_cons_zero, List.set_cons_succ])
  refine takeD 20 55 (v := ?_) rfl rfl (by kernel_rfl) (by kernel_rfl) (by kernel_rfl) (fun _ _ _ h => h) (Or.inl ⟨by rfl, ?_⟩) (by assumption) ?_
  rotate_left
  · intro w1 hSw; obtain ⟨hcS, hfS⟩ := bcell hSw; go_simp; (try with_reducible rfl)
  (try simp only [Act.put, List.setIfInBounds_toArray, List.set_cons_zero, List.set_cons_succ])
  refine wpAnyH_done (by kernel_rfl) ?_ _
  have hb := hq5
  clear p0 p1 p2 p3 p4 p5 u0 u1 u2 u3 u4 u5 v0 v1 v2 v3 v4 v5
  clear ltT3 ltT5 ltT7
  obtain ⟨w7, hw7⟩ : ∃ X, X = wy := ⟨_, rfl⟩
  rw [← hw7] at hb
  rw [← hw7]
  clear hw7
  replace T3 := Lib.hid (T3.out.below hb)
  replace T4 := Lib.hid (T4.out.below hb)
  replace T5 := Lib.hid (T5.out.below hb)
  replace T7 := Lib.hid (T7.out.below hb)
  replace RA := Lib.hid (RA.out.below hb)
  replace R5 := Lib.hid (R5.out.below hb)
  replace R7 := Lib.hid (R7.out.below hb)
  replace Z := Lib.hid (Below.and Z.out hb)
  clear hb
  have HOK := Lib.hid hok
  clear nx ne hok
  rcases hear_cases (r := r) HOK.out with hA | ⟨hA, h1, h2, h3⟩
  · have e := HX.out.trans hA
    simp only [Prod.mk.injEq] at e
    obtain ⟨⟨rfl, rfl⟩, rfl⟩ := e
    clear hA HX
    have u0 : w7.cell? ⟨blk5, 0, none⟩ = some (.int .i64 q1.c) := T5.out.cell 0
    have u1 : w7.cell? ⟨blk5, 1, none⟩ = some (.int .i64 q1.n) := T5.out.cell 1
    have u2 : w7.cell? ⟨blk5, 2, none⟩ = some (.int .i64 q1.o) := T5.out.cell 2
    have u3 : w7.cell? ⟨blk5, 3, none⟩ = some (.int .i64 q1.x) := T5.out.cell 3
    have u4 : w7.cell? ⟨blk5, 4, none⟩ = some (.int .i64 q1.y) := T5.out.cell 4
    have u5 : w7.cell? ⟨blk5, 5, none⟩ = some (.slice A5 L1.length a5) := T5.out.cell 5
    have p0 : w7.cell? ⟨blk3, 0, none⟩ = some (.int .i64 q1.c) := T3.out.cell 0
    have p1 : w7.cell? ⟨blk3, 1, none⟩ = some (.int .i64 q1.n) := T3.out.cell 1
    have p2 : w7.cell? ⟨blk3, 2, none⟩ = some (.int .i64 q1.o) := T3.out.cell 2
    have p3 : w7.cell? ⟨blk3, 3, none⟩ = some (.int .i64 q1.x) := T3.out.cell 3
    have p4 : w7.cell? ⟨blk3, 4, none⟩ = some (.int .i64 q1.y) := T3.out.cell 4
    have p5 : w7.cell? ⟨blk3, 5, none⟩ = some (.slice D1 L1.length d) := T3.out.cell 5
    go_wp2_with (fail)
    refine (wpPlayer_rd q1 A5 D1 a5 d L1 _ (by omega) R5.out.r RA.out.r).mono ?_
    rintro e w8 ⟨rfl, hb⟩
    have Z := Lib.hid (Below.and Z.out hb)
    clear hb
    clear u0 u1 u2 u3 u4 u5 p0 p1 p2 p3 p4 p5
    go_wp2
    go_light
    go_ret
    exact ⟨rfl, Z.out⟩
  · have e := HX.out.trans hA
    simp only [Prod.mk.injEq] at e
    obtain ⟨⟨rfl, hL1⟩, rfl⟩ := e
    have HP1 := Lib.hid (show plB q1 L1 = true by rw [hL1]; exact hear_ok HOK.out h1 h2 h3)
    have HAG := Lib.hid (show (hearP q1 L1 r).2 = false by rw [hL1]; exact hear_again _ _ _)
    have HST := Lib.hid (show (sureP q1 L).2 = true → (sureP q1 L1).2 = true by rw [hL1]; exact fun hs => sure_still HOK.out (hear_ok HOK.out h1 h2 h3) hs)
    have HSM := Lib.hid (show (sureP q1 L).2 = true → L1.length ≤ 3 → (sureP q1 L1).1 = (sureP q1 L).1 by rw [hL1]; exact fun hs hl => sure_same HOK.out (hear_ok HOK.out h1 h2 h3) hs hl)
    have HLL := Lib.hid (show L1.length = L.length + 1 by rw [hL1]; simp)
    have HLT := Lib.hid (show ∀ (h : L.length < L1.length), L1[L.length]'h = r by subst hL1; intro h; simp)
    clear hA HX hL1 h1 h2 h3 HOK
    clear T7 R7
    obtain ⟨⟨⟨q2, L2⟩, x3⟩, hX⟩ : ∃ Y : (Rq × List Rp) × Bool, Y = hearP q1 L1 r := ⟨_, rfl⟩
    have hx3 : x3 = false := by have := HAG.out; rw [← hX] at this; exact this
    subst hx3
    have hl2 : L2.length ≤ L1.length + 1 := by have := hearP_len q1 L1 r; rw [← hX] at this; exact this
    have HX := Lib.hid hX
    clear hX HAG
    have u0 : w7.cell? ⟨blk5, 0, none⟩ = some (.int .i64 q1.c) := T5.out.cell 0
    have u1 : w7.cell? ⟨blk5, 1, none⟩ = some (.int .i64 q1.n) := T5.out.cell 1
    have u2 : w7.cell? ⟨blk5, 2, none⟩ = some (.int .i64 q1.o) := T5.out.cell 2
    have u3 : w7.cell? ⟨blk5, 3, none⟩ = some (.int .i64 q1.x) := T5.out.cell 3
    have u4 : w7.cell? ⟨blk5, 4, none⟩ = some (.int .i64 q1.y) := T5.out.cell 4
    have u5 : w7.cell? ⟨blk5, 5, none⟩ = some (.slice A5 L1.length a5) := T5.out.cell 5
    have g0 : w7.cell? ⟨blk4, 0, none⟩ = some (.int .i64 r.f) := T4.out.cell 0
    have g1 : w7.cell? ⟨blk4, 1, none⟩ = some (.int .i64 r.n) := T4.out.cell 1
    have g2 : w7.cell? ⟨blk4, 2, none⟩ = some (.int .i64 r.c) := T4.out.cell 2
    have g3 : w7.cell? ⟨blk4, 3, none⟩ = some (.int .i64 r.s) := T4.out.cell 3
    go_wp2_with (fail)
    have hs := implPlayerHear q1 A5 a5 L1 r w7 (by omega) R5.out
    rw [← HX.out] at hs
    refine hs.mono ?_
    clear hs
    rintro e w8 ⟨A9, a9, rfl, oa, hb⟩
    clear HX oa
    clear u0 u1 u2 u3 u4 u5 g0 g1 g2 g3
    replace T3 := Lib.hid (T3.out.below hb)
    replace T4 := Lib.hid (T4.out.below hb)
    replace T5 := Lib.hid (T5.out.below hb)
    replace RA := Lib.hid (RA.out.below hb)
    replace R5 := Lib.hid (R5.out.below hb)
    replace Z := Lib.hid (Below.and Z.out hb)
    clear hb
    have hb : Below w8.heap.size w8 (w8.alloc (.cells #[.int .i64 q2.c, .int .i64 q2.n, .int .i64 q2.o, .int .i64 q2.x, .int .i64 q2.y, .slice A9 L2.length a9] 27)) := (Below.refl _ _).alloc (Nat.le_refl _) _
    have T9 : Hid (Bkk (w8.alloc (.cells #[.int .i64 q2.c, .int .i64 q2.n, .int .i64 q2.o, .int .i64 q2.x, .int .i64 q2.y, .slice A9 L2.length a9] 27)) w8.heap.size 27 #[.int .i64 q2.c, .int .i64 q2.n, .int .i64 q2.o, .int .i64 q2.x, .int .i64 q2.y, .slice A9 L2.length a9]) := Bkk.new _
    replace T3 := Lib.hid (T3.out.below hb)
    replace T4 := Lib.hid (T4.out.below hb)
    replace T5 := Lib.hid (T5.out.below hb)
    replace RA := Lib.hid (RA.out.below hb)
    replace R5 := Lib.hid (R5.out.below hb)
    replace Z := Lib.hid (Below.and Z.out hb)
    clear hb
    go_upto_region 11 with (fail)
    obtain ⟨w9, hw9⟩ : ∃ X, X = (w8.alloc (.cells #[.int .i64 q2.c, .int .i64 q2.n, .int .i64 q2.o, .int .i64 q2.x, .int .i64 q2.y, .slice A9 L2.length a9] 27)) := ⟨_, rfl⟩
    obtain ⟨blk9, hblk9⟩ : ∃ X, X = w8.heap.size := ⟨_, rfl⟩
    rw [← hw9] at T9 T3 T4 T5 RA R5 Z ⊢
    rw [← hblk9] at T9 ⊢
    clear hw9 hblk9
    clear T9
    obtain ⟨⟨y, u⟩, hy⟩ : ∃ Y, Y = sureP q1 L := ⟨_, rfl⟩
    have HU := Lib.hid hy
    clear hy
    have p0 : w9.cell? ⟨blk3, 0, none⟩ = some (.int .i64 q1.c) := T3.out.cell 0
    have p1 : w9.cell? ⟨blk3, 1, none⟩ = some (.int .i64 q1.n) := T3.out.cell 1
    have p2 : w9.cell? ⟨blk3, 2, none⟩ = some (.int .i64 q1.o) := T3.out.cell 2
    have p3 : w9.cell? ⟨blk3, 3, none⟩ = some (.int .i64 q1.x) := T3.out.cell 3
    have p4 : w9.cell? ⟨blk3, 4, none⟩ = some (.int .i64 q1.y) := T3.out.cell 4
    have p5 : w9.cell? ⟨blk3, 5, none⟩ = some (.slice D1 L.length d) := T3.out.cell 5
    go_wp2_with (fail)
    refine (implPlayerSure q1 D1 d L _ (by unfold maxLen; omega) RA.out.r).mono ?_
    rintro e wA ⟨rfl, hb⟩
    rw [← HU.out]
    clear p0 p1 p2 p3 p4 p5
    replace T3 := Lib.hid (T3.out.below hb)
    replace T4 := Lib.hid (T4.out.below hb)
    replace T5 := Lib.hid (T5.out.below hb)
    replace RA := Lib.hid (RA.out.below hb)
    replace R5 := Lib.hid (R5.out.below hb)
    replace Z := Lib.hid (Below.and Z.out hb)
    clear hb
    have hb : Below wA.heap.size wA (wA.alloc (.cells #[.int .i64 y.f, .int .i64 y.n, .int .i64 y.c, .int .i64 y.s] 29)) := (Below.refl _ _).alloc (Nat.le_refl _) _
    have T11 : Hid (Bkk (wA.alloc (.cells #[.int .i64 y.f, .int .i64 y.n, .int .i64 y.c, .int .i64 y.s] 29)) wA.heap.size 29 #[.int .i64 y.f, .int .i64 y.n, .int .i64 y.c, .int .i64 y.s]) := Bkk.new _
    replace T3 := Lib.hid (T3.out.below hb)
    replace T4 := Lib.hid (T4.out.below hb)
    replace T5 := Lib.hid (T5.out.below hb)
    replace RA := Lib.hid (RA.out.below hb)
    replace R5 := Lib.hid (R5.out.below hb)
    replace Z := Lib.hid (Below.and Z.out hb)
    clear hb
    go_upto_region 12 with (fail)
    obtain ⟨wB, hwB⟩ : ∃ X, X = (wA.alloc (.cells #[.int .i64 y.f, .int .i64 y.n, .int .i64 y.c, .int .i64 y.s] 29)) := ⟨_, rfl⟩
    obtain ⟨blk11, hblk11⟩ : ∃ X, X = wA.heap.size := ⟨_, rfl⟩
    rw [← hwB] at T11 T3 T4 T5 RA R5 Z ⊢
    rw [← hblk11] at T11 ⊢
    clear hwB hblk11
    obtain ⟨⟨z, v⟩, hz⟩ : ∃ Y, Y = sureP q1 L1 := ⟨_, rfl⟩
    have HV := Lib.hid hz
    clear hz
    have u0 : wB.cell? ⟨blk5, 0, none⟩ = some (.int .i64 q1.c) := T5.out.cell 0
    have u1 : wB.cell? ⟨blk5, 1, none⟩ = some (.int .i64 q1.n) := T5.out.cell 1
    have u2 : wB.cell? ⟨blk5, 2, none⟩ = some (.int .i64 q1.o) := T5.out.cell 2
    have u3 : wB.cell? ⟨blk5, 3, none⟩ = some (.int .i64 q1.x) := T5.out.cell 3
    have u4 : wB.cell? ⟨blk5, 4, none⟩ = some (.int .i64 q1.y) := T5.out.cell 4
    have u5 : wB.cell? ⟨blk5, 5, none⟩ = some (.slice A5 L1.length a5) := T5.out.cell 5
    go_wp2_with (fail)
    refine (implPlayerSure q1 A5 a5 L1 _ (by unfold maxLen; omega) R5.out.r).mono ?_
    rintro e wC ⟨rfl, hb⟩
    rw [← HV.out]
    clear u0 u1 u2 u3 u4 u5
    replace T3 := Lib.hid (T3.out.below hb)
    replace T4 := Lib.hid (T4.out.below hb)
    replace T5 := Lib.hid (T5.out.below hb)
    replace T11 := Lib.hid (T11.out.below hb)
    replace RA := Lib.hid (RA.out.below hb)
    replace R5 := Lib.hid (R5.out.below hb)
    replace Z := Lib.hid (Below.and Z.out hb)
    clear hb
    have hb : Below wC.heap.size wC (wC.alloc (.cells #[.int .i64 z.f, .int .i64 z.n, .int .i64 z.c, .int .i64 z.s] 29)) := (Below.refl _ _).alloc (Nat.le_refl _) _
    have T13 : Hid (Bkk (wC.alloc (.cells #[.int .i64 z.f, .int .i64 z.n, .int .i64 z.c, .int .i64 z.s] 29)) wC.heap.size 29 #[.int .i64 z.f, .int .i64 z.n, .int .i64 z.c, .int .i64 z.s]) := Bkk.new _
    replace T3 := Lib.hid (T3.out.below hb)
    replace T4 := Lib.hid (T4.out.below hb)
    replace T5 := Lib.hid (T5.out.below hb)
    replace T11 := Lib.hid (T11.out.below hb)
    replace RA := Lib.hid (RA.out.below hb)
    replace R5 := Lib.hid (R5.out.below hb)
    replace Z := Lib.hid (Below.and Z.out hb)
    clear hb
    go_upto_region 13 with (fail)
    obtain ⟨wD, hwD⟩ : ∃ X, X = (wC.alloc (.cells #[.int .i64 z.f, .int .i64 z.n, .int .i64 z.c, .int .i64 z.s] 29)) := ⟨_, rfl⟩
    obtain ⟨blk13, hblk13⟩ : ∃ X, X = wC.heap.size := ⟨_, rfl⟩
    rw [← hwD] at T13 T3 T4 T5 T11 RA R5 Z ⊢
    rw [← hblk13] at T13 ⊢
    clear hwD hblk13
    obtain ⟨k, hk⟩ : ∃ k, k = L.length := ⟨_, rfl⟩
    have hkl : k < L1.length := by have := HLL.out; omega
    obtain ⟨g, o, hgo, ca⟩ := R5.out.r k hkl
    have HE := Lib.hid (show L1[k] = r by subst hk; exact HLT.out _)
    rw [HE.out] at ca
    subst hgo
    have HK1 := Lib.hid (show L1.length = k + 1 by have := HLL.out; omega)
    have HM1 := Lib.hid (show L1.length ≤ maxLen by unfold maxLen; omega)
    have i0 : (0 : Int) ≤ (k : Int) := by omega
    have i1 : (k : Int) < (k : Int) + 1 := by omega
    have i2 : k ≤ 7 := by have := HK1.out; omega
    have ew : IntKind.i64.wrap (k : Int) = (k : Int) := IntWalk.i64_in _ (by omega)
    have xr0 : wD.cell? ⟨g, o + k * 4, none⟩ = some (.int .i64 r.f) := ca 0 _ rfl
    have xr1 : wD.cell? ⟨g, o + k * 4 + 1, none⟩ = some (.int .i64 r.n) := ca 1 _ rfl
    have xr2 : wD.cell? ⟨g, o + k * 4 + 2, none⟩ = some (.int .i64 r.c) := ca 2 _ rfl
    have xr3 : wD.cell? ⟨g, o + k * 4 + 3, none⟩ = some (.int .i64 r.s) := ca 3 _ rfl
    have lx : g < wD.heap.size := World.block_lt_of_cell? wD _ xr0
    clear ca hk HE HLT hkl hl1 hl2 HLL
    have HS3 := Lib.hid (show v = true → u = true → ¬ (3 : Int) < (k : Int) + 1 → z = y by
      intro _ hu h9
      have h1 := HSM.out
      rw [← HU.out, ← HV.out] at h1
      exact h1 hu (by have := HK1.out; omega))
    have HST2 := Lib.hid (show u = true → v = true by have h1 := HST.out; rw [← HU.out, ← HV.out] at h1; exact h1)
    clear HST HSM HU HV
    have hq1 : ∀ W, (binOp .eql 29 (.agg #[.int .i64 r.f, .int .i64 r.n, .int .i64 r.c, .int .i64 r.s]) (.agg #[.int .i64 r.f, .int .i64 r.n, .int .i64 r.c, .int .i64 r.s])).run Try.prog W = .ok (.bool true) W := fun W => by have := eqlReply r r W; simpa using this
    rw [HK1.out] at T5
    have u0 : wD.cell? ⟨blk5, 0, none⟩ = some (.int .i64 q1.c) := T5.out.cell 0
    have u1 : wD.cell? ⟨blk5, 1, none⟩ = some (.int .i64 q1.n) := T5.out.cell 1
    have u2 : wD.cell? ⟨blk5, 2, none⟩ = some (.int .i64 q1.o) := T5.out.cell 2
    have u3 : wD.cell? ⟨blk5, 3, none⟩ = some (.int .i64 q1.x) := T5.out.cell 3
    have u4 : wD.cell? ⟨blk5, 4, none⟩ = some (.int .i64 q1.y) := T5.out.cell 4
    have u5 : wD.cell? ⟨blk5, 5, none⟩ = some (.slice (some ⟨g, o, none⟩) (k + 1) a5) := T5.out.cell 5
    have g0 : wD.cell? ⟨blk4, 0, none⟩ = some (.int .i64 r.f) := T4.out.cell 0
    have g1 : wD.cell? ⟨blk4, 1, none⟩ = some (.int .i64 r.n) := T4.out.cell 1
    have g2 : wD.cell? ⟨blk4, 2, none⟩ = some (.int .i64 r.c) := T4.out.cell 2
    have g3 : wD.cell? ⟨blk4, 3, none⟩ = some (.int .i64 r.s) := T4.out.cell 3
    have y0 : wD.cell? ⟨blk11, 0, none⟩ = some (.int .i64 y.f) := T11.out.cell 0
    have y1 : wD.cell? ⟨blk11, 1, none⟩ = some (.int .i64 y.n) := T11.out.cell 1
    have y2 : wD.cell? ⟨blk11, 2, none⟩ = some (.int .i64 y.c) := T11.out.cell 2
    have y3 : wD.cell? ⟨blk11, 3, none⟩ = some (.int .i64 y.s) := T11.out.cell 3
    have z0 : wD.cell? ⟨blk13, 0, none⟩ = some (.int .i64 z.f) := T13.out.cell 0
    have z1 : wD.cell? ⟨blk13, 1, none⟩ = some (.int .i64 z.n) := T13.out.cell 1
    have z2 : wD.cell? ⟨blk13, 2, none⟩ = some (.int .i64 z.c) := T13.out.cell 2
    have z3 : wD.cell? ⟨blk13, 3, none⟩ = some (.int .i64 z.s) := T13.out.cell 3
    have ltT4 := T4.out.lt
    have ltT5 := T5.out.lt
    have ltT11 := T11.out.lt
    have ltT13 := T13.out.lt
    rcases u with _ | _
    · skip
      refine wp_region_held_drew (S := fun w1 => Below wD.heap.size wD w1) (by kernel_rfl) ((Below.refl _ _).drew) (fun hq => ?_)
      refine takeD 0 92 (v := ?_) rfl rfl (by kernel_rfl) (by kernel_rfl) (by kernel_rfl) (fun _ _ _ h => h) (Or.inl ⟨by rfl, ?_⟩) (by assumption) ?_
      rotate_left
      · intro w1 hSw; obtain ⟨hcS, hfS⟩ := bcell hSw; go_simp; (try with_reducible rfl)
      (try simp only [Act.put, List.setIfInBounds_toArray, List.set_cons_zero, List.set_cons_succ])
      refine wpAnyH_ready (rs := [1]) (by kernel_rfl) (by simp) ?_
      refine AllReadyH.cons rfl (fun K hK => ?_) AllReadyH.nil
      go_simp
      have hs := implPlayerOk q1 (some ⟨g, o, none⟩) a5 L1 wD.drew HM1.out (Rd.below R5.out.r (Below.refl _ _).drew)
      rw [HK1.out] at hs
      refine hs.mono ?_
      clear hs
      rintro e wy ⟨rfl, hb⟩
      rw [HP1.out]
      refine hK.out _ _ (Below.and hq hb) (fun hq2 => ?_)
      clear hK K
      (try simp only [Act.put, List.setIfInBounds_toArray, List.set_cons_zero, List.set_cons_succ])
      refine takeD 2 94 (v := ?_) rfl rfl (by kernel_rfl) (by kernel_rfl) (by kernel_rfl) (fun _ _ _ h => h) (Or.inl ⟨by rfl, ?_⟩) (by assumption) ?_
      rotate_left
      · intro w1 hSw; obtain ⟨hcS, hfS⟩ := bcell hSw; go_simp; (try with_reducible rfl)
      (try simp only [Act.put, List.setIfInBounds_toArray, List.set_cons_zero, List.set_cons_succ])
      refine takeD 3 95 (v := ?_) rfl rfl (by kernel_rfl) (by kernel_rfl) (by kernel_rfl) (fun _ _ _ h => h) (Or.inl ⟨by rfl, ?_⟩) (by assumption) ?_
      rotate_left
      · intro w1 hSw; obtain ⟨hcS, hfS⟩ := bcell hSw; go_simp; (try with_reducible rfl)
      (try simp only [Act.put, List.setIfInBounds_toArray, List.set_cons_zero, List.set_cons_succ])
      refine takeD 4 96 (v := ?_) rfl rfl (by kernel_rfl) (by kernel_rfl) (by kernel_rfl) (fun _ _ _ h => h) (Or.inl ⟨by rfl, ?_⟩) (by assumption) ?_
      rotate_left
      · intro w1 hSw; obtain ⟨hcS, hfS⟩ := bcell hSw; go_simp; (try with_reducible rfl)
      (try simp only [Act.put, List.setIfInBounds_toArray, List.set_cons_zero, List.set_cons_succ])
      refine takeD 5 97 (v := ?_) rfl rfl (by kernel_rfl) (by kernel_rfl) (by kernel_rfl) (fun _ _ _ h => h) (Or.inl ⟨by rfl, ?_⟩) (by assumption) ?_
      rotate_left
      · intro w1 hSw; obtain ⟨hcS, hfS⟩ := bcell hSw; go_simp; (try with_reducible rfl)
      (try simp only [Act.put, List.setIfInBounds_toArray, List.set_cons_zero, List.set_cons_succ])
      refine takeD 6 98 (v := ?_) rfl rfl (by kernel_rfl) (by kernel_rfl) (by kernel_rfl) (fun _ _ _ h => h) (Or.inl ⟨by rfl, ?_⟩) (by assumption) ?_
      rotate_left
      · intro w1 hSw; obtain ⟨hcS, hfS⟩ := bcell hSw; go_simp; (try with_reducible rfl)
      (try simp only [Act.put, List.setIfInBounds_toArray, List.set_cons_zero, List.set_cons_succ])
      refine takeD 7 99 (v := ?_) rfl rfl (by kernel_rfl) (by kernel_rfl) (by kernel_rfl) (fun _ _ _ h => h) (Or.inl ⟨by rfl, ?_⟩) (by assumption) ?_
      rotate_left
      · intro w1 hSw; obtain ⟨hcS, hfS⟩ := bcell hSw; go_simp; (try with_reducible rfl)
      (try simp only [Act.put, List.setIfInBounds_toArray, List.set_cons_zero, List.set_cons_succ])
      refine takeD 8 100 (v := ?_) rfl rfl (by kernel_rfl) (by kernel_rfl) (by kernel_rfl) (fun _ _ _ h => h) (Or.inl ⟨by rfl, ?_⟩) (by assumption) ?_
      rotate_left
      · intro w1 hSw; obtain ⟨hcS, hfS⟩ := bcell hSw; go_simp; (try with_reducible rfl)
      (try simp only [Act.put, List.setIfInBounds_toArray, List.set_cons_zero, List.set_cons_succ])
      refine takeD 9 101 (v := ?_) rfl rfl (by kernel_rfl) (by kernel_rfl) (by kernel_rfl) (fun _ _ _ h => h) (Or.inl ⟨by rfl, ?_⟩) (by assumption) ?_
      rotate_left
      · intro w1 hSw; obtain ⟨hcS, hfS⟩ := bcell hSw; go_simp; (try with_reducible rfl)
      (try simp only [Act.put, List.setIfInBounds_toArray, List.set_cons_zero, List.set_cons_succ])
      refine takeD 10 102 (v := ?_) rfl rfl (by kernel_rfl) (by kernel_rfl) (by kernel_rfl) (fun _ _ _ h => h) (Or.inl ⟨by rfl, ?_⟩) (by assumption) ?_
      rotate_left
      · intro w1 hSw; obtain ⟨hcS, hfS⟩ := bcell hSw; go_simp; (try with_reducible rfl)
      (try simp only [Act.put, List.setIfInBounds_toArray, List.set_cons_zero, List.set_cons_succ])
      refine takeD 11 103 (v := ?_) rfl rfl (by kernel_rfl) (by kernel_rfl) (by kernel_rfl) (fun _ _ _ h => h) (Or.inl ⟨by rfl, ?_⟩) (by assumption) ?_
      rotate_left
      · intro w1 hSw; obtain ⟨hcS, hfS⟩ := bcell hSw; go_simp; (try with_reducible rfl)
      (try simp only [Act.put, List.setIfInBounds_toArray, List.set_cons_zero, List.set_cons_succ])
      refine takeD 12 104 (v := ?_) rfl rfl (by kernel_rfl) (by kernel_rfl) (by kernel_rfl) (fun _ _ _ h => h) (Or.inl ⟨by rfl, ?_⟩) (by assumption) ?_
      rotate_left
      · intro w1 hSw; obtain ⟨hcS, hfS⟩ := bcell hSw; go_simp; (try with_reducible rfl)
      (try simp only [Act.put, List.setIfInBounds_toArray, List.set_cons_zero, List.set_cons_succ])
      refine takeD 13 105 (v := ?_) rfl rfl (by kernel_rfl) (by kernel_rfl) (by kernel_rfl) (fun _ _ _ h => h) (Or.inl ⟨by rfl, ?_⟩) (by assumption) ?_
      rotate_left
      · intro w1 hSw; obtain ⟨hcS, hfS⟩ := bcell hSw; go_simp; (try with_reducible rfl)
      (try simp only [Act.put, List.setIfInBounds_toArray, List.set_cons_zero, List.set_cons_succ])
      refine takeD 14 106 (v := ?_) rfl rfl (by kernel_rfl) (by kernel_rfl) (by kernel_rfl) (fun _ _ _ h => h) (Or.inl ⟨by rfl, ?_⟩) (by assumption) ?_
      rotate_left
      · intro w1 hSw; obtain ⟨hcS, hfS⟩ := bcell hSw; go_simp; (try with_reducible rfl)
      (try simp only [Act.put, List.setIfInBounds_toArray, List.set_cons_zero, List.set_cons_succ])
      refine takeD 15 107 (v := ?_) rfl rfl (by kernel_rfl) (by kernel_rfl) (by kernel_rfl) (fun _ _ _ h => h) (Or.inl ⟨by rfl, ?_⟩) (by assumption) ?_
      rotate_left
      · intro w1 hSw; obtain ⟨hcS, hfS⟩ := bcell hSw; go_simp; (try with_reducible rfl)
      (try simp only [Act.put, List.setIfInBounds_toArray, List.set_cons_zero, List.set_cons_succ])
      refine takeD 16 108 (v := ?_) rfl rfl (by kernel_rfl) (by kernel_rfl) (by kernel_rfl) (fun _ _ _ h => h) (Or.inl ⟨by rfl, ?_⟩) (by assumption) ?_
      rotate_left
      · intro w1 hSw; obtain ⟨hcS, hfS⟩ := bcell hSw; go_simp; (try with_reducible rfl)
      (try simp only [Act.put, List.setIfInBounds_toArray, List.set_cons_zero, List.set_cons_succ])
      refine takeD 17 109 (v := ?_) rfl rfl (by kernel_rfl) (by kernel_rfl) (by kernel_rfl) (fun _ _ _ h => h) (Or.inl ⟨by rfl, ?_⟩) (by assumption) ?_
      rotate_left
      · intro w1 hSw; obtain ⟨hcS, hfS⟩ := bcell hSw; go_simp; (try with_reducible rfl)
      (try simp only [Act.put, List.setIfInBounds_toArray, List.set_cons_zero, List.set_cons_succ])
      refine takeD 18 110 (v := ?_) rfl rfl (by kernel_rfl) (by kernel_rfl) (by kernel_rfl) (fun _ _ _ h => h) (Or.inl ⟨by rfl, ?_⟩) (by assumption) ?_
      rotate_left
      · intro w1 hSw; obtain ⟨hcS, hfS⟩ := bcell hSw; go_simp; (try with_reducible rfl)
      (try simp only [Act.put, List.setIfInBounds_toArray, List.set_cons_zero, List.set_cons_succ])
      refine takeD 19 111 (v := ?_) rfl rfl (by kernel_rfl) (by kernel_rfl) (by kernel_rfl) (fun _ _ _ h => h) (Or.inl ⟨by rfl, ?_⟩) (by assumption) ?_
      rotate_left
      · intro w1 hSw; obtain ⟨hcS, hfS⟩ := bcell hSw; go_simp; (try with_reducible rfl)
      (try simp only [Act.put, List.setIfInBounds_toArray, List.set_cons_zero, List.set_cons_succ])
      refine takeD 20 112 (v := ?_) rfl rfl (by kernel_rfl) (by kernel_rfl) (by kernel_rfl) (fun _ _ _ h => h) (Or.inl ⟨by rfl, ?_⟩) (by assumption) ?_
      rotate_left
      · intro w1 hSw; obtain ⟨hcS, hfS⟩ := bcell hSw; go_simp; (try with_reducible rfl)
      (try simp only [Act.put, List.setIfInBounds_toArray, List.set_cons_zero, List.set_cons_succ])
      refine takeD 21 113 (v := ?_) rfl rfl (by kernel_rfl) (by kernel_rfl) (by kernel_rfl) (fun _ _ _ h => h) (Or.inl ⟨by rfl, ?_⟩) (by assumption) ?_
      rotate_left
      · intro w1 hSw; obtain ⟨hcS, hfS⟩ := bcell hSw; go_simp; (try with_reducible rfl)
      (try simp only [Act.put, List.setIfInBounds_toArray, List.set_cons_zero, List.set_cons_succ])
      refine takeD 22 114 (v := undef) rfl rfl (by kernel_rfl) (by kernel_rfl) (by kernel_rfl) (fun _ _ _ h => h) (Or.inr ⟨by rfl, rfl⟩) (by assumption) ?_
      (try simp only [Act.put, List.setIfInBounds_toArray, List.set_cons_zero, List.set_cons_succ])
      refine takeD 23 115 (v := undef) rfl rfl (by kernel_rfl) (by kernel_rfl) (by kernel_rfl) (fun _ _ _ h => h) (Or.inr ⟨by rfl, rfl⟩) (by assumption) ?_
      (try simp only [Act.put, List.setIfInBounds_toArray, List.set_cons_zero, List.set_cons_succ])
      refine takeD 24 116 (v := undef) rfl rfl (by kernel_rfl) (by kernel_rfl) (by kernel_rfl) (fun _ _ _ h => h) (Or.inr ⟨by rfl, rfl⟩) (by assumption) ?_
      (try simp only [Act.put, List.setIfInBounds_toArray, List.set_cons_zero, List.set_cons_succ])
      refine takeD 25 117 (v := undef) rfl rfl (by kernel_rfl) (by kernel_rfl) (by kernel_rfl) (fun _ _ _ h => h) (Or.inr ⟨by rfl, rfl⟩) (by assumption) ?_
      (try simp only [Act.put, List.setIfInBounds_toArray, List.set_cons_zero, List.set_cons_succ])
      refine takeD 26 118 (v := undef) rfl rfl (by kernel_rfl) (by kernel_rfl) (by kernel_rfl) (fun _ _ _ h => h) (Or.inr ⟨by rfl, rfl⟩) (by assumption) ?_
      (try simp only [Act.put, List.setIfInBounds_toArray, List.set_cons_zero, List.set_cons_succ])
      refine takeD 27 119 (v := undef) rfl rfl (by kernel_rfl) (by kernel_rfl) (by kernel_rfl) (fun _ _ _ h => h) (Or.inr ⟨by rfl, rfl⟩) (by assumption) ?_
      (try simp only [Act.put, List.setIfInBounds_toArray, List.set_cons_zero, List.set_cons_succ])
      refine takeD 28 120 (v := undef) rfl rfl (by kernel_rfl) (by kernel_rfl) (by kernel_rfl) (fun _ _ _ h => h) (Or.inr ⟨by rfl, rfl⟩) (by assumption) ?_
      (try simp only [Act.put, List.setIfInBounds_toArray, List.set_cons_zero, List.set_cons_succ])
      refine takeD 29 121 (v := undef) rfl rfl (by kernel_rfl) (by kernel_rfl) (by kernel_rfl) (fun _ _ _ h => h) (Or.inr ⟨by rfl, rfl⟩) (by assumption) ?_
      (try simp only [Act.put, List.setIfInBounds_toArray, List.set_cons_zero, List.set_cons_succ])
      refine takeD 30 122 (v := undef) rfl rfl (by kernel_rfl) (by kernel_rfl) (by kernel_rfl) (fun _ _ _ h => h) (Or.inr ⟨by rfl, rfl⟩) (by assumption) ?_
      (try simp only [Act.put, List.setIfInBounds_toArray, List.set_cons_zero, List.set_cons_succ])
      refine takeD 31 123 (v := undef) rfl rfl (by kernel_rfl) (by kernel_rfl) (by kernel_rfl) (fun _ _ _ h => h) (Or.inr ⟨by rfl, rfl⟩) (by assumption) ?_
      (try simp only [Act.put, List.setIfInBounds_toArray, List.set_cons_zero, List.set_cons_succ])
      refine takeD 32 124 (v := undef) rfl rfl (by kernel_rfl) (by kernel_rfl) (by kernel_rfl) (fun _ _ _ h => h) (Or.inr ⟨by rfl, rfl⟩) (by assumption) ?_
      (try simp only [Act.put, List.setIfInBounds_toArray, List.set_cons_zero, List.set_cons_succ])
      refine takeD 33 125 (v := undef) rfl rfl (by kernel_rfl) (by kernel_rfl) (by kernel_rfl) (fun _ _ _ h => h) (Or.inr ⟨by rfl, rfl⟩) (by assumption) ?_
      (try simp only [Act.put, List.setIfInBounds_toArray, List.set_cons_zero, List.set_cons_succ])
      refine takeD 34 126 (v := ?_) rfl rfl (by kernel_rfl) (by kernel_rfl) (by kernel_rfl) (fun _ _ _ h => h) (Or.inl ⟨by rfl, ?_⟩) (by assumption) ?_
      rotate_left
      · intro w1 hSw; obtain ⟨hcS, hfS⟩ := bcell hSw; go_simp; (try with_reducible rfl)
      (try simp only [Act.put, List.setIfInBounds_toArray, List.set_cons_zero, List.set_cons_succ])
      refine takeD 35 127 (v := ?_) rfl rfl (by kernel_rfl) (by kernel_rfl) (by kernel_rfl) (fun _ _ _ h => h) (Or.inl ⟨by rfl, ?_⟩) (by assumption) ?_
      rotate_left
      · intro w1 hSw; obtain ⟨hcS, hfS⟩ := bcell hSw; go_simp; (try with_reducible rfl)
      (try simp only [Act.put, List.setIfInBounds_toArray, List.set_cons_zero, List.set_cons_succ])
      refine takeD 36 2 (v := ?_) rfl rfl (by kernel_rfl) (by kernel_rfl) (by kernel_rfl) (fun _ _ _ h => h) (Or.inl ⟨by rfl, ?_⟩) (by assumption) ?_
      rotate_left
      · intro w1 hSw; obtain ⟨hcS, hfS⟩ := bcell hSw; go_simp; (try with_reducible rfl)
      (try simp only [Act.put, List.setIfInBounds_toArray, List.set_cons_zero, List.set_cons_succ])
      refine wpAnyH_done (by kernel_rfl) ?_ _
      have hbz := hq2
      have Z := Lib.hid (Below.and Z.out hbz)
      go_wp2
      go_light
      go_ret
      exact ⟨rfl, Z.out⟩
    · have hv : v = true := HST2.out rfl
      subst hv
      by_cases h3 : (3 : Int) < (k : Int) + 1
      · skip
        refine wp_region_held_drew (S := fun w1 => Below wD.heap.size wD w1) (by kernel_rfl) ((Below.refl _ _).drew) (fun hq => ?_)
        refine takeD 0 92 (v := ?_) rfl rfl (by kernel_rfl) (by kernel_rfl) (by kernel_rfl) (fun _ _ _ h => h) (Or.inl ⟨by rfl, ?_⟩) (by assumption) ?_
        rotate_left
        · intro w1 hSw; obtain ⟨hcS, hfS⟩ := bcell hSw; go_simp; (try with_reducible rfl)
        (try simp only [Act.put, List.setIfInBounds_toArray, List.set_cons_zero, List.set_cons_succ])
        refine wpAnyH_ready (rs := [1]) (by kernel_rfl) (by simp) ?_
        refine AllReadyH.cons rfl (fun K hK => ?_) AllReadyH.nil
        go_simp
        have hs := implPlayerOk q1 (some ⟨g, o, none⟩) a5 L1 wD.drew HM1.out (Rd.below R5.out.r (Below.refl _ _).drew)
        rw [HK1.out] at hs
        refine hs.mono ?_
        clear hs
        rintro e wy ⟨rfl, hb⟩
        rw [HP1.out]
        refine hK.out _ _ (Below.and hq hb) (fun hq2 => ?_)
        clear hK K
        (try simp only [Act.put, List.setIfInBounds_toArray, List.set_cons_zero, List.set_cons_succ])
        refine takeD 2 94 (v := ?_) rfl rfl (by kernel_rfl) (by kernel_rfl) (by kernel_rfl) (fun _ _ _ h => h) (Or.inl ⟨by rfl, ?_⟩) (by assumption) ?_
        rotate_left
        · intro w1 hSw; obtain ⟨hcS, hfS⟩ := bcell hSw; go_simp; (try with_reducible rfl)
        (try simp only [Act.put, List.setIfInBounds_toArray, List.set_cons_zero, List.set_cons_succ])
        refine takeD 3 95 (v := ?_) rfl rfl (by kernel_rfl) (by kernel_rfl) (by kernel_rfl) (fun _ _ _ h => h) (Or.inl ⟨by rfl, ?_⟩) (by assumption) ?_
        rotate_left
        · intro w1 hSw; obtain ⟨hcS, hfS⟩ := bcell hSw; go_simp; (try with_reducible rfl)
        (try simp only [Act.put, List.setIfInBounds_toArray, List.set_cons_zero, List.set_cons_succ])
        refine takeD 4 96 (v := ?_) rfl rfl (by kernel_rfl) (by kernel_rfl) (by kernel_rfl) (fun _ _ _ h => h) (Or.inl ⟨by rfl, ?_⟩) (by assumption) ?_
        rotate_left
        · intro w1 hSw; obtain ⟨hcS, hfS⟩ := bcell hSw; go_simp; (try with_reducible rfl)
        (try simp only [Act.put, List.setIfInBounds_toArray, List.set_cons_zero, List.set_cons_succ])
        refine takeD 5 97 (v := ?_) rfl rfl (by kernel_rfl) (by kernel_rfl) (by kernel_rfl) (fun _ _ _ h => h) (Or.inl ⟨by rfl, ?_⟩) (by assumption) ?_
        rotate_left
        · intro w1 hSw; obtain ⟨hcS, hfS⟩ := bcell hSw; go_simp; (try with_reducible rfl)
        (try simp only [Act.put, List.setIfInBounds_toArray, List.set_cons_zero, List.set_cons_succ])
        refine takeD 6 98 (v := ?_) rfl rfl (by kernel_rfl) (by kernel_rfl) (by kernel_rfl) (fun _ _ _ h => h) (Or.inl ⟨by rfl, ?_⟩) (by assumption) ?_
        rotate_left
        · intro w1 hSw; obtain ⟨hcS, hfS⟩ := bcell hSw; go_simp; (try with_reducible rfl)
        (try simp only [Act.put, List.setIfInBounds_toArray, List.set_cons_zero, List.set_cons_succ])
        refine takeD 7 99 (v := ?_) rfl rfl (by kernel_rfl) (by kernel_rfl) (by kernel_rfl) (fun _ _ _ h => h) (Or.inl ⟨by rfl, ?_⟩) (by assumption) ?_
        rotate_left
        · intro w1 hSw; obtain ⟨hcS, hfS⟩ := bcell hSw; go_simp; (try with_reducible rfl)
        (try simp only [Act.put, List.setIfInBounds_toArray, List.set_cons_zero, List.set_cons_succ])
        refine takeD 8 100 (v := ?_) rfl rfl (by kernel_rfl) (by kernel_rfl) (by kernel_rfl) (fun _ _ _ h => h) (Or.inl ⟨by rfl, ?_⟩) (by assumption) ?_
        rotate_left
        · intro w1 hSw; obtain ⟨hcS, hfS⟩ := bcell hSw; go_simp; (try with_reducible rfl)
        (try simp only [Act.put, List.setIfInBounds_toArray, List.set_cons_zero, List.set_cons_succ])
        refine takeD 9 101 (v := ?_) rfl rfl (by kernel_rfl) (by kernel_rfl) (by kernel_rfl) (fun _ _ _ h => h) (Or.inl ⟨by rfl, ?_⟩) (by assumption) ?_
        rotate_left
        · intro w1 hSw; obtain ⟨hcS, hfS⟩ := bcell hSw; go_simp; (try with_reducible rfl)
        (try simp only [Act.put, List.setIfInBounds_toArray, List.set_cons_zero, List.set_cons_succ])
        refine takeD 10 102 (v := ?_) rfl rfl (by kernel_rfl) (by kernel_rfl) (by kernel_rfl) (fun _ _ _ h => h) (Or.inl ⟨by rfl, ?_⟩) (by assumption) ?_
        rotate_left
        · intro w1 hSw; obtain ⟨hcS, hfS⟩ := bcell hSw; go_simp; (try with_reducible rfl)
        (try simp only [Act.put, List.setIfInBounds_toArray, List.set_cons_zero, List.set_cons_succ])
        refine takeD 11 103 (v := ?_) rfl rfl (by kernel_rfl) (by kernel_rfl) (by kernel_rfl) (fun _ _ _ h => h) (Or.inl ⟨by rfl, ?_⟩) (by assumption) ?_
        rotate_left
        · intro w1 hSw; obtain ⟨hcS, hfS⟩ := bcell hSw; go_simp; (try with_reducible rfl)
        (try simp only [Act.put, List.setIfInBounds_toArray, List.set_cons_zero, List.set_cons_succ])
        refine takeD 12 104 (v := ?_) rfl rfl (by kernel_rfl) (by kernel_rfl) (by kernel_rfl) (fun _ _ _ h => h) (Or.inl ⟨by rfl, ?_⟩) (by assumption) ?_
        rotate_left
        · intro w1 hSw; obtain ⟨hcS, hfS⟩ := bcell hSw; go_simp; (try with_reducible rfl)
        (try simp only [Act.put, List.setIfInBounds_toArray, List.set_cons_zero, List.set_cons_succ])
        refine takeD 13 105 (v := ?_) rfl rfl (by kernel_rfl) (by kernel_rfl) (by kernel_rfl) (fun _ _ _ h => h) (Or.inl ⟨by rfl, ?_⟩) (by assumption) ?_
        rotate_left
        · intro w1 hSw; obtain ⟨hcS, hfS⟩ := bcell hSw; go_simp; (try with_reducible rfl)
        (try simp only [Act.put, List.setIfInBounds_toArray, List.set_cons_zero, List.set_cons_succ])
        refine takeD 14 106 (v := ?_) rfl rfl (by kernel_rfl) (by kernel_rfl) (by kernel_rfl) (fun _ _ _ h => h) (Or.inl ⟨by rfl, ?_⟩) (by assumption) ?_
        rotate_left
        · intro w1 hSw; obtain ⟨hcS, hfS⟩ := bcell hSw; go_simp; (try with_reducible rfl)
        (try simp only [Act.put, List.setIfInBounds_toArray, List.set_cons_zero, List.set_cons_succ])
        refine takeD 15 107 (v := ?_) rfl rfl (by kernel_rfl) (by kernel_rfl) (by kernel_rfl) (fun _ _ _ h => h) (Or.inl ⟨by rfl, ?_⟩) (by assumption) ?_
        rotate_left
        · intro w1 hSw; obtain ⟨hcS, hfS⟩ := bcell hSw; go_simp; (try with_reducible rfl)
        (try simp only [Act.put, List.setIfInBounds_toArray, List.set_cons_zero, List.set_cons_succ])
        refine takeD 16 108 (v := ?_) rfl rfl (by kernel_rfl) (by kernel_rfl) (by kernel_rfl) (fun _ _ _ h => h) (Or.inl ⟨by rfl, ?_⟩) (by assumption) ?_
        rotate_left
        · intro w1 hSw; obtain ⟨hcS, hfS⟩ := bcell hSw; go_simp; (try with_reducible rfl)
        (try simp only [Act.put, List.setIfInBounds_toArray, List.set_cons_zero, List.set_cons_succ])
        refine takeD 17 109 (v := ?_) rfl rfl (by kernel_rfl) (by kernel_rfl) (by kernel_rfl) (fun _ _ _ h => h) (Or.inl ⟨by rfl, ?_⟩) (by assumption) ?_
        rotate_left
        · intro w1 hSw; obtain ⟨hcS, hfS⟩ := bcell hSw; go_simp; (try with_reducible rfl)
        (try simp only [Act.put, List.setIfInBounds_toArray, List.set_cons_zero, List.set_cons_succ])
        refine takeD 18 110 (v := ?_) rfl rfl (by kernel_rfl) (by kernel_rfl) (by kernel_rfl) (fun _ _ _ h => h) (Or.inl ⟨by rfl, ?_⟩) (by assumption) ?_
        rotate_left
        · intro w1 hSw; obtain ⟨hcS, hfS⟩ := bcell hSw; go_simp; (try with_reducible rfl)
        (try simp only [Act.put, List.setIfInBounds_toArray, List.set_cons_zero, List.set_cons_succ])
        refine takeD 19 111 (v := ?_) rfl rfl (by kernel_rfl) (by kernel_rfl) (by kernel_rfl) (fun _ _ _ h => h) (Or.inl ⟨by rfl, ?_⟩) (by assumption) ?_
        rotate_left
        · intro w1 hSw; obtain ⟨hcS, hfS⟩ := bcell hSw; go_simp; (try with_reducible rfl)
        (try simp only [Act.put, List.setIfInBounds_toArray, List.set_cons_zero, List.set_cons_succ])
        refine takeD 20 112 (v := ?_) rfl rfl (by kernel_rfl) (by kernel_rfl) (by kernel_rfl) (fun _ _ _ h => h) (Or.inl ⟨by rfl, ?_⟩) (by assumption) ?_
        rotate_left
        · intro w1 hSw; obtain ⟨hcS, hfS⟩ := bcell hSw; go_simp; (try with_reducible rfl)
        (try simp only [Act.put, List.setIfInBounds_toArray, List.set_cons_zero, List.set_cons_succ])
        refine takeD 21 113 (v := ?_) rfl rfl (by kernel_rfl) (by kernel_rfl) (by kernel_rfl) (fun _ _ _ h => h) (Or.inl ⟨by rfl, ?_⟩) (by assumption) ?_
        rotate_left
        · intro w1 hSw; obtain ⟨hcS, hfS⟩ := bcell hSw; go_simp; (try with_reducible rfl)
        (try simp only [Act.put, List.setIfInBounds_toArray, List.set_cons_zero, List.set_cons_succ])
        refine takeD 22 114 (v := ?_) rfl rfl (by kernel_rfl) (by kernel_rfl) (by kernel_rfl) (fun _ _ _ h => h) (Or.inl ⟨by rfl, ?_⟩) (by assumption) ?_
        rotate_left
        · intro w1 hSw; obtain ⟨hcS, hfS⟩ := bcell hSw; go_simp; (try with_reducible rfl)
        (try simp only [Act.put, List.setIfInBounds_toArray, List.set_cons_zero, List.set_cons_succ])
        refine takeD 23 115 (v := ?_) rfl rfl (by kernel_rfl) (by kernel_rfl) (by kernel_rfl) (fun _ _ _ h => h) (Or.inl ⟨by rfl, ?_⟩) (by assumption) ?_
        rotate_left
        · intro w1 hSw; obtain ⟨hcS, hfS⟩ := bcell hSw; go_simp; (try with_reducible rfl)
        (try simp only [Act.put, List.setIfInBounds_toArray, List.set_cons_zero, List.set_cons_succ])
        refine takeD 24 116 (v := ?_) rfl rfl (by kernel_rfl) (by kernel_rfl) (by kernel_rfl) (fun _ _ _ h => h) (Or.inl ⟨by rfl, ?_⟩) (by assumption) ?_
        rotate_left
        · intro w1 hSw; obtain ⟨hcS, hfS⟩ := bcell hSw; go_simp; (try with_reducible rfl)
        (try simp only [Act.put, List.setIfInBounds_toArray, List.set_cons_zero, List.set_cons_succ])
        refine takeD 25 117 (v := ?_) rfl rfl (by kernel_rfl) (by kernel_rfl) (by kernel_rfl) (fun _ _ _ h => h) (Or.inl ⟨by rfl, ?_⟩) (by assumption) ?_
        rotate_left
        · intro w1 hSw; obtain ⟨hcS, hfS⟩ := bcell hSw; go_simp; (try with_reducible rfl)
        (try simp only [Act.put, List.setIfInBounds_toArray, List.set_cons_zero, List.set_cons_succ])
        refine takeD 26 118 (v := ?_) rfl rfl (by kernel_rfl) (by kernel_rfl) (by kernel_rfl) (fun _ _ _ h => h) (Or.inl ⟨by rfl, ?_⟩) (by assumption) ?_
        rotate_left
        · intro w1 hSw; obtain ⟨hcS, hfS⟩ := bcell hSw; go_simp; (try with_reducible rfl)
        (try simp only [Act.put, List.setIfInBounds_toArray, List.set_cons_zero, List.set_cons_succ])
        refine takeD 27 119 (v := ?_) rfl rfl (by kernel_rfl) (by kernel_rfl) (by kernel_rfl) (fun _ _ _ h => h) (Or.inl ⟨by rfl, ?_⟩) (by assumption) ?_
        rotate_left
        · intro w1 hSw; obtain ⟨hcS, hfS⟩ := bcell hSw; go_simp; (try with_reducible rfl)
        (try simp only [Act.put, List.setIfInBounds_toArray, List.set_cons_zero, List.set_cons_succ])
        refine takeD 28 120 (v := ?_) rfl rfl (by kernel_rfl) (by kernel_rfl) (by kernel_rfl) (fun _ _ _ h => h) (Or.inl ⟨by rfl, ?_⟩) (by assumption) ?_
        rotate_left
        · intro w1 hSw; obtain ⟨hcS, hfS⟩ := bcell hSw; go_simp; (try with_reducible rfl)
        (try simp only [Act.put, List.setIfInBounds_toArray, List.set_cons_zero, List.set_cons_succ])
        refine takeD 29 121 (v := undef) rfl rfl (by kernel_rfl) (by kernel_rfl) (by kernel_rfl) (fun _ _ _ h => h) (Or.inr ⟨by rfl, rfl⟩) (by assumption) ?_
        (try simp only [Act.put, List.setIfInBounds_toArray, List.set_cons_zero, List.set_cons_succ])
        refine takeD 30 122 (v := undef) rfl rfl (by kernel_rfl) (by kernel_rfl) (by kernel_rfl) (fun _ _ _ h => h) (Or.inr ⟨by rfl, rfl⟩) (by assumption) ?_
        (try simp only [Act.put, List.setIfInBounds_toArray, List.set_cons_zero, List.set_cons_succ])
        refine takeD 31 123 (v := undef) rfl rfl (by kernel_rfl) (by kernel_rfl) (by kernel_rfl) (fun _ _ _ h => h) (Or.inr ⟨by rfl, rfl⟩) (by assumption) ?_
        (try simp only [Act.put, List.setIfInBounds_toArray, List.set_cons_zero, List.set_cons_succ])
        refine takeD 32 124 (v := ?_) rfl rfl (by kernel_rfl) (by kernel_rfl) (by kernel_rfl) (fun _ _ _ h => h) (Or.inl ⟨by rfl, ?_⟩) (by assumption) ?_
        rotate_left
        · intro w1 hSw; obtain ⟨hcS, hfS⟩ := bcell hSw; go_simp; (try with_reducible rfl)
        (try simp only [Act.put, List.setIfInBounds_toArray, List.set_cons_zero, List.set_cons_succ])
        refine takeD 33 125 (v := ?_) rfl rfl (by kernel_rfl) (by kernel_rfl) (by kernel_rfl) (fun _ _ _ h => h) (Or.inl ⟨by rfl, ?_⟩) (by assumption) ?_
        rotate_left
        · intro w1 hSw; obtain ⟨hcS, hfS⟩ := bcell hSw; go_simp; (try with_reducible rfl)
        (try simp only [Act.put, List.setIfInBounds_toArray, List.set_cons_zero, List.set_cons_succ])
        refine takeD 34 126 (v := ?_) rfl rfl (by kernel_rfl) (by kernel_rfl) (by kernel_rfl) (fun _ _ _ h => h) (Or.inl ⟨by rfl, ?_⟩) (by assumption) ?_
        rotate_left
        · intro w1 hSw; obtain ⟨hcS, hfS⟩ := bcell hSw; go_simp; (try with_reducible rfl)
        (try simp only [Act.put, List.setIfInBounds_toArray, List.set_cons_zero, List.set_cons_succ])
        refine takeD 35 127 (v := ?_) rfl rfl (by kernel_rfl) (by kernel_rfl) (by kernel_rfl) (fun _ _ _ h => h) (Or.inl ⟨by rfl, ?_⟩) (by assumption) ?_
        rotate_left
        · intro w1 hSw; obtain ⟨hcS, hfS⟩ := bcell hSw; go_simp; (try with_reducible rfl)
        (try simp only [Act.put, List.setIfInBounds_toArray, List.set_cons_zero, List.set_cons_succ])
        refine takeD 36 2 (v := ?_) rfl rfl (by kernel_rfl) (by kernel_rfl) (by kernel_rfl) (fun _ _ _ h => h) (Or.inl ⟨by rfl, ?_⟩) (by assumption) ?_
        rotate_left
        · intro w1 hSw; obtain ⟨hcS, hfS⟩ := bcell hSw; go_simp; (try with_reducible rfl)
        (try simp only [Act.put, List.setIfInBounds_toArray, List.set_cons_zero, List.set_cons_succ])
        refine wpAnyH_done (by kernel_rfl) ?_ _
        have hbz := hq2
        have Z := Lib.hid (Below.and Z.out hbz)
        go_wp2
        go_light
        go_ret
        exact ⟨rfl, Z.out⟩
      · have hzy : z = y := HS3.out rfl rfl h3
        subst hzy
        have hq2 : ∀ W, (binOp .eql 29 (.agg #[.int .i64 z.f, .int .i64 z.n, .int .i64 z.c, .int .i64 z.s]) (.agg #[.int .i64 z.f, .int .i64 z.n, .int .i64 z.c, .int .i64 z.s])).run Try.prog W = .ok (.bool true) W := fun W => by have := eqlReply z z W; simpa using this
        refine wp_region_held_drew (S := fun w1 => Below wD.heap.size wD w1) (by kernel_rfl) ((Below.refl _ _).drew) (fun hq => ?_)
        refine takeD 0 92 (v := ?_) rfl rfl (by kernel_rfl) (by kernel_rfl) (by kernel_rfl) (fun _ _ _ h => h) (Or.inl ⟨by rfl, ?_⟩) (by assumption) ?_
        rotate_left
        · intro w1 hSw; obtain ⟨hcS, hfS⟩ := bcell hSw; go_simp; (try with_reducible rfl)
        (try simp only [Act.put, List.setIfInBounds_toArray, List.set_cons_zero, List.set_cons_succ])
        refine wpAnyH_ready (rs := [1]) (by kernel_rfl) (by simp) ?_
        refine AllReadyH.cons rfl (fun K hK => ?_) AllReadyH.nil
        go_simp
        have hs := implPlayerOk q1 (some ⟨g, o, none⟩) a5 L1 wD.drew HM1.out (Rd.below R5.out.r (Below.refl _ _).drew)
        rw [HK1.out] at hs
        refine hs.mono ?_
        clear hs
        rintro e wy ⟨rfl, hb⟩
        rw [HP1.out]
        refine hK.out _ _ (Below.and hq hb) (fun hq2 => ?_)
        clear hK K
        (try simp only [Act.put, List.setIfInBounds_toArray, List.set_cons_zero, List.set_cons_succ])
        refine takeD 2 94 (v := ?_) rfl rfl (by kernel_rfl) (by kernel_rfl) (by kernel_rfl) (fun _ _ _ h => h) (Or.inl ⟨by rfl, ?_⟩) (by assumption) ?_
        rotate_left
        · intro w1 hSw; obtain ⟨hcS, hfS⟩ := bcell hSw; go_simp; (try with_reducible rfl)
        (try simp only [Act.put, List.setIfInBounds_toArray, List.set_cons_zero, List.set_cons_succ])
        refine takeD 3 95 (v := ?_) rfl rfl (by kernel_rfl) (by kernel_rfl) (by kernel_rfl) (fun _ _ _ h => h) (Or.inl ⟨by rfl, ?_⟩) (by assumption) ?_
        rotate_left
        · intro w1 hSw; obtain ⟨hcS, hfS⟩ := bcell hSw; go_simp; (try with_reducible rfl)
        (try simp only [Act.put, List.setIfInBounds_toArray, List.set_cons_zero, List.set_cons_succ])
        refine takeD 4 96 (v := ?_) rfl rfl (by kernel_rfl) (by kernel_rfl) (by kernel_rfl) (fun _ _ _ h => h) (Or.inl ⟨by rfl, ?_⟩) (by assumption) ?_
        rotate_left
        · intro w1 hSw; obtain ⟨hcS, hfS⟩ := bcell hSw; go_simp; (try with_reducible rfl)
        (try simp only [Act.put, List.setIfInBounds_toArray, List.set_cons_zero, List.set_cons_succ])
        refine takeD 5 97 (v := ?_) rfl rfl (by kernel_rfl) (by kernel_rfl) (by kernel_rfl) (fun _ _ _ h => h) (Or.inl ⟨by rfl, ?_⟩) (by assumption) ?_
        rotate_left
        · intro w1 hSw; obtain ⟨hcS, hfS⟩ := bcell hSw; go_simp; (try with_reducible rfl)
        (try simp only [Act.put, List.setIfInBounds_toArray, List.set_cons_zero, List.set_cons_succ])
        refine takeD 6 98 (v := ?_) rfl rfl (by kernel_rfl) (by kernel_rfl) (by kernel_rfl) (fun _ _ _ h => h) (Or.inl ⟨by rfl, ?_⟩) (by assumption) ?_
        rotate_left
        · intro w1 hSw; obtain ⟨hcS, hfS⟩ := bcell hSw; go_simp; (try with_reducible rfl)
        (try simp only [Act.put, List.setIfInBounds_toArray, List.set_cons_zero, List.set_cons_succ])
        refine takeD 7 99 (v := ?_) rfl rfl (by kernel_rfl) (by kernel_rfl) (by kernel_rfl) (fun _ _ _ h => h) (Or.inl ⟨by rfl, ?_⟩) (by assumption) ?_
        rotate_left
        · intro w1 hSw; obtain ⟨hcS, hfS⟩ := bcell hSw; go_simp; (try with_reducible rfl)
        (try simp only [Act.put, List.setIfInBounds_toArray, List.set_cons_zero, List.set_cons_succ])
        refine takeD 8 100 (v := ?_) rfl rfl (by kernel_rfl) (by kernel_rfl) (by kernel_rfl) (fun _ _ _ h => h) (Or.inl ⟨by rfl, ?_⟩) (by assumption) ?_
        rotate_left
        · intro w1 hSw; obtain ⟨hcS, hfS⟩ := bcell hSw; go_simp; (try with_reducible rfl)
        (try simp only [Act.put, List.setIfInBounds_toArray, List.set_cons_zero, List.set_cons_succ])
        refine takeD 9 101 (v := ?_) rfl rfl (by kernel_rfl) (by kernel_rfl) (by kernel_rfl) (fun _ _ _ h => h) (Or.inl ⟨by rfl, ?_⟩) (by assumption) ?_
        rotate_left
        · intro w1 hSw; obtain ⟨hcS, hfS⟩ := bcell hSw; go_simp; (try with_reducible rfl)
        (try simp only [Act.put, List.setIfInBounds_toArray, List.set_cons_zero, List.set_cons_succ])
        refine takeD 10 102 (v := ?_) rfl rfl (by kernel_rfl) (by kernel_rfl) (by kernel_rfl) (fun _ _ _ h => h) (Or.inl ⟨by rfl, ?_⟩) (by assumption) ?_
        rotate_left
        · intro w1 hSw; obtain ⟨hcS, hfS⟩ := bcell hSw; go_simp; (try with_reducible rfl)
        (try simp only [Act.put, List.setIfInBounds_toArray, List.set_cons_zero, List.set_cons_succ])
        refine takeD 11 103 (v := ?_) rfl rfl (by kernel_rfl) (by kernel_rfl) (by kernel_rfl) (fun _ _ _ h => h) (Or.inl ⟨by rfl, ?_⟩) (by assumption) ?_
        rotate_left
        · intro w1 hSw; obtain ⟨hcS, hfS⟩ := bcell hSw; go_simp; (try with_reducible rfl)
        (try simp only [Act.put, List.setIfInBounds_toArray, List.set_cons_zero, List.set_cons_succ])
        refine takeD 12 104 (v := ?_) rfl rfl (by kernel_rfl) (by kernel_rfl) (by kernel_rfl) (fun _ _ _ h => h) (Or.inl ⟨by rfl, ?_⟩) (by assumption) ?_
        rotate_left
        · intro w1 hSw; obtain ⟨hcS, hfS⟩ := bcell hSw; go_simp; (try with_reducible rfl)
        (try simp only [Act.put, List.setIfInBounds_toArray, List.set_cons_zero, List.set_cons_succ])
        refine takeD 13 105 (v := ?_) rfl rfl (by kernel_rfl) (by kernel_rfl) (by kernel_rfl) (fun _ _ _ h => h) (Or.inl ⟨by rfl, ?_⟩) (by assumption) ?_
        rotate_left
        · intro w1 hSw; obtain ⟨hcS, hfS⟩ := bcell hSw; go_simp; (try with_reducible rfl)
        (try simp only [Act.put, List.setIfInBounds_toArray, List.set_cons_zero, List.set_cons_succ])
        refine takeD 14 106 (v := ?_) rfl rfl (by kernel_rfl) (by kernel_rfl) (by kernel_rfl) (fun _ _ _ h => h) (Or.inl ⟨by rfl, ?_⟩) (by assumption) ?_
        rotate_left
        · intro w1 hSw; obtain ⟨hcS, hfS⟩ := bcell hSw; go_simp; (try with_reducible rfl)
        (try simp only [Act.put, List.setIfInBounds_toArray, List.set_cons_zero, List.set_cons_succ])
        refine takeD 15 107 (v := ?_) rfl rfl (by kernel_rfl) (by kernel_rfl) (by kernel_rfl) (fun _ _ _ h => h) (Or.inl ⟨by rfl, ?_⟩) (by assumption) ?_
        rotate_left
        · intro w1 hSw; obtain ⟨hcS, hfS⟩ := bcell hSw; go_simp; (try with_reducible rfl)
        (try simp only [Act.put, List.setIfInBounds_toArray, List.set_cons_zero, List.set_cons_succ])
        refine takeD 16 108 (v := ?_) rfl rfl (by kernel_rfl) (by kernel_rfl) (by kernel_rfl) (fun _ _ _ h => h) (Or.inl ⟨by rfl, ?_⟩) (by assumption) ?_
        rotate_left
        · intro w1 hSw; obtain ⟨hcS, hfS⟩ := bcell hSw; go_simp; (try with_reducible rfl)
        (try simp only [Act.put, List.setIfInBounds_toArray, List.set_cons_zero, List.set_cons_succ])
        refine takeD 17 109 (v := ?_) rfl rfl (by kernel_rfl) (by kernel_rfl) (by kernel_rfl) (fun _ _ _ h => h) (Or.inl ⟨by rfl, ?_⟩) (by assumption) ?_
        rotate_left
        · intro w1 hSw; obtain ⟨hcS, hfS⟩ := bcell hSw; go_simp; (try with_reducible rfl)
        (try simp only [Act.put, List.setIfInBounds_toArray, List.set_cons_zero, List.set_cons_succ])
        refine takeD 18 110 (v := ?_) rfl rfl (by kernel_rfl) (by kernel_rfl) (by kernel_rfl) (fun _ _ _ h => h) (Or.inl ⟨by rfl, ?_⟩) (by assumption) ?_
        rotate_left
        · intro w1 hSw; obtain ⟨hcS, hfS⟩ := bcell hSw; go_simp; (try with_reducible rfl)
        (try simp only [Act.put, List.setIfInBounds_toArray, List.set_cons_zero, List.set_cons_succ])
        refine takeD 19 111 (v := ?_) rfl rfl (by kernel_rfl) (by kernel_rfl) (by kernel_rfl) (fun _ _ _ h => h) (Or.inl ⟨by rfl, ?_⟩) (by assumption) ?_
        rotate_left
        · intro w1 hSw; obtain ⟨hcS, hfS⟩ := bcell hSw; go_simp; (try with_reducible rfl)
        (try simp only [Act.put, List.setIfInBounds_toArray, List.set_cons_zero, List.set_cons_succ])
        refine takeD 20 112 (v := ?_) rfl rfl (by kernel_rfl) (by kernel_rfl) (by kernel_rfl) (fun _ _ _ h => h) (Or.inl ⟨by rfl, ?_⟩) (by assumption) ?_
        rotate_left
        · intro w1 hSw; obtain ⟨hcS, hfS⟩ := bcell hSw; go_simp; (try with_reducible rfl)
        (try simp only [Act.put, List.setIfInBounds_toArray, List.set_cons_zero, List.set_cons_succ])
        refine takeD 21 113 (v := ?_) rfl rfl (by kernel_rfl) (by kernel_rfl) (by kernel_rfl) (fun _ _ _ h => h) (Or.inl ⟨by rfl, ?_⟩) (by assumption) ?_
        rotate_left
        · intro w1 hSw; obtain ⟨hcS, hfS⟩ := bcell hSw; go_simp; (try with_reducible rfl)
        (try simp only [Act.put, List.setIfInBounds_toArray, List.set_cons_zero, List.set_cons_succ])
        refine takeD 22 114 (v := ?_) rfl rfl (by kernel_rfl) (by kernel_rfl) (by kernel_rfl) (fun _ _ _ h => h) (Or.inl ⟨by rfl, ?_⟩) (by assumption) ?_
        rotate_left
        · intro w1 hSw; obtain ⟨hcS, hfS⟩ := bcell hSw; go_simp; (try with_reducible rfl)
        (try simp only [Act.put, List.setIfInBounds_toArray, List.set_cons_zero, List.set_cons_succ])
        refine takeD 23 115 (v := ?_) rfl rfl (by kernel_rfl) (by kernel_rfl) (by kernel_rfl) (fun _ _ _ h => h) (Or.inl ⟨by rfl, ?_⟩) (by assumption) ?_
        rotate_left
        · intro w1 hSw; obtain ⟨hcS, hfS⟩ := bcell hSw; go_simp; (try with_reducible rfl)
        (try simp only [Act.put, List.setIfInBounds_toArray, List.set_cons_zero, List.set_cons_succ])
        refine takeD 24 116 (v := ?_) rfl rfl (by kernel_rfl) (by kernel_rfl) (by kernel_rfl) (fun _ _ _ h => h) (Or.inl ⟨by rfl, ?_⟩) (by assumption) ?_
        rotate_left
        · intro w1 hSw; obtain ⟨hcS, hfS⟩ := bcell hSw; go_simp; (try with_reducible rfl)
        (try simp only [Act.put, List.setIfInBounds_toArray, List.set_cons_zero, List.set_cons_succ])
        refine takeD 25 117 (v := ?_) rfl rfl (by kernel_rfl) (by kernel_rfl) (by kernel_rfl) (fun _ _ _ h => h) (Or.inl ⟨by rfl, ?_⟩) (by assumption) ?_
        rotate_left
        · intro w1 hSw; obtain ⟨hcS, hfS⟩ := bcell hSw; go_simp; (try with_reducible rfl)
        (try simp only [Act.put, List.setIfInBounds_toArray, List.set_cons_zero, List.set_cons_succ])
        refine takeD 26 118 (v := ?_) rfl rfl (by kernel_rfl) (by kernel_rfl) (by kernel_rfl) (fun _ _ _ h => h) (Or.inl ⟨by rfl, ?_⟩) (by assumption) ?_
        rotate_left
        · intro w1 hSw; obtain ⟨hcS, hfS⟩ := bcell hSw; go_simp; (try with_reducible rfl)
        (try simp only [Act.put, List.setIfInBounds_toArray, List.set_cons_zero, List.set_cons_succ])
        refine takeD 27 119 (v := ?_) rfl rfl (by kernel_rfl) (by kernel_rfl) (by kernel_rfl) (fun _ _ _ h => h) (Or.inl ⟨by rfl, ?_⟩) (by assumption) ?_
        rotate_left
        · intro w1 hSw; obtain ⟨hcS, hfS⟩ := bcell hSw; go_simp; (try with_reducible rfl)
        (try simp only [Act.put, List.setIfInBounds_toArray, List.set_cons_zero, List.set_cons_succ])
        refine takeD 28 120 (v := ?_) rfl rfl (by kernel_rfl) (by kernel_rfl) (by kernel_rfl) (fun _ _ _ h => h) (Or.inl ⟨by rfl, ?_⟩) (by assumption) ?_
        rotate_left
        · intro w1 hSw; obtain ⟨hcS, hfS⟩ := bcell hSw; go_simp; (try with_reducible rfl)
        (try simp only [Act.put, List.setIfInBounds_toArray, List.set_cons_zero, List.set_cons_succ])
        refine takeD 29 121 (v := ?_) rfl rfl (by kernel_rfl) (by kernel_rfl) (by kernel_rfl) (fun _ _ _ h => h) (Or.inl ⟨by rfl, ?_⟩) (by assumption) ?_
        rotate_left
        · intro w1 hSw; obtain ⟨hcS, hfS⟩ := bcell hSw; go_simp; (try with_reducible rfl)
        (try simp only [Act.put, List.setIfInBounds_toArray, List.set_cons_zero, List.set_cons_succ])
        refine takeD 30 122 (v := ?_) rfl rfl (by kernel_rfl) (by kernel_rfl) (by kernel_rfl) (fun _ _ _ h => h) (Or.inl ⟨by rfl, ?_⟩) (by assumption) ?_
        rotate_left
        · intro w1 hSw; obtain ⟨hcS, hfS⟩ := bcell hSw; go_simp; (try with_reducible rfl)
        (try simp only [Act.put, List.setIfInBounds_toArray, List.set_cons_zero, List.set_cons_succ])
        refine takeD 31 123 (v := ?_) rfl rfl (by kernel_rfl) (by kernel_rfl) (by kernel_rfl) (fun _ _ _ h => h) (Or.inl ⟨by rfl, ?_⟩) (by assumption) ?_
        rotate_left
        · intro w1 hSw; obtain ⟨hcS, hfS⟩ := bcell hSw; go_simp; (try with_reducible rfl)
        (try simp only [Act.put, List.setIfInBounds_toArray, List.set_cons_zero, List.set_cons_succ])
        refine takeD 32 124 (v := ?_) rfl rfl (by kernel_rfl) (by kernel_rfl) (by kernel_rfl) (fun _ _ _ h => h) (Or.inl ⟨by rfl, ?_⟩) (by assumption) ?_
        rotate_left
        · intro w1 hSw; obtain ⟨hcS, hfS⟩ := bcell hSw; go_simp; (try with_reducible rfl)
        (try simp only [Act.put, List.setIfInBounds_toArray, List.set_cons_zero, List.set_cons_succ])
        refine takeD 33 125 (v := ?_) rfl rfl (by kernel_rfl) (by kernel_rfl) (by kernel_rfl) (fun _ _ _ h => h) (Or.inl ⟨by rfl, ?_⟩) (by assumption) ?_
        rotate_left
        · intro w1 hSw; obtain ⟨hcS, hfS⟩ := bcell hSw; go_simp; (try with_reducible rfl)
        (try simp only [Act.put, List.setIfInBounds_toArray, List.set_cons_zero, List.set_cons_succ])
        refine takeD 34 126 (v := ?_) rfl rfl (by kernel_rfl) (by kernel_rfl) (by kernel_rfl) (fun _ _ _ h => h) (Or.inl ⟨by rfl, ?_⟩) (by assumption) ?_
        rotate_left
        · intro w1 hSw; obtain ⟨hcS, hfS⟩ := bcell hSw; go_simp; (try with_reducible rfl)
        (try simp only [Act.put, List.setIfInBounds_toArray, List.set_cons_zero, List.set_cons_succ])
        refine takeD 35 127 (v := ?_) rfl rfl (by kernel_rfl) (by kernel_rfl) (by kernel_rfl) (fun _ _ _ h => h) (Or.inl ⟨by rfl, ?_⟩) (by assumption) ?_
        rotate_left
        · intro w1 hSw; obtain ⟨hcS, hfS⟩ := bcell hSw; go_simp; (try with_reducible rfl)
        (try simp only [Act.put, List.setIfInBounds_toArray, List.set_cons_zero, List.set_cons_succ])
        refine takeD 36 2 (v := ?_) rfl rfl (by kernel_rfl) (by kernel_rfl) (by kernel_rfl) (fun _ _ _ h => h) (Or.inl ⟨by rfl, ?_⟩) (by assumption) ?_
        rotate_left
        · intro w1 hSw; obtain ⟨hcS, hfS⟩ := bcell hSw; go_simp; (try with_reducible rfl)
        (try simp only [Act.put, List.setIfInBounds_toArray, List.set_cons_zero, List.set_cons_succ])
        refine wpAnyH_done (by kernel_rfl) ?_ _
        have hbz := hq2
        have Z := Lib.hid (Below.and Z.out hbz)
        go_wp2
        go_light
        go_ret
        exact ⟨rfl, Z.out⟩

end Go.Proofs.Ytdpladihacgobaa
