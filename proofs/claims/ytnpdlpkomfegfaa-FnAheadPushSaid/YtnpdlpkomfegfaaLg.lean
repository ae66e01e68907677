/- What is done ahead looks done: the law. -/
import Derived.Test.YtnpdlpkomfegfaaLf
import Derived.Test.YtnpdlpkomfegfaaWr
import Derived.Test.YtnpdlpkomfegfaaIg
import Derived.Test.YtnpdlpkomfegfaaIj
import Derived.Test.YtnpdlpkomfegfaaMR
import Derived.Test.YtnpdlpkomfegfaaMQ
namespace Go.Proofs.Ytnpdlpkomfegfaa
open Go.ChangeShapes Go.WideShapes Go.ChangeAt Go.RowKit
set_option linter.unusedVariables false
set_option linter.unusedSimpArgs false

theorem DoAh.go {D T : List Rq} {k : Int} {b : Bool} {w w' : World} {e : Ending} (h : DoAh ((D, T, k), b) w e w') : ∃ A a B b', e = .returned (.tuple #[aheadV A D.length a B T.length b' k, .bool b]) ∧ OwA w' w.heap.size A a B b' D T ∧ Below w.heap.size w w' := h
theorem okB_rq {r : Rq} (h : rqB r = true) : okB r = true := by simp [okB, h]
theorem ahB_push {D T : List Rq} {k : Int} {r : Rq} (h : ahB D T k = true) (hr : okB r = true) (hl : D.length + T.length < 60) : ahB D (T ++ [r]) k = true := by
 unfold ahB at h ⊢
 simp only [Bool.and_eq_true, decide_eq_true_eq, List.all_append, List.all_cons, List.all_nil, List.length_append, List.length_cons, List.length_nil] at h ⊢
 exact ⟨by omega, h.2.1, h.2.2.1, h.2.2.2, hr, trivial⟩
theorem agG_push {D T : List Rq} {k : Int} {r : Rq} (h : ahB D T k = true) (hr : okB r = true) (hl : D.length + T.length < 60) : (stepG (agG D T k).1 (agG D T k).2.1 (agG D T k).2.2 r).1 = agG D (T ++ [r]) k ∧ acG D (T ++ [r]) k = acG D T k ++ [(stepG (agG D T k).1 (agG D T k).2.1 (agG D T k).2.2 r).2] ∧ suG D (T ++ [r]) k = suG D T k := by
 have h2 := ahB_push h hr hl
 have ha := ahB_all h
 have e1 : agG D T k = T.foldl stepF (foldG D) := by unfold agG; rw [if_pos h]
 have e2 : agG D (T ++ [r]) k = stepF (T.foldl stepF (foldG D)) r := by unfold agG; rw [if_pos h2, List.foldl_append]; rfl
 have hg : gokB (T.foldl stepF (foldG D)).1 (T.foldl stepF (foldG D)).2.1 (T.foldl stepF (foldG D)).2.2 = true := fold_ok h
 have h3 := stepG_good hg hr
 refine ⟨by rw [e1, e2]; exact h3.1, ?_, ?_⟩
 · unfold acG
   rw [if_pos h, if_pos h2, codesG_append, e1, stepG_at hg hr]
 · unfold suG
   rw [if_pos h, if_pos h2]
theorem acG_len {D T : List Rq} {k : Int} (h : ahB D T k = true) : (acG D T k).length = T.length := by
 unfold acG
 rw [if_pos h, codesG_len]

set_option maxRecDepth 100000 in
set_option maxHeartbeats 60000000 in
theorem lawAheadPush {w : World} {A : Option Addr} {n c : Nat} (hm : n ≤ maxLen) (hc : n ≤ c) (hb : InB w A n) :
 Calls Try.prog 4 #[.slice A n c] w fun e w' => e = .returned (.bool true) ∧ Below w.heap.size w w' := by
 have HB := Lib.hid hb
 unfold maxLen at hm
 clear hb
 by_cases hn : ¬ n ≤ 1048576
 · have e1 : decide ((1048576 : Int) < (n : Int)) = true := by simp; omega
   go_enter Try.func4, Try.ntmps4
   go_wp2
   go_ret
   exact ⟨rfl, Below.refl _ _⟩
 have hn : n ≤ 1048576 := by omega
 have e1 : decide ((1048576 : Int) < (n : Int)) = false := by simp; omega
 go_enter Try.func4, Try.ntmps4
 go_wp2_with (fail)
 refine (drawAheadPush hn hc HB.out).mono ?_
 unfold DrA
 rintro e w1 ⟨D1, d, T1, t, D, T, k, r, rfl, hD, hT, ho, h1⟩
 have hba : Below w1.heap.size w1 ((w1.alloc (.cells #[.slice D1 D.length d, .slice T1 T.length t, .int .i64 k] 25)).alloc (.cells #[.int .i64 r.c, .int .i64 r.n, .int .i64 r.o, .int .i64 r.x, .int .i64 r.y] 37)) := below_alloc2 w1 _ _
 have Z := Lib.hid (Below.and h1 hba)
 have OA := Lib.hid (ho.below hba)
 have T3 := Lib.hid ((Three.new (u0 := .slice D1 D.length d) (u1 := .slice T1 T.length t) (u2 := .int .i64 k) (t := 25) w1).alloc (.cells #[.int .i64 r.c, .int .i64 r.n, .int .i64 r.o, .int .i64 r.x, .int .i64 r.y] 37))
 have F4 : Hid (Five ((w1.alloc (.cells #[.slice D1 D.length d, .slice T1 T.length t, .int .i64 k] 25)).alloc (.cells #[.int .i64 r.c, .int .i64 r.n, .int .i64 r.o, .int .i64 r.x, .int .i64 r.y] 37)) (w1.heap.size + 1) 37 (.int .i64 r.c) (.int .i64 r.n) (.int .i64 r.o) (.int .i64 r.x) (.int .i64 r.y)) := by
  have := Five.new (u0 := .int .i64 r.c) (u1 := .int .i64 r.n) (u2 := .int .i64 r.o) (u3 := .int .i64 r.x) (u4 := .int .i64 r.y) (t := 37) (w1.alloc (.cells #[.slice D1 D.length d, .slice T1 T.length t, .int .i64 k] 25))
  simpa [Hid] using this
 clear h1 ho HB hba
 go_upto_region 4 with (fail)
 obtain ⟨p4, hp4⟩ : ∃ Y, Y = w1.heap.size + 1 := ⟨_, rfl⟩
 obtain ⟨p3, hp3⟩ : ∃ Y, Y = w1.heap.size := ⟨_, rfl⟩
 obtain ⟨w2, hw2⟩ : ∃ Y, Y = ((w1.alloc (.cells #[.slice D1 D.length d, .slice T1 T.length t, .int .i64 k] 25)).alloc (.cells #[.int .i64 r.c, .int .i64 r.n, .int .i64 r.o, .int .i64 r.x, .int .i64 r.y] 37)) := ⟨_, rfl⟩
 rw [← hw2] at T3 F4 OA Z ⊢
 rw [← hp4] at F4 ⊢
 rw [← hp3] at T3 ⊢
 clear hw2 hp3 hp4
 rcases hok : ahB D T k with _ | _
 · have HOK := Lib.hid hok
   obtain ⟨ZL, hZL⟩ : ∃ X : List Rq, X = [] := ⟨_, rfl⟩
   have HX := Lib.hid (show pushA D T k r = ((ZL, ZL, 0), false) by unfold pushA; rw [hok, hZL]; rfl)
   have hZ5 : ZL.length ≤ 5 := by rw [hZL]; simp
   clear hok hZL
   obtain ⟨xp0, xp1, xp2⟩ := T3.out.cells
   have xpl := T3.out.lt
   obtain ⟨xf0, xf1, xf2, xf3, xf4⟩ := F4.out.cells
   have xfl := F4.out.lt
   go_wp2_with (fail)
   have hs := implAheadPush D1 d T1 t D T k r w2 (by omega) (by omega) OA.out.rdA
   rw [HX.out] at hs
   refine (hs.mono (fun _ _ h => DoAh.go h)).mono ?_
   clear hs
   rintro e w3 ⟨A5, a5, B5, b5, rfl, ox, hb⟩
   clear xp0 xp1 xp2 xpl xf0 xf1 xf2 xf3 xf4 xfl
   have OX := Lib.hid ox
   clear ox
   replace T3 := Lib.hid (Three.below T3.out hb T3.out.lt)
   replace F4 := Lib.hid (F4.out.grown (Below.grownBy hb none) (by simp))
   replace OA := Lib.hid (OA.out.below hb)
   replace Z := Lib.hid (Below.and Z.out hb)
   clear hb
   go_upto_region 5 with (fail)
   have hba : Below w3.heap.size w3 (w3.alloc (.cells #[.slice A5 ZL.length a5, .slice B5 ZL.length b5, .int .i64 0] 25)) := (Below.refl _ _).alloc (Nat.le_refl _) _
   have T5 := Lib.hid (Three.new (u0 := .slice A5 ZL.length a5) (u1 := .slice B5 ZL.length b5) (u2 := .int .i64 0) (t := 25) w3)
   replace T3 := Lib.hid (Three.below T3.out hba T3.out.lt)
   replace F4 := Lib.hid (F4.out.grown (Below.grownBy hba none) (by simp))
   replace OA := Lib.hid (OA.out.below hba)
   replace OX := Lib.hid (OX.out.below hba)
   replace Z := Lib.hid (Below.and Z.out hba)
   clear hba
   obtain ⟨p5, hp5⟩ : ∃ Y, Y = w3.heap.size := ⟨_, rfl⟩
   obtain ⟨w4, hw4⟩ : ∃ Y, Y = w3.alloc (.cells #[.slice A5 ZL.length a5, .slice B5 ZL.length b5, .int .i64 0] 25) := ⟨_, rfl⟩
   rw [← hw4] at T5 T3 F4 OA OX Z ⊢
   rw [← hp5] at T5 ⊢
   clear hw4 hp5
   obtain ⟨xp0, xp1, xp2⟩ := T3.out.cells
   have xpl := T3.out.lt
   obtain ⟨xf0, xf1, xf2, xf3, xf4⟩ := F4.out.cells
   have xfl := F4.out.lt
   go_wp2_with (fail)
   have hs := specAheadPush D1 d T1 t D T k r w4 (by omega) (by omega) OA.out.rdA
   rw [HX.out] at hs
   refine (hs.mono (fun _ _ h => DoAh.go h)).mono ?_
   clear hs
   rintro e w5 ⟨A7, a7, B7, b7, rfl, oy, hb⟩
   clear xp0 xp1 xp2 xpl xf0 xf1 xf2 xf3 xf4 xfl
   have OY := Lib.hid oy
   clear oy
   replace T3 := Lib.hid (Three.below T3.out hb T3.out.lt)
   replace F4 := Lib.hid (F4.out.grown (Below.grownBy hb none) (by simp))
   replace T5 := Lib.hid (Three.below T5.out hb T5.out.lt)
   replace OA := Lib.hid (OA.out.below hb)
   replace OX := Lib.hid (OX.out.below hb)
   replace Z := Lib.hid (Below.and Z.out hb)
   clear hb
   go_upto_region 6 with (fail)
   have hba : Below w5.heap.size w5 (w5.alloc (.cells #[.slice A7 ZL.length a7, .slice B7 ZL.length b7, .int .i64 0] 25)) := (Below.refl _ _).alloc (Nat.le_refl _) _
   have T7 := Lib.hid (Three.new (u0 := .slice A7 ZL.length a7) (u1 := .slice B7 ZL.length b7) (u2 := .int .i64 0) (t := 25) w5)
   replace T3 := Lib.hid (Three.below T3.out hba T3.out.lt)
   replace F4 := Lib.hid (F4.out.grown (Below.grownBy hba none) (by simp))
   replace T5 := Lib.hid (Three.below T5.out hba T5.out.lt)
   replace OA := Lib.hid (OA.out.below hba)
   replace OX := Lib.hid (OX.out.below hba)
   replace OY := Lib.hid (OY.out.below hba)
   replace Z := Lib.hid (Below.and Z.out hba)
   clear hba
   obtain ⟨p7, hp7⟩ : ∃ Y, Y = w5.heap.size := ⟨_, rfl⟩
   obtain ⟨w6, hw6⟩ : ∃ Y, Y = w5.alloc (.cells #[.slice A7 ZL.length a7, .slice B7 ZL.length b7, .int .i64 0] 25) := ⟨_, rfl⟩
   rw [← hw6] at T7 T3 F4 T5 OA OX OY Z ⊢
   rw [← hp7] at T7 ⊢
   clear hw6 hp7
   obtain ⟨xp0, xp1, xp2⟩ := T3.out.cells
   have xpl := T3.out.lt
   obtain ⟨xq0, xq1, xq2⟩ := T5.out.cells
   have xql := T5.out.lt
   obtain ⟨xu0, xu1, xu2⟩ := T7.out.cells
   have xul := T7.out.lt
   refine wp_region_held_drew (S := fun WS => Below w6.heap.size w6 WS) (by kernel_rfl) ((Below.refl _ _).drew) (fun hS0 => ?_)
   have HS : Hid (Below w6.heap.size w6 w6.drew) := (Below.refl _ _).drew
   obtain ⟨q0, hq0⟩ : ∃ X, X = w6.drew := ⟨_, rfl⟩
   rw [← hq0] at hS0 HS ⊢
   clear hq0
   refine tkI 0 32 (v := ?_) rfl rfl ?_ ?_
   rotate_left
   · intro wS hSw; obtain ⟨hcS, hfS⟩ := bcell hSw; go_simp; (try with_reducible rfl)
   (try simp only [Act.put, pu1, pu2, pu3])
   refine tkI 1 33 (v := ?_) rfl rfl ?_ ?_
   rotate_left
   · intro wS hSw; obtain ⟨hcS, hfS⟩ := bcell hSw; go_simp; (try with_reducible rfl)
   (try simp only [Act.put, pu1, pu2, pu3])
   refine tkI 2 34 (v := ?_) rfl rfl ?_ ?_
   rotate_left
   · intro wS hSw; obtain ⟨hcS, hfS⟩ := bcell hSw; go_simp; (try with_reducible rfl)
   (try simp only [Act.put, pu1, pu2, pu3])
   refine tkI 3 35 (v := ?_) rfl rfl ?_ ?_
   rotate_left
   · intro wS hSw; obtain ⟨hcS, hfS⟩ := bcell hSw; go_simp; (try with_reducible rfl)
   (try simp only [Act.put, pu1, pu2, pu3])
   refine tkI 4 36 (v := ?_) rfl rfl ?_ ?_
   rotate_left
   · intro wS hSw; obtain ⟨hcS, hfS⟩ := bcell hSw; go_simp; (try with_reducible rfl)
   (try simp only [Act.put, pu1, pu2, pu3])
   refine tkI 5 37 (v := ?_) rfl rfl ?_ ?_
   rotate_left
   · intro wS hSw; obtain ⟨hcS, hfS⟩ := bcell hSw; go_simp; (try with_reducible rfl)
   (try simp only [Act.put, pu1, pu2, pu3])
   refine wpAnyH_ready (rs := [6]) (by kernel_rfl) (by simp) ?_
   refine AllReadyH.cons rfl (fun KK hK => ?_) AllReadyH.nil
   go_simp
   have hs := wpAhead_rd (a1 := a5) (b1 := b5) (a2 := a7) (b2 := b7) (k := 0) (by omega) (by omega) (Rd.below OX.out.rd.1 HS.out) (Rd.below OX.out.rd.2 HS.out) (Rd.below OY.out.rd.1 HS.out) (Rd.below OY.out.rd.2 HS.out)
   refine hs.mono ?_
   clear hs
   rintro e q1 ⟨rfl, hb⟩
   replace HS := Lib.hid (Below.and HS.out hb)
   clear hb
   refine hK.out _ _ HS.out (fun hS1 => ?_)
   clear hK KK
   (try simp only [Act.put, pu1, pu2, pu3])
   refine tkI 7 39 (v := ?_) rfl rfl ?_ ?_
   rotate_left
   · intro wS hSw; obtain ⟨hcS, hfS⟩ := bcell hSw; go_simp; (try with_reducible rfl)
   (try simp only [Act.put, pu1, pu2, pu3])
   refine tkI 8 40 (v := ?_) rfl rfl ?_ ?_
   rotate_left
   · intro wS hSw; obtain ⟨hcS, hfS⟩ := bcell hSw; go_simp; (try with_reducible rfl)
   (try simp only [Act.put, pu1, pu2, pu3])
   refine tkI 9 41 (v := ?_) rfl rfl ?_ ?_
   rotate_left
   · intro wS hSw; obtain ⟨hcS, hfS⟩ := bcell hSw; go_simp; (try with_reducible rfl)
   (try simp only [Act.put, pu1, pu2, pu3])
   refine tkI 10 42 (v := ?_) rfl rfl ?_ ?_
   rotate_left
   · intro wS hSw; obtain ⟨hcS, hfS⟩ := bcell hSw; go_simp; (try with_reducible rfl)
   (try simp only [Act.put, pu1, pu2, pu3])
   refine tkI 12 44 (v := ?_) rfl rfl ?_ ?_
   rotate_left
   · intro wS hSw; obtain ⟨hcS, hfS⟩ := bcell hSw; go_simp; (try with_reducible rfl)
   (try simp only [Act.put, pu1, pu2, pu3])
   refine wpAnyH_ready (rs := [11]) (by kernel_rfl) (by simp) ?_
   refine AllReadyH.cons rfl (fun KK hK => ?_) AllReadyH.nil
   go_simp
   have hs := implAheadOk D1 d T1 t D T k q1 (by omega) (by omega) (Rd.below OA.out.rd.1 HS.out) (Rd.below OA.out.rd.2 HS.out)
   rw [HOK.out] at hs
   refine hs.mono ?_
   clear hs
   rintro e q2 ⟨rfl, hb⟩
   replace HS := Lib.hid (Below.and HS.out hb)
   clear hb
   refine hK.out _ _ HS.out (fun hS2 => ?_)
   clear hK KK
   (try simp only [Act.put, pu1, pu2, pu3])
   refine wpAnyH_ready (rs := [13]) (by kernel_rfl) (by simp) ?_
   refine AllReadyH.cons rfl (fun KK hK => ?_) AllReadyH.nil
   go_simp
   have hs := specAheadOk D1 d T1 t D T k q2 (by omega) (by omega) (Rd.below OA.out.rd.1 HS.out) (Rd.below OA.out.rd.2 HS.out)
   rw [HOK.out] at hs
   refine hs.mono ?_
   clear hs
   rintro e q3 ⟨rfl, hb⟩
   replace HS := Lib.hid (Below.and HS.out hb)
   clear hb
   refine hK.out _ _ HS.out (fun hS3 => ?_)
   clear hK KK
   (try simp only [Act.put, pu1, pu2, pu3])
   refine tkI 14 46 (v := ?_) rfl rfl ?_ ?_
   rotate_left
   · intro wS hSw; obtain ⟨hcS, hfS⟩ := bcell hSw; go_simp; (try with_reducible rfl)
   (try simp only [Act.put, pu1, pu2, pu3])
   refine tkI 15 47 (v := ?_) rfl rfl ?_ ?_
   rotate_left
   · intro wS hSw; obtain ⟨hcS, hfS⟩ := bcell hSw; go_simp; (try with_reducible rfl)
   (try simp only [Act.put, pu1, pu2, pu3])
   refine tkI 16 48 (v := ?_) rfl rfl ?_ ?_
   rotate_left
   · intro wS hSw; obtain ⟨hcS, hfS⟩ := bcell hSw; go_simp; (try with_reducible rfl)
   (try simp only [Act.put, pu1, pu2, pu3])
   refine tkI 17 49 (v := ?_) rfl rfl ?_ ?_
   rotate_left
   · intro wS hSw; obtain ⟨hcS, hfS⟩ := bcell hSw; go_simp; (try with_reducible rfl)
   (try simp only [Act.put, pu1, pu2, pu3])
   refine wpAnyH_ready (rs := [18]) (by kernel_rfl) (by simp) ?_
   refine AllReadyH.cons rfl (fun KK hK => ?_) AllReadyH.nil
   go_simp
   have hs := implAheadOk D1 d T1 t D T k q3 (by omega) (by omega) (Rd.below OA.out.rd.1 HS.out) (Rd.below OA.out.rd.2 HS.out)
   rw [HOK.out] at hs
   refine hs.mono ?_
   clear hs
   rintro e q4 ⟨rfl, hb⟩
   replace HS := Lib.hid (Below.and HS.out hb)
   clear hb
   refine hK.out _ _ HS.out (fun hS4 => ?_)
   clear hK KK
   (try simp only [Act.put, pu1, pu2, pu3])
   refine tkI 19 51 (v := ?_) rfl rfl ?_ ?_
   rotate_left
   · intro wS hSw; obtain ⟨hcS, hfS⟩ := bcell hSw; go_simp; (try with_reducible rfl)
   (try simp only [Act.put, pu1, pu2, pu3])
   refine tkI 20 52 (v := ?_) rfl rfl ?_ ?_
   rotate_left
   · intro wS hSw; obtain ⟨hcS, hfS⟩ := bcell hSw; go_simp; (try with_reducible rfl)
   (try simp only [Act.put, pu1, pu2, pu3])
   refine wpAnyH_done (by kernel_rfl) ?_ _
   replace T3 := Lib.hid (Three.below T3.out HS.out T3.out.lt)
   replace F4 := Lib.hid (F4.out.grown (Below.grownBy HS.out none) (by simp))
   replace T5 := Lib.hid (Three.below T5.out HS.out T5.out.lt)
   replace T7 := Lib.hid (Three.below T7.out HS.out T7.out.lt)
   replace OA := Lib.hid (OA.out.below HS.out)
   replace OX := Lib.hid (OX.out.below HS.out)
   replace OY := Lib.hid (OY.out.below HS.out)
   replace Z := Lib.hid (Below.and Z.out HS.out)
   clear xp0 xp1 xp2 xpl xq0 xq1 xq2 xql xu0 xu1 xu2 xul
   go_upto_region 7 with (fail)
   obtain ⟨w7, hw7⟩ : ∃ Y, Y = q4 := ⟨_, rfl⟩
   rw [← hw7] at T3 F4 T5 T7 OA OX OY Z ⊢
   clear hw7 HS
   obtain ⟨xp0, xp1, xp2⟩ := T3.out.cells
   have xpl := T3.out.lt
   obtain ⟨xq0, xq1, xq2⟩ := T5.out.cells
   have xql := T5.out.lt
   obtain ⟨xu0, xu1, xu2⟩ := T7.out.cells
   have xul := T7.out.lt
   refine wp_region_held_drew (S := fun WS => Below w7.heap.size w7 WS) (by kernel_rfl) ((Below.refl _ _).drew) (fun hS0 => ?_)
   have HS : Hid (Below w7.heap.size w7 w7.drew) := (Below.refl _ _).drew
   obtain ⟨t0, ht0⟩ : ∃ X, X = w7.drew := ⟨_, rfl⟩
   rw [← ht0] at hS0 HS ⊢
   clear ht0
   refine tkI 0 53 (v := ?_) rfl rfl ?_ ?_
   rotate_left
   · intro wS hSw; obtain ⟨hcS, hfS⟩ := bcell hSw; go_simp; (try with_reducible rfl)
   (try simp only [Act.put, pu1, pu2, pu3])
   refine tkI 1 54 (v := ?_) rfl rfl ?_ ?_
   rotate_left
   · intro wS hSw; obtain ⟨hcS, hfS⟩ := bcell hSw; go_simp; (try with_reducible rfl)
   (try simp only [Act.put, pu1, pu2, pu3])
   refine tkI 2 55 (v := ?_) rfl rfl ?_ ?_
   rotate_left
   · intro wS hSw; obtain ⟨hcS, hfS⟩ := bcell hSw; go_simp; (try with_reducible rfl)
   (try simp only [Act.put, pu1, pu2, pu3])
   refine tkI 3 56 (v := ?_) rfl rfl ?_ ?_
   rotate_left
   · intro wS hSw; obtain ⟨hcS, hfS⟩ := bcell hSw; go_simp; (try with_reducible rfl)
   (try simp only [Act.put, pu1, pu2, pu3])
   refine tkI 4 57 (v := ?_) rfl rfl ?_ ?_
   rotate_left
   · intro wS hSw; obtain ⟨hcS, hfS⟩ := bcell hSw; go_simp; (try with_reducible rfl)
   (try simp only [Act.put, pu1, pu2, pu3])
   refine tkI 5 58 (v := ?_) rfl rfl ?_ ?_
   rotate_left
   · intro wS hSw; obtain ⟨hcS, hfS⟩ := bcell hSw; go_simp; (try with_reducible rfl)
   (try simp only [Act.put, pu1, pu2, pu3])
   refine wpAnyH_ready (rs := [6]) (by kernel_rfl) (by simp) ?_
   refine AllReadyH.cons rfl (fun KK hK => ?_) AllReadyH.nil
   go_simp
   have hs := wpAhead_rd (a1 := a5) (b1 := b5) (a2 := a7) (b2 := b7) (k := 0) (by omega) (by omega) (Rd.below OX.out.rd.1 HS.out) (Rd.below OX.out.rd.2 HS.out) (Rd.below OY.out.rd.1 HS.out) (Rd.below OY.out.rd.2 HS.out)
   refine hs.mono ?_
   clear hs
   rintro e t1 ⟨rfl, hb⟩
   replace HS := Lib.hid (Below.and HS.out hb)
   clear hb
   refine hK.out _ _ HS.out (fun hS1 => ?_)
   clear hK KK
   (try simp only [Act.put, pu1, pu2, pu3])
   refine tkI 7 60 (v := ?_) rfl rfl ?_ ?_
   rotate_left
   · intro wS hSw; obtain ⟨hcS, hfS⟩ := bcell hSw; go_simp; (try with_reducible rfl)
   (try simp only [Act.put, pu1, pu2, pu3])
   refine tkI 8 61 (v := ?_) rfl rfl ?_ ?_
   rotate_left
   · intro wS hSw; obtain ⟨hcS, hfS⟩ := bcell hSw; go_simp; (try with_reducible rfl)
   (try simp only [Act.put, pu1, pu2, pu3])
   refine tkI 9 62 (v := ?_) rfl rfl ?_ ?_
   rotate_left
   · intro wS hSw; obtain ⟨hcS, hfS⟩ := bcell hSw; go_simp; (try with_reducible rfl)
   (try simp only [Act.put, pu1, pu2, pu3])
   refine tkI 11 64 (v := ?_) rfl rfl ?_ ?_
   rotate_left
   · intro wS hSw; obtain ⟨hcS, hfS⟩ := bcell hSw; go_simp; (try with_reducible rfl)
   (try simp only [Act.put, pu1, pu2, pu3])
   refine wpAnyH_ready (rs := [10]) (by kernel_rfl) (by simp) ?_
   refine AllReadyH.cons rfl (fun KK hK => ?_) AllReadyH.nil
   go_simp
   have hs := implAheadOk D1 d T1 t D T k t1 (by omega) (by omega) (Rd.below OA.out.rd.1 HS.out) (Rd.below OA.out.rd.2 HS.out)
   rw [HOK.out] at hs
   refine hs.mono ?_
   clear hs
   rintro e t2 ⟨rfl, hb⟩
   replace HS := Lib.hid (Below.and HS.out hb)
   clear hb
   refine hK.out _ _ HS.out (fun hS2 => ?_)
   clear hK KK
   (try simp only [Act.put, pu1, pu2, pu3])
   refine wpAnyH_ready (rs := [12]) (by kernel_rfl) (by simp) ?_
   refine AllReadyH.cons rfl (fun KK hK => ?_) AllReadyH.nil
   go_simp
   have hs := specAheadOk D1 d T1 t D T k t2 (by omega) (by omega) (Rd.below OA.out.rd.1 HS.out) (Rd.below OA.out.rd.2 HS.out)
   rw [HOK.out] at hs
   refine hs.mono ?_
   clear hs
   rintro e t3 ⟨rfl, hb⟩
   replace HS := Lib.hid (Below.and HS.out hb)
   clear hb
   refine hK.out _ _ HS.out (fun hS3 => ?_)
   clear hK KK
   (try simp only [Act.put, pu1, pu2, pu3])
   refine tkI 13 66 (v := ?_) rfl rfl ?_ ?_
   rotate_left
   · intro wS hSw; obtain ⟨hcS, hfS⟩ := bcell hSw; go_simp; (try with_reducible rfl)
   (try simp only [Act.put, pu1, pu2, pu3])
   refine tkI 14 67 (v := ?_) rfl rfl ?_ ?_
   rotate_left
   · intro wS hSw; obtain ⟨hcS, hfS⟩ := bcell hSw; go_simp; (try with_reducible rfl)
   (try simp only [Act.put, pu1, pu2, pu3])
   refine tkI 15 2 (v := ?_) rfl rfl ?_ ?_
   rotate_left
   · intro wS hSw; obtain ⟨hcS, hfS⟩ := bcell hSw; go_simp; (try with_reducible rfl)
   (try simp only [Act.put, pu1, pu2, pu3])
   refine wpAnyH_done (by kernel_rfl) ?_ _
   replace T3 := Lib.hid (Three.below T3.out HS.out T3.out.lt)
   replace F4 := Lib.hid (F4.out.grown (Below.grownBy HS.out none) (by simp))
   replace T5 := Lib.hid (Three.below T5.out HS.out T5.out.lt)
   replace T7 := Lib.hid (Three.below T7.out HS.out T7.out.lt)
   replace OA := Lib.hid (OA.out.below HS.out)
   replace OX := Lib.hid (OX.out.below HS.out)
   replace OY := Lib.hid (OY.out.below HS.out)
   replace Z := Lib.hid (Below.and Z.out HS.out)
   clear xp0 xp1 xp2 xpl xq0 xq1 xq2 xql xu0 xu1 xu2 xul
   go_wp2
   go_light
   go_ret
   exact ⟨rfl, Z.out⟩
 have HOK := Lib.hid hok
 by_cases hq : rqB r = true ∧ D.length + T.length < 60
 · have hr := okB_rq hq.1
   have hl := hq.2
   obtain ⟨h3, h4, h5⟩ := agG_push hok hr hl
   have h6 := ahB_push hok hr hl
   have h7 := acG_len h6
   have HX := Lib.hid (show pushA D T k r = ((D, T ++ [r], k), true) by unfold pushA; rw [if_pos hok, if_pos hq])
   have hg1 := agG_len D T k
   have hg2 := agG_len D (T ++ [r]) k
   have hg3 := suG_len D T k
   obtain ⟨TT, hTT⟩ : ∃ X, X = T ++ [r] := ⟨_, rfl⟩
   have hTl : TT.length = T.length + 1 := by rw [hTT]; simp
   obtain ⟨Y, hY⟩ : ∃ X, X = stepG (agG D T k).1 (agG D T k).2.1 (agG D T k).2.2 r := ⟨_, rfl⟩
   rw [← hTT] at HX h3 h4 h5 h6 h7 hg2
   rw [← hY] at h3 h4
   have HGT := Lib.hid h3.symm
   have HCI : Hid ((ints (acG D TT k))[T.length]? = some (.int .i64 Y.2)) := by
    show _ = _
    rw [h4, ints, List.map_append]
    have : (List.map (Value.int IntKind.i64) (acG D T k)).length = T.length := by rw [List.length_map, acG_len hok]
    rw [List.getElem?_append_right (by omega), this]
    simp
   obtain ⟨G, hG⟩ : ∃ X, X = agG D T k := ⟨_, rfl⟩
   rw [← hG] at hY hg1
   have HG := Lib.hid hG.symm
   have HY := Lib.hid hY.symm
   obtain ⟨S, hS⟩ : ∃ X, X = suG D T k := ⟨_, rfl⟩
   have HSS := Lib.hid hS.symm
   have HST := Lib.hid (h5.trans hS.symm)
   rw [← hS] at hg3
   have HLS := Lib.hid (show S.1.length ≤ 1048576 ∧ S.2.1.length ≤ 1048576 ∧ S.2.2.length ≤ 1048576 from ⟨by omega, by omega, by omega⟩)
   rw [HGT.out] at hg2
   have HLY := Lib.hid (show Y.1.1.length ≤ 1048576 ∧ Y.1.2.1.length ≤ 1048576 ∧ Y.1.2.2.length ≤ 1048576 from ⟨by omega, by omega, by omega⟩)
   have HOT := Lib.hid h6
   obtain ⟨AC0, hAC⟩ : ∃ X, X = acG D TT k := ⟨_, rfl⟩
   rw [← hAC] at h7 HCI
   have HC := Lib.hid hAC.symm
   have HCL := Lib.hid (show AC0.length = T.length + 1 by rw [h7, hTl])
   obtain ⟨CL, hCL⟩ : ∃ X, X = AC0.length := ⟨_, rfl⟩
   have HCL2 := Lib.hid (show CL = T.length + 1 by rw [hCL]; exact HCL.out)
   have HCLE := Lib.hid hCL.symm
   have hTT6 : TT.length ≤ 6 := by omega
   have he : (Y.2 == Y.2) = true := by simp
   have hg11 : G.1.length ≤ 4 := hg1.1
   have hg12 : G.2.1.length ≤ 16 := hg1.2.1
   have hg13 : G.2.2.length ≤ 4 := hg1.2.2
   clear hok hq hr hl h3 h4 h5 h6 h7 hg1 hg2 hg3 hTT hTl hY hG hS hAC hCL
   obtain ⟨xp0, xp1, xp2⟩ := T3.out.cells
   have xpl := T3.out.lt
   obtain ⟨xf0, xf1, xf2, xf3, xf4⟩ := F4.out.cells
   have xfl := F4.out.lt
   go_wp2_with (fail)
   have hs := implAheadPush D1 d T1 t D T k r w2 (by omega) (by omega) OA.out.rdA
   rw [HX.out] at hs
   refine (hs.mono (fun _ _ h => DoAh.go h)).mono ?_
   clear hs
   rintro e w3 ⟨A5, a5, B5, b5, rfl, ox, hb⟩
   clear xp0 xp1 xp2 xpl xf0 xf1 xf2 xf3 xf4 xfl
   have OX := Lib.hid ox
   clear ox
   replace T3 := Lib.hid (Three.below T3.out hb T3.out.lt)
   replace F4 := Lib.hid (F4.out.grown (Below.grownBy hb none) (by simp))
   replace OA := Lib.hid (OA.out.below hb)
   replace Z := Lib.hid (Below.and Z.out hb)
   clear hb
   go_upto_region 5 with (fail)
   have hba : Below w3.heap.size w3 (w3.alloc (.cells #[.slice A5 D.length a5, .slice B5 TT.length b5, .int .i64 k] 25)) := (Below.refl _ _).alloc (Nat.le_refl _) _
   have T5 := Lib.hid (Three.new (u0 := .slice A5 D.length a5) (u1 := .slice B5 TT.length b5) (u2 := .int .i64 k) (t := 25) w3)
   replace T3 := Lib.hid (Three.below T3.out hba T3.out.lt)
   replace F4 := Lib.hid (F4.out.grown (Below.grownBy hba none) (by simp))
   replace OA := Lib.hid (OA.out.below hba)
   replace OX := Lib.hid (OX.out.below hba)
   replace Z := Lib.hid (Below.and Z.out hba)
   clear hba
   obtain ⟨p5, hp5⟩ : ∃ Y, Y = w3.heap.size := ⟨_, rfl⟩
   obtain ⟨w4, hw4⟩ : ∃ Y, Y = w3.alloc (.cells #[.slice A5 D.length a5, .slice B5 TT.length b5, .int .i64 k] 25) := ⟨_, rfl⟩
   rw [← hw4] at T5 T3 F4 OA OX Z ⊢
   rw [← hp5] at T5 ⊢
   clear hw4 hp5
   obtain ⟨xp0, xp1, xp2⟩ := T3.out.cells
   have xpl := T3.out.lt
   obtain ⟨xf0, xf1, xf2, xf3, xf4⟩ := F4.out.cells
   have xfl := F4.out.lt
   go_wp2_with (fail)
   have hs := specAheadPush D1 d T1 t D T k r w4 (by omega) (by omega) OA.out.rdA
   rw [HX.out] at hs
   refine (hs.mono (fun _ _ h => DoAh.go h)).mono ?_
   clear hs
   rintro e w5 ⟨A7, a7, B7, b7, rfl, oy, hb⟩
   clear xp0 xp1 xp2 xpl xf0 xf1 xf2 xf3 xf4 xfl
   have OY := Lib.hid oy
   clear oy
   replace T3 := Lib.hid (Three.below T3.out hb T3.out.lt)
   replace F4 := Lib.hid (F4.out.grown (Below.grownBy hb none) (by simp))
   replace T5 := Lib.hid (Three.below T5.out hb T5.out.lt)
   replace OA := Lib.hid (OA.out.below hb)
   replace OX := Lib.hid (OX.out.below hb)
   replace Z := Lib.hid (Below.and Z.out hb)
   clear hb
   go_upto_region 6 with (fail)
   have hba : Below w5.heap.size w5 (w5.alloc (.cells #[.slice A7 D.length a7, .slice B7 TT.length b7, .int .i64 k] 25)) := (Below.refl _ _).alloc (Nat.le_refl _) _
   have T7 := Lib.hid (Three.new (u0 := .slice A7 D.length a7) (u1 := .slice B7 TT.length b7) (u2 := .int .i64 k) (t := 25) w5)
   replace T3 := Lib.hid (Three.below T3.out hba T3.out.lt)
   replace F4 := Lib.hid (F4.out.grown (Below.grownBy hba none) (by simp))
   replace T5 := Lib.hid (Three.below T5.out hba T5.out.lt)
   replace OA := Lib.hid (OA.out.below hba)
   replace OX := Lib.hid (OX.out.below hba)
   replace OY := Lib.hid (OY.out.below hba)
   replace Z := Lib.hid (Below.and Z.out hba)
   clear hba
   obtain ⟨p7, hp7⟩ : ∃ Y, Y = w5.heap.size := ⟨_, rfl⟩
   obtain ⟨w6, hw6⟩ : ∃ Y, Y = w5.alloc (.cells #[.slice A7 D.length a7, .slice B7 TT.length b7, .int .i64 k] 25) := ⟨_, rfl⟩
   rw [← hw6] at T7 T3 F4 T5 OA OX OY Z ⊢
   rw [← hp7] at T7 ⊢
   clear hw6 hp7
   obtain ⟨xp0, xp1, xp2⟩ := T3.out.cells
   have xpl := T3.out.lt
   obtain ⟨xq0, xq1, xq2⟩ := T5.out.cells
   have xql := T5.out.lt
   obtain ⟨xu0, xu1, xu2⟩ := T7.out.cells
   have xul := T7.out.lt
   refine wp_region_held_drew (S := fun WS => Below w6.heap.size w6 WS) (by kernel_rfl) ((Below.refl _ _).drew) (fun hS0 => ?_)
   have HS : Hid (Below w6.heap.size w6 w6.drew) := (Below.refl _ _).drew
   obtain ⟨q0, hq0⟩ : ∃ X, X = w6.drew := ⟨_, rfl⟩
   rw [← hq0] at hS0 HS ⊢
   clear hq0
   refine tkI 0 32 (v := ?_) rfl rfl ?_ ?_
   rotate_left
   · intro wS hSw; obtain ⟨hcS, hfS⟩ := bcell hSw; go_simp; (try with_reducible rfl)
   (try simp only [Act.put, pu1, pu2, pu3])
   refine tkI 1 33 (v := ?_) rfl rfl ?_ ?_
   rotate_left
   · intro wS hSw; obtain ⟨hcS, hfS⟩ := bcell hSw; go_simp; (try with_reducible rfl)
   (try simp only [Act.put, pu1, pu2, pu3])
   refine tkI 2 34 (v := ?_) rfl rfl ?_ ?_
   rotate_left
   · intro wS hSw; obtain ⟨hcS, hfS⟩ := bcell hSw; go_simp; (try with_reducible rfl)
   (try simp only [Act.put, pu1, pu2, pu3])
   refine tkI 3 35 (v := ?_) rfl rfl ?_ ?_
   rotate_left
   · intro wS hSw; obtain ⟨hcS, hfS⟩ := bcell hSw; go_simp; (try with_reducible rfl)
   (try simp only [Act.put, pu1, pu2, pu3])
   refine tkI 4 36 (v := ?_) rfl rfl ?_ ?_
   rotate_left
   · intro wS hSw; obtain ⟨hcS, hfS⟩ := bcell hSw; go_simp; (try with_reducible rfl)
   (try simp only [Act.put, pu1, pu2, pu3])
   refine tkI 5 37 (v := ?_) rfl rfl ?_ ?_
   rotate_left
   · intro wS hSw; obtain ⟨hcS, hfS⟩ := bcell hSw; go_simp; (try with_reducible rfl)
   (try simp only [Act.put, pu1, pu2, pu3])
   refine wpAnyH_ready (rs := [6]) (by kernel_rfl) (by simp) ?_
   refine AllReadyH.cons rfl (fun KK hK => ?_) AllReadyH.nil
   go_simp
   have hs := wpAhead_rd (a1 := a5) (b1 := b5) (a2 := a7) (b2 := b7) (k := k) (by omega) (by omega) (Rd.below OX.out.rd.1 HS.out) (Rd.below OX.out.rd.2 HS.out) (Rd.below OY.out.rd.1 HS.out) (Rd.below OY.out.rd.2 HS.out)
   refine hs.mono ?_
   clear hs
   rintro e q1 ⟨rfl, hb⟩
   replace HS := Lib.hid (Below.and HS.out hb)
   clear hb
   refine hK.out _ _ HS.out (fun hS1 => ?_)
   clear hK KK
   (try simp only [Act.put, pu1, pu2, pu3])
   refine tkI 7 39 (v := ?_) rfl rfl ?_ ?_
   rotate_left
   · intro wS hSw; obtain ⟨hcS, hfS⟩ := bcell hSw; go_simp; (try with_reducible rfl)
   (try simp only [Act.put, pu1, pu2, pu3])
   refine tkI 8 40 (v := ?_) rfl rfl ?_ ?_
   rotate_left
   · intro wS hSw; obtain ⟨hcS, hfS⟩ := bcell hSw; go_simp; (try with_reducible rfl)
   (try simp only [Act.put, pu1, pu2, pu3])
   refine tkI 9 41 (v := ?_) rfl rfl ?_ ?_
   rotate_left
   · intro wS hSw; obtain ⟨hcS, hfS⟩ := bcell hSw; go_simp; (try with_reducible rfl)
   (try simp only [Act.put, pu1, pu2, pu3])
   refine tkI 10 42 (v := ?_) rfl rfl ?_ ?_
   rotate_left
   · intro wS hSw; obtain ⟨hcS, hfS⟩ := bcell hSw; go_simp; (try with_reducible rfl)
   (try simp only [Act.put, pu1, pu2, pu3])
   refine tkI 12 44 (v := ?_) rfl rfl ?_ ?_
   rotate_left
   · intro wS hSw; obtain ⟨hcS, hfS⟩ := bcell hSw; go_simp; (try with_reducible rfl)
   (try simp only [Act.put, pu1, pu2, pu3])
   refine wpAnyH_ready (rs := [11]) (by kernel_rfl) (by simp) ?_
   refine AllReadyH.cons rfl (fun KK hK => ?_) AllReadyH.nil
   go_simp
   have hs := implAheadOk D1 d T1 t D T k q1 (by omega) (by omega) (Rd.below OA.out.rd.1 HS.out) (Rd.below OA.out.rd.2 HS.out)
   rw [HOK.out] at hs
   refine hs.mono ?_
   clear hs
   rintro e q2 ⟨rfl, hb⟩
   replace HS := Lib.hid (Below.and HS.out hb)
   clear hb
   refine hK.out _ _ HS.out (fun hS2 => ?_)
   clear hK KK
   (try simp only [Act.put, pu1, pu2, pu3])
   refine wpAnyH_ready (rs := [13]) (by kernel_rfl) (by simp) ?_
   refine AllReadyH.cons rfl (fun KK hK => ?_) AllReadyH.nil
   go_simp
   have hs := specAheadOk D1 d T1 t D T k q2 (by omega) (by omega) (Rd.below OA.out.rd.1 HS.out) (Rd.below OA.out.rd.2 HS.out)
   rw [HOK.out] at hs
   refine hs.mono ?_
   clear hs
   rintro e q3 ⟨rfl, hb⟩
   replace HS := Lib.hid (Below.and HS.out hb)
   clear hb
   refine hK.out _ _ HS.out (fun hS3 => ?_)
   clear hK KK
   (try simp only [Act.put, pu1, pu2, pu3])
   refine tkI 14 46 (v := ?_) rfl rfl ?_ ?_
   rotate_left
   · intro wS hSw; obtain ⟨hcS, hfS⟩ := bcell hSw; go_simp; (try with_reducible rfl)
   (try simp only [Act.put, pu1, pu2, pu3])
   refine tkI 15 47 (v := ?_) rfl rfl ?_ ?_
   rotate_left
   · intro wS hSw; obtain ⟨hcS, hfS⟩ := bcell hSw; go_simp; (try with_reducible rfl)
   (try simp only [Act.put, pu1, pu2, pu3])
   refine tkI 16 48 (v := ?_) rfl rfl ?_ ?_
   rotate_left
   · intro wS hSw; obtain ⟨hcS, hfS⟩ := bcell hSw; go_simp; (try with_reducible rfl)
   (try simp only [Act.put, pu1, pu2, pu3])
   refine tkI 17 49 (v := ?_) rfl rfl ?_ ?_
   rotate_left
   · intro wS hSw; obtain ⟨hcS, hfS⟩ := bcell hSw; go_simp; (try with_reducible rfl)
   (try simp only [Act.put, pu1, pu2, pu3])
   refine wpAnyH_ready (rs := [18]) (by kernel_rfl) (by simp) ?_
   refine AllReadyH.cons rfl (fun KK hK => ?_) AllReadyH.nil
   go_simp
   have hs := implAheadOk D1 d T1 t D T k q3 (by omega) (by omega) (Rd.below OA.out.rd.1 HS.out) (Rd.below OA.out.rd.2 HS.out)
   rw [HOK.out] at hs
   refine hs.mono ?_
   clear hs
   rintro e q4 ⟨rfl, hb⟩
   replace HS := Lib.hid (Below.and HS.out hb)
   clear hb
   refine hK.out _ _ HS.out (fun hS4 => ?_)
   clear hK KK
   (try simp only [Act.put, pu1, pu2, pu3])
   refine tkI 19 51 (v := ?_) rfl rfl ?_ ?_
   rotate_left
   · intro wS hSw; obtain ⟨hcS, hfS⟩ := bcell hSw; go_simp; (try with_reducible rfl)
   (try simp only [Act.put, pu1, pu2, pu3])
   refine tkI 20 52 (v := ?_) rfl rfl ?_ ?_
   rotate_left
   · intro wS hSw; obtain ⟨hcS, hfS⟩ := bcell hSw; go_simp; (try with_reducible rfl)
   (try simp only [Act.put, pu1, pu2, pu3])
   refine wpAnyH_done (by kernel_rfl) ?_ _
   replace T3 := Lib.hid (Three.below T3.out HS.out T3.out.lt)
   replace F4 := Lib.hid (F4.out.grown (Below.grownBy HS.out none) (by simp))
   replace T5 := Lib.hid (Three.below T5.out HS.out T5.out.lt)
   replace T7 := Lib.hid (Three.below T7.out HS.out T7.out.lt)
   replace OA := Lib.hid (OA.out.below HS.out)
   replace OX := Lib.hid (OX.out.below HS.out)
   replace OY := Lib.hid (OY.out.below HS.out)
   replace Z := Lib.hid (Below.and Z.out HS.out)
   clear xp0 xp1 xp2 xpl xq0 xq1 xq2 xql xu0 xu1 xu2 xul
   go_upto_region 10 with (fail)
   obtain ⟨w8, hw8⟩ : ∃ Y, Y = q4 := ⟨_, rfl⟩
   rw [← hw8] at T3 F4 T5 T7 OA OX OY Z ⊢
   clear hw8 HS
   clear T7 OY
   go_cut [9, 10] from 12 (fun s9 s10 wc => ∃ p9 A9 a9 B9 b9 C9 c9, s9 = .pointer (some ⟨p9, 0, none⟩) ∧ s10 = .int .i64 Y.2 ∧ Hid (Three wc p9 30 (.slice A9 Y.1.1.length a9) (.slice B9 Y.1.2.1.length b9) (.slice C9 Y.1.2.2.length c9)) ∧ Hid (RdG wc wc.heap.size A9 B9 C9 Y.1.1 Y.1.2.1 Y.1.2.2) ∧ Hid (Below w8.heap.size w8 wc))
   case first =>
    obtain ⟨xp0, xp1, xp2⟩ := T3.out.cells
    have xpl := T3.out.lt
    obtain ⟨xf0, xf1, xf2, xf3, xf4⟩ := F4.out.cells
    have xfl := F4.out.lt
    refine wp_region_held_drew (S := fun WS => Below w8.heap.size w8 WS) (by kernel_rfl) ((Below.refl _ _).drew) (fun hS0 => ?_)
    have HS : Hid (Below w8.heap.size w8 w8.drew) := (Below.refl _ _).drew
    obtain ⟨s0, hs0⟩ : ∃ X, X = w8.drew := ⟨_, rfl⟩
    rw [← hs0] at hS0 HS ⊢
    clear hs0
    refine tkI 0 74 (v := ?_) rfl rfl ?_ ?_
    rotate_left
    · intro wS hSw; obtain ⟨hcS, hfS⟩ := bcell hSw; go_simp; (try with_reducible rfl)
    (try simp only [Act.put, pu1, pu2, pu3])
    refine tkI 2 76 (v := ?_) rfl rfl ?_ ?_
    rotate_left
    · intro wS hSw; obtain ⟨hcS, hfS⟩ := bcell hSw; go_simp; (try with_reducible rfl)
    (try simp only [Act.put, pu1, pu2, pu3])
    refine wpAnyH_ready (rs := [1, 7]) (by kernel_rfl) (by simp) ?_
    refine AllReadyH.cons rfl (fun KK hK => ?_) (AllReadyH.cons rfl (fun KK hK => ?_) AllReadyH.nil)
    · go_simp
      have hs := implAheadGame D1 d T1 t D T k s0 (by omega) (by omega) (OA.out.rdAc.below HS.out)
      rw [HG.out] at hs
      refine hs.mono ?_
      clear hs
      unfold AgI
      rintro e s1 ⟨A8, a8, B8, b8, C8, c8, rfl, g8, hb⟩
      have G8 := Lib.hid g8
      clear g8
      replace HS := Lib.hid (Below.and HS.out hb)
      clear hb
      refine hK.out _ _ HS.out (fun hS1 => ?_)
      clear hK KK
      (try simp only [Act.put, pu1, pu2, pu3])
      refine wpAnyH_ready (rs := [3, 7]) (by kernel_rfl) (by simp) ?_
      refine AllReadyH.cons rfl (fun KK hK => ?_) (AllReadyH.cons rfl (fun KK hK => ?_) AllReadyH.nil)
      · go_simp
        have hs := implGameDo A8 a8 B8 b8 C8 c8 G.1 G.2.1 G.2.2 r s1 (by omega) (by omega) (by omega) G8.out.gmR
        rw [HY.out] at hs
        refine hs.mono ?_
        clear hs
        unfold DoI
        rintro e s2 ⟨A9, a9, B9, b9, C9, c9, rfl, g9, hb⟩
        have G9 := Lib.hid g9
        clear g9
        replace HS := Lib.hid (Below.and HS.out hb)
        replace G8 := Lib.hid (G8.out.below hb)
        clear hb
        refine hK.out _ _ HS.out (fun hS2 => ?_)
        clear hK KK
        (try simp only [Act.put, pu1, pu2, pu3])
        refine tkI 4 73 (v := ?_) rfl rfl ?_ ?_
        rotate_left
        · intro wS hSw; obtain ⟨hcS, hfS⟩ := bcell hSw; go_simp; (try with_reducible rfl)
        (try simp only [Act.put, pu1, pu2, pu3])
        refine tkI 5 78 (v := ?_) rfl rfl ?_ ?_
        rotate_left
        · intro wS hSw; obtain ⟨hcS, hfS⟩ := bcell hSw; go_simp; (try with_reducible rfl)
        (try simp only [Act.put, pu1, pu2, pu3])
        refine tkI 6 79 (v := ?_) rfl rfl ?_ ?_
        rotate_left
        · intro wS hSw; obtain ⟨hcS, hfS⟩ := bcell hSw; go_simp; (try with_reducible rfl)
        (try simp only [Act.put, pu1, pu2, pu3])
        refine wpAnyH_ready (rs := [7]) (by kernel_rfl) (by simp) ?_
        refine AllReadyH.cons rfl (fun KK hK => ?_) AllReadyH.nil
        go_simp
        have hb : Below s2.heap.size s2 (s2.alloc (.cells #[.slice none 0 0, .slice none 0 0, .slice none 0 0] 30)) := (Below.refl _ _).alloc (Nat.le_refl _) _
        have TZ := Lib.hid (Three.new (u0 := .slice none 0 0) (u1 := .slice none 0 0) (u2 := .slice none 0 0) (t := 30) s2)
        have LZ : Hid (w8.heap.size ≤ s2.heap.size) := HS.out.size
        obtain ⟨s3, hs3⟩ : ∃ X, X = s2.alloc (.cells #[.slice none 0 0, .slice none 0 0, .slice none 0 0] 30) := ⟨_, rfl⟩
        rw [← hs3] at hb TZ ⊢
        clear hs3
        obtain ⟨p9, hp9⟩ : ∃ X, X = s2.heap.size := ⟨_, rfl⟩
        rw [← hp9] at TZ LZ ⊢
        clear hp9
        replace HS := Lib.hid (Below.and HS.out hb)
        replace G8 := Lib.hid (G8.out.below hb)
        replace G9 := Lib.hid (G9.out.below hb)
        clear hb
        refine hK.out _ _ HS.out (fun hS3 => ?_)
        clear hK KK
        (try simp only [Act.put, pu1, pu2, pu3])
        refine wpAnyH_ready (rs := [8]) (by kernel_rfl) (by simp) ?_
        refine AllReadyH.cons rfl (fun KK hK => ?_) AllReadyH.nil
        obtain ⟨z0, z1, z2⟩ := TZ.out.cells
        have zf := TZ.out.frozen
        unfold gameV
        go_simp
        clear z0 z1 z2 zf
        have l9 := LZ.out
        have hS : Below w8.heap.size w8 _ := ((HS.out.setCell (p := ⟨p9, 0, none⟩) l9 (.slice A9 Y.1.1.length a9)).setCell (p := ⟨p9, 1, none⟩) l9 (.slice B9 Y.1.2.1.length b9)).setCell (p := ⟨p9, 2, none⟩) l9 (.slice C9 Y.1.2.2.length c9)
        have T9 := Lib.hid (((TZ.out.set0 (.slice A9 Y.1.1.length a9)).set1 (.slice B9 Y.1.2.1.length b9)).set2 (.slice C9 Y.1.2.2.length c9))
        replace G9 := Lib.hid (((G9.out.box TZ.out 0 (.slice A9 Y.1.1.length a9)).box (TZ.out.set0 _) 1 (.slice B9 Y.1.2.1.length b9)).box ((TZ.out.set0 _).set1 _) 2 (.slice C9 Y.1.2.2.length c9))
        obtain ⟨s4, hs4⟩ : ∃ X, X = (((s3.setCell ⟨p9, 0, none⟩ (.slice A9 Y.1.1.length a9)).setCell ⟨p9, 1, none⟩ (.slice B9 Y.1.2.1.length b9)).setCell ⟨p9, 2, none⟩ (.slice C9 Y.1.2.2.length c9)) := ⟨_, rfl⟩
        rw [← hs4] at hS T9 G9 ⊢
        clear hs4 l9 TZ LZ
        replace HS := Lib.hid (hS)
        clear hS
        refine hK.out _ _ HS.out (fun hS4 => ?_)
        clear hK KK
        (try simp only [Act.put, pu1, pu2, pu3])
        refine tkI 9 10 (v := ?_) rfl rfl ?_ ?_
        rotate_left
        · intro wS hSw; obtain ⟨hcS, hfS⟩ := bcell hSw; go_simp; (try with_reducible rfl)
        (try simp only [Act.put, pu1, pu2, pu3])
        refine wpAnyH_done (by kernel_rfl) ?_ _
        have HSb := HS
        have G9r := Lib.hid G9.out.gmR.rd
        go_wp2_with (fail)
        go_meet
        case rel => exact ⟨p9, A9, a9, B9, b9, C9, c9, rfl, rfl, T9, G9r, HSb⟩
      · go_simp
        have hb : Below s1.heap.size s1 (s1.alloc (.cells #[.slice none 0 0, .slice none 0 0, .slice none 0 0] 30)) := (Below.refl _ _).alloc (Nat.le_refl _) _
        have TZ := Lib.hid (Three.new (u0 := .slice none 0 0) (u1 := .slice none 0 0) (u2 := .slice none 0 0) (t := 30) s1)
        have LZ : Hid (w8.heap.size ≤ s1.heap.size) := HS.out.size
        obtain ⟨s2, hs2⟩ : ∃ X, X = s1.alloc (.cells #[.slice none 0 0, .slice none 0 0, .slice none 0 0] 30) := ⟨_, rfl⟩
        rw [← hs2] at hb TZ ⊢
        clear hs2
        obtain ⟨p9, hp9⟩ : ∃ X, X = s1.heap.size := ⟨_, rfl⟩
        rw [← hp9] at TZ LZ ⊢
        clear hp9
        replace HS := Lib.hid (Below.and HS.out hb)
        replace G8 := Lib.hid (G8.out.below hb)
        clear hb
        refine hK.out _ _ HS.out (fun hS2 => ?_)
        clear hK KK
        (try simp only [Act.put, pu1, pu2, pu3])
        refine wpAnyH_ready (rs := [3]) (by kernel_rfl) (by simp) ?_
        refine AllReadyH.cons rfl (fun KK hK => ?_) AllReadyH.nil
        go_simp
        have hs := implGameDo A8 a8 B8 b8 C8 c8 G.1 G.2.1 G.2.2 r s2 (by omega) (by omega) (by omega) G8.out.gmR
        rw [HY.out] at hs
        refine hs.mono ?_
        clear hs
        unfold DoI
        rintro e s3 ⟨A9, a9, B9, b9, C9, c9, rfl, g9, hb⟩
        have G9 := Lib.hid g9
        clear g9
        replace HS := Lib.hid (Below.and HS.out hb)
        replace G8 := Lib.hid (G8.out.below hb)
        replace TZ := Lib.hid (Three.below TZ.out hb TZ.out.lt)
        clear hb
        refine hK.out _ _ HS.out (fun hS3 => ?_)
        clear hK KK
        (try simp only [Act.put, pu1, pu2, pu3])
        refine tkI 4 73 (v := ?_) rfl rfl ?_ ?_
        rotate_left
        · intro wS hSw; obtain ⟨hcS, hfS⟩ := bcell hSw; go_simp; (try with_reducible rfl)
        (try simp only [Act.put, pu1, pu2, pu3])
        refine tkI 5 78 (v := ?_) rfl rfl ?_ ?_
        rotate_left
        · intro wS hSw; obtain ⟨hcS, hfS⟩ := bcell hSw; go_simp; (try with_reducible rfl)
        (try simp only [Act.put, pu1, pu2, pu3])
        refine tkI 6 79 (v := ?_) rfl rfl ?_ ?_
        rotate_left
        · intro wS hSw; obtain ⟨hcS, hfS⟩ := bcell hSw; go_simp; (try with_reducible rfl)
        (try simp only [Act.put, pu1, pu2, pu3])
        refine wpAnyH_ready (rs := [8]) (by kernel_rfl) (by simp) ?_
        refine AllReadyH.cons rfl (fun KK hK => ?_) AllReadyH.nil
        obtain ⟨z0, z1, z2⟩ := TZ.out.cells
        have zf := TZ.out.frozen
        unfold gameV
        go_simp
        clear z0 z1 z2 zf
        have l9 := LZ.out
        have hS : Below w8.heap.size w8 _ := ((HS.out.setCell (p := ⟨p9, 0, none⟩) l9 (.slice A9 Y.1.1.length a9)).setCell (p := ⟨p9, 1, none⟩) l9 (.slice B9 Y.1.2.1.length b9)).setCell (p := ⟨p9, 2, none⟩) l9 (.slice C9 Y.1.2.2.length c9)
        have T9 := Lib.hid (((TZ.out.set0 (.slice A9 Y.1.1.length a9)).set1 (.slice B9 Y.1.2.1.length b9)).set2 (.slice C9 Y.1.2.2.length c9))
        replace G9 := Lib.hid (((G9.out.box TZ.out 0 (.slice A9 Y.1.1.length a9)).box (TZ.out.set0 _) 1 (.slice B9 Y.1.2.1.length b9)).box ((TZ.out.set0 _).set1 _) 2 (.slice C9 Y.1.2.2.length c9))
        obtain ⟨s4, hs4⟩ : ∃ X, X = (((s3.setCell ⟨p9, 0, none⟩ (.slice A9 Y.1.1.length a9)).setCell ⟨p9, 1, none⟩ (.slice B9 Y.1.2.1.length b9)).setCell ⟨p9, 2, none⟩ (.slice C9 Y.1.2.2.length c9)) := ⟨_, rfl⟩
        rw [← hs4] at hS T9 G9 ⊢
        clear hs4 l9 TZ LZ
        replace HS := Lib.hid (hS)
        clear hS
        refine hK.out _ _ HS.out (fun hS4 => ?_)
        clear hK KK
        (try simp only [Act.put, pu1, pu2, pu3])
        refine tkI 9 10 (v := ?_) rfl rfl ?_ ?_
        rotate_left
        · intro wS hSw; obtain ⟨hcS, hfS⟩ := bcell hSw; go_simp; (try with_reducible rfl)
        (try simp only [Act.put, pu1, pu2, pu3])
        refine wpAnyH_done (by kernel_rfl) ?_ _
        have HSb := HS
        have G9r := Lib.hid G9.out.gmR.rd
        go_wp2_with (fail)
        go_meet
        case rel => exact ⟨p9, A9, a9, B9, b9, C9, c9, rfl, rfl, T9, G9r, HSb⟩
    · go_simp
      have hb : Below s0.heap.size s0 (s0.alloc (.cells #[.slice none 0 0, .slice none 0 0, .slice none 0 0] 30)) := (Below.refl _ _).alloc (Nat.le_refl _) _
      have TZ := Lib.hid (Three.new (u0 := .slice none 0 0) (u1 := .slice none 0 0) (u2 := .slice none 0 0) (t := 30) s0)
      have LZ : Hid (w8.heap.size ≤ s0.heap.size) := HS.out.size
      obtain ⟨s1, hs1⟩ : ∃ X, X = s0.alloc (.cells #[.slice none 0 0, .slice none 0 0, .slice none 0 0] 30) := ⟨_, rfl⟩
      rw [← hs1] at hb TZ ⊢
      clear hs1
      obtain ⟨p9, hp9⟩ : ∃ X, X = s0.heap.size := ⟨_, rfl⟩
      rw [← hp9] at TZ LZ ⊢
      clear hp9
      replace HS := Lib.hid (Below.and HS.out hb)
      clear hb
      refine hK.out _ _ HS.out (fun hS1 => ?_)
      clear hK KK
      (try simp only [Act.put, pu1, pu2, pu3])
      refine wpAnyH_ready (rs := [1]) (by kernel_rfl) (by simp) ?_
      refine AllReadyH.cons rfl (fun KK hK => ?_) AllReadyH.nil
      go_simp
      have hs := implAheadGame D1 d T1 t D T k s1 (by omega) (by omega) (OA.out.rdAc.below HS.out)
      rw [HG.out] at hs
      refine hs.mono ?_
      clear hs
      unfold AgI
      rintro e s2 ⟨A8, a8, B8, b8, C8, c8, rfl, g8, hb⟩
      have G8 := Lib.hid g8
      clear g8
      replace HS := Lib.hid (Below.and HS.out hb)
      replace TZ := Lib.hid (Three.below TZ.out hb TZ.out.lt)
      clear hb
      refine hK.out _ _ HS.out (fun hS2 => ?_)
      clear hK KK
      (try simp only [Act.put, pu1, pu2, pu3])
      refine wpAnyH_ready (rs := [3]) (by kernel_rfl) (by simp) ?_
      refine AllReadyH.cons rfl (fun KK hK => ?_) AllReadyH.nil
      go_simp
      have hs := implGameDo A8 a8 B8 b8 C8 c8 G.1 G.2.1 G.2.2 r s2 (by omega) (by omega) (by omega) G8.out.gmR
      rw [HY.out] at hs
      refine hs.mono ?_
      clear hs
      unfold DoI
      rintro e s3 ⟨A9, a9, B9, b9, C9, c9, rfl, g9, hb⟩
      have G9 := Lib.hid g9
      clear g9
      replace HS := Lib.hid (Below.and HS.out hb)
      replace TZ := Lib.hid (Three.below TZ.out hb TZ.out.lt)
      replace G8 := Lib.hid (G8.out.below hb)
      clear hb
      refine hK.out _ _ HS.out (fun hS3 => ?_)
      clear hK KK
      (try simp only [Act.put, pu1, pu2, pu3])
      refine tkI 4 73 (v := ?_) rfl rfl ?_ ?_
      rotate_left
      · intro wS hSw; obtain ⟨hcS, hfS⟩ := bcell hSw; go_simp; (try with_reducible rfl)
      (try simp only [Act.put, pu1, pu2, pu3])
      refine tkI 5 78 (v := ?_) rfl rfl ?_ ?_
      rotate_left
      · intro wS hSw; obtain ⟨hcS, hfS⟩ := bcell hSw; go_simp; (try with_reducible rfl)
      (try simp only [Act.put, pu1, pu2, pu3])
      refine tkI 6 79 (v := ?_) rfl rfl ?_ ?_
      rotate_left
      · intro wS hSw; obtain ⟨hcS, hfS⟩ := bcell hSw; go_simp; (try with_reducible rfl)
      (try simp only [Act.put, pu1, pu2, pu3])
      refine wpAnyH_ready (rs := [8]) (by kernel_rfl) (by simp) ?_
      refine AllReadyH.cons rfl (fun KK hK => ?_) AllReadyH.nil
      obtain ⟨z0, z1, z2⟩ := TZ.out.cells
      have zf := TZ.out.frozen
      unfold gameV
      go_simp
      clear z0 z1 z2 zf
      have l9 := LZ.out
      have hS : Below w8.heap.size w8 _ := ((HS.out.setCell (p := ⟨p9, 0, none⟩) l9 (.slice A9 Y.1.1.length a9)).setCell (p := ⟨p9, 1, none⟩) l9 (.slice B9 Y.1.2.1.length b9)).setCell (p := ⟨p9, 2, none⟩) l9 (.slice C9 Y.1.2.2.length c9)
      have T9 := Lib.hid (((TZ.out.set0 (.slice A9 Y.1.1.length a9)).set1 (.slice B9 Y.1.2.1.length b9)).set2 (.slice C9 Y.1.2.2.length c9))
      replace G9 := Lib.hid (((G9.out.box TZ.out 0 (.slice A9 Y.1.1.length a9)).box (TZ.out.set0 _) 1 (.slice B9 Y.1.2.1.length b9)).box ((TZ.out.set0 _).set1 _) 2 (.slice C9 Y.1.2.2.length c9))
      obtain ⟨s4, hs4⟩ : ∃ X, X = (((s3.setCell ⟨p9, 0, none⟩ (.slice A9 Y.1.1.length a9)).setCell ⟨p9, 1, none⟩ (.slice B9 Y.1.2.1.length b9)).setCell ⟨p9, 2, none⟩ (.slice C9 Y.1.2.2.length c9)) := ⟨_, rfl⟩
      rw [← hs4] at hS T9 G9 ⊢
      clear hs4 l9 TZ LZ
      replace HS := Lib.hid (hS)
      clear hS
      refine hK.out _ _ HS.out (fun hS4 => ?_)
      clear hK KK
      (try simp only [Act.put, pu1, pu2, pu3])
      refine tkI 9 10 (v := ?_) rfl rfl ?_ ?_
      rotate_left
      · intro wS hSw; obtain ⟨hcS, hfS⟩ := bcell hSw; go_simp; (try with_reducible rfl)
      (try simp only [Act.put, pu1, pu2, pu3])
      refine wpAnyH_done (by kernel_rfl) ?_ _
      have HSb := HS
      have G9r := Lib.hid G9.out.gmR.rd
      go_wp2_with (fail)
      go_meet
      case rel => exact ⟨p9, A9, a9, B9, b9, C9, c9, rfl, rfl, T9, G9r, HSb⟩
   case rest =>
    obtain ⟨p9, A9, a9, B9, b9, C9, c9, rfl, rfl, T9, G9, HBC⟩ := hcut
    replace T3 := Lib.hid (Three.below T3.out HBC.out T3.out.lt)
    replace F4 := Lib.hid (F4.out.grown (Below.grownBy HBC.out none) (by simp))
    replace T5 := Lib.hid (Three.below T5.out HBC.out T5.out.lt)
    replace OA := Lib.hid (OA.out.below HBC.out)
    replace OX := Lib.hid (OX.out.below HBC.out)
    replace Z := Lib.hid (Below.and Z.out HBC.out)
    clear HBC
    obtain ⟨w9, hw9⟩ : ∃ Y, Y = wc := ⟨_, rfl⟩
    rw [← hw9] at T3 F4 T5 OA OX Z T9 G9 ⊢
    clear hw9
    obtain ⟨xp0, xp1, xp2⟩ := T5.out.cells
    have xpl := T5.out.lt
    go_wp2_with (fail)
    have hs := implAheadCodes A5 a5 B5 b5 D TT k w9 (by omega) (by omega) OX.out.rdAc
    rw [HC.out] at hs
    refine hs.mono ?_
    clear hs
    rintro e wA ⟨Q, qc, rfl, oq, hb⟩
    clear xp0 xp1 xp2 xpl
    have OQ := Lib.hid oq
    clear oq
    replace T3 := Lib.hid (Three.below T3.out hb T3.out.lt)
    replace F4 := Lib.hid (F4.out.grown (Below.grownBy hb none) (by simp))
    replace T5 := Lib.hid (Three.below T5.out hb T5.out.lt)
    replace OA := Lib.hid (OA.out.below hb)
    replace OX := Lib.hid (OX.out.below hb)
    replace Z := Lib.hid (Below.and Z.out hb)
    replace T9 := Lib.hid (Three.below T9.out hb T9.out.lt)
    replace G9 := Lib.hid (G9.out.below hb)
    clear hb
    obtain ⟨gQ, rfl, _, _⟩ := own_some OQ.out (by rw [HCL.out]; omega)
    have lst : wA.cell? ⟨gQ, T.length, none⟩ = some (.int .i64 Y.2) := by
     have := OQ.out.cellAt T.length (by rw [HCL.out]; omega)
     rw [this]
     exact HCI.out
    have lq : gQ < wA.heap.size := World.block_lt_of_cell? wA _ lst
    have m0 : IntKind.i64.wrap ((CL : Int) - 1) = (T.length : Int) := by rw [show (CL : Int) - 1 = (T.length : Int) by have := HCL2.out; omega]; exact IntWalk.i64_in _ (by omega)
    have m1 : (0 : Int) ≤ (T.length : Int) := by omega
    have m2 : (T.length : Int) < (CL : Int) := by have := HCL2.out; omega
    rw [HCLE.out] at OQ ⊢
    go_upto_region 12 with (fail)
    obtain ⟨xp0, xp1, xp2⟩ := T3.out.cells
    have xpl := T3.out.lt
    obtain ⟨xq0, xq1, xq2⟩ := T5.out.cells
    have xql := T5.out.lt
    obtain ⟨xu0, xu1, xu2⟩ := T9.out.cells
    have xul := T9.out.lt
    refine wp_region_held_drew (S := fun WS => Below wA.heap.size wA WS) (by kernel_rfl) ((Below.refl _ _).drew) (fun hS0 => ?_)
    have HS : Hid (Below wA.heap.size wA wA.drew) := (Below.refl _ _).drew
    obtain ⟨v0, hv0⟩ : ∃ X, X = wA.drew := ⟨_, rfl⟩
    rw [← hv0] at hS0 HS ⊢
    clear hv0
    refine tkI 0 82 (v := ?_) rfl rfl ?_ ?_
    rotate_left
    · intro wS hSw; obtain ⟨hcS, hfS⟩ := bcell hSw; go_simp; (try with_reducible rfl)
    (try simp only [Act.put, pu1, pu2, pu3])
    refine wpAnyH_ready (rs := [1]) (by kernel_rfl) (by simp) ?_
    refine AllReadyH.cons rfl (fun KK hK => ?_) AllReadyH.nil
    go_simp
    have hs := implAheadOk A5 a5 B5 b5 D TT k v0 (by omega) (by omega) (Rd.below OX.out.rd.1 HS.out) (Rd.below OX.out.rd.2 HS.out)
    rw [HOT.out] at hs
    refine hs.mono ?_
    clear hs
    rintro e v1 ⟨rfl, hb⟩
    replace HS := Lib.hid (Below.and HS.out hb)
    clear hb
    refine hK.out _ _ HS.out (fun hS1 => ?_)
    clear hK KK
    (try simp only [Act.put, pu1, pu2, pu3])
    refine tkI 2 84 (v := ?_) rfl rfl ?_ ?_
    rotate_left
    · intro wS hSw; obtain ⟨hcS, hfS⟩ := bcell hSw; go_simp; (try with_reducible rfl)
    (try simp only [Act.put, pu1, pu2, pu3])
    refine tkI 3 85 (v := ?_) rfl rfl ?_ ?_
    rotate_left
    · intro wS hSw; obtain ⟨hcS, hfS⟩ := bcell hSw; go_simp; (try with_reducible rfl)
    (try simp only [Act.put, pu1, pu2, pu3])
    refine tkI 5 87 (v := ?_) rfl rfl ?_ ?_
    rotate_left
    · intro wS hSw; obtain ⟨hcS, hfS⟩ := bcell hSw; go_simp; (try with_reducible rfl)
    (try simp only [Act.put, pu1, pu2, pu3])
    refine wpAnyH_ready (rs := [4]) (by kernel_rfl) (by simp) ?_
    refine AllReadyH.cons rfl (fun KK hK => ?_) AllReadyH.nil
    go_simp
    have hs := implAheadGame A5 a5 B5 b5 D TT k v1 (by omega) (by omega) (OX.out.rdAc.below HS.out)
    rw [HGT.out] at hs
    refine hs.mono ?_
    clear hs
    unfold AgI
    rintro e v2 ⟨AC, ac, BC, bc, CC, cc, rfl, gC, hb⟩
    have GC := Lib.hid gC.gmR.rd
    clear gC
    replace HS := Lib.hid (Below.and HS.out hb)
    clear hb
    refine hK.out _ _ HS.out (fun hS2 => ?_)
    clear hK KK
    (try simp only [Act.put, pu1, pu2, pu3])
    refine wpAnyH_ready (rs := [6]) (by kernel_rfl) (by simp) ?_
    refine AllReadyH.cons rfl (fun KK hK => ?_) AllReadyH.nil
    go_simp
    refine (wpGame_rd GC.out (G9.out.below HS.out) HLY.out.1 HLY.out.2.1 HLY.out.2.2).mono ?_
    rintro e v3 ⟨rfl, hb⟩
    replace HS := Lib.hid (Below.and HS.out hb)
    replace GC := Lib.hid (GC.out.below hb)
    clear hb
    refine hK.out _ _ HS.out (fun hS3 => ?_)
    clear hK KK
    (try simp only [Act.put, pu1, pu2, pu3])
    refine tkI 7 89 (v := ?_) rfl rfl ?_ ?_
    rotate_left
    · intro wS hSw; obtain ⟨hcS, hfS⟩ := bcell hSw; go_simp; (try with_reducible rfl)
    (try simp only [Act.put, pu1, pu2, pu3])
    refine tkI 8 90 (v := ?_) rfl rfl ?_ ?_
    rotate_left
    · intro wS hSw; obtain ⟨hcS, hfS⟩ := bcell hSw; go_simp; (try with_reducible rfl)
    (try simp only [Act.put, pu1, pu2, pu3])
    refine tkI 9 91 (v := ?_) rfl rfl ?_ ?_
    rotate_left
    · intro wS hSw; obtain ⟨hcS, hfS⟩ := bcell hSw; go_simp; (try with_reducible rfl)
    (try simp only [Act.put, pu1, pu2, pu3])
    refine tkI 11 93 (v := ?_) rfl rfl ?_ ?_
    rotate_left
    · intro wS hSw; obtain ⟨hcS, hfS⟩ := bcell hSw; go_simp; (try with_reducible rfl)
    (try simp only [Act.put, pu1, pu2, pu3])
    refine wpAnyH_ready (rs := [10]) (by kernel_rfl) (by simp) ?_
    refine AllReadyH.cons rfl (fun KK hK => ?_) AllReadyH.nil
    go_simp
    have hs := implAheadSure A5 a5 B5 b5 D TT k v3 (by omega) (by omega) (OX.out.rdAc.below HS.out)
    rw [HST.out] at hs
    refine hs.mono ?_
    clear hs
    unfold AgI
    rintro e v4 ⟨AD, ad, BD, bd, CD, cd, rfl, gD, hb⟩
    have GD := Lib.hid gD.gmR.rd
    clear gD
    replace HS := Lib.hid (Below.and HS.out hb)
    replace GC := Lib.hid (GC.out.below hb)
    clear hb
    refine hK.out _ _ HS.out (fun hS4 => ?_)
    clear hK KK
    (try simp only [Act.put, pu1, pu2, pu3])
    refine wpAnyH_ready (rs := [12]) (by kernel_rfl) (by simp) ?_
    refine AllReadyH.cons rfl (fun KK hK => ?_) AllReadyH.nil
    go_simp
    have hs := implAheadSure D1 d T1 t D T k v4 (by omega) (by omega) (OA.out.rdAc.below HS.out)
    rw [HSS.out] at hs
    refine hs.mono ?_
    clear hs
    unfold AgI
    rintro e v5 ⟨AE, ae, BE, be, CE, ce, rfl, gE, hb⟩
    have GE := Lib.hid gE.gmR.rd
    clear gE
    replace HS := Lib.hid (Below.and HS.out hb)
    replace GC := Lib.hid (GC.out.below hb)
    replace GD := Lib.hid (GD.out.below hb)
    clear hb
    refine hK.out _ _ HS.out (fun hS5 => ?_)
    clear hK KK
    (try simp only [Act.put, pu1, pu2, pu3])
    refine wpAnyH_ready (rs := [13]) (by kernel_rfl) (by simp) ?_
    refine AllReadyH.cons rfl (fun KK hK => ?_) AllReadyH.nil
    go_simp
    refine (wpGame_rd GD.out GE.out HLS.out.1 HLS.out.2.1 HLS.out.2.2).mono ?_
    rintro e v6 ⟨rfl, hb⟩
    replace HS := Lib.hid (Below.and HS.out hb)
    replace GC := Lib.hid (GC.out.below hb)
    replace GD := Lib.hid (GD.out.below hb)
    replace GE := Lib.hid (GE.out.below hb)
    clear hb
    refine hK.out _ _ HS.out (fun hS6 => ?_)
    clear hK KK
    (try simp only [Act.put, pu1, pu2, pu3])
    refine tkI 14 96 (v := ?_) rfl rfl ?_ ?_
    rotate_left
    · intro wS hSw; obtain ⟨hcS, hfS⟩ := bcell hSw; go_simp; (try with_reducible rfl)
    (try simp only [Act.put, pu1, pu2, pu3])
    refine tkI 15 97 (v := ?_) rfl rfl ?_ ?_
    rotate_left
    · intro wS hSw; obtain ⟨hcS, hfS⟩ := bcell hSw; go_simp; (try with_reducible rfl)
    (try simp only [Act.put, pu1, pu2, pu3])
    refine tkI 16 98 (v := ?_) rfl rfl ?_ ?_
    rotate_left
    · intro wS hSw; obtain ⟨hcS, hfS⟩ := bcell hSw; go_simp; (try with_reducible rfl)
    (try simp only [Act.put, pu1, pu2, pu3])
    refine tkI 17 99 (v := ?_) rfl rfl ?_ ?_
    rotate_left
    · intro wS hSw; obtain ⟨hcS, hfS⟩ := bcell hSw; go_simp; (try with_reducible rfl)
    (try simp only [Act.put, pu1, pu2, pu3])
    refine tkI 18 100 (v := ?_) rfl rfl ?_ ?_
    rotate_left
    · intro wS hSw; obtain ⟨hcS, hfS⟩ := bcell hSw; go_simp; (try with_reducible rfl)
    (try simp only [Act.put, pu1, pu2, pu3])
    refine tkI 19 101 (v := ?_) rfl rfl ?_ ?_
    rotate_left
    · intro wS hSw; obtain ⟨hcS, hfS⟩ := bcell hSw; go_simp; (try with_reducible rfl)
    (try simp only [Act.put, pu1, pu2, pu3])
    refine tkI 20 102 (v := ?_) rfl rfl ?_ ?_
    rotate_left
    · intro wS hSw; obtain ⟨hcS, hfS⟩ := bcell hSw; go_simp; (try with_reducible rfl)
    (try simp only [Act.put, pu1, pu2, pu3])
    refine tkI 21 103 (v := ?_) rfl rfl ?_ ?_
    rotate_left
    · intro wS hSw; obtain ⟨hcS, hfS⟩ := bcell hSw; go_simp; (try with_reducible rfl)
    (try simp only [Act.put, pu1, pu2, pu3])
    refine tkI 22 104 (v := ?_) rfl rfl ?_ ?_
    rotate_left
    · intro wS hSw; obtain ⟨hcS, hfS⟩ := bcell hSw; go_simp; (try with_reducible rfl)
    (try simp only [Act.put, pu1, pu2, pu3])
    refine tkI 23 105 (v := ?_) rfl rfl ?_ ?_
    rotate_left
    · intro wS hSw; obtain ⟨hcS, hfS⟩ := bcell hSw; go_simp; (try with_reducible rfl)
    (try simp only [Act.put, pu1, pu2, pu3])
    refine tkI 24 106 (v := ?_) rfl rfl ?_ ?_
    rotate_left
    · intro wS hSw; obtain ⟨hcS, hfS⟩ := bcell hSw; go_simp; (try with_reducible rfl)
    (try simp only [Act.put, pu1, pu2, pu3])
    refine tkI 25 2 (v := ?_) rfl rfl ?_ ?_
    rotate_left
    · intro wS hSw; obtain ⟨hcS, hfS⟩ := bcell hSw; go_simp; (try with_reducible rfl)
    (try simp only [Act.put, pu1, pu2, pu3])
    refine wpAnyH_done (by kernel_rfl) ?_ _
    replace T3 := Lib.hid (Three.below T3.out HS.out T3.out.lt)
    replace T5 := Lib.hid (Three.below T5.out HS.out T5.out.lt)
    replace T9 := Lib.hid (Three.below T9.out HS.out T9.out.lt)
    replace OA := Lib.hid (OA.out.below HS.out)
    replace OX := Lib.hid (OX.out.below HS.out)
    replace G9 := Lib.hid (G9.out.below HS.out)
    replace Z := Lib.hid (Below.and Z.out HS.out)
    clear xp0 xp1 xp2 xpl xq0 xq1 xq2 xql xu0 xu1 xu2 xul
    clear lst lq m0 m1 m2
    go_wp2
    go_light
    go_ret
    exact ⟨rfl, Z.out⟩
 · have HX := Lib.hid (show pushA D T k r = ((D, T, k), false) by unfold pushA; rw [if_pos hok, if_neg hq])
   clear hok hq
   obtain ⟨xp0, xp1, xp2⟩ := T3.out.cells
   have xpl := T3.out.lt
   obtain ⟨xf0, xf1, xf2, xf3, xf4⟩ := F4.out.cells
   have xfl := F4.out.lt
   go_wp2_with (fail)
   have hs := implAheadPush D1 d T1 t D T k r w2 (by omega) (by omega) OA.out.rdA
   rw [HX.out] at hs
   refine (hs.mono (fun _ _ h => DoAh.go h)).mono ?_
   clear hs
   rintro e w3 ⟨A5, a5, B5, b5, rfl, ox, hb⟩
   clear xp0 xp1 xp2 xpl xf0 xf1 xf2 xf3 xf4 xfl
   have OX := Lib.hid ox
   clear ox
   replace T3 := Lib.hid (Three.below T3.out hb T3.out.lt)
   replace F4 := Lib.hid (F4.out.grown (Below.grownBy hb none) (by simp))
   replace OA := Lib.hid (OA.out.below hb)
   replace Z := Lib.hid (Below.and Z.out hb)
   clear hb
   go_upto_region 5 with (fail)
   have hba : Below w3.heap.size w3 (w3.alloc (.cells #[.slice A5 D.length a5, .slice B5 T.length b5, .int .i64 k] 25)) := (Below.refl _ _).alloc (Nat.le_refl _) _
   have T5 := Lib.hid (Three.new (u0 := .slice A5 D.length a5) (u1 := .slice B5 T.length b5) (u2 := .int .i64 k) (t := 25) w3)
   replace T3 := Lib.hid (Three.below T3.out hba T3.out.lt)
   replace F4 := Lib.hid (F4.out.grown (Below.grownBy hba none) (by simp))
   replace OA := Lib.hid (OA.out.below hba)
   replace OX := Lib.hid (OX.out.below hba)
   replace Z := Lib.hid (Below.and Z.out hba)
   clear hba
   obtain ⟨p5, hp5⟩ : ∃ Y, Y = w3.heap.size := ⟨_, rfl⟩
   obtain ⟨w4, hw4⟩ : ∃ Y, Y = w3.alloc (.cells #[.slice A5 D.length a5, .slice B5 T.length b5, .int .i64 k] 25) := ⟨_, rfl⟩
   rw [← hw4] at T5 T3 F4 OA OX Z ⊢
   rw [← hp5] at T5 ⊢
   clear hw4 hp5
   obtain ⟨xp0, xp1, xp2⟩ := T3.out.cells
   have xpl := T3.out.lt
   obtain ⟨xf0, xf1, xf2, xf3, xf4⟩ := F4.out.cells
   have xfl := F4.out.lt
   go_wp2_with (fail)
   have hs := specAheadPush D1 d T1 t D T k r w4 (by omega) (by omega) OA.out.rdA
   rw [HX.out] at hs
   refine (hs.mono (fun _ _ h => DoAh.go h)).mono ?_
   clear hs
   rintro e w5 ⟨A7, a7, B7, b7, rfl, oy, hb⟩
   clear xp0 xp1 xp2 xpl xf0 xf1 xf2 xf3 xf4 xfl
   have OY := Lib.hid oy
   clear oy
   replace T3 := Lib.hid (Three.below T3.out hb T3.out.lt)
   replace F4 := Lib.hid (F4.out.grown (Below.grownBy hb none) (by simp))
   replace T5 := Lib.hid (Three.below T5.out hb T5.out.lt)
   replace OA := Lib.hid (OA.out.below hb)
   replace OX := Lib.hid (OX.out.below hb)
   replace Z := Lib.hid (Below.and Z.out hb)
   clear hb
   go_upto_region 6 with (fail)
   have hba : Below w5.heap.size w5 (w5.alloc (.cells #[.slice A7 D.length a7, .slice B7 T.length b7, .int .i64 k] 25)) := (Below.refl _ _).alloc (Nat.le_refl _) _
   have T7 := Lib.hid (Three.new (u0 := .slice A7 D.length a7) (u1 := .slice B7 T.length b7) (u2 := .int .i64 k) (t := 25) w5)
   replace T3 := Lib.hid (Three.below T3.out hba T3.out.lt)
   replace F4 := Lib.hid (F4.out.grown (Below.grownBy hba none) (by simp))
   replace T5 := Lib.hid (Three.below T5.out hba T5.out.lt)
   replace OA := Lib.hid (OA.out.below hba)
   replace OX := Lib.hid (OX.out.below hba)
   replace OY := Lib.hid (OY.out.below hba)
   replace Z := Lib.hid (Below.and Z.out hba)
   clear hba
   obtain ⟨p7, hp7⟩ : ∃ Y, Y = w5.heap.size := ⟨_, rfl⟩
   obtain ⟨w6, hw6⟩ : ∃ Y, Y = w5.alloc (.cells #[.slice A7 D.length a7, .slice B7 T.length b7, .int .i64 k] 25) := ⟨_, rfl⟩
   rw [← hw6] at T7 T3 F4 T5 OA OX OY Z ⊢
   rw [← hp7] at T7 ⊢
   clear hw6 hp7
   obtain ⟨xp0, xp1, xp2⟩ := T3.out.cells
   have xpl := T3.out.lt
   obtain ⟨xq0, xq1, xq2⟩ := T5.out.cells
   have xql := T5.out.lt
   obtain ⟨xu0, xu1, xu2⟩ := T7.out.cells
   have xul := T7.out.lt
   refine wp_region_held_drew (S := fun WS => Below w6.heap.size w6 WS) (by kernel_rfl) ((Below.refl _ _).drew) (fun hS0 => ?_)
   have HS : Hid (Below w6.heap.size w6 w6.drew) := (Below.refl _ _).drew
   obtain ⟨q0, hq0⟩ : ∃ X, X = w6.drew := ⟨_, rfl⟩
   rw [← hq0] at hS0 HS ⊢
   clear hq0
   refine tkI 0 32 (v := ?_) rfl rfl ?_ ?_
   rotate_left
   · intro wS hSw; obtain ⟨hcS, hfS⟩ := bcell hSw; go_simp; (try with_reducible rfl)
   (try simp only [Act.put, pu1, pu2, pu3])
   refine tkI 1 33 (v := ?_) rfl rfl ?_ ?_
   rotate_left
   · intro wS hSw; obtain ⟨hcS, hfS⟩ := bcell hSw; go_simp; (try with_reducible rfl)
   (try simp only [Act.put, pu1, pu2, pu3])
   refine tkI 2 34 (v := ?_) rfl rfl ?_ ?_
   rotate_left
   · intro wS hSw; obtain ⟨hcS, hfS⟩ := bcell hSw; go_simp; (try with_reducible rfl)
   (try simp only [Act.put, pu1, pu2, pu3])
   refine tkI 3 35 (v := ?_) rfl rfl ?_ ?_
   rotate_left
   · intro wS hSw; obtain ⟨hcS, hfS⟩ := bcell hSw; go_simp; (try with_reducible rfl)
   (try simp only [Act.put, pu1, pu2, pu3])
   refine tkI 4 36 (v := ?_) rfl rfl ?_ ?_
   rotate_left
   · intro wS hSw; obtain ⟨hcS, hfS⟩ := bcell hSw; go_simp; (try with_reducible rfl)
   (try simp only [Act.put, pu1, pu2, pu3])
   refine tkI 5 37 (v := ?_) rfl rfl ?_ ?_
   rotate_left
   · intro wS hSw; obtain ⟨hcS, hfS⟩ := bcell hSw; go_simp; (try with_reducible rfl)
   (try simp only [Act.put, pu1, pu2, pu3])
   refine wpAnyH_ready (rs := [6]) (by kernel_rfl) (by simp) ?_
   refine AllReadyH.cons rfl (fun KK hK => ?_) AllReadyH.nil
   go_simp
   have hs := wpAhead_rd (a1 := a5) (b1 := b5) (a2 := a7) (b2 := b7) (k := k) (by omega) (by omega) (Rd.below OX.out.rd.1 HS.out) (Rd.below OX.out.rd.2 HS.out) (Rd.below OY.out.rd.1 HS.out) (Rd.below OY.out.rd.2 HS.out)
   refine hs.mono ?_
   clear hs
   rintro e q1 ⟨rfl, hb⟩
   replace HS := Lib.hid (Below.and HS.out hb)
   clear hb
   refine hK.out _ _ HS.out (fun hS1 => ?_)
   clear hK KK
   (try simp only [Act.put, pu1, pu2, pu3])
   refine tkI 7 39 (v := ?_) rfl rfl ?_ ?_
   rotate_left
   · intro wS hSw; obtain ⟨hcS, hfS⟩ := bcell hSw; go_simp; (try with_reducible rfl)
   (try simp only [Act.put, pu1, pu2, pu3])
   refine tkI 8 40 (v := ?_) rfl rfl ?_ ?_
   rotate_left
   · intro wS hSw; obtain ⟨hcS, hfS⟩ := bcell hSw; go_simp; (try with_reducible rfl)
   (try simp only [Act.put, pu1, pu2, pu3])
   refine tkI 9 41 (v := ?_) rfl rfl ?_ ?_
   rotate_left
   · intro wS hSw; obtain ⟨hcS, hfS⟩ := bcell hSw; go_simp; (try with_reducible rfl)
   (try simp only [Act.put, pu1, pu2, pu3])
   refine tkI 10 42 (v := ?_) rfl rfl ?_ ?_
   rotate_left
   · intro wS hSw; obtain ⟨hcS, hfS⟩ := bcell hSw; go_simp; (try with_reducible rfl)
   (try simp only [Act.put, pu1, pu2, pu3])
   refine tkI 12 44 (v := ?_) rfl rfl ?_ ?_
   rotate_left
   · intro wS hSw; obtain ⟨hcS, hfS⟩ := bcell hSw; go_simp; (try with_reducible rfl)
   (try simp only [Act.put, pu1, pu2, pu3])
   refine wpAnyH_ready (rs := [11]) (by kernel_rfl) (by simp) ?_
   refine AllReadyH.cons rfl (fun KK hK => ?_) AllReadyH.nil
   go_simp
   have hs := implAheadOk D1 d T1 t D T k q1 (by omega) (by omega) (Rd.below OA.out.rd.1 HS.out) (Rd.below OA.out.rd.2 HS.out)
   rw [HOK.out] at hs
   refine hs.mono ?_
   clear hs
   rintro e q2 ⟨rfl, hb⟩
   replace HS := Lib.hid (Below.and HS.out hb)
   clear hb
   refine hK.out _ _ HS.out (fun hS2 => ?_)
   clear hK KK
   (try simp only [Act.put, pu1, pu2, pu3])
   refine wpAnyH_ready (rs := [13]) (by kernel_rfl) (by simp) ?_
   refine AllReadyH.cons rfl (fun KK hK => ?_) AllReadyH.nil
   go_simp
   have hs := specAheadOk D1 d T1 t D T k q2 (by omega) (by omega) (Rd.below OA.out.rd.1 HS.out) (Rd.below OA.out.rd.2 HS.out)
   rw [HOK.out] at hs
   refine hs.mono ?_
   clear hs
   rintro e q3 ⟨rfl, hb⟩
   replace HS := Lib.hid (Below.and HS.out hb)
   clear hb
   refine hK.out _ _ HS.out (fun hS3 => ?_)
   clear hK KK
   (try simp only [Act.put, pu1, pu2, pu3])
   refine tkI 14 46 (v := ?_) rfl rfl ?_ ?_
   rotate_left
   · intro wS hSw; obtain ⟨hcS, hfS⟩ := bcell hSw; go_simp; (try with_reducible rfl)
   (try simp only [Act.put, pu1, pu2, pu3])
   refine tkI 15 47 (v := ?_) rfl rfl ?_ ?_
   rotate_left
   · intro wS hSw; obtain ⟨hcS, hfS⟩ := bcell hSw; go_simp; (try with_reducible rfl)
   (try simp only [Act.put, pu1, pu2, pu3])
   refine tkI 16 48 (v := ?_) rfl rfl ?_ ?_
   rotate_left
   · intro wS hSw; obtain ⟨hcS, hfS⟩ := bcell hSw; go_simp; (try with_reducible rfl)
   (try simp only [Act.put, pu1, pu2, pu3])
   refine tkI 17 49 (v := ?_) rfl rfl ?_ ?_
   rotate_left
   · intro wS hSw; obtain ⟨hcS, hfS⟩ := bcell hSw; go_simp; (try with_reducible rfl)
   (try simp only [Act.put, pu1, pu2, pu3])
   refine wpAnyH_ready (rs := [18]) (by kernel_rfl) (by simp) ?_
   refine AllReadyH.cons rfl (fun KK hK => ?_) AllReadyH.nil
   go_simp
   have hs := implAheadOk D1 d T1 t D T k q3 (by omega) (by omega) (Rd.below OA.out.rd.1 HS.out) (Rd.below OA.out.rd.2 HS.out)
   rw [HOK.out] at hs
   refine hs.mono ?_
   clear hs
   rintro e q4 ⟨rfl, hb⟩
   replace HS := Lib.hid (Below.and HS.out hb)
   clear hb
   refine hK.out _ _ HS.out (fun hS4 => ?_)
   clear hK KK
   (try simp only [Act.put, pu1, pu2, pu3])
   refine tkI 19 51 (v := ?_) rfl rfl ?_ ?_
   rotate_left
   · intro wS hSw; obtain ⟨hcS, hfS⟩ := bcell hSw; go_simp; (try with_reducible rfl)
   (try simp only [Act.put, pu1, pu2, pu3])
   refine tkI 20 52 (v := ?_) rfl rfl ?_ ?_
   rotate_left
   · intro wS hSw; obtain ⟨hcS, hfS⟩ := bcell hSw; go_simp; (try with_reducible rfl)
   (try simp only [Act.put, pu1, pu2, pu3])
   refine wpAnyH_done (by kernel_rfl) ?_ _
   replace T3 := Lib.hid (Three.below T3.out HS.out T3.out.lt)
   replace F4 := Lib.hid (F4.out.grown (Below.grownBy HS.out none) (by simp))
   replace T5 := Lib.hid (Three.below T5.out HS.out T5.out.lt)
   replace T7 := Lib.hid (Three.below T7.out HS.out T7.out.lt)
   replace OA := Lib.hid (OA.out.below HS.out)
   replace OX := Lib.hid (OX.out.below HS.out)
   replace OY := Lib.hid (OY.out.below HS.out)
   replace Z := Lib.hid (Below.and Z.out HS.out)
   clear xp0 xp1 xp2 xpl xq0 xq1 xq2 xql xu0 xu1 xu2 xul
   obtain ⟨w8, hw8⟩ : ∃ Y, Y = q4 := ⟨_, rfl⟩
   rw [← hw8] at T3 F4 T5 T7 OA OX OY Z ⊢
   clear hw8 HS
   obtain ⟨xp0, xp1, xp2⟩ := T3.out.cells
   have xpl := T3.out.lt
   obtain ⟨xq0, xq1, xq2⟩ := T5.out.cells
   have xql := T5.out.lt
   go_wp2_with (fail)
   refine (wpAhead_rd (a1 := a5) (b1 := b5) (a2 := d) (b2 := t) (k := k) (by omega) (by omega) OX.out.rd.1 OX.out.rd.2 OA.out.rd.1 OA.out.rd.2).mono ?_
   rintro e w9 ⟨rfl, hb⟩
   replace Z := Lib.hid (Below.and Z.out hb)
   clear xp0 xp1 xp2 xpl xq0 xq1 xq2 xql
   clear hb
   go_wp2
   go_light
   go_ret
   exact ⟨rfl, Z.out⟩

end Go.Proofs.Ytnpdlpkomfegfaa
