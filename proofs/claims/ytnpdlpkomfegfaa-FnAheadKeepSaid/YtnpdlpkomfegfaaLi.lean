/- What is done for good is done, in order, whatever was done ahead: the law. -/
import Derived.Test.YtnpdlpkomfegfaaLf
import Derived.Test.YtnpdlpkomfegfaaWr
import Derived.Test.YtnpdlpkomfegfaaHm
import Derived.Test.YtnpdlpkomfegfaaIg
import Derived.Test.YtnpdlpkomfegfaaMR
import Derived.Test.YtnpdlpkomfegfaaMQ
namespace Go.Proofs.Ytnpdlpkomfegfaa
open Go.ChangeShapes Go.WideShapes Go.ChangeAt Go.RowKit
set_option linter.unusedVariables false
set_option linter.unusedSimpArgs false

theorem DoAh.goI {D T : List Rq} {k : Int} {b : Bool} {w w' : World} {e : Ending} (h : DoAh ((D, T, k), b) w e w') : ∃ A a B b', e = .returned (.tuple #[aheadV A D.length a B T.length b' k, .bool b]) ∧ OwA w' w.heap.size A a B b' D T ∧ Below w.heap.size w w' := h
theorem bumpK_le (T : List Rq) (m : Option Nat) (k : Int) (h0 : 0 ≤ k) (h9 : k ≤ 99) : k ≤ bumpK T m k ∧ bumpK T m k ≤ 99 := by
 unfold bumpK
 split
 · split <;> omega
 · omega
theorem delT_len {r : Rq} {T : List Rq} : (delT (atR r T) T).length + (if atR r T = none then 0 else 1) = T.length := by
 rcases h : atR r T with _ | i
 · simp [delT]
 · have := atR_lt h
   simp only [delT, List.length_eraseIdx, if_pos this]
   rw [if_neg (by simp)]
   omega
theorem delT_mem {m : Option Nat} {T : List Rq} {x : Rq} (h : x ∈ delT m T) : x ∈ T := by
 rcases m with _ | i
 · exact h
 · exact List.mem_of_mem_eraseIdx h
theorem ahB_keep {D T : List Rq} {k : Int} {r : Rq} (h : ahB D T k = true) (hr : okB r = true) (hl : ¬ (atR r T = none ∧ D.length + T.length = 60)) : ahB (D ++ [r]) (delT (atR r T) T) (bumpK T (atR r T) k) = true := by
 have ha := ahB_all h
 have hn := ahB_len h
 have hk := ahB_k h
 have hb := bumpK_le T (atR r T) k hk.1 hk.2
 have hd := delT_len (r := r) (T := T)
 unfold ahB
 simp only [Bool.and_eq_true, decide_eq_true_eq, List.all_eq_true, inB]
 refine ⟨?_, ⟨by omega, hb.2⟩, fun x hx => ?_, fun x hx => ha.2 x (delT_mem hx)⟩
 · rw [List.length_append, List.length_cons, List.length_nil]
   split at hd
   · rename_i h0
     have : ¬ D.length + T.length = 60 := fun e => hl ⟨h0, e⟩
     omega
   · omega
 · rcases List.mem_append.1 hx with h1 | h1
   · exact ha.1 x h1
   · rw [List.mem_singleton] at h1
     rw [h1]; exact hr
theorem suG_keep {D T T' : List Rq} {k k' : Int} {r : Rq} (h : ahB D T k = true) (hr : okB r = true) (h' : ahB (D ++ [r]) T' k' = true) : (stepG (suG D T k).1 (suG D T k).2.1 (suG D T k).2.2 r).1 = suG (D ++ [r]) T' k' := by
 have e1 : suG D T k = foldG D := by unfold suG; rw [if_pos h]
 have e2 : suG (D ++ [r]) T' k' = stepF (foldG D) r := by unfold suG; rw [if_pos h', fold_app]; rfl
 have hg : gokB (foldG D).1 (foldG D).2.1 (foldG D).2.2 = true := foldG_ok D g0 g0_ok (ahB_all h).1
 rw [e1, e2]
 exact (stepG_good hg hr).1
theorem agG_keep {D T : List Rq} {k k' : Int} {r : Rq} (h : ahB D (r :: T) k = true) (h' : ahB (D ++ [r]) T k' = true) : agG (D ++ [r]) T k' = agG D (r :: T) k := by
 unfold agG
 rw [if_pos h, if_pos h', fold_app]
 rfl

theorem fst_eq {T : List Rq} {r : Rq} (h : 0 < T.length) : decide (T[0] = r) = decide (atR r T = some 0) := by
 rcases T with _ | ⟨x, t⟩
 · simp at h
 · have h1 : atR r (x :: t) = if x = r then some 0 else (atR r t).map (· + 1) := rfl
   rw [decide_eq_decide, h1, List.getElem_cons_zero]
   by_cases hx : x = r
   · simp [hx]
   · rw [if_neg hx]
     constructor
     · intro e; exact absurd e hx
     · intro e
       rcases h2 : atR r t with _ | i
       · rw [h2] at e; simp at e
       · rw [h2] at e; simp at e
theorem fst_no {T : List Rq} {r : Rq} (h : ¬ 0 < T.length) : false = decide (atR r T = some 0) := by
 have : T = [] := List.eq_nil_of_length_eq_zero (by omega)
 subst this
 rfl
theorem Rd.prefix {α : Type} {k : Nat} {f : α → List Value} {w : World} {A : Option Addr} {P Q : List α} (h : Rd k f w A P) (hp : ∃ R, P = Q ++ R) : Rd k f w A Q := fun i hi => by
 obtain ⟨R, rfl⟩ := hp
 obtain ⟨b, off, e, hc⟩ := h i (by rw [List.length_append]; omega)
 rw [List.getElem_append_left hi] at hc
 exact ⟨b, off, e, hc⟩
theorem first_keeps {D T : List Rq} {k : Int} {r : Rq} (h : ahB D T k = true) (h' : ahB (D ++ [r]) (delT (atR r T) T) (bumpK T (atR r T) k) = true) (hf : atR r T = some 0) : bumpK T (atR r T) k = k ∧ agG (D ++ [r]) (delT (atR r T) T) (bumpK T (atR r T) k) = agG D T k := by
 have hb : bumpK T (atR r T) k = k := by unfold bumpK; rw [hf, if_neg (fun e => e.2 rfl)]
 refine ⟨hb, ?_⟩
 rw [hb] at h' ⊢
 rcases T with _ | ⟨x, t⟩
 · cases hf
 · have hx : x = r := by
    by_cases hx : x = r
    · exact hx
    · rw [atR, if_neg hx] at hf
      rcases h1 : atR r t with _ | i
      · rw [h1] at hf; cases hf
      · rw [h1] at hf; simp at hf
   subst hx
   rw [hf] at h' ⊢
   exact agG_keep h h'

set_option maxRecDepth 100000 in
set_option maxHeartbeats 80000000 in
theorem lawAheadKeep {w : World} {A : Option Addr} {n c : Nat} (hm : n ≤ maxLen) (hc : n ≤ c) (hb : InB w A n) :
 Calls Try.prog 5 #[.slice A n c] w fun e w' => e = .returned (.bool true) ∧ Below w.heap.size w w' := by
 have HB := Lib.hid hb
 unfold maxLen at hm
 clear hb
 by_cases hn : ¬ n ≤ 1048576
 · have e1 : decide ((1048576 : Int) < (n : Int)) = true := by simp; omega
   go_enter Try.func5, Try.ntmps5
   go_wp2
   go_ret
   exact ⟨rfl, Below.refl _ _⟩
 have hn : n ≤ 1048576 := by omega
 have e1 : decide ((1048576 : Int) < (n : Int)) = false := by simp; omega
 go_enter Try.func5, Try.ntmps5
 go_wp2_with (fail)
 refine (drawAheadKeep hn hc HB.out).mono ?_
 unfold DrA
 rintro e w1 ⟨D1, d, T1, t, D, T, k, r, rfl, hD, hT, ho, h1⟩
 have hba : Below w1.heap.size w1 ((w1.alloc (.cells #[.slice D1 D.length d, .slice T1 T.length t, .int .i64 k] 25)).alloc (.cells #[.int .i64 r.c, .int .i64 r.n, .int .i64 r.o, .int .i64 r.x, .int .i64 r.y] 37)) := below_alloc2 w1 _ _
 have Z := Lib.hid (Below.and h1 hba)
 have OA := Lib.hid (ho.below hba)
 have T3 := Lib.hid ((Three.new (u0 := .slice D1 D.length d) (u1 := .slice T1 T.length t) (u2 := .int .i64 k) (t := 25) w1).alloc (.cells #[.int .i64 r.c, .int .i64 r.n, .int .i64 r.o, .int .i64 r.x, .int .i64 r.y] 37))
 have F4 : Hid (Five ((w1.alloc (.cells #[.slice D1 D.length d, .slice T1 T.length t, .int .i64 k] 25)).alloc (.cells #[.int .i64 r.c, .int .i64 r.n, .int .i64 r.o, .int .i64 r.x, .int .i64 r.y] 37)) (w1.heap.size + 1) 37 (.int .i64 r.c) (.int .i64 r.n) (.int .i64 r.o) (.int .i64 r.x) (.int .i64 r.y)) := by
  have := Five.new (u0 := .int .i64 r.c) (u1 := .int .i64 r.n) (u2 := .int .i64 r.o) (u3 := .int .i64 r.x) (u4 := .int .i64 r.y) (t := 37) (w1.alloc (.cells #[.slice D1 D.length d, .slice T1 T.length t, .int .i64 k] 25))
  simpa [Hid] using this
 clear h1 ho HB hba
 go_upto_region 4 with (fail)
 obtain ⟨p4, hp4⟩ : ∃ Y, Y = w1.heap.size + 1 := ⟨_, rfl⟩
 obtain ⟨p3, hp3⟩ : ∃ Y, Y = w1.heap.size := ⟨_, rfl⟩
 obtain ⟨w2, hw2⟩ : ∃ Y, Y = ((w1.alloc (.cells #[.slice D1 D.length d, .slice T1 T.length t, .int .i64 k] 25)).alloc (.cells #[.int .i64 r.c, .int .i64 r.n, .int .i64 r.o, .int .i64 r.x, .int .i64 r.y] 37)) := ⟨_, rfl⟩
 rw [← hw2] at T3 F4 OA Z ⊢
 rw [← hp4] at F4 ⊢
 rw [← hp3] at T3 ⊢
 clear hw2 hp3 hp4
 rcases hok : ahB D T k with _ | _
 · have HOK := Lib.hid hok
   obtain ⟨ZL, hZL⟩ : ∃ X : List Rq, X = [] := ⟨_, rfl⟩
   have HX := Lib.hid (show keepA D T k r = ((ZL, ZL, 0), false) by unfold keepA; rw [hok, hZL]; rfl)
   have hZ5 : ZL.length ≤ 5 := by rw [hZL]; simp
   clear hok hZL
   obtain ⟨xp0, xp1, xp2⟩ := T3.out.cells
   have xpl := T3.out.lt
   obtain ⟨xf0, xf1, xf2, xf3, xf4⟩ := F4.out.cells
   have xfl := F4.out.lt
   go_wp2_with (fail)
   have hs := implAheadKeep D1 d T1 t D T k r w2 (by omega) (by omega) OA.out.rdA
   rw [HX.out] at hs
   refine (hs.mono (fun _ _ h => DoAh.goI h)).mono ?_
   clear hs
   rintro e w3 ⟨A5, a5, B5, b5, rfl, ox, hb⟩
   clear xp0 xp1 xp2 xpl xf0 xf1 xf2 xf3 xf4 xfl
   have OX := Lib.hid ox
   clear ox
   replace T3 := Lib.hid (Three.below T3.out hb T3.out.lt)
   replace F4 := Lib.hid (F4.out.grown (Below.grownBy hb none) (by simp))
   replace OA := Lib.hid (OA.out.below hb)
   replace Z := Lib.hid (Below.and Z.out hb)
   clear hb
   go_upto_region 5 with (fail)
   have hba : Below w3.heap.size w3 (w3.alloc (.cells #[.slice A5 ZL.length a5, .slice B5 ZL.length b5, .int .i64 0] 25)) := (Below.refl _ _).alloc (Nat.le_refl _) _
   have T5 := Lib.hid (Three.new (u0 := .slice A5 ZL.length a5) (u1 := .slice B5 ZL.length b5) (u2 := .int .i64 0) (t := 25) w3)
   replace T3 := Lib.hid (Three.below T3.out hba T3.out.lt)
   replace F4 := Lib.hid (F4.out.grown (Below.grownBy hba none) (by simp))
   replace OA := Lib.hid (OA.out.below hba)
   replace OX := Lib.hid (OX.out.below hba)
   replace Z := Lib.hid (Below.and Z.out hba)
   clear hba
   obtain ⟨p5, hp5⟩ : ∃ Y, Y = w3.heap.size := ⟨_, rfl⟩
   obtain ⟨w4, hw4⟩ : ∃ Y, Y = w3.alloc (.cells #[.slice A5 ZL.length a5, .slice B5 ZL.length b5, .int .i64 0] 25) := ⟨_, rfl⟩
   rw [← hw4] at T5 T3 F4 OA OX Z ⊢
   rw [← hp5] at T5 ⊢
   clear hw4 hp5
   obtain ⟨xp0, xp1, xp2⟩ := T3.out.cells
   have xpl := T3.out.lt
   obtain ⟨xf0, xf1, xf2, xf3, xf4⟩ := F4.out.cells
   have xfl := F4.out.lt
   go_wp2_with (fail)
   have hs := specAheadKeep D1 d T1 t D T k r w4 (by omega) (by omega) OA.out.rdAk
   rw [HX.out] at hs
   refine (hs.mono (fun _ _ h => DoAh.goI h)).mono ?_
   clear hs
   rintro e w5 ⟨A7, a7, B7, b7, rfl, oy, hb⟩
   clear xp0 xp1 xp2 xpl xf0 xf1 xf2 xf3 xf4 xfl
   have OY := Lib.hid oy
   clear oy
   replace T3 := Lib.hid (Three.below T3.out hb T3.out.lt)
   replace F4 := Lib.hid (F4.out.grown (Below.grownBy hb none) (by simp))
   replace T5 := Lib.hid (Three.below T5.out hb T5.out.lt)
   replace OA := Lib.hid (OA.out.below hb)
   replace OX := Lib.hid (OX.out.below hb)
   replace Z := Lib.hid (Below.and Z.out hb)
   clear hb
   go_upto_region 6 with (fail)
   have hba : Below w5.heap.size w5 (w5.alloc (.cells #[.slice A7 ZL.length a7, .slice B7 ZL.length b7, .int .i64 0] 25)) := (Below.refl _ _).alloc (Nat.le_refl _) _
   have T7 := Lib.hid (Three.new (u0 := .slice A7 ZL.length a7) (u1 := .slice B7 ZL.length b7) (u2 := .int .i64 0) (t := 25) w5)
   replace T3 := Lib.hid (Three.below T3.out hba T3.out.lt)
   replace F4 := Lib.hid (F4.out.grown (Below.grownBy hba none) (by simp))
   replace T5 := Lib.hid (Three.below T5.out hba T5.out.lt)
   replace OA := Lib.hid (OA.out.below hba)
   replace OX := Lib.hid (OX.out.below hba)
   replace OY := Lib.hid (OY.out.below hba)
   replace Z := Lib.hid (Below.and Z.out hba)
   clear hba
   obtain ⟨p7, hp7⟩ : ∃ Y, Y = w5.heap.size := ⟨_, rfl⟩
   obtain ⟨w6, hw6⟩ : ∃ Y, Y = w5.alloc (.cells #[.slice A7 ZL.length a7, .slice B7 ZL.length b7, .int .i64 0] 25) := ⟨_, rfl⟩
   rw [← hw6] at T7 T3 F4 T5 OA OX OY Z ⊢
   rw [← hp7] at T7 ⊢
   clear hw6 hp7
   obtain ⟨xp0, xp1, xp2⟩ := T3.out.cells
   have xpl := T3.out.lt
   obtain ⟨xq0, xq1, xq2⟩ := T5.out.cells
   have xql := T5.out.lt
   obtain ⟨xu0, xu1, xu2⟩ := T7.out.cells
   have xul := T7.out.lt
   go_wp2_with (fail)
   have hs := wpAhead_rd (w := w6) (a1 := a5) (b1 := b5) (a2 := a7) (b2 := b7) (k := 0) (by omega) (by omega) OX.out.rd.1 OX.out.rd.2 OY.out.rd.1 OY.out.rd.2
   refine hs.mono ?_
   clear hs
   rintro e q1 ⟨rfl, hb⟩
   clear xp0 xp1 xp2 xpl xq0 xq1 xq2 xql xu0 xu1 xu2 xul
   replace T3 := Lib.hid (Three.below T3.out hb T3.out.lt)
   replace F4 := Lib.hid (F4.out.grown (Below.grownBy hb none) (by simp))
   replace T5 := Lib.hid (Three.below T5.out hb T5.out.lt)
   replace T7 := Lib.hid (Three.below T7.out hb T7.out.lt)
   replace OA := Lib.hid (OA.out.below hb)
   replace OX := Lib.hid (OX.out.below hb)
   replace OY := Lib.hid (OY.out.below hb)
   replace Z := Lib.hid (Below.and Z.out hb)
   clear hb
   obtain ⟨xp0, xp1, xp2⟩ := T3.out.cells
   have xpl := T3.out.lt
   obtain ⟨xq0, xq1, xq2⟩ := T5.out.cells
   have xql := T5.out.lt
   obtain ⟨xu0, xu1, xu2⟩ := T7.out.cells
   have xul := T7.out.lt
   go_wp2_with (fail)
   have hs := implAheadOk D1 d T1 t D T k q1 (by omega) (by omega) OA.out.rd.1 OA.out.rd.2
   rw [HOK.out] at hs
   refine hs.mono ?_
   clear hs
   rintro e q2 ⟨rfl, hb⟩
   clear xp0 xp1 xp2 xpl xq0 xq1 xq2 xql xu0 xu1 xu2 xul
   replace T3 := Lib.hid (Three.below T3.out hb T3.out.lt)
   replace F4 := Lib.hid (F4.out.grown (Below.grownBy hb none) (by simp))
   replace T5 := Lib.hid (Three.below T5.out hb T5.out.lt)
   replace T7 := Lib.hid (Three.below T7.out hb T7.out.lt)
   replace OA := Lib.hid (OA.out.below hb)
   replace OX := Lib.hid (OX.out.below hb)
   replace OY := Lib.hid (OY.out.below hb)
   replace Z := Lib.hid (Below.and Z.out hb)
   clear hb
   obtain ⟨xp0, xp1, xp2⟩ := T3.out.cells
   have xpl := T3.out.lt
   obtain ⟨xq0, xq1, xq2⟩ := T5.out.cells
   have xql := T5.out.lt
   obtain ⟨xu0, xu1, xu2⟩ := T7.out.cells
   have xul := T7.out.lt
   go_wp2_with (fail)
   have hs := wpAhead_rd (w := q2) (a1 := a5) (b1 := b5) (a2 := a7) (b2 := b7) (k := 0) (by omega) (by omega) OX.out.rd.1 OX.out.rd.2 OY.out.rd.1 OY.out.rd.2
   refine hs.mono ?_
   clear hs
   rintro e q3 ⟨rfl, hb⟩
   clear xp0 xp1 xp2 xpl xq0 xq1 xq2 xql xu0 xu1 xu2 xul
   replace T3 := Lib.hid (Three.below T3.out hb T3.out.lt)
   replace F4 := Lib.hid (F4.out.grown (Below.grownBy hb none) (by simp))
   replace T5 := Lib.hid (Three.below T5.out hb T5.out.lt)
   replace T7 := Lib.hid (Three.below T7.out hb T7.out.lt)
   replace OA := Lib.hid (OA.out.below hb)
   replace OX := Lib.hid (OX.out.below hb)
   replace OY := Lib.hid (OY.out.below hb)
   replace Z := Lib.hid (Below.and Z.out hb)
   clear hb
   go_wp2
   go_light
   go_ret
   exact ⟨rfl, Z.out⟩
 have HOK := Lib.hid hok
 by_cases hq : okB r = true ∧ ¬ (atR r T = none ∧ D.length + T.length = 60)
 · have h6 := ahB_keep hok hq.1 hq.2
   have h3 := suG_keep hok hq.1 h6
   have HX := Lib.hid (show keepA D T k r = ((D ++ [r], delT (atR r T) T, bumpK T (atR r T) k), true) by unfold keepA; rw [if_pos hok, if_pos hq])
   have HF1 := Lib.hid (fun hf => first_keeps hok h6 hf)
   have HKG := Lib.hid (bumpK_le T (atR r T) k (ahB_k hok).1 (ahB_k hok).2).1
   obtain ⟨fst, hfst⟩ : ∃ Y, Y = decide (atR r T = some 0) := ⟨_, rfl⟩
   have HFI := Lib.hid hfst
   have hT5 : (delT (atR r T) T).length ≤ 5 := by have := delT_len (r := r) (T := T); split at this <;> omega
   obtain ⟨DX, hDX⟩ : ∃ X, X = D ++ [r] := ⟨_, rfl⟩
   obtain ⟨TX, hTX⟩ : ∃ X, X = delT (atR r T) T := ⟨_, rfl⟩
   obtain ⟨KX, hKX⟩ : ∃ X, X = bumpK T (atR r T) k := ⟨_, rfl⟩
   rw [← hTX] at hT5
   rw [← hDX, ← hTX, ← hKX] at HX h6
   have HF1 : Hid (fst = true → KX = k ∧ agG DX TX KX = agG D T k) := by
    intro hf
    have := HF1.out (by rw [hfst] at hf; simpa using hf)
    rw [← hDX, ← hTX, ← hKX] at this
    exact this
   rw [← hKX] at HKG
   have h3 := suG_keep (T' := TX) (k' := KX) hok hq.1 (by rw [← hDX]; exact h6)
   rw [← hDX] at h3
   have HOT := Lib.hid h6
   have HDX := Lib.hid (show DX.length = D.length + 1 by rw [hDX]; simp)
   have hDX9 : DX.length ≤ 9 := by have := HDX.out; omega
   have HLR := Lib.hid (show ∀ h : D.length < DX.length, DX[D.length]'h = r by rw [hDX]; intro h; simp)
   have HPF : Hid (∃ R, DX = D ++ R) := ⟨[r], hDX⟩
   have hg1 := suG_len D T k
   have hg2 := suG_len DX TX KX
   have hg3 := agG_len D T k
   obtain ⟨Y, hY⟩ : ∃ X, X = stepG (suG D T k).1 (suG D T k).2.1 (suG D T k).2.2 r := ⟨_, rfl⟩
   rw [← hY] at h3
   have HST := Lib.hid h3.symm
   rw [← h3] at hg2
   obtain ⟨G, hG⟩ : ∃ X, X = suG D T k := ⟨_, rfl⟩
   rw [← hG] at hY hg1
   have HG := Lib.hid hG.symm
   have HY := Lib.hid hY.symm
   obtain ⟨S, hS⟩ : ∃ X, X = agG D T k := ⟨_, rfl⟩
   rw [← hS] at HF1 hg3
   have HAG := Lib.hid hS.symm
   have HLS := Lib.hid (show S.1.length ≤ 1048576 ∧ S.2.1.length ≤ 1048576 ∧ S.2.2.length ≤ 1048576 from ⟨by omega, by omega, by omega⟩)
   have HLY := Lib.hid (show Y.1.1.length ≤ 1048576 ∧ Y.1.2.1.length ≤ 1048576 ∧ Y.1.2.2.length ≤ 1048576 from ⟨by omega, by omega, by omega⟩)
   have hg11 : G.1.length ≤ 4 := hg1.1
   have hg12 : G.2.1.length ≤ 16 := hg1.2.1
   have hg13 : G.2.2.length ≤ 4 := hg1.2.2
   clear hok hq h3 h6 hg1 hg2 hg3 hDX hTX hKX hY hG hS hfst
   obtain ⟨xp0, xp1, xp2⟩ := T3.out.cells
   have xpl := T3.out.lt
   obtain ⟨xf0, xf1, xf2, xf3, xf4⟩ := F4.out.cells
   have xfl := F4.out.lt
   go_wp2_with (fail)
   have hs := implAheadKeep D1 d T1 t D T k r w2 (by omega) (by omega) OA.out.rdA
   rw [HX.out] at hs
   refine (hs.mono (fun _ _ h => DoAh.goI h)).mono ?_
   clear hs
   rintro e w3 ⟨A5, a5, B5, b5, rfl, ox, hb⟩
   clear xp0 xp1 xp2 xpl xf0 xf1 xf2 xf3 xf4 xfl
   have OX := Lib.hid ox
   clear ox
   replace T3 := Lib.hid (Three.below T3.out hb T3.out.lt)
   replace F4 := Lib.hid (F4.out.grown (Below.grownBy hb none) (by simp))
   replace OA := Lib.hid (OA.out.below hb)
   replace Z := Lib.hid (Below.and Z.out hb)
   clear hb
   go_upto_region 5 with (fail)
   have hba : Below w3.heap.size w3 (w3.alloc (.cells #[.slice A5 DX.length a5, .slice B5 TX.length b5, .int .i64 KX] 25)) := (Below.refl _ _).alloc (Nat.le_refl _) _
   have T5 := Lib.hid (Three.new (u0 := .slice A5 DX.length a5) (u1 := .slice B5 TX.length b5) (u2 := .int .i64 KX) (t := 25) w3)
   replace T3 := Lib.hid (Three.below T3.out hba T3.out.lt)
   replace F4 := Lib.hid (F4.out.grown (Below.grownBy hba none) (by simp))
   replace OA := Lib.hid (OA.out.below hba)
   replace OX := Lib.hid (OX.out.below hba)
   replace Z := Lib.hid (Below.and Z.out hba)
   clear hba
   obtain ⟨p5, hp5⟩ : ∃ Y, Y = w3.heap.size := ⟨_, rfl⟩
   obtain ⟨w4, hw4⟩ : ∃ Y, Y = w3.alloc (.cells #[.slice A5 DX.length a5, .slice B5 TX.length b5, .int .i64 KX] 25) := ⟨_, rfl⟩
   rw [← hw4] at T5 T3 F4 OA OX Z ⊢
   rw [← hp5] at T5 ⊢
   clear hw4 hp5
   obtain ⟨xp0, xp1, xp2⟩ := T3.out.cells
   have xpl := T3.out.lt
   obtain ⟨xf0, xf1, xf2, xf3, xf4⟩ := F4.out.cells
   have xfl := F4.out.lt
   go_wp2_with (fail)
   have hs := specAheadKeep D1 d T1 t D T k r w4 (by omega) (by omega) OA.out.rdAk
   rw [HX.out] at hs
   refine (hs.mono (fun _ _ h => DoAh.goI h)).mono ?_
   clear hs
   rintro e w5 ⟨A7, a7, B7, b7, rfl, oy, hb⟩
   clear xp0 xp1 xp2 xpl xf0 xf1 xf2 xf3 xf4 xfl
   have OY := Lib.hid oy
   clear oy
   replace T3 := Lib.hid (Three.below T3.out hb T3.out.lt)
   replace F4 := Lib.hid (F4.out.grown (Below.grownBy hb none) (by simp))
   replace T5 := Lib.hid (Three.below T5.out hb T5.out.lt)
   replace OA := Lib.hid (OA.out.below hb)
   replace OX := Lib.hid (OX.out.below hb)
   replace Z := Lib.hid (Below.and Z.out hb)
   clear hb
   go_upto_region 6 with (fail)
   have hba : Below w5.heap.size w5 (w5.alloc (.cells #[.slice A7 DX.length a7, .slice B7 TX.length b7, .int .i64 KX] 25)) := (Below.refl _ _).alloc (Nat.le_refl _) _
   have T7 := Lib.hid (Three.new (u0 := .slice A7 DX.length a7) (u1 := .slice B7 TX.length b7) (u2 := .int .i64 KX) (t := 25) w5)
   replace T3 := Lib.hid (Three.below T3.out hba T3.out.lt)
   replace F4 := Lib.hid (F4.out.grown (Below.grownBy hba none) (by simp))
   replace T5 := Lib.hid (Three.below T5.out hba T5.out.lt)
   replace OA := Lib.hid (OA.out.below hba)
   replace OX := Lib.hid (OX.out.below hba)
   replace OY := Lib.hid (OY.out.below hba)
   replace Z := Lib.hid (Below.and Z.out hba)
   clear hba
   obtain ⟨p7, hp7⟩ : ∃ Y, Y = w5.heap.size := ⟨_, rfl⟩
   obtain ⟨w6, hw6⟩ : ∃ Y, Y = w5.alloc (.cells #[.slice A7 DX.length a7, .slice B7 TX.length b7, .int .i64 KX] 25) := ⟨_, rfl⟩
   rw [← hw6] at T7 T3 F4 T5 OA OX OY Z ⊢
   rw [← hp7] at T7 ⊢
   clear hw6 hp7
   obtain ⟨xp0, xp1, xp2⟩ := T3.out.cells
   have xpl := T3.out.lt
   obtain ⟨xq0, xq1, xq2⟩ := T5.out.cells
   have xql := T5.out.lt
   obtain ⟨xu0, xu1, xu2⟩ := T7.out.cells
   have xul := T7.out.lt
   go_wp2_with (fail)
   have hs := wpAhead_rd (w := w6) (a1 := a5) (b1 := b5) (a2 := a7) (b2 := b7) (k := KX) (by omega) (by omega) OX.out.rd.1 OX.out.rd.2 OY.out.rd.1 OY.out.rd.2
   refine hs.mono ?_
   clear hs
   rintro e q1 ⟨rfl, hb⟩
   clear xp0 xp1 xp2 xpl xq0 xq1 xq2 xql xu0 xu1 xu2 xul
   replace T3 := Lib.hid (Three.below T3.out hb T3.out.lt)
   replace F4 := Lib.hid (F4.out.grown (Below.grownBy hb none) (by simp))
   replace T5 := Lib.hid (Three.below T5.out hb T5.out.lt)
   replace T7 := Lib.hid (Three.below T7.out hb T7.out.lt)
   replace OA := Lib.hid (OA.out.below hb)
   replace OX := Lib.hid (OX.out.below hb)
   replace OY := Lib.hid (OY.out.below hb)
   replace Z := Lib.hid (Below.and Z.out hb)
   clear hb
   obtain ⟨xp0, xp1, xp2⟩ := T3.out.cells
   have xpl := T3.out.lt
   obtain ⟨xq0, xq1, xq2⟩ := T5.out.cells
   have xql := T5.out.lt
   obtain ⟨xu0, xu1, xu2⟩ := T7.out.cells
   have xul := T7.out.lt
   go_wp2_with (fail)
   have hs := implAheadOk D1 d T1 t D T k q1 (by omega) (by omega) OA.out.rd.1 OA.out.rd.2
   rw [HOK.out] at hs
   refine hs.mono ?_
   clear hs
   rintro e q2 ⟨rfl, hb⟩
   clear xp0 xp1 xp2 xpl xq0 xq1 xq2 xql xu0 xu1 xu2 xul
   replace T3 := Lib.hid (Three.below T3.out hb T3.out.lt)
   replace F4 := Lib.hid (F4.out.grown (Below.grownBy hb none) (by simp))
   replace T5 := Lib.hid (Three.below T5.out hb T5.out.lt)
   replace T7 := Lib.hid (Three.below T7.out hb T7.out.lt)
   replace OA := Lib.hid (OA.out.below hb)
   replace OX := Lib.hid (OX.out.below hb)
   replace OY := Lib.hid (OY.out.below hb)
   replace Z := Lib.hid (Below.and Z.out hb)
   clear hb
   go_upto_region 10 with (fail)
   obtain ⟨w8, hw8⟩ : ∃ Y, Y = q2 := ⟨_, rfl⟩
   rw [← hw8] at T3 F4 T5 T7 OA OX OY Z ⊢
   clear hw8
   clear T7 OY
   go_cut [9, 10] from 13 (fun s9 s10 wc => ∃ p9 A9 a9 B9 b9 C9 c9, s9 = .pointer (some ⟨p9, 0, none⟩) ∧ s10 = .int .i64 Y.2 ∧ Hid (Three wc p9 30 (.slice A9 Y.1.1.length a9) (.slice B9 Y.1.2.1.length b9) (.slice C9 Y.1.2.2.length c9)) ∧ Hid (RdG wc wc.heap.size A9 B9 C9 Y.1.1 Y.1.2.1 Y.1.2.2) ∧ Hid (Below w8.heap.size w8 wc))
   case first =>
    obtain ⟨xp0, xp1, xp2⟩ := T3.out.cells
    have xpl := T3.out.lt
    obtain ⟨xf0, xf1, xf2, xf3, xf4⟩ := F4.out.cells
    have xfl := F4.out.lt
    refine wp_region_held_drew (S := fun WS => Below w8.heap.size w8 WS) (by kernel_rfl) ((Below.refl _ _).drew) (fun hS0 => ?_)
    have HS : Hid (Below w8.heap.size w8 w8.drew) := (Below.refl _ _).drew
    obtain ⟨s0, hs0⟩ : ∃ X, X = w8.drew := ⟨_, rfl⟩
    rw [← hs0] at hS0 HS ⊢
    clear hs0
    refine tkI 0 61 (v := ?_) rfl rfl ?_ ?_
    rotate_left
    · intro wS hSw; obtain ⟨hcS, hfS⟩ := bcell hSw; go_simp; (try with_reducible rfl)
    (try simp only [Act.put, pu1, pu2, pu3])
    refine tkI 2 63 (v := ?_) rfl rfl ?_ ?_
    rotate_left
    · intro wS hSw; obtain ⟨hcS, hfS⟩ := bcell hSw; go_simp; (try with_reducible rfl)
    (try simp only [Act.put, pu1, pu2, pu3])
    refine wpAnyH_ready (rs := [1, 7]) (by kernel_rfl) (by simp) ?_
    refine AllReadyH.cons rfl (fun KK hK => ?_) (AllReadyH.cons rfl (fun KK hK => ?_) AllReadyH.nil)
    · go_simp
      have hs := implAheadSure D1 d T1 t D T k s0 (by omega) (by omega) (OA.out.rdAc.below HS.out)
      rw [HG.out] at hs
      refine hs.mono ?_
      clear hs
      unfold AgI
      rintro e s1 ⟨A8, a8, B8, b8, C8, c8, rfl, g8, hb⟩
      have G8 := Lib.hid g8
      clear g8
      replace HS := Lib.hid (Below.and HS.out hb)
      clear hb
      refine hK.out _ _ HS.out (fun hS1 => ?_)
      clear hK KK
      (try simp only [Act.put, pu1, pu2, pu3])
      refine wpAnyH_ready (rs := [3, 7]) (by kernel_rfl) (by simp) ?_
      refine AllReadyH.cons rfl (fun KK hK => ?_) (AllReadyH.cons rfl (fun KK hK => ?_) AllReadyH.nil)
      · go_simp
        have hs := implGameDo A8 a8 B8 b8 C8 c8 G.1 G.2.1 G.2.2 r s1 (by omega) (by omega) (by omega) G8.out.gmR
        rw [HY.out] at hs
        refine hs.mono ?_
        clear hs
        unfold DoI
        rintro e s2 ⟨A9, a9, B9, b9, C9, c9, rfl, g9, hb⟩
        have G9 := Lib.hid g9
        clear g9
        replace HS := Lib.hid (Below.and HS.out hb)
        replace G8 := Lib.hid (G8.out.below hb)
        clear hb
        refine hK.out _ _ HS.out (fun hS2 => ?_)
        clear hK KK
        (try simp only [Act.put, pu1, pu2, pu3])
        refine tkI 4 60 (v := ?_) rfl rfl ?_ ?_
        rotate_left
        · intro wS hSw; obtain ⟨hcS, hfS⟩ := bcell hSw; go_simp; (try with_reducible rfl)
        (try simp only [Act.put, pu1, pu2, pu3])
        refine tkI 5 65 (v := ?_) rfl rfl ?_ ?_
        rotate_left
        · intro wS hSw; obtain ⟨hcS, hfS⟩ := bcell hSw; go_simp; (try with_reducible rfl)
        (try simp only [Act.put, pu1, pu2, pu3])
        refine tkI 6 66 (v := ?_) rfl rfl ?_ ?_
        rotate_left
        · intro wS hSw; obtain ⟨hcS, hfS⟩ := bcell hSw; go_simp; (try with_reducible rfl)
        (try simp only [Act.put, pu1, pu2, pu3])
        refine wpAnyH_ready (rs := [7]) (by kernel_rfl) (by simp) ?_
        refine AllReadyH.cons rfl (fun KK hK => ?_) AllReadyH.nil
        go_simp
        have hb : Below s2.heap.size s2 (s2.alloc (.cells #[.slice none 0 0, .slice none 0 0, .slice none 0 0] 30)) := (Below.refl _ _).alloc (Nat.le_refl _) _
        have TZ := Lib.hid (Three.new (u0 := .slice none 0 0) (u1 := .slice none 0 0) (u2 := .slice none 0 0) (t := 30) s2)
        have LZ : Hid (w8.heap.size ≤ s2.heap.size) := HS.out.size
        obtain ⟨s3, hs3⟩ : ∃ X, X = s2.alloc (.cells #[.slice none 0 0, .slice none 0 0, .slice none 0 0] 30) := ⟨_, rfl⟩
        rw [← hs3] at hb TZ ⊢
        clear hs3
        obtain ⟨p9, hp9⟩ : ∃ X, X = s2.heap.size := ⟨_, rfl⟩
        rw [← hp9] at TZ LZ ⊢
        clear hp9
        replace HS := Lib.hid (Below.and HS.out hb)
        replace G8 := Lib.hid (G8.out.below hb)
        replace G9 := Lib.hid (G9.out.below hb)
        clear hb
        refine hK.out _ _ HS.out (fun hS3 => ?_)
        clear hK KK
        (try simp only [Act.put, pu1, pu2, pu3])
        refine wpAnyH_ready (rs := [8]) (by kernel_rfl) (by simp) ?_
        refine AllReadyH.cons rfl (fun KK hK => ?_) AllReadyH.nil
        obtain ⟨z0, z1, z2⟩ := TZ.out.cells
        have zf := TZ.out.frozen
        unfold gameV
        go_simp
        clear z0 z1 z2 zf
        have l9 := LZ.out
        have hS : Below w8.heap.size w8 _ := ((HS.out.setCell (p := ⟨p9, 0, none⟩) l9 (.slice A9 Y.1.1.length a9)).setCell (p := ⟨p9, 1, none⟩) l9 (.slice B9 Y.1.2.1.length b9)).setCell (p := ⟨p9, 2, none⟩) l9 (.slice C9 Y.1.2.2.length c9)
        have T9 := Lib.hid (((TZ.out.set0 (.slice A9 Y.1.1.length a9)).set1 (.slice B9 Y.1.2.1.length b9)).set2 (.slice C9 Y.1.2.2.length c9))
        replace G9 := Lib.hid (((G9.out.box TZ.out 0 (.slice A9 Y.1.1.length a9)).box (TZ.out.set0 _) 1 (.slice B9 Y.1.2.1.length b9)).box ((TZ.out.set0 _).set1 _) 2 (.slice C9 Y.1.2.2.length c9))
        obtain ⟨s4, hs4⟩ : ∃ X, X = (((s3.setCell ⟨p9, 0, none⟩ (.slice A9 Y.1.1.length a9)).setCell ⟨p9, 1, none⟩ (.slice B9 Y.1.2.1.length b9)).setCell ⟨p9, 2, none⟩ (.slice C9 Y.1.2.2.length c9)) := ⟨_, rfl⟩
        rw [← hs4] at hS T9 G9 ⊢
        clear hs4 l9 TZ LZ
        replace HS := Lib.hid (hS)
        clear hS
        refine hK.out _ _ HS.out (fun hS4 => ?_)
        clear hK KK
        (try simp only [Act.put, pu1, pu2, pu3])
        refine tkI 9 10 (v := ?_) rfl rfl ?_ ?_
        rotate_left
        · intro wS hSw; obtain ⟨hcS, hfS⟩ := bcell hSw; go_simp; (try with_reducible rfl)
        (try simp only [Act.put, pu1, pu2, pu3])
        refine wpAnyH_done (by kernel_rfl) ?_ _
        have HSb := HS
        have G9r := Lib.hid G9.out.gmR.rd
        go_wp2_with (fail)
        go_meet
        case rel => exact ⟨p9, A9, a9, B9, b9, C9, c9, rfl, rfl, T9, G9r, HSb⟩
      · go_simp
        have hb : Below s1.heap.size s1 (s1.alloc (.cells #[.slice none 0 0, .slice none 0 0, .slice none 0 0] 30)) := (Below.refl _ _).alloc (Nat.le_refl _) _
        have TZ := Lib.hid (Three.new (u0 := .slice none 0 0) (u1 := .slice none 0 0) (u2 := .slice none 0 0) (t := 30) s1)
        have LZ : Hid (w8.heap.size ≤ s1.heap.size) := HS.out.size
        obtain ⟨s2, hs2⟩ : ∃ X, X = s1.alloc (.cells #[.slice none 0 0, .slice none 0 0, .slice none 0 0] 30) := ⟨_, rfl⟩
        rw [← hs2] at hb TZ ⊢
        clear hs2
        obtain ⟨p9, hp9⟩ : ∃ X, X = s1.heap.size := ⟨_, rfl⟩
        rw [← hp9] at TZ LZ ⊢
        clear hp9
        replace HS := Lib.hid (Below.and HS.out hb)
        replace G8 := Lib.hid (G8.out.below hb)
        clear hb
        refine hK.out _ _ HS.out (fun hS2 => ?_)
        clear hK KK
        (try simp only [Act.put, pu1, pu2, pu3])
        refine wpAnyH_ready (rs := [3]) (by kernel_rfl) (by simp) ?_
        refine AllReadyH.cons rfl (fun KK hK => ?_) AllReadyH.nil
        go_simp
        have hs := implGameDo A8 a8 B8 b8 C8 c8 G.1 G.2.1 G.2.2 r s2 (by omega) (by omega) (by omega) G8.out.gmR
        rw [HY.out] at hs
        refine hs.mono ?_
        clear hs
        unfold DoI
        rintro e s3 ⟨A9, a9, B9, b9, C9, c9, rfl, g9, hb⟩
        have G9 := Lib.hid g9
        clear g9
        replace HS := Lib.hid (Below.and HS.out hb)
        replace G8 := Lib.hid (G8.out.below hb)
        replace TZ := Lib.hid (Three.below TZ.out hb TZ.out.lt)
        clear hb
        refine hK.out _ _ HS.out (fun hS3 => ?_)
        clear hK KK
        (try simp only [Act.put, pu1, pu2, pu3])
        refine tkI 4 60 (v := ?_) rfl rfl ?_ ?_
        rotate_left
        · intro wS hSw; obtain ⟨hcS, hfS⟩ := bcell hSw; go_simp; (try with_reducible rfl)
        (try simp only [Act.put, pu1, pu2, pu3])
        refine tkI 5 65 (v := ?_) rfl rfl ?_ ?_
        rotate_left
        · intro wS hSw; obtain ⟨hcS, hfS⟩ := bcell hSw; go_simp; (try with_reducible rfl)
        (try simp only [Act.put, pu1, pu2, pu3])
        refine tkI 6 66 (v := ?_) rfl rfl ?_ ?_
        rotate_left
        · intro wS hSw; obtain ⟨hcS, hfS⟩ := bcell hSw; go_simp; (try with_reducible rfl)
        (try simp only [Act.put, pu1, pu2, pu3])
        refine wpAnyH_ready (rs := [8]) (by kernel_rfl) (by simp) ?_
        refine AllReadyH.cons rfl (fun KK hK => ?_) AllReadyH.nil
        obtain ⟨z0, z1, z2⟩ := TZ.out.cells
        have zf := TZ.out.frozen
        unfold gameV
        go_simp
        clear z0 z1 z2 zf
        have l9 := LZ.out
        have hS : Below w8.heap.size w8 _ := ((HS.out.setCell (p := ⟨p9, 0, none⟩) l9 (.slice A9 Y.1.1.length a9)).setCell (p := ⟨p9, 1, none⟩) l9 (.slice B9 Y.1.2.1.length b9)).setCell (p := ⟨p9, 2, none⟩) l9 (.slice C9 Y.1.2.2.length c9)
        have T9 := Lib.hid (((TZ.out.set0 (.slice A9 Y.1.1.length a9)).set1 (.slice B9 Y.1.2.1.length b9)).set2 (.slice C9 Y.1.2.2.length c9))
        replace G9 := Lib.hid (((G9.out.box TZ.out 0 (.slice A9 Y.1.1.length a9)).box (TZ.out.set0 _) 1 (.slice B9 Y.1.2.1.length b9)).box ((TZ.out.set0 _).set1 _) 2 (.slice C9 Y.1.2.2.length c9))
        obtain ⟨s4, hs4⟩ : ∃ X, X = (((s3.setCell ⟨p9, 0, none⟩ (.slice A9 Y.1.1.length a9)).setCell ⟨p9, 1, none⟩ (.slice B9 Y.1.2.1.length b9)).setCell ⟨p9, 2, none⟩ (.slice C9 Y.1.2.2.length c9)) := ⟨_, rfl⟩
        rw [← hs4] at hS T9 G9 ⊢
        clear hs4 l9 TZ LZ
        replace HS := Lib.hid (hS)
        clear hS
        refine hK.out _ _ HS.out (fun hS4 => ?_)
        clear hK KK
        (try simp only [Act.put, pu1, pu2, pu3])
        refine tkI 9 10 (v := ?_) rfl rfl ?_ ?_
        rotate_left
        · intro wS hSw; obtain ⟨hcS, hfS⟩ := bcell hSw; go_simp; (try with_reducible rfl)
        (try simp only [Act.put, pu1, pu2, pu3])
        refine wpAnyH_done (by kernel_rfl) ?_ _
        have HSb := HS
        have G9r := Lib.hid G9.out.gmR.rd
        go_wp2_with (fail)
        go_meet
        case rel => exact ⟨p9, A9, a9, B9, b9, C9, c9, rfl, rfl, T9, G9r, HSb⟩
    · go_simp
      have hb : Below s0.heap.size s0 (s0.alloc (.cells #[.slice none 0 0, .slice none 0 0, .slice none 0 0] 30)) := (Below.refl _ _).alloc (Nat.le_refl _) _
      have TZ := Lib.hid (Three.new (u0 := .slice none 0 0) (u1 := .slice none 0 0) (u2 := .slice none 0 0) (t := 30) s0)
      have LZ : Hid (w8.heap.size ≤ s0.heap.size) := HS.out.size
      obtain ⟨s1, hs1⟩ : ∃ X, X = s0.alloc (.cells #[.slice none 0 0, .slice none 0 0, .slice none 0 0] 30) := ⟨_, rfl⟩
      rw [← hs1] at hb TZ ⊢
      clear hs1
      obtain ⟨p9, hp9⟩ : ∃ X, X = s0.heap.size := ⟨_, rfl⟩
      rw [← hp9] at TZ LZ ⊢
      clear hp9
      replace HS := Lib.hid (Below.and HS.out hb)
      clear hb
      refine hK.out _ _ HS.out (fun hS1 => ?_)
      clear hK KK
      (try simp only [Act.put, pu1, pu2, pu3])
      refine wpAnyH_ready (rs := [1]) (by kernel_rfl) (by simp) ?_
      refine AllReadyH.cons rfl (fun KK hK => ?_) AllReadyH.nil
      go_simp
      have hs := implAheadSure D1 d T1 t D T k s1 (by omega) (by omega) (OA.out.rdAc.below HS.out)
      rw [HG.out] at hs
      refine hs.mono ?_
      clear hs
      unfold AgI
      rintro e s2 ⟨A8, a8, B8, b8, C8, c8, rfl, g8, hb⟩
      have G8 := Lib.hid g8
      clear g8
      replace HS := Lib.hid (Below.and HS.out hb)
      replace TZ := Lib.hid (Three.below TZ.out hb TZ.out.lt)
      clear hb
      refine hK.out _ _ HS.out (fun hS2 => ?_)
      clear hK KK
      (try simp only [Act.put, pu1, pu2, pu3])
      refine wpAnyH_ready (rs := [3]) (by kernel_rfl) (by simp) ?_
      refine AllReadyH.cons rfl (fun KK hK => ?_) AllReadyH.nil
      go_simp
      have hs := implGameDo A8 a8 B8 b8 C8 c8 G.1 G.2.1 G.2.2 r s2 (by omega) (by omega) (by omega) G8.out.gmR
      rw [HY.out] at hs
      refine hs.mono ?_
      clear hs
      unfold DoI
      rintro e s3 ⟨A9, a9, B9, b9, C9, c9, rfl, g9, hb⟩
      have G9 := Lib.hid g9
      clear g9
      replace HS := Lib.hid (Below.and HS.out hb)
      replace TZ := Lib.hid (Three.below TZ.out hb TZ.out.lt)
      replace G8 := Lib.hid (G8.out.below hb)
      clear hb
      refine hK.out _ _ HS.out (fun hS3 => ?_)
      clear hK KK
      (try simp only [Act.put, pu1, pu2, pu3])
      refine tkI 4 60 (v := ?_) rfl rfl ?_ ?_
      rotate_left
      · intro wS hSw; obtain ⟨hcS, hfS⟩ := bcell hSw; go_simp; (try with_reducible rfl)
      (try simp only [Act.put, pu1, pu2, pu3])
      refine tkI 5 65 (v := ?_) rfl rfl ?_ ?_
      rotate_left
      · intro wS hSw; obtain ⟨hcS, hfS⟩ := bcell hSw; go_simp; (try with_reducible rfl)
      (try simp only [Act.put, pu1, pu2, pu3])
      refine tkI 6 66 (v := ?_) rfl rfl ?_ ?_
      rotate_left
      · intro wS hSw; obtain ⟨hcS, hfS⟩ := bcell hSw; go_simp; (try with_reducible rfl)
      (try simp only [Act.put, pu1, pu2, pu3])
      refine wpAnyH_ready (rs := [8]) (by kernel_rfl) (by simp) ?_
      refine AllReadyH.cons rfl (fun KK hK => ?_) AllReadyH.nil
      obtain ⟨z0, z1, z2⟩ := TZ.out.cells
      have zf := TZ.out.frozen
      unfold gameV
      go_simp
      clear z0 z1 z2 zf
      have l9 := LZ.out
      have hS : Below w8.heap.size w8 _ := ((HS.out.setCell (p := ⟨p9, 0, none⟩) l9 (.slice A9 Y.1.1.length a9)).setCell (p := ⟨p9, 1, none⟩) l9 (.slice B9 Y.1.2.1.length b9)).setCell (p := ⟨p9, 2, none⟩) l9 (.slice C9 Y.1.2.2.length c9)
      have T9 := Lib.hid (((TZ.out.set0 (.slice A9 Y.1.1.length a9)).set1 (.slice B9 Y.1.2.1.length b9)).set2 (.slice C9 Y.1.2.2.length c9))
      replace G9 := Lib.hid (((G9.out.box TZ.out 0 (.slice A9 Y.1.1.length a9)).box (TZ.out.set0 _) 1 (.slice B9 Y.1.2.1.length b9)).box ((TZ.out.set0 _).set1 _) 2 (.slice C9 Y.1.2.2.length c9))
      obtain ⟨s4, hs4⟩ : ∃ X, X = (((s3.setCell ⟨p9, 0, none⟩ (.slice A9 Y.1.1.length a9)).setCell ⟨p9, 1, none⟩ (.slice B9 Y.1.2.1.length b9)).setCell ⟨p9, 2, none⟩ (.slice C9 Y.1.2.2.length c9)) := ⟨_, rfl⟩
      rw [← hs4] at hS T9 G9 ⊢
      clear hs4 l9 TZ LZ
      replace HS := Lib.hid (hS)
      clear hS
      refine hK.out _ _ HS.out (fun hS4 => ?_)
      clear hK KK
      (try simp only [Act.put, pu1, pu2, pu3])
      refine tkI 9 10 (v := ?_) rfl rfl ?_ ?_
      rotate_left
      · intro wS hSw; obtain ⟨hcS, hfS⟩ := bcell hSw; go_simp; (try with_reducible rfl)
      (try simp only [Act.put, pu1, pu2, pu3])
      refine wpAnyH_done (by kernel_rfl) ?_ _
      have HSb := HS
      have G9r := Lib.hid G9.out.gmR.rd
      go_wp2_with (fail)
      go_meet
      case rel => exact ⟨p9, A9, a9, B9, b9, C9, c9, rfl, rfl, T9, G9r, HSb⟩
   case rest =>
    obtain ⟨p9, A9, a9, B9, b9, C9, c9, rfl, rfl, T9, G9, HBC⟩ := hcut
    replace T3 := Lib.hid (Three.below T3.out HBC.out T3.out.lt)
    replace F4 := Lib.hid (F4.out.grown (Below.grownBy HBC.out none) (by simp))
    replace T5 := Lib.hid (Three.below T5.out HBC.out T5.out.lt)
    replace OA := Lib.hid (OA.out.below HBC.out)
    replace OX := Lib.hid (OX.out.below HBC.out)
    replace Z := Lib.hid (Below.and Z.out HBC.out)
    clear HBC
    obtain ⟨w9, hw9⟩ : ∃ Y, Y = wc := ⟨_, rfl⟩
    rw [← hw9] at T3 F4 T5 OA OX Z T9 G9 ⊢
    clear hw9
    go_upto_region 11 with (fail)
    go_cut [11] from 13 (fun s11 wc => s11 = .bool fst ∧ Hid (Below w9.heap.size w9 wc))
    case first =>
     obtain ⟨xp0, xp1, xp2⟩ := T3.out.cells
     have xpl := T3.out.lt
     obtain ⟨xf0, xf1, xf2, xf3, xf4⟩ := F4.out.cells
     have xfl := F4.out.lt
     by_cases h0 : 0 < T.length
     · have e0 : decide ((0 : Int) < (T.length : Int)) = true := decide_eq_true (by omega)
       obtain ⟨gT, oT, rfl, ca⟩ := OA.out.rdA.t 0 h0
       have HFB : Hid (decide (T[0] = r) = fst) := by
        show _ = _
        rw [HFI.out]
        exact fst_eq h0
       generalize T[0] = r0 at ca HFB
       have xr0 : w9.cell? ⟨gT, oT, none⟩ = some (.int .i64 r0.c) := by simpa using ca 0 _ rfl
       have xr1 : w9.cell? ⟨gT, oT + 1, none⟩ = some (.int .i64 r0.n) := by simpa using ca 1 _ rfl
       have xr2 : w9.cell? ⟨gT, oT + 2, none⟩ = some (.int .i64 r0.o) := by simpa using ca 2 _ rfl
       have xr3 : w9.cell? ⟨gT, oT + 3, none⟩ = some (.int .i64 r0.x) := by simpa using ca 3 _ rfl
       have xr4 : w9.cell? ⟨gT, oT + 4, none⟩ = some (.int .i64 r0.y) := by simpa using ca 4 _ rfl
       have xrg : gT < w9.heap.size := World.block_lt_of_cell? w9 _ xr0
       clear ca
       have i1 : (0 : Int) < (T.length : Int) := by omega
       have hq : ∀ W, (binOp .eql 37 (.agg #[.int .i64 r0.c, .int .i64 r0.n, .int .i64 r0.o, .int .i64 r0.x, .int .i64 r0.y]) (.agg #[.int .i64 r.c, .int .i64 r.n, .int .i64 r.o, .int .i64 r.x, .int .i64 r.y])).run Try.prog W = .ok (.bool (decide (r0 = r))) W := fun W => eqlReq r0 r W
       rw [HFB.out] at hq
       clear HFB
       refine wp_region_held_drew (S := fun WS => Below w9.heap.size w9 WS) (by kernel_rfl) ((Below.refl _ _).drew) (fun hS0 => ?_)
       have HS : Hid (Below w9.heap.size w9 w9.drew) := (Below.refl _ _).drew
       obtain ⟨t0, ht0⟩ : ∃ X, X = w9.drew := ⟨_, rfl⟩
       rw [← ht0] at hS0 HS ⊢
       clear ht0
       refine tkI 0 67 (v := ?_) rfl rfl ?_ ?_
       rotate_left
       · intro wS hSw; obtain ⟨hcS, hfS⟩ := bcell hSw; go_simp; (try with_reducible rfl)
       (try simp only [Act.put, pu1, pu2, pu3])
       refine tkI 1 68 (v := ?_) rfl rfl ?_ ?_
       rotate_left
       · intro wS hSw; obtain ⟨hcS, hfS⟩ := bcell hSw; go_simp; (try with_reducible rfl)
       (try simp only [Act.put, pu1, pu2, pu3])
       refine tkI 2 69 (v := ?_) rfl rfl ?_ ?_
       rotate_left
       · intro wS hSw; obtain ⟨hcS, hfS⟩ := bcell hSw; go_simp; (try with_reducible rfl)
       (try simp only [Act.put, pu1, pu2, pu3])
       refine tkI 3 70 (v := ?_) rfl rfl ?_ ?_
       rotate_left
       · intro wS hSw; obtain ⟨hcS, hfS⟩ := bcell hSw; go_simp; (try with_reducible rfl)
       (try simp only [Act.put, pu1, pu2, pu3])
       refine tkI 4 71 (v := ?_) rfl rfl ?_ ?_
       rotate_left
       · intro wS hSw; obtain ⟨hcS, hfS⟩ := bcell hSw; go_simp; (try with_reducible rfl)
       (try simp only [Act.put, pu1, pu2, pu3])
       refine tkI 5 72 (v := ?_) rfl rfl ?_ ?_
       rotate_left
       · intro wS hSw; obtain ⟨hcS, hfS⟩ := bcell hSw; go_simp; (try with_reducible rfl)
       (try simp only [Act.put, pu1, pu2, pu3])
       refine tkI 6 73 (v := ?_) rfl rfl ?_ ?_
       rotate_left
       · intro wS hSw; obtain ⟨hcS, hfS⟩ := bcell hSw; go_simp; (try with_reducible rfl)
       (try simp only [Act.put, pu1, pu2, pu3])
       refine tkI 7 74 (v := ?_) rfl rfl ?_ ?_
       rotate_left
       · intro wS hSw; obtain ⟨hcS, hfS⟩ := bcell hSw; go_simp; (try with_reducible rfl)
       (try simp only [Act.put, pu1, pu2, pu3])
       refine tkI 8 75 (v := ?_) rfl rfl ?_ ?_
       rotate_left
       · intro wS hSw; obtain ⟨hcS, hfS⟩ := bcell hSw; go_simp; (try with_reducible rfl)
       (try simp only [Act.put, pu1, pu2, pu3])
       refine tkI 9 76 (v := ?_) rfl rfl ?_ ?_
       rotate_left
       · intro wS hSw; obtain ⟨hcS, hfS⟩ := bcell hSw; go_simp; (try with_reducible rfl)
       (try simp only [Act.put, pu1, pu2, pu3])
       refine tkI 10 77 (v := ?_) rfl rfl ?_ ?_
       rotate_left
       · intro wS hSw; obtain ⟨hcS, hfS⟩ := bcell hSw; go_simp; (try with_reducible rfl)
       (try simp only [Act.put, pu1, pu2, pu3])
       refine tkI 11 78 (v := ?_) rfl rfl ?_ ?_
       rotate_left
       · intro wS hSw; obtain ⟨hcS, hfS⟩ := bcell hSw; go_simp; (try with_reducible rfl)
       (try simp only [Act.put, pu1, pu2, pu3])
       refine tkI 12 11 (v := ?_) rfl rfl ?_ ?_
       rotate_left
       · intro wS hSw; obtain ⟨hcS, hfS⟩ := bcell hSw; go_simp; (try with_reducible rfl)
       (try simp only [Act.put, pu1, pu2, pu3])
       refine wpAnyH_done (by kernel_rfl) ?_ _
       have HSb := HS
       go_wp2_with (fail)
       go_meet
       case rel => exact ⟨rfl, HSb⟩
     · have e0 : decide ((0 : Int) < (T.length : Int)) = false := decide_eq_false (by omega)
       have HFB : Hid (false = fst) := by
        show _ = _
        rw [HFI.out]
        exact fst_no h0
       refine wp_region_held_drew (S := fun WS => Below w9.heap.size w9 WS) (by kernel_rfl) ((Below.refl _ _).drew) (fun hS0 => ?_)
       have HS : Hid (Below w9.heap.size w9 w9.drew) := (Below.refl _ _).drew
       obtain ⟨t0, ht0⟩ : ∃ X, X = w9.drew := ⟨_, rfl⟩
       rw [← ht0] at hS0 HS ⊢
       clear ht0
       refine tkI 0 67 (v := ?_) rfl rfl ?_ ?_
       rotate_left
       · intro wS hSw; obtain ⟨hcS, hfS⟩ := bcell hSw; go_simp; (try with_reducible rfl)
       (try simp only [Act.put, pu1, pu2, pu3])
       refine tkI 1 68 (v := ?_) rfl rfl ?_ ?_
       rotate_left
       · intro wS hSw; obtain ⟨hcS, hfS⟩ := bcell hSw; go_simp; (try with_reducible rfl)
       (try simp only [Act.put, pu1, pu2, pu3])
       refine tkI 2 69 (v := ?_) rfl rfl ?_ ?_
       rotate_left
       · intro wS hSw; obtain ⟨hcS, hfS⟩ := bcell hSw; go_simp; (try with_reducible rfl)
       (try simp only [Act.put, pu1, pu2, pu3])
       refine tkI 3 70 (v := ?_) rfl rfl ?_ ?_
       rotate_left
       · intro wS hSw; obtain ⟨hcS, hfS⟩ := bcell hSw; go_simp; (try with_reducible rfl)
       (try simp only [Act.put, pu1, pu2, pu3])
       refine tkI 4 71 (v := ?_) rfl rfl ?_ ?_
       rotate_left
       · intro wS hSw; obtain ⟨hcS, hfS⟩ := bcell hSw; go_simp; (try with_reducible rfl)
       (try simp only [Act.put, pu1, pu2, pu3])
       refine tkD 5 72 (v := undef) rfl rfl (Or.inr ⟨by rfl, by rfl⟩) (by assumption) ?_
       (try simp only [Act.put, pu1, pu2, pu3])
       refine tkD 6 73 (v := undef) rfl rfl (Or.inr ⟨by rfl, by rfl⟩) (by assumption) ?_
       (try simp only [Act.put, pu1, pu2, pu3])
       refine tkD 7 74 (v := undef) rfl rfl (Or.inr ⟨by rfl, by rfl⟩) (by assumption) ?_
       (try simp only [Act.put, pu1, pu2, pu3])
       refine tkD 8 75 (v := undef) rfl rfl (Or.inr ⟨by rfl, by rfl⟩) (by assumption) ?_
       (try simp only [Act.put, pu1, pu2, pu3])
       refine tkD 9 76 (v := undef) rfl rfl (Or.inr ⟨by rfl, by rfl⟩) (by assumption) ?_
       (try simp only [Act.put, pu1, pu2, pu3])
       refine tkD 10 77 (v := undef) rfl rfl (Or.inr ⟨by rfl, by rfl⟩) (by assumption) ?_
       (try simp only [Act.put, pu1, pu2, pu3])
       refine tkI 11 78 (v := ?_) rfl rfl ?_ ?_
       rotate_left
       · intro wS hSw; obtain ⟨hcS, hfS⟩ := bcell hSw; go_simp; (try with_reducible rfl)
       (try simp only [Act.put, pu1, pu2, pu3])
       refine tkI 12 11 (v := ?_) rfl rfl ?_ ?_
       rotate_left
       · intro wS hSw; obtain ⟨hcS, hfS⟩ := bcell hSw; go_simp; (try with_reducible rfl)
       (try simp only [Act.put, pu1, pu2, pu3])
       refine wpAnyH_done (by kernel_rfl) ?_ _
       have HSb := HS
       go_wp2_with (fail)
       go_meet
       case rel => exact ⟨by rw [HFB.out], HSb⟩
    case rest =>
     obtain ⟨rfl, HBC⟩ := hcut
     replace T3 := Lib.hid (Three.below T3.out HBC.out T3.out.lt)
     replace F4 := Lib.hid (F4.out.grown (Below.grownBy HBC.out none) (by simp))
     replace T5 := Lib.hid (Three.below T5.out HBC.out T5.out.lt)
     replace OA := Lib.hid (OA.out.below HBC.out)
     replace OX := Lib.hid (OX.out.below HBC.out)
     replace Z := Lib.hid (Below.and Z.out HBC.out)
     replace T9 := Lib.hid (Three.below T9.out HBC.out T9.out.lt)
     replace G9 := Lib.hid (G9.out.below HBC.out)
     clear HBC
     obtain ⟨wA, hwA⟩ : ∃ Y, Y = wc := ⟨_, rfl⟩
     rw [← hwA] at T3 F4 T5 OA OX Z T9 G9 ⊢
     clear hwA
     have xq0h := T5.out.cells.1
     obtain ⟨gD, oD, rfl, ca⟩ := OX.out.rdA.d D.length (by rw [HDX.out]; omega)
     have hcr : DX[D.length]'(by rw [HDX.out]; omega) = r := HLR.out _
     rw [hcr] at ca
     have xr0 : wA.cell? ⟨gD, oD + D.length * 5, none⟩ = some (.int .i64 r.c) := ca 0 _ rfl
     have xr1 : wA.cell? ⟨gD, oD + D.length * 5 + 1, none⟩ = some (.int .i64 r.n) := ca 1 _ rfl
     have xr2 : wA.cell? ⟨gD, oD + D.length * 5 + 2, none⟩ = some (.int .i64 r.o) := ca 2 _ rfl
     have xr3 : wA.cell? ⟨gD, oD + D.length * 5 + 3, none⟩ = some (.int .i64 r.x) := ca 3 _ rfl
     have xr4 : wA.cell? ⟨gD, oD + D.length * 5 + 4, none⟩ = some (.int .i64 r.y) := ca 4 _ rfl
     have xrg : gD < wA.heap.size := World.block_lt_of_cell? wA _ xr0
     clear ca hcr
     have hcap := OX.out.rdAc.cd
     have m0 : IntKind.i64.wrap ((DX.length : Int) - 1) = (D.length : Int) := by rw [show (DX.length : Int) - 1 = (D.length : Int) by have := HDX.out; omega]; exact IntWalk.i64_in _ (by omega)
     have m1 : (0 : Int) ≤ (D.length : Int) := by omega
     have m2 : (D.length : Int) < (DX.length : Int) := by have := HDX.out; omega
     have m3 : (D.length : Int) ≤ (a5 : Int) := by have := HDX.out; omega
     have hqr : ∀ W, (binOp .eql 37 (.agg #[.int .i64 r.c, .int .i64 r.n, .int .i64 r.o, .int .i64 r.x, .int .i64 r.y]) (.agg #[.int .i64 r.c, .int .i64 r.n, .int .i64 r.o, .int .i64 r.x, .int .i64 r.y])).run Try.prog W = .ok (.bool true) W := fun W => by have := eqlReq r r W; simpa using this
     have HRD := Lib.hid (show Rd 5 Rq.cells wA (some ⟨gD, oD, none⟩) D from Rd.prefix OX.out.rd.1 HPF.out)
     clear hcap
     go_upto_region 13 with (fail)
     clear xq0h
     rcases fst with _ | _
     · have kge : decide (k ≤ KX) = true := decide_eq_true HKG.out
       obtain ⟨xp0, xp1, xp2⟩ := T3.out.cells
       have xpl := T3.out.lt
       obtain ⟨xf0, xf1, xf2, xf3, xf4⟩ := F4.out.cells
       have xfl := F4.out.lt
       obtain ⟨xq0, xq1, xq2⟩ := T5.out.cells
       have xql := T5.out.lt
       obtain ⟨xu0, xu1, xu2⟩ := T9.out.cells
       have xul := T9.out.lt
       refine wp_region_held_drew (S := fun WS => Below wA.heap.size wA WS) (by kernel_rfl) ((Below.refl _ _).drew) (fun hS0 => ?_)
       have HS : Hid (Below wA.heap.size wA wA.drew) := (Below.refl _ _).drew
       obtain ⟨v0, hv0⟩ : ∃ X, X = wA.drew := ⟨_, rfl⟩
       rw [← hv0] at hS0 HS ⊢
       clear hv0
       refine tkI 0 82 (v := ?_) rfl rfl ?_ ?_
       rotate_left
       · intro wS hSw; obtain ⟨hcS, hfS⟩ := bcell hSw; go_simp; (try with_reducible rfl)
       (try simp only [Act.put, pu1, pu2, pu3])
       refine wpAnyH_ready (rs := [1]) (by kernel_rfl) (by simp) ?_
       refine AllReadyH.cons rfl (fun KK hK => ?_) AllReadyH.nil
       go_simp
       have hs := implAheadOk (some ⟨gD, oD, none⟩) a5 B5 b5 DX TX KX v0 (by omega) (by omega) (Rd.below OX.out.rd.1 HS.out) (Rd.below OX.out.rd.2 HS.out)
       rw [HOT.out] at hs
       refine hs.mono ?_
       clear hs
       rintro e v1 ⟨rfl, hb⟩
       replace HS := Lib.hid (Below.and HS.out hb)
       clear hb
       refine hK.out _ _ HS.out (fun hS1 => ?_)
       clear hK KK
       (try simp only [Act.put, pu1, pu2, pu3])
       refine tkI 2 84 (v := ?_) rfl rfl ?_ ?_
       rotate_left
       · intro wS hSw; obtain ⟨hcS, hfS⟩ := bcell hSw; go_simp; (try with_reducible rfl)
       (try simp only [Act.put, pu1, pu2, pu3])
       refine tkI 3 85 (v := ?_) rfl rfl ?_ ?_
       rotate_left
       · intro wS hSw; obtain ⟨hcS, hfS⟩ := bcell hSw; go_simp; (try with_reducible rfl)
       (try simp only [Act.put, pu1, pu2, pu3])
       refine tkI 5 87 (v := ?_) rfl rfl ?_ ?_
       rotate_left
       · intro wS hSw; obtain ⟨hcS, hfS⟩ := bcell hSw; go_simp; (try with_reducible rfl)
       (try simp only [Act.put, pu1, pu2, pu3])
       refine wpAnyH_ready (rs := [4]) (by kernel_rfl) (by simp) ?_
       refine AllReadyH.cons rfl (fun KK hK => ?_) AllReadyH.nil
       go_simp
       have hs := implAheadSure (some ⟨gD, oD, none⟩) a5 B5 b5 DX TX KX v1 (by omega) (by omega) (OX.out.rdAc.below HS.out)
       rw [HST.out] at hs
       refine hs.mono ?_
       clear hs
       unfold AgI
       rintro e v2 ⟨AC, ac, BC, bc, CC, cc, rfl, gC, hb⟩
       have GC := Lib.hid gC.gmR.rd
       clear gC
       replace HS := Lib.hid (Below.and HS.out hb)
       clear hb
       refine hK.out _ _ HS.out (fun hS2 => ?_)
       clear hK KK
       (try simp only [Act.put, pu1, pu2, pu3])
       refine wpAnyH_ready (rs := [6]) (by kernel_rfl) (by simp) ?_
       refine AllReadyH.cons rfl (fun KK hK => ?_) AllReadyH.nil
       go_simp
       refine (wpGame_rd GC.out (G9.out.below HS.out) HLY.out.1 HLY.out.2.1 HLY.out.2.2).mono ?_
       rintro e v3 ⟨rfl, hb⟩
       replace HS := Lib.hid (Below.and HS.out hb)
       replace GC := Lib.hid (GC.out.below hb)
       clear hb
       refine hK.out _ _ HS.out (fun hS3 => ?_)
       clear hK KK
       (try simp only [Act.put, pu1, pu2, pu3])
       refine tkI 7 89 (v := ?_) rfl rfl ?_ ?_
       rotate_left
       · intro wS hSw; obtain ⟨hcS, hfS⟩ := bcell hSw; go_simp; (try with_reducible rfl)
       (try simp only [Act.put, pu1, pu2, pu3])
       refine tkI 8 90 (v := ?_) rfl rfl ?_ ?_
       rotate_left
       · intro wS hSw; obtain ⟨hcS, hfS⟩ := bcell hSw; go_simp; (try with_reducible rfl)
       (try simp only [Act.put, pu1, pu2, pu3])
       refine tkI 9 91 (v := ?_) rfl rfl ?_ ?_
       rotate_left
       · intro wS hSw; obtain ⟨hcS, hfS⟩ := bcell hSw; go_simp; (try with_reducible rfl)
       (try simp only [Act.put, pu1, pu2, pu3])
       refine tkI 10 92 (v := ?_) rfl rfl ?_ ?_
       rotate_left
       · intro wS hSw; obtain ⟨hcS, hfS⟩ := bcell hSw; go_simp; (try with_reducible rfl)
       (try simp only [Act.put, pu1, pu2, pu3])
       refine tkI 11 93 (v := ?_) rfl rfl ?_ ?_
       rotate_left
       · intro wS hSw; obtain ⟨hcS, hfS⟩ := bcell hSw; go_simp; (try with_reducible rfl)
       (try simp only [Act.put, pu1, pu2, pu3])
       refine tkI 12 94 (v := ?_) rfl rfl ?_ ?_
       rotate_left
       · intro wS hSw; obtain ⟨hcS, hfS⟩ := bcell hSw; go_simp; (try with_reducible rfl)
       (try simp only [Act.put, pu1, pu2, pu3])
       refine tkI 13 95 (v := ?_) rfl rfl ?_ ?_
       rotate_left
       · intro wS hSw; obtain ⟨hcS, hfS⟩ := bcell hSw; go_simp; (try with_reducible rfl)
       (try simp only [Act.put, pu1, pu2, pu3])
       refine tkI 14 96 (v := ?_) rfl rfl ?_ ?_
       rotate_left
       · intro wS hSw; obtain ⟨hcS, hfS⟩ := bcell hSw; go_simp; (try with_reducible rfl)
       (try simp only [Act.put, pu1, pu2, pu3])
       refine tkI 15 97 (v := ?_) rfl rfl ?_ ?_
       rotate_left
       · intro wS hSw; obtain ⟨hcS, hfS⟩ := bcell hSw; go_simp; (try with_reducible rfl)
       (try simp only [Act.put, pu1, pu2, pu3])
       refine wpAnyH_ready (rs := [16]) (by kernel_rfl) (by simp) ?_
       refine AllReadyH.cons rfl (fun KK hK => ?_) AllReadyH.nil
       go_simp
       refine (wpReqsQ _ _ _ _ D v3 (by unfold maxLen; omega) (Rd.below HRD.out HS.out) (Rd.below OA.out.rd.1 HS.out)).mono ?_
       rintro e v4 ⟨rfl, hb⟩
       replace HS := Lib.hid (Below.and HS.out hb)
       replace GC := Lib.hid (GC.out.below hb)
       clear hb
       refine hK.out _ _ HS.out (fun hS4 => ?_)
       clear hK KK
       (try simp only [Act.put, pu1, pu2, pu3])
       refine tkI 17 99 (v := ?_) rfl rfl ?_ ?_
       rotate_left
       · intro wS hSw; obtain ⟨hcS, hfS⟩ := bcell hSw; go_simp; (try with_reducible rfl)
       (try simp only [Act.put, pu1, pu2, pu3])
       refine tkI 18 100 (v := ?_) rfl rfl ?_ ?_
       rotate_left
       · intro wS hSw; obtain ⟨hcS, hfS⟩ := bcell hSw; go_simp; (try with_reducible rfl)
       (try simp only [Act.put, pu1, pu2, pu3])
       refine tkI 19 101 (v := ?_) rfl rfl ?_ ?_
       rotate_left
       · intro wS hSw; obtain ⟨hcS, hfS⟩ := bcell hSw; go_simp; (try with_reducible rfl)
       (try simp only [Act.put, pu1, pu2, pu3])
       refine tkI 20 102 (v := ?_) rfl rfl ?_ ?_
       rotate_left
       · intro wS hSw; obtain ⟨hcS, hfS⟩ := bcell hSw; go_simp; (try with_reducible rfl)
       (try simp only [Act.put, pu1, pu2, pu3])
       refine tkI 21 103 (v := ?_) rfl rfl ?_ ?_
       rotate_left
       · intro wS hSw; obtain ⟨hcS, hfS⟩ := bcell hSw; go_simp; (try with_reducible rfl)
       (try simp only [Act.put, pu1, pu2, pu3])
       refine tkI 22 104 (v := ?_) rfl rfl ?_ ?_
       rotate_left
       · intro wS hSw; obtain ⟨hcS, hfS⟩ := bcell hSw; go_simp; (try with_reducible rfl)
       (try simp only [Act.put, pu1, pu2, pu3])
       refine tkI 23 105 (v := ?_) rfl rfl ?_ ?_
       rotate_left
       · intro wS hSw; obtain ⟨hcS, hfS⟩ := bcell hSw; go_simp; (try with_reducible rfl)
       (try simp only [Act.put, pu1, pu2, pu3])
       refine tkI 24 106 (v := ?_) rfl rfl ?_ ?_
       rotate_left
       · intro wS hSw; obtain ⟨hcS, hfS⟩ := bcell hSw; go_simp; (try with_reducible rfl)
       (try simp only [Act.put, pu1, pu2, pu3])
       refine tkI 25 107 (v := ?_) rfl rfl ?_ ?_
       rotate_left
       · intro wS hSw; obtain ⟨hcS, hfS⟩ := bcell hSw; go_simp; (try with_reducible rfl)
       (try simp only [Act.put, pu1, pu2, pu3])
       refine tkI 26 108 (v := ?_) rfl rfl ?_ ?_
       rotate_left
       · intro wS hSw; obtain ⟨hcS, hfS⟩ := bcell hSw; go_simp; (try with_reducible rfl)
       (try simp only [Act.put, pu1, pu2, pu3])
       refine tkI 27 109 (v := ?_) rfl rfl ?_ ?_
       rotate_left
       · intro wS hSw; obtain ⟨hcS, hfS⟩ := bcell hSw; go_simp; (try with_reducible rfl)
       (try simp only [Act.put, pu1, pu2, pu3])
       refine tkI 28 110 (v := ?_) rfl rfl ?_ ?_
       rotate_left
       · intro wS hSw; obtain ⟨hcS, hfS⟩ := bcell hSw; go_simp; (try with_reducible rfl)
       (try simp only [Act.put, pu1, pu2, pu3])
       refine tkI 29 111 (v := ?_) rfl rfl ?_ ?_
       rotate_left
       · intro wS hSw; obtain ⟨hcS, hfS⟩ := bcell hSw; go_simp; (try with_reducible rfl)
       (try simp only [Act.put, pu1, pu2, pu3])
       refine tkI 30 112 (v := ?_) rfl rfl ?_ ?_
       rotate_left
       · intro wS hSw; obtain ⟨hcS, hfS⟩ := bcell hSw; go_simp; (try with_reducible rfl)
       (try simp only [Act.put, pu1, pu2, pu3])
       refine tkI 31 113 (v := ?_) rfl rfl ?_ ?_
       rotate_left
       · intro wS hSw; obtain ⟨hcS, hfS⟩ := bcell hSw; go_simp; (try with_reducible rfl)
       (try simp only [Act.put, pu1, pu2, pu3])
       refine tkD 32 114 (v := undef) rfl rfl (Or.inr ⟨by rfl, by rfl⟩) (by assumption) ?_
       (try simp only [Act.put, pu1, pu2, pu3])
       refine tkD 33 115 (v := undef) rfl rfl (Or.inr ⟨by rfl, by rfl⟩) (by assumption) ?_
       (try simp only [Act.put, pu1, pu2, pu3])
       refine tkD 34 116 (v := undef) rfl rfl (Or.inr ⟨by rfl, by rfl⟩) (by assumption) ?_
       (try simp only [Act.put, pu1, pu2, pu3])
       refine tkD 35 117 (v := undef) rfl rfl (Or.inr ⟨by rfl, by rfl⟩) (by assumption) ?_
       (try simp only [Act.put, pu1, pu2, pu3])
       refine tkD 36 118 (v := undef) rfl rfl (Or.inr ⟨by rfl, by rfl⟩) (by assumption) ?_
       (try simp only [Act.put, pu1, pu2, pu3])
       refine tkD 37 119 (v := undef) rfl rfl (Or.inr ⟨by rfl, by rfl⟩) (by assumption) ?_
       (try simp only [Act.put, pu1, pu2, pu3])
       refine tkD 38 120 (v := undef) rfl rfl (Or.inr ⟨by rfl, by rfl⟩) (by assumption) ?_
       (try simp only [Act.put, pu1, pu2, pu3])
       refine tkD 39 121 (v := undef) rfl rfl (Or.inr ⟨by rfl, by rfl⟩) (by assumption) ?_
       (try simp only [Act.put, pu1, pu2, pu3])
       refine tkD 40 122 (v := undef) rfl rfl (Or.inr ⟨by rfl, by rfl⟩) (by assumption) ?_
       (try simp only [Act.put, pu1, pu2, pu3])
       refine tkD 41 123 (v := undef) rfl rfl (Or.inr ⟨by rfl, by rfl⟩) (by assumption) ?_
       (try simp only [Act.put, pu1, pu2, pu3])
       refine tkD 42 124 (v := undef) rfl rfl (Or.inr ⟨by rfl, by rfl⟩) (by assumption) ?_
       (try simp only [Act.put, pu1, pu2, pu3])
       refine tkD 43 125 (v := undef) rfl rfl (Or.inr ⟨by rfl, by rfl⟩) (by assumption) ?_
       (try simp only [Act.put, pu1, pu2, pu3])
       refine tkI 44 126 (v := ?_) rfl rfl ?_ ?_
       rotate_left
       · intro wS hSw; obtain ⟨hcS, hfS⟩ := bcell hSw; go_simp; (try with_reducible rfl)
       (try simp only [Act.put, pu1, pu2, pu3])
       refine tkI 45 127 (v := ?_) rfl rfl ?_ ?_
       rotate_left
       · intro wS hSw; obtain ⟨hcS, hfS⟩ := bcell hSw; go_simp; (try with_reducible rfl)
       (try simp only [Act.put, pu1, pu2, pu3])
       refine tkI 46 128 (v := ?_) rfl rfl ?_ ?_
       rotate_left
       · intro wS hSw; obtain ⟨hcS, hfS⟩ := bcell hSw; go_simp; (try with_reducible rfl)
       (try simp only [Act.put, pu1, pu2, pu3])
       refine tkI 47 129 (v := ?_) rfl rfl ?_ ?_
       rotate_left
       · intro wS hSw; obtain ⟨hcS, hfS⟩ := bcell hSw; go_simp; (try with_reducible rfl)
       (try simp only [Act.put, pu1, pu2, pu3])
       refine tkI 48 130 (v := ?_) rfl rfl ?_ ?_
       rotate_left
       · intro wS hSw; obtain ⟨hcS, hfS⟩ := bcell hSw; go_simp; (try with_reducible rfl)
       (try simp only [Act.put, pu1, pu2, pu3])
       refine tkI 49 131 (v := ?_) rfl rfl ?_ ?_
       rotate_left
       · intro wS hSw; obtain ⟨hcS, hfS⟩ := bcell hSw; go_simp; (try with_reducible rfl)
       (try simp only [Act.put, pu1, pu2, pu3])
       refine tkI 50 132 (v := ?_) rfl rfl ?_ ?_
       rotate_left
       · intro wS hSw; obtain ⟨hcS, hfS⟩ := bcell hSw; go_simp; (try with_reducible rfl)
       (try simp only [Act.put, pu1, pu2, pu3])
       refine tkI 51 133 (v := ?_) rfl rfl ?_ ?_
       rotate_left
       · intro wS hSw; obtain ⟨hcS, hfS⟩ := bcell hSw; go_simp; (try with_reducible rfl)
       (try simp only [Act.put, pu1, pu2, pu3])
       refine tkI 52 134 (v := ?_) rfl rfl ?_ ?_
       rotate_left
       · intro wS hSw; obtain ⟨hcS, hfS⟩ := bcell hSw; go_simp; (try with_reducible rfl)
       (try simp only [Act.put, pu1, pu2, pu3])
       refine tkI 53 2 (v := ?_) rfl rfl ?_ ?_
       rotate_left
       · intro wS hSw; obtain ⟨hcS, hfS⟩ := bcell hSw; go_simp; (try with_reducible rfl)
       (try simp only [Act.put, pu1, pu2, pu3])
       refine wpAnyH_done (by kernel_rfl) ?_ _
       replace T3 := Lib.hid (Three.below T3.out HS.out T3.out.lt)
       replace F4 := Lib.hid (F4.out.grown (Below.grownBy HS.out none) (by simp))
       replace T5 := Lib.hid (Three.below T5.out HS.out T5.out.lt)
       replace T9 := Lib.hid (Three.below T9.out HS.out T9.out.lt)
       replace OA := Lib.hid (OA.out.below HS.out)
       replace OX := Lib.hid (OX.out.below HS.out)
       replace G9 := Lib.hid (G9.out.below HS.out)
       replace Z := Lib.hid (Below.and Z.out HS.out)
       clear xp0 xp1 xp2 xpl xf0 xf1 xf2 xf3 xf4 xfl xq0 xq1 xq2 xql xu0 xu1 xu2 xul
       clear xr0 xr1 xr2 xr3 xr4 xrg m0 m1 m2 m3 hqr
       go_wp2
       go_light
       go_ret
       exact ⟨rfl, Z.out⟩
     · obtain ⟨HKE, HAT⟩ := HF1.out rfl
       have HKE := Lib.hid HKE
       replace HAT := Lib.hid HAT
       rw [HKE.out] at T5 HOT HST HAT
       have kge : decide (k ≤ k) = true := decide_eq_true (Int.le_refl k)
       have keq : (k == k) = true := by simp
       obtain ⟨xp0, xp1, xp2⟩ := T3.out.cells
       have xpl := T3.out.lt
       obtain ⟨xf0, xf1, xf2, xf3, xf4⟩ := F4.out.cells
       have xfl := F4.out.lt
       obtain ⟨xq0, xq1, xq2⟩ := T5.out.cells
       have xql := T5.out.lt
       obtain ⟨xu0, xu1, xu2⟩ := T9.out.cells
       have xul := T9.out.lt
       refine wp_region_held_drew (S := fun WS => Below wA.heap.size wA WS) (by kernel_rfl) ((Below.refl _ _).drew) (fun hS0 => ?_)
       have HS : Hid (Below wA.heap.size wA wA.drew) := (Below.refl _ _).drew
       obtain ⟨v0, hv0⟩ : ∃ X, X = wA.drew := ⟨_, rfl⟩
       rw [← hv0] at hS0 HS ⊢
       clear hv0
       refine tkI 0 82 (v := ?_) rfl rfl ?_ ?_
       rotate_left
       · intro wS hSw; obtain ⟨hcS, hfS⟩ := bcell hSw; go_simp; (try with_reducible rfl)
       (try simp only [Act.put, pu1, pu2, pu3])
       refine wpAnyH_ready (rs := [1]) (by kernel_rfl) (by simp) ?_
       refine AllReadyH.cons rfl (fun KK hK => ?_) AllReadyH.nil
       go_simp
       have hs := implAheadOk (some ⟨gD, oD, none⟩) a5 B5 b5 DX TX k v0 (by omega) (by omega) (Rd.below OX.out.rd.1 HS.out) (Rd.below OX.out.rd.2 HS.out)
       rw [HOT.out] at hs
       refine hs.mono ?_
       clear hs
       rintro e v1 ⟨rfl, hb⟩
       replace HS := Lib.hid (Below.and HS.out hb)
       clear hb
       refine hK.out _ _ HS.out (fun hS1 => ?_)
       clear hK KK
       (try simp only [Act.put, pu1, pu2, pu3])
       refine tkI 2 84 (v := ?_) rfl rfl ?_ ?_
       rotate_left
       · intro wS hSw; obtain ⟨hcS, hfS⟩ := bcell hSw; go_simp; (try with_reducible rfl)
       (try simp only [Act.put, pu1, pu2, pu3])
       refine tkI 3 85 (v := ?_) rfl rfl ?_ ?_
       rotate_left
       · intro wS hSw; obtain ⟨hcS, hfS⟩ := bcell hSw; go_simp; (try with_reducible rfl)
       (try simp only [Act.put, pu1, pu2, pu3])
       refine tkI 5 87 (v := ?_) rfl rfl ?_ ?_
       rotate_left
       · intro wS hSw; obtain ⟨hcS, hfS⟩ := bcell hSw; go_simp; (try with_reducible rfl)
       (try simp only [Act.put, pu1, pu2, pu3])
       refine wpAnyH_ready (rs := [4]) (by kernel_rfl) (by simp) ?_
       refine AllReadyH.cons rfl (fun KK hK => ?_) AllReadyH.nil
       go_simp
       have hs := implAheadSure (some ⟨gD, oD, none⟩) a5 B5 b5 DX TX k v1 (by omega) (by omega) (OX.out.rdAc.below HS.out)
       rw [HST.out] at hs
       refine hs.mono ?_
       clear hs
       unfold AgI
       rintro e v2 ⟨AC, ac, BC, bc, CC, cc, rfl, gC, hb⟩
       have GC := Lib.hid gC.gmR.rd
       clear gC
       replace HS := Lib.hid (Below.and HS.out hb)
       clear hb
       refine hK.out _ _ HS.out (fun hS2 => ?_)
       clear hK KK
       (try simp only [Act.put, pu1, pu2, pu3])
       refine wpAnyH_ready (rs := [6]) (by kernel_rfl) (by simp) ?_
       refine AllReadyH.cons rfl (fun KK hK => ?_) AllReadyH.nil
       go_simp
       refine (wpGame_rd GC.out (G9.out.below HS.out) HLY.out.1 HLY.out.2.1 HLY.out.2.2).mono ?_
       rintro e v3 ⟨rfl, hb⟩
       replace HS := Lib.hid (Below.and HS.out hb)
       replace GC := Lib.hid (GC.out.below hb)
       clear hb
       refine hK.out _ _ HS.out (fun hS3 => ?_)
       clear hK KK
       (try simp only [Act.put, pu1, pu2, pu3])
       refine tkI 7 89 (v := ?_) rfl rfl ?_ ?_
       rotate_left
       · intro wS hSw; obtain ⟨hcS, hfS⟩ := bcell hSw; go_simp; (try with_reducible rfl)
       (try simp only [Act.put, pu1, pu2, pu3])
       refine tkI 8 90 (v := ?_) rfl rfl ?_ ?_
       rotate_left
       · intro wS hSw; obtain ⟨hcS, hfS⟩ := bcell hSw; go_simp; (try with_reducible rfl)
       (try simp only [Act.put, pu1, pu2, pu3])
       refine tkI 9 91 (v := ?_) rfl rfl ?_ ?_
       rotate_left
       · intro wS hSw; obtain ⟨hcS, hfS⟩ := bcell hSw; go_simp; (try with_reducible rfl)
       (try simp only [Act.put, pu1, pu2, pu3])
       refine tkI 10 92 (v := ?_) rfl rfl ?_ ?_
       rotate_left
       · intro wS hSw; obtain ⟨hcS, hfS⟩ := bcell hSw; go_simp; (try with_reducible rfl)
       (try simp only [Act.put, pu1, pu2, pu3])
       refine tkI 11 93 (v := ?_) rfl rfl ?_ ?_
       rotate_left
       · intro wS hSw; obtain ⟨hcS, hfS⟩ := bcell hSw; go_simp; (try with_reducible rfl)
       (try simp only [Act.put, pu1, pu2, pu3])
       refine tkI 12 94 (v := ?_) rfl rfl ?_ ?_
       rotate_left
       · intro wS hSw; obtain ⟨hcS, hfS⟩ := bcell hSw; go_simp; (try with_reducible rfl)
       (try simp only [Act.put, pu1, pu2, pu3])
       refine tkI 13 95 (v := ?_) rfl rfl ?_ ?_
       rotate_left
       · intro wS hSw; obtain ⟨hcS, hfS⟩ := bcell hSw; go_simp; (try with_reducible rfl)
       (try simp only [Act.put, pu1, pu2, pu3])
       refine tkI 14 96 (v := ?_) rfl rfl ?_ ?_
       rotate_left
       · intro wS hSw; obtain ⟨hcS, hfS⟩ := bcell hSw; go_simp; (try with_reducible rfl)
       (try simp only [Act.put, pu1, pu2, pu3])
       refine tkI 15 97 (v := ?_) rfl rfl ?_ ?_
       rotate_left
       · intro wS hSw; obtain ⟨hcS, hfS⟩ := bcell hSw; go_simp; (try with_reducible rfl)
       (try simp only [Act.put, pu1, pu2, pu3])
       refine wpAnyH_ready (rs := [16]) (by kernel_rfl) (by simp) ?_
       refine AllReadyH.cons rfl (fun KK hK => ?_) AllReadyH.nil
       go_simp
       refine (wpReqsQ _ _ _ _ D v3 (by unfold maxLen; omega) (Rd.below HRD.out HS.out) (Rd.below OA.out.rd.1 HS.out)).mono ?_
       rintro e v4 ⟨rfl, hb⟩
       replace HS := Lib.hid (Below.and HS.out hb)
       replace GC := Lib.hid (GC.out.below hb)
       clear hb
       refine hK.out _ _ HS.out (fun hS4 => ?_)
       clear hK KK
       (try simp only [Act.put, pu1, pu2, pu3])
       refine tkI 17 99 (v := ?_) rfl rfl ?_ ?_
       rotate_left
       · intro wS hSw; obtain ⟨hcS, hfS⟩ := bcell hSw; go_simp; (try with_reducible rfl)
       (try simp only [Act.put, pu1, pu2, pu3])
       refine tkI 18 100 (v := ?_) rfl rfl ?_ ?_
       rotate_left
       · intro wS hSw; obtain ⟨hcS, hfS⟩ := bcell hSw; go_simp; (try with_reducible rfl)
       (try simp only [Act.put, pu1, pu2, pu3])
       refine tkI 19 101 (v := ?_) rfl rfl ?_ ?_
       rotate_left
       · intro wS hSw; obtain ⟨hcS, hfS⟩ := bcell hSw; go_simp; (try with_reducible rfl)
       (try simp only [Act.put, pu1, pu2, pu3])
       refine tkI 20 102 (v := ?_) rfl rfl ?_ ?_
       rotate_left
       · intro wS hSw; obtain ⟨hcS, hfS⟩ := bcell hSw; go_simp; (try with_reducible rfl)
       (try simp only [Act.put, pu1, pu2, pu3])
       refine tkI 21 103 (v := ?_) rfl rfl ?_ ?_
       rotate_left
       · intro wS hSw; obtain ⟨hcS, hfS⟩ := bcell hSw; go_simp; (try with_reducible rfl)
       (try simp only [Act.put, pu1, pu2, pu3])
       refine tkI 22 104 (v := ?_) rfl rfl ?_ ?_
       rotate_left
       · intro wS hSw; obtain ⟨hcS, hfS⟩ := bcell hSw; go_simp; (try with_reducible rfl)
       (try simp only [Act.put, pu1, pu2, pu3])
       refine tkI 23 105 (v := ?_) rfl rfl ?_ ?_
       rotate_left
       · intro wS hSw; obtain ⟨hcS, hfS⟩ := bcell hSw; go_simp; (try with_reducible rfl)
       (try simp only [Act.put, pu1, pu2, pu3])
       refine tkI 24 106 (v := ?_) rfl rfl ?_ ?_
       rotate_left
       · intro wS hSw; obtain ⟨hcS, hfS⟩ := bcell hSw; go_simp; (try with_reducible rfl)
       (try simp only [Act.put, pu1, pu2, pu3])
       refine tkI 25 107 (v := ?_) rfl rfl ?_ ?_
       rotate_left
       · intro wS hSw; obtain ⟨hcS, hfS⟩ := bcell hSw; go_simp; (try with_reducible rfl)
       (try simp only [Act.put, pu1, pu2, pu3])
       refine tkI 26 108 (v := ?_) rfl rfl ?_ ?_
       rotate_left
       · intro wS hSw; obtain ⟨hcS, hfS⟩ := bcell hSw; go_simp; (try with_reducible rfl)
       (try simp only [Act.put, pu1, pu2, pu3])
       refine tkI 27 109 (v := ?_) rfl rfl ?_ ?_
       rotate_left
       · intro wS hSw; obtain ⟨hcS, hfS⟩ := bcell hSw; go_simp; (try with_reducible rfl)
       (try simp only [Act.put, pu1, pu2, pu3])
       refine tkI 28 110 (v := ?_) rfl rfl ?_ ?_
       rotate_left
       · intro wS hSw; obtain ⟨hcS, hfS⟩ := bcell hSw; go_simp; (try with_reducible rfl)
       (try simp only [Act.put, pu1, pu2, pu3])
       refine tkI 29 111 (v := ?_) rfl rfl ?_ ?_
       rotate_left
       · intro wS hSw; obtain ⟨hcS, hfS⟩ := bcell hSw; go_simp; (try with_reducible rfl)
       (try simp only [Act.put, pu1, pu2, pu3])
       refine tkI 30 112 (v := ?_) rfl rfl ?_ ?_
       rotate_left
       · intro wS hSw; obtain ⟨hcS, hfS⟩ := bcell hSw; go_simp; (try with_reducible rfl)
       (try simp only [Act.put, pu1, pu2, pu3])
       refine tkI 31 113 (v := ?_) rfl rfl ?_ ?_
       rotate_left
       · intro wS hSw; obtain ⟨hcS, hfS⟩ := bcell hSw; go_simp; (try with_reducible rfl)
       (try simp only [Act.put, pu1, pu2, pu3])
       refine tkI 32 114 (v := ?_) rfl rfl ?_ ?_
       rotate_left
       · intro wS hSw; obtain ⟨hcS, hfS⟩ := bcell hSw; go_simp; (try with_reducible rfl)
       (try simp only [Act.put, pu1, pu2, pu3])
       refine tkI 34 116 (v := ?_) rfl rfl ?_ ?_
       rotate_left
       · intro wS hSw; obtain ⟨hcS, hfS⟩ := bcell hSw; go_simp; (try with_reducible rfl)
       (try simp only [Act.put, pu1, pu2, pu3])
       refine wpAnyH_ready (rs := [33]) (by kernel_rfl) (by simp) ?_
       refine AllReadyH.cons rfl (fun KK hK => ?_) AllReadyH.nil
       go_simp
       have hs := implAheadGame (some ⟨gD, oD, none⟩) a5 B5 b5 DX TX k v4 (by omega) (by omega) (OX.out.rdAc.below HS.out)
       rw [HAT.out] at hs
       refine hs.mono ?_
       clear hs
       unfold AgI
       rintro e v5 ⟨AD, ad, BD, bd, CD, cd, rfl, gD', hb⟩
       have GD := Lib.hid gD'.gmR.rd
       clear gD'
       replace HS := Lib.hid (Below.and HS.out hb)
       replace GC := Lib.hid (GC.out.below hb)
       clear hb
       refine hK.out _ _ HS.out (fun hS5 => ?_)
       clear hK KK
       (try simp only [Act.put, pu1, pu2, pu3])
       refine wpAnyH_ready (rs := [35]) (by kernel_rfl) (by simp) ?_
       refine AllReadyH.cons rfl (fun KK hK => ?_) AllReadyH.nil
       go_simp
       have hs := implAheadGame D1 d T1 t D T k v5 (by omega) (by omega) (OA.out.rdAc.below HS.out)
       rw [HAG.out] at hs
       refine hs.mono ?_
       clear hs
       unfold AgI
       rintro e v6 ⟨AE, ae, BE, be, CE, ce, rfl, gE, hb⟩
       have GE := Lib.hid gE.gmR.rd
       clear gE
       replace HS := Lib.hid (Below.and HS.out hb)
       replace GC := Lib.hid (GC.out.below hb)
       replace GD := Lib.hid (GD.out.below hb)
       clear hb
       refine hK.out _ _ HS.out (fun hS6 => ?_)
       clear hK KK
       (try simp only [Act.put, pu1, pu2, pu3])
       refine wpAnyH_ready (rs := [36]) (by kernel_rfl) (by simp) ?_
       refine AllReadyH.cons rfl (fun KK hK => ?_) AllReadyH.nil
       go_simp
       refine (wpGame_rd GD.out GE.out HLS.out.1 HLS.out.2.1 HLS.out.2.2).mono ?_
       rintro e v7 ⟨rfl, hb⟩
       replace HS := Lib.hid (Below.and HS.out hb)
       replace GC := Lib.hid (GC.out.below hb)
       replace GD := Lib.hid (GD.out.below hb)
       replace GE := Lib.hid (GE.out.below hb)
       clear hb
       refine hK.out _ _ HS.out (fun hS7 => ?_)
       clear hK KK
       (try simp only [Act.put, pu1, pu2, pu3])
       refine tkI 37 119 (v := ?_) rfl rfl ?_ ?_
       rotate_left
       · intro wS hSw; obtain ⟨hcS, hfS⟩ := bcell hSw; go_simp; (try with_reducible rfl)
       (try simp only [Act.put, pu1, pu2, pu3])
       refine tkI 38 120 (v := ?_) rfl rfl ?_ ?_
       rotate_left
       · intro wS hSw; obtain ⟨hcS, hfS⟩ := bcell hSw; go_simp; (try with_reducible rfl)
       (try simp only [Act.put, pu1, pu2, pu3])
       refine tkI 39 121 (v := ?_) rfl rfl ?_ ?_
       rotate_left
       · intro wS hSw; obtain ⟨hcS, hfS⟩ := bcell hSw; go_simp; (try with_reducible rfl)
       (try simp only [Act.put, pu1, pu2, pu3])
       refine tkI 40 122 (v := ?_) rfl rfl ?_ ?_
       rotate_left
       · intro wS hSw; obtain ⟨hcS, hfS⟩ := bcell hSw; go_simp; (try with_reducible rfl)
       (try simp only [Act.put, pu1, pu2, pu3])
       refine tkI 41 123 (v := ?_) rfl rfl ?_ ?_
       rotate_left
       · intro wS hSw; obtain ⟨hcS, hfS⟩ := bcell hSw; go_simp; (try with_reducible rfl)
       (try simp only [Act.put, pu1, pu2, pu3])
       refine tkI 42 124 (v := ?_) rfl rfl ?_ ?_
       rotate_left
       · intro wS hSw; obtain ⟨hcS, hfS⟩ := bcell hSw; go_simp; (try with_reducible rfl)
       (try simp only [Act.put, pu1, pu2, pu3])
       refine tkI 43 125 (v := ?_) rfl rfl ?_ ?_
       rotate_left
       · intro wS hSw; obtain ⟨hcS, hfS⟩ := bcell hSw; go_simp; (try with_reducible rfl)
       (try simp only [Act.put, pu1, pu2, pu3])
       refine tkI 44 126 (v := ?_) rfl rfl ?_ ?_
       rotate_left
       · intro wS hSw; obtain ⟨hcS, hfS⟩ := bcell hSw; go_simp; (try with_reducible rfl)
       (try simp only [Act.put, pu1, pu2, pu3])
       refine tkI 45 127 (v := ?_) rfl rfl ?_ ?_
       rotate_left
       · intro wS hSw; obtain ⟨hcS, hfS⟩ := bcell hSw; go_simp; (try with_reducible rfl)
       (try simp only [Act.put, pu1, pu2, pu3])
       refine tkI 46 128 (v := ?_) rfl rfl ?_ ?_
       rotate_left
       · intro wS hSw; obtain ⟨hcS, hfS⟩ := bcell hSw; go_simp; (try with_reducible rfl)
       (try simp only [Act.put, pu1, pu2, pu3])
       refine tkI 47 129 (v := ?_) rfl rfl ?_ ?_
       rotate_left
       · intro wS hSw; obtain ⟨hcS, hfS⟩ := bcell hSw; go_simp; (try with_reducible rfl)
       (try simp only [Act.put, pu1, pu2, pu3])
       refine tkI 48 130 (v := ?_) rfl rfl ?_ ?_
       rotate_left
       · intro wS hSw; obtain ⟨hcS, hfS⟩ := bcell hSw; go_simp; (try with_reducible rfl)
       (try simp only [Act.put, pu1, pu2, pu3])
       refine tkI 49 131 (v := ?_) rfl rfl ?_ ?_
       rotate_left
       · intro wS hSw; obtain ⟨hcS, hfS⟩ := bcell hSw; go_simp; (try with_reducible rfl)
       (try simp only [Act.put, pu1, pu2, pu3])
       refine tkI 50 132 (v := ?_) rfl rfl ?_ ?_
       rotate_left
       · intro wS hSw; obtain ⟨hcS, hfS⟩ := bcell hSw; go_simp; (try with_reducible rfl)
       (try simp only [Act.put, pu1, pu2, pu3])
       refine tkI 51 133 (v := ?_) rfl rfl ?_ ?_
       rotate_left
       · intro wS hSw; obtain ⟨hcS, hfS⟩ := bcell hSw; go_simp; (try with_reducible rfl)
       (try simp only [Act.put, pu1, pu2, pu3])
       refine tkI 52 134 (v := ?_) rfl rfl ?_ ?_
       rotate_left
       · intro wS hSw; obtain ⟨hcS, hfS⟩ := bcell hSw; go_simp; (try with_reducible rfl)
       (try simp only [Act.put, pu1, pu2, pu3])
       refine tkI 53 2 (v := ?_) rfl rfl ?_ ?_
       rotate_left
       · intro wS hSw; obtain ⟨hcS, hfS⟩ := bcell hSw; go_simp; (try with_reducible rfl)
       (try simp only [Act.put, pu1, pu2, pu3])
       refine wpAnyH_done (by kernel_rfl) ?_ _
       replace T3 := Lib.hid (Three.below T3.out HS.out T3.out.lt)
       replace F4 := Lib.hid (F4.out.grown (Below.grownBy HS.out none) (by simp))
       replace T5 := Lib.hid (Three.below T5.out HS.out T5.out.lt)
       replace T9 := Lib.hid (Three.below T9.out HS.out T9.out.lt)
       replace OA := Lib.hid (OA.out.below HS.out)
       replace OX := Lib.hid (OX.out.below HS.out)
       replace G9 := Lib.hid (G9.out.below HS.out)
       replace Z := Lib.hid (Below.and Z.out HS.out)
       clear xp0 xp1 xp2 xpl xf0 xf1 xf2 xf3 xf4 xfl xq0 xq1 xq2 xql xu0 xu1 xu2 xul
       clear xr0 xr1 xr2 xr3 xr4 xrg m0 m1 m2 m3 hqr
       go_wp2
       go_light
       go_ret
       exact ⟨rfl, Z.out⟩
 · have HX := Lib.hid (show keepA D T k r = ((D, T, k), false) by unfold keepA; rw [if_pos hok, if_neg hq])
   clear hok hq
   obtain ⟨xp0, xp1, xp2⟩ := T3.out.cells
   have xpl := T3.out.lt
   obtain ⟨xf0, xf1, xf2, xf3, xf4⟩ := F4.out.cells
   have xfl := F4.out.lt
   go_wp2_with (fail)
   have hs := implAheadKeep D1 d T1 t D T k r w2 (by omega) (by omega) OA.out.rdA
   rw [HX.out] at hs
   refine (hs.mono (fun _ _ h => DoAh.goI h)).mono ?_
   clear hs
   rintro e w3 ⟨A5, a5, B5, b5, rfl, ox, hb⟩
   clear xp0 xp1 xp2 xpl xf0 xf1 xf2 xf3 xf4 xfl
   have OX := Lib.hid ox
   clear ox
   replace T3 := Lib.hid (Three.below T3.out hb T3.out.lt)
   replace F4 := Lib.hid (F4.out.grown (Below.grownBy hb none) (by simp))
   replace OA := Lib.hid (OA.out.below hb)
   replace Z := Lib.hid (Below.and Z.out hb)
   clear hb
   go_upto_region 5 with (fail)
   have hba : Below w3.heap.size w3 (w3.alloc (.cells #[.slice A5 D.length a5, .slice B5 T.length b5, .int .i64 k] 25)) := (Below.refl _ _).alloc (Nat.le_refl _) _
   have T5 := Lib.hid (Three.new (u0 := .slice A5 D.length a5) (u1 := .slice B5 T.length b5) (u2 := .int .i64 k) (t := 25) w3)
   replace T3 := Lib.hid (Three.below T3.out hba T3.out.lt)
   replace F4 := Lib.hid (F4.out.grown (Below.grownBy hba none) (by simp))
   replace OA := Lib.hid (OA.out.below hba)
   replace OX := Lib.hid (OX.out.below hba)
   replace Z := Lib.hid (Below.and Z.out hba)
   clear hba
   obtain ⟨p5, hp5⟩ : ∃ Y, Y = w3.heap.size := ⟨_, rfl⟩
   obtain ⟨w4, hw4⟩ : ∃ Y, Y = w3.alloc (.cells #[.slice A5 D.length a5, .slice B5 T.length b5, .int .i64 k] 25) := ⟨_, rfl⟩
   rw [← hw4] at T5 T3 F4 OA OX Z ⊢
   rw [← hp5] at T5 ⊢
   clear hw4 hp5
   obtain ⟨xp0, xp1, xp2⟩ := T3.out.cells
   have xpl := T3.out.lt
   obtain ⟨xf0, xf1, xf2, xf3, xf4⟩ := F4.out.cells
   have xfl := F4.out.lt
   go_wp2_with (fail)
   have hs := specAheadKeep D1 d T1 t D T k r w4 (by omega) (by omega) OA.out.rdAk
   rw [HX.out] at hs
   refine (hs.mono (fun _ _ h => DoAh.goI h)).mono ?_
   clear hs
   rintro e w5 ⟨A7, a7, B7, b7, rfl, oy, hb⟩
   clear xp0 xp1 xp2 xpl xf0 xf1 xf2 xf3 xf4 xfl
   have OY := Lib.hid oy
   clear oy
   replace T3 := Lib.hid (Three.below T3.out hb T3.out.lt)
   replace F4 := Lib.hid (F4.out.grown (Below.grownBy hb none) (by simp))
   replace T5 := Lib.hid (Three.below T5.out hb T5.out.lt)
   replace OA := Lib.hid (OA.out.below hb)
   replace OX := Lib.hid (OX.out.below hb)
   replace Z := Lib.hid (Below.and Z.out hb)
   clear hb
   go_upto_region 6 with (fail)
   have hba : Below w5.heap.size w5 (w5.alloc (.cells #[.slice A7 D.length a7, .slice B7 T.length b7, .int .i64 k] 25)) := (Below.refl _ _).alloc (Nat.le_refl _) _
   have T7 := Lib.hid (Three.new (u0 := .slice A7 D.length a7) (u1 := .slice B7 T.length b7) (u2 := .int .i64 k) (t := 25) w5)
   replace T3 := Lib.hid (Three.below T3.out hba T3.out.lt)
   replace F4 := Lib.hid (F4.out.grown (Below.grownBy hba none) (by simp))
   replace T5 := Lib.hid (Three.below T5.out hba T5.out.lt)
   replace OA := Lib.hid (OA.out.below hba)
   replace OX := Lib.hid (OX.out.below hba)
   replace OY := Lib.hid (OY.out.below hba)
   replace Z := Lib.hid (Below.and Z.out hba)
   clear hba
   obtain ⟨p7, hp7⟩ : ∃ Y, Y = w5.heap.size := ⟨_, rfl⟩
   obtain ⟨w6, hw6⟩ : ∃ Y, Y = w5.alloc (.cells #[.slice A7 D.length a7, .slice B7 T.length b7, .int .i64 k] 25) := ⟨_, rfl⟩
   rw [← hw6] at T7 T3 F4 T5 OA OX OY Z ⊢
   rw [← hp7] at T7 ⊢
   clear hw6 hp7
   obtain ⟨xp0, xp1, xp2⟩ := T3.out.cells
   have xpl := T3.out.lt
   obtain ⟨xq0, xq1, xq2⟩ := T5.out.cells
   have xql := T5.out.lt
   obtain ⟨xu0, xu1, xu2⟩ := T7.out.cells
   have xul := T7.out.lt
   go_wp2_with (fail)
   have hs := wpAhead_rd (w := w6) (a1 := a5) (b1 := b5) (a2 := a7) (b2 := b7) (k := k) (by omega) (by omega) OX.out.rd.1 OX.out.rd.2 OY.out.rd.1 OY.out.rd.2
   refine hs.mono ?_
   clear hs
   rintro e q1 ⟨rfl, hb⟩
   clear xp0 xp1 xp2 xpl xq0 xq1 xq2 xql xu0 xu1 xu2 xul
   replace T3 := Lib.hid (Three.below T3.out hb T3.out.lt)
   replace F4 := Lib.hid (F4.out.grown (Below.grownBy hb none) (by simp))
   replace T5 := Lib.hid (Three.below T5.out hb T5.out.lt)
   replace T7 := Lib.hid (Three.below T7.out hb T7.out.lt)
   replace OA := Lib.hid (OA.out.below hb)
   replace OX := Lib.hid (OX.out.below hb)
   replace OY := Lib.hid (OY.out.below hb)
   replace Z := Lib.hid (Below.and Z.out hb)
   clear hb
   obtain ⟨xp0, xp1, xp2⟩ := T3.out.cells
   have xpl := T3.out.lt
   obtain ⟨xq0, xq1, xq2⟩ := T5.out.cells
   have xql := T5.out.lt
   obtain ⟨xu0, xu1, xu2⟩ := T7.out.cells
   have xul := T7.out.lt
   go_wp2_with (fail)
   have hs := implAheadOk D1 d T1 t D T k q1 (by omega) (by omega) OA.out.rd.1 OA.out.rd.2
   rw [HOK.out] at hs
   refine hs.mono ?_
   clear hs
   rintro e q2 ⟨rfl, hb⟩
   clear xp0 xp1 xp2 xpl xq0 xq1 xq2 xql xu0 xu1 xu2 xul
   replace T3 := Lib.hid (Three.below T3.out hb T3.out.lt)
   replace F4 := Lib.hid (F4.out.grown (Below.grownBy hb none) (by simp))
   replace T5 := Lib.hid (Three.below T5.out hb T5.out.lt)
   replace T7 := Lib.hid (Three.below T7.out hb T7.out.lt)
   replace OA := Lib.hid (OA.out.below hb)
   replace OX := Lib.hid (OX.out.below hb)
   replace OY := Lib.hid (OY.out.below hb)
   replace Z := Lib.hid (Below.and Z.out hb)
   clear hb
   obtain ⟨w8, hw8⟩ : ∃ Y, Y = q2 := ⟨_, rfl⟩
   rw [← hw8] at T3 F4 T5 T7 OA OX OY Z ⊢
   clear hw8
   obtain ⟨xp0, xp1, xp2⟩ := T3.out.cells
   have xpl := T3.out.lt
   obtain ⟨xq0, xq1, xq2⟩ := T5.out.cells
   have xql := T5.out.lt
   go_wp2_with (fail)
   refine (wpAhead_rd (a1 := a5) (b1 := b5) (a2 := d) (b2 := t) (k := k) (by omega) (by omega) OX.out.rd.1 OX.out.rd.2 OA.out.rd.1 OA.out.rd.2).mono ?_
   rintro e w9 ⟨rfl, hb⟩
   replace Z := Lib.hid (Below.and Z.out hb)
   clear xp0 xp1 xp2 xpl xq0 xq1 xq2 xql
   clear hb
   go_wp2
   go_light
   go_ret
   exact ⟨rfl, Z.out⟩

end Go.Proofs.Ytnpdlpkomfegfaa
