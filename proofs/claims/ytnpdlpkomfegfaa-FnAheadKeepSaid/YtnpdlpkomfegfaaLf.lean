/- What is done ahead, drawn of a code, with a request: the draws of the laws. -/
import Derived.Test.YtnpdlpkomfegfaaLb
namespace Go.Proofs.Ytnpdlpkomfegfaa
open Go.ChangeShapes Go.WideShapes Go.ChangeAt Go.RowKit
set_option linter.unusedVariables false
set_option linter.unusedSimpArgs false

def DrA (w : World) (e : Ending) (w' : World) : Prop := ∃ (D1 : Option Addr) (d : Nat) (T1 : Option Addr) (t : Nat) (D T : List Rq) (k : Int) (r : Rq), e = .returned (.tuple #[aheadV D1 D.length d T1 T.length t k, r.val]) ∧ D.length ≤ 8 ∧ T.length ≤ 5 ∧ OwA w' w.heap.size D1 d T1 t D T ∧ Below w.heap.size w w'

set_option maxRecDepth 100000 in
set_option maxHeartbeats 8000000 in
theorem drawAheadPush {w : World} {A : Option Addr} {n c : Nat} (hn : n ≤ 1048576) (hc : n ≤ c) (hb : InB w A n) :
 Calls Try.prog 15 #[.slice A n c] w (DrA w) := by
 have HS : w.heap.size + 2 ≤ ((w.alloc (.cells #[.slice none 0 0, .slice none 0 0, .int .i64 0] 25)).alloc (.cells #[.int .i64 0, .int .i64 0, .int .i64 0, .int .i64 0, .int .i64 0] 37)).heap.size := by simp
 have hba : Below w.heap.size w ((w.alloc (.cells #[.slice none 0 0, .slice none 0 0, .int .i64 0] 25)).alloc (.cells #[.int .i64 0, .int .i64 0, .int .i64 0, .int .i64 0, .int .i64 0] 37)) := below_alloc2 w _ _
 have KZ := Lib.hid ((Three.new (u0 := .slice none 0 0) (u1 := .slice none 0 0) (u2 := .int .i64 0) (t := 25) w).alloc (.cells #[.int .i64 0, .int .i64 0, .int .i64 0, .int .i64 0, .int .i64 0] 37))
 have FZ : Hid (Five ((w.alloc (.cells #[.slice none 0 0, .slice none 0 0, .int .i64 0] 25)).alloc (.cells #[.int .i64 0, .int .i64 0, .int .i64 0, .int .i64 0, .int .i64 0] 37)) (w.heap.size + 1) 37 (.int .i64 0) (.int .i64 0) (.int .i64 0) (.int .i64 0) (.int .i64 0)) := by
  have := Five.new (u0 := .int .i64 0) (u1 := .int .i64 0) (u2 := .int .i64 0) (u3 := .int .i64 0) (u4 := .int .i64 0) (t := 37) (w.alloc (.cells #[.slice none 0 0, .slice none 0 0, .int .i64 0] 25))
  simpa [Hid] using this
 have HB := Lib.hid (in_below hb hba)
 have BA := Lib.hid hba
 clear hb hba
 go_enter Try.func15, Try.ntmps15
 go_upto_region 1 with (fail)
 obtain ⟨w0, hw0⟩ : ∃ X, X = (w.alloc (.cells #[.slice none 0 0, .slice none 0 0, .int .i64 0] 25)).alloc (.cells #[.int .i64 0, .int .i64 0, .int .i64 0, .int .i64 0, .int .i64 0] 37) := ⟨_, rfl⟩
 rw [← hw0] at KZ FZ HB BA HS ⊢
 clear hw0
 go_wp2_with (fail)
 refine (l20Open hn hc HB.out).mono ?_
 rintro e w1 ⟨m, rfl, hr, h1⟩
 have RD := Lib.hid hr
 have BA := Lib.hid (Below.and BA.out h1)
 have KZ := Lib.hid (Three.below KZ.out h1 KZ.out.lt)
 have FZ := Lib.hid (FZ.out.grown (Below.grownBy h1 none) (by simp))
 have hR : w0.heap.size < w1.heap.size := hr.lt
 clear hr h1 HB
 go_wp2_with (fail)
 refine (l20Ahead RD.out (by omega)).mono ?_
 rintro e w2 ⟨D1, d, T1, t, D, T, k, rfl, hD, hT, oa, q, q0, q1, hr, hg⟩
 obtain ⟨lo, hlo⟩ : ∃ X, X = w1.heap.size := ⟨_, rfl⟩
 obtain ⟨R, hRR⟩ : ∃ X, X = w0.heap.size := ⟨_, rfl⟩
 have LW := Lib.hid (show lo ≤ w2.heap.size by rw [hlo]; exact hg.size)
 have KZ := Lib.hid (KZ.out.grown hg (fun e => by injection e with e; omega))
 have FZ := Lib.hid (FZ.out.grown hg (fun e => by injection e with e; omega))
 have BA := Lib.hid (BA.out.trans (Below.of_grown hg (by omega) (fun x hx => by injection hx with hx; omega)))
 have RD := Lib.hid hr
 rw [← hlo] at oa hR
 rw [← hRR] at RD hR HS ⊢
 have OA := Lib.hid oa
 clear hr hg hlo hRR oa
 have hb : Below w2.heap.size w2 (w2.alloc (.cells #[.slice D1 D.length d, .slice T1 T.length t, .int .i64 k] 25)) := (Below.refl _ _).alloc (Nat.le_refl _) _
 have T5 := Lib.hid (Three.new (u0 := .slice D1 D.length d) (u1 := .slice T1 T.length t) (u2 := .int .i64 k) (t := 25) w2)
 have KZ := Lib.hid (Three.below KZ.out hb KZ.out.lt)
 have FZ := Lib.hid (FZ.out.grown (Below.grownBy hb none) (by simp))
 have BA := Lib.hid (Below.and BA.out hb)
 have OA := Lib.hid (OA.out.below hb)
 have RD := Lib.hid (RD.out.below hb)
 have LP := LW.out
 have LW := Lib.hid (Nat.le_trans LW.out hb.size)
 clear hb
 go_upto_region 3 with (fail)
 obtain ⟨p5, hp5⟩ : ∃ X, X = w2.heap.size := ⟨_, rfl⟩
 obtain ⟨w3, hw3⟩ : ∃ X, X = w2.alloc (.cells #[.slice D1 D.length d, .slice T1 T.length t, .int .i64 k] 25) := ⟨_, rfl⟩
 rw [← hw3] at T5 KZ FZ BA OA RD LW ⊢
 rw [← hp5] at T5 LP ⊢
 clear hw3 hp5
 refine wp_region_held_drew (S := fun WS => Three WS p5 25 (.slice D1 D.length d) (.slice T1 T.length t) (.int .i64 k)) (by kernel_rfl) T5.out.drew (fun hS0 => ?_)
 have hb : Below w3.heap.size w3 w3.drew := (Below.refl _ _).drew
 replace KZ := Lib.hid (Three.below KZ.out hb KZ.out.lt)
 replace FZ := Lib.hid (FZ.out.grown (Below.grownBy hb none) (by simp))
 replace T5 := Lib.hid (Three.below T5.out hb T5.out.lt)
 replace BA := Lib.hid (Below.and BA.out hb)
 replace OA := Lib.hid (OA.out.below hb)
 replace LW := Lib.hid (Nat.le_trans LW.out hb.size)
 have RD := Lib.hid (RD.out.below hb)
 clear hb
 obtain ⟨w0, hw0⟩ : ∃ X, X = w3.drew := ⟨_, rfl⟩
 rw [← hw0] at hS0 KZ FZ T5 BA OA LW RD ⊢
 clear hw0
 refine tkI 0 10 (v := ?_) rfl rfl ?_ ?_
 rotate_left
 · intro w1 hSw; obtain ⟨p0, p1, p2⟩ := Three.cells hSw; go_simp; (try with_reducible rfl)
 (try simp only [Act.put, pu1, pu2, pu3])
 refine tkI 1 11 (v := ?_) rfl rfl ?_ ?_
 rotate_left
 · intro w1 hSw; go_simp; (try with_reducible rfl)
 (try simp only [Act.put, pu1, pu2, pu3])
 refine wpAnyH_ready (rs := [2]) (by kernel_rfl) (by simp) ?_
 refine AllReadyH.cons rfl (fun KK hK => ?_) AllReadyH.nil
 go_simp
 refine (l20AnyReq RD.out (by omega)).mono ?_
 rintro e wy ⟨rc, rn, ro, rx, ry, rfl, qy, qy0, qy1, hr, hg⟩
 replace KZ := Lib.hid (KZ.out.grown hg (fun e => by injection e with e; omega))
 replace FZ := Lib.hid (FZ.out.grown hg (fun e => by injection e with e; omega))
 replace T5 := Lib.hid (T5.out.grown hg (fun e => by injection e with e; omega))
 replace BA := Lib.hid (BA.out.trans (Below.of_grown hg (by have := BA.out.size; have := LW.out; omega) (fun x hx => by injection hx with hx; omega)))
 replace OA := Lib.hid (show OwA wy lo D1 d T1 t D T from ⟨own_same OA.out.d (fun x hx => hg.block x (own_block_ge OA.out.d x hx).2 (fun e => by injection e with e; have := (own_block_ge OA.out.d x hx).1; omega)), own_same OA.out.t (fun x hx => hg.block x (own_block_ge OA.out.t x hx).2 (fun e => by injection e with e; have := (own_block_ge OA.out.t x hx).1; omega)), OA.out.dt⟩)
 replace LW := Lib.hid (Nat.le_trans LW.out hg.size)
 have RD := Lib.hid hr
 clear hr hg
 refine hK.out _ _ T5.out (fun _ => ?_)
 clear hK KK
 (try simp only [Act.put, pu1, pu2, pu3])
 obtain ⟨z0, z1, z2⟩ := KZ.out.cells
 have zf := KZ.out.frozen
 obtain ⟨y0, y1, y2, y3, y4⟩ := FZ.out.cells
 have yf := FZ.out.frozen
 refine wpAnyH_ready (rs := [3]) (by kernel_rfl) (by simp) ?_
 refine AllReadyH.cons rfl (fun KK hK => ?_) AllReadyH.nil
 go_simp
 refine hK.out _ _ (((T5.out.far (by omega) (j := 0) _).far (by omega) (j := 1) _).far (by omega) (j := 2) _) (fun _ => ?_)
 clear hK KK
 (try simp only [Act.put, pu1, pu2, pu3])
 refine wpAnyH_ready (rs := [4]) (by kernel_rfl) (by simp) ?_
 refine AllReadyH.cons rfl (fun KK hK => ?_) AllReadyH.nil
 go_simp
 refine hK.out _ _ ((((((((T5.out.far (by omega) (j := 0) _).far (by omega) (j := 1) _).far (by omega) (j := 2) _).far (by omega) (j := 0) _).far (by omega) (j := 1) _).far (by omega) (j := 2) _).far (by omega) (j := 3) _).far (by omega) (j := 4) _) (fun _ => ?_)
 clear hK KK
 (try simp only [Act.put, pu1, pu2, pu3])
 refine wpAnyH_done (by kernel_rfl) ?_ _
 have OG := Lib.hid (((((((((OA.out.put (q := w.heap.size) (by omega) 0 (.slice D1 D.length d)).put (q := w.heap.size) (by omega) 1 (.slice T1 T.length t)).put (q := w.heap.size) (by omega) 2 (.int .i64 k)).put (q := w.heap.size + 1) (by omega) 0 (.int .i64 rc)).put (q := w.heap.size + 1) (by omega) 1 (.int .i64 rn)).put (q := w.heap.size + 1) (by omega) 2 (.int .i64 ro)).put (q := w.heap.size + 1) (by omega) 3 (.int .i64 rx)).put (q := w.heap.size + 1) (by omega) 4 (.int .i64 ry)).base (show w.heap.size ≤ lo by omega))
 have BG := Lib.hid ((((((((BA.out.setCell (p := ⟨w.heap.size, 0, none⟩) (Nat.le_refl _) (.slice D1 D.length d)).setCell (p := ⟨w.heap.size, 1, none⟩) (Nat.le_refl _) (.slice T1 T.length t)).setCell (p := ⟨w.heap.size, 2, none⟩) (Nat.le_refl _) (.int .i64 k)).setCell (p := ⟨w.heap.size + 1, 0, none⟩) (by simp) (.int .i64 rc)).setCell (p := ⟨w.heap.size + 1, 1, none⟩) (by simp) (.int .i64 rn)).setCell (p := ⟨w.heap.size + 1, 2, none⟩) (by simp) (.int .i64 ro)).setCell (p := ⟨w.heap.size + 1, 3, none⟩) (by simp) (.int .i64 rx)).setCell (p := ⟨w.heap.size + 1, 4, none⟩) (by simp) (.int .i64 ry))
 clear OA BA T5 KZ FZ RD
 go_wp2
 refine bodyPost_ret (v := .tuple #[aheadV D1 D.length d T1 T.length t k, (⟨rc, rn, ro, rx, ry⟩ : Rq).val]) (by simp [results, Try.results15, go_sem, z0, z1, z2, y0, y1, y2, y3, y4]) rfl ⟨D1, d, T1, t, D, T, k, ⟨rc, rn, ro, rx, ry⟩, rfl, hD, hT, OG.out, BG.out⟩

set_option maxRecDepth 100000 in
set_option maxHeartbeats 8000000 in
theorem drawAheadKeep {w : World} {A : Option Addr} {n c : Nat} (hn : n ≤ 1048576) (hc : n ≤ c) (hb : InB w A n) :
 Calls Try.prog 22 #[.slice A n c] w (DrA w) := by
 have HS : w.heap.size + 2 ≤ ((w.alloc (.cells #[.slice none 0 0, .slice none 0 0, .int .i64 0] 25)).alloc (.cells #[.int .i64 0, .int .i64 0, .int .i64 0, .int .i64 0, .int .i64 0] 37)).heap.size := by simp
 have hba : Below w.heap.size w ((w.alloc (.cells #[.slice none 0 0, .slice none 0 0, .int .i64 0] 25)).alloc (.cells #[.int .i64 0, .int .i64 0, .int .i64 0, .int .i64 0, .int .i64 0] 37)) := below_alloc2 w _ _
 have KZ := Lib.hid ((Three.new (u0 := .slice none 0 0) (u1 := .slice none 0 0) (u2 := .int .i64 0) (t := 25) w).alloc (.cells #[.int .i64 0, .int .i64 0, .int .i64 0, .int .i64 0, .int .i64 0] 37))
 have FZ : Hid (Five ((w.alloc (.cells #[.slice none 0 0, .slice none 0 0, .int .i64 0] 25)).alloc (.cells #[.int .i64 0, .int .i64 0, .int .i64 0, .int .i64 0, .int .i64 0] 37)) (w.heap.size + 1) 37 (.int .i64 0) (.int .i64 0) (.int .i64 0) (.int .i64 0) (.int .i64 0)) := by
  have := Five.new (u0 := .int .i64 0) (u1 := .int .i64 0) (u2 := .int .i64 0) (u3 := .int .i64 0) (u4 := .int .i64 0) (t := 37) (w.alloc (.cells #[.slice none 0 0, .slice none 0 0, .int .i64 0] 25))
  simpa [Hid] using this
 have HB := Lib.hid (in_below hb hba)
 have BA := Lib.hid hba
 clear hb hba
 go_enter Try.func22, Try.ntmps22
 go_upto_region 1 with (fail)
 obtain ⟨w0, hw0⟩ : ∃ X, X = (w.alloc (.cells #[.slice none 0 0, .slice none 0 0, .int .i64 0] 25)).alloc (.cells #[.int .i64 0, .int .i64 0, .int .i64 0, .int .i64 0, .int .i64 0] 37) := ⟨_, rfl⟩
 rw [← hw0] at KZ FZ HB BA HS ⊢
 clear hw0
 go_wp2_with (fail)
 refine (l20Open hn hc HB.out).mono ?_
 rintro e w1 ⟨m, rfl, hr, h1⟩
 have RD := Lib.hid hr
 have BA := Lib.hid (Below.and BA.out h1)
 have KZ := Lib.hid (Three.below KZ.out h1 KZ.out.lt)
 have FZ := Lib.hid (FZ.out.grown (Below.grownBy h1 none) (by simp))
 have hR : w0.heap.size < w1.heap.size := hr.lt
 clear hr h1 HB
 go_wp2_with (fail)
 refine (l20Ahead RD.out (by omega)).mono ?_
 rintro e w2 ⟨D1, d, T1, t, D, T, k, rfl, hD, hT, oa, q, q0, q1, hr, hg⟩
 obtain ⟨lo, hlo⟩ : ∃ X, X = w1.heap.size := ⟨_, rfl⟩
 obtain ⟨R, hRR⟩ : ∃ X, X = w0.heap.size := ⟨_, rfl⟩
 have LW := Lib.hid (show lo ≤ w2.heap.size by rw [hlo]; exact hg.size)
 have KZ := Lib.hid (KZ.out.grown hg (fun e => by injection e with e; omega))
 have FZ := Lib.hid (FZ.out.grown hg (fun e => by injection e with e; omega))
 have BA := Lib.hid (BA.out.trans (Below.of_grown hg (by omega) (fun x hx => by injection hx with hx; omega)))
 have RD := Lib.hid hr
 rw [← hlo] at oa hR
 rw [← hRR] at RD hR HS ⊢
 have OA := Lib.hid oa
 clear hr hg hlo hRR oa
 have hb : Below w2.heap.size w2 (w2.alloc (.cells #[.slice D1 D.length d, .slice T1 T.length t, .int .i64 k] 25)) := (Below.refl _ _).alloc (Nat.le_refl _) _
 have T5 := Lib.hid (Three.new (u0 := .slice D1 D.length d) (u1 := .slice T1 T.length t) (u2 := .int .i64 k) (t := 25) w2)
 have KZ := Lib.hid (Three.below KZ.out hb KZ.out.lt)
 have FZ := Lib.hid (FZ.out.grown (Below.grownBy hb none) (by simp))
 have BA := Lib.hid (Below.and BA.out hb)
 have OA := Lib.hid (OA.out.below hb)
 have RD := Lib.hid (RD.out.below hb)
 have LP := LW.out
 have LW := Lib.hid (Nat.le_trans LW.out hb.size)
 clear hb
 go_upto_region 3 with (fail)
 obtain ⟨p5, hp5⟩ : ∃ X, X = w2.heap.size := ⟨_, rfl⟩
 obtain ⟨w3, hw3⟩ : ∃ X, X = w2.alloc (.cells #[.slice D1 D.length d, .slice T1 T.length t, .int .i64 k] 25) := ⟨_, rfl⟩
 rw [← hw3] at T5 KZ FZ BA OA RD LW ⊢
 rw [← hp5] at T5 LP ⊢
 clear hw3 hp5
 by_cases h0 : 0 < T.length
 · have e0 : decide ((0 : Int) < (T.length : Int)) = true := decide_eq_true (by omega)
   obtain ⟨p0, p1, p2⟩ := T5.out.cells
   go_wp2_with (fail)
   refine (pickR 4 RD.out (by omega) (by omega) (by omega)).mono ?_
   rintro e w4 ⟨g, g0, g1, rfl, q4, q40, q41, hr, hg⟩
   clear p0 p1 p2 e0
   replace KZ := Lib.hid (KZ.out.grown hg (fun e => by injection e with e; omega))
   replace FZ := Lib.hid (FZ.out.grown hg (fun e => by injection e with e; omega))
   replace T5 := Lib.hid (T5.out.grown hg (fun e => by injection e with e; omega))
   replace BA := Lib.hid (BA.out.trans (Below.of_grown hg (by have := BA.out.size; have := LW.out; omega) (fun x hx => by injection hx with hx; omega)))
   replace OA := Lib.hid (show OwA w4 lo D1 d T1 t D T from ⟨own_same OA.out.d (fun x hx => hg.block x (own_block_ge OA.out.d x hx).2 (fun e => by injection e with e; have := (own_block_ge OA.out.d x hx).1; omega)), own_same OA.out.t (fun x hx => hg.block x (own_block_ge OA.out.t x hx).2 (fun e => by injection e with e; have := (own_block_ge OA.out.t x hx).1; omega)), OA.out.dt⟩)
   replace LW := Lib.hid (Nat.le_trans LW.out hg.size)
   have RD := Lib.hid hr
   clear hr hg
   by_cases hg0 : 0 < g
   · have eg : decide (0 < g) = true := decide_eq_true hg0
     go_upto_region 4 with (fail)
     clear eg hg0
     obtain ⟨gT, oT, rfl, _⟩ := OA.out.rdA.t 0 h0
     refine wp_region_held_drew (S := fun WS => Three WS p5 25 (.slice D1 D.length d) (.slice (some ⟨gT, oT, none⟩) T.length t) (.int .i64 k)) (by kernel_rfl) T5.out.drew (fun hS0 => ?_)
     have hb : Below w4.heap.size w4 w4.drew := (Below.refl _ _).drew
     replace KZ := Lib.hid (Three.below KZ.out hb KZ.out.lt)
     replace FZ := Lib.hid (FZ.out.grown (Below.grownBy hb none) (by simp))
     replace T5 := Lib.hid (Three.below T5.out hb T5.out.lt)
     replace BA := Lib.hid (Below.and BA.out hb)
     replace OA := Lib.hid (OA.out.below hb)
     replace LW := Lib.hid (Nat.le_trans LW.out hb.size)
     have RD := Lib.hid (RD.out.below hb)
     clear hb
     obtain ⟨w5, hw5⟩ : ∃ X, X = w4.drew := ⟨_, rfl⟩
     rw [← hw5] at hS0 KZ FZ T5 BA OA LW RD ⊢
     clear hw5
     refine tkI 0 19 (v := ?_) rfl rfl ?_ ?_
     rotate_left
     · intro w1 hSw; obtain ⟨p0, p1, p2⟩ := Three.cells hSw; go_simp; (try with_reducible rfl)
     (try simp only [Act.put, pu1, pu2, pu3])
     refine tkI 1 20 (v := ?_) rfl rfl ?_ ?_
     rotate_left
     · intro w1 hSw; go_simp; (try with_reducible rfl)
     (try simp only [Act.put, pu1, pu2, pu3])
     refine tkI 2 21 (v := ?_) rfl rfl ?_ ?_
     rotate_left
     · intro w1 hSw; obtain ⟨p0, p1, p2⟩ := Three.cells hSw; go_simp; (try with_reducible rfl)
     (try simp only [Act.put, pu1, pu2, pu3])
     refine tkI 3 22 (v := ?_) rfl rfl ?_ ?_
     rotate_left
     · intro w1 hSw; go_simp; (try with_reducible rfl)
     (try simp only [Act.put, pu1, pu2, pu3])
     refine tkI 4 23 (v := ?_) rfl rfl ?_ ?_
     rotate_left
     · intro w1 hSw; go_simp; (try with_reducible rfl)
     (try simp only [Act.put, pu1, pu2, pu3])
     refine tkI 5 24 (v := ?_) rfl rfl ?_ ?_
     rotate_left
     · intro w1 hSw; go_simp; (try with_reducible rfl)
     (try simp only [Act.put, pu1, pu2, pu3])
     refine tkI 6 25 (v := ?_) rfl rfl ?_ ?_
     rotate_left
     · intro w1 hSw; obtain ⟨p0, p1, p2⟩ := Three.cells hSw; go_simp; (try with_reducible rfl)
     (try simp only [Act.put, pu1, pu2, pu3])
     refine tkI 7 26 (v := ?_) rfl rfl ?_ ?_
     rotate_left
     · intro w1 hSw; go_simp; (try with_reducible rfl)
     (try simp only [Act.put, pu1, pu2, pu3])
     refine wpAnyH_ready (rs := [8]) (by kernel_rfl) (by simp) ?_
     refine AllReadyH.cons rfl (fun KK hK => ?_) AllReadyH.nil
     go_simp
     refine (pickR (T.length : Int) RD.out (by omega) (by omega) (by omega)).mono ?_
     rintro e w6 ⟨x, x0, x1, rfl, q6, q60, q61, hr, hg⟩
     replace KZ := Lib.hid (KZ.out.grown hg (fun e => by injection e with e; omega))
     replace FZ := Lib.hid (FZ.out.grown hg (fun e => by injection e with e; omega))
     replace T5 := Lib.hid (T5.out.grown hg (fun e => by injection e with e; omega))
     replace BA := Lib.hid (BA.out.trans (Below.of_grown hg (by have := BA.out.size; have := LW.out; omega) (fun x hx => by injection hx with hx; omega)))
     replace OA := Lib.hid (show OwA w6 lo D1 d (some ⟨gT, oT, none⟩) t D T from ⟨own_same OA.out.d (fun x hx => hg.block x (own_block_ge OA.out.d x hx).2 (fun e => by injection e with e; have := (own_block_ge OA.out.d x hx).1; omega)), own_same OA.out.t (fun x hx => hg.block x (own_block_ge OA.out.t x hx).2 (fun e => by injection e with e; have := (own_block_ge OA.out.t x hx).1; omega)), OA.out.dt⟩)
     replace LW := Lib.hid (Nat.le_trans LW.out hg.size)
     have RD := Lib.hid hr
     clear hr hg
     refine hK.out _ _ T5.out (fun _ => ?_)
     clear hK KK
     (try simp only [Act.put, pu1, pu2, pu3])
     refine wpAnyH_ready (rs := [9]) (by kernel_rfl) (by simp) ?_
     refine AllReadyH.cons rfl (fun KK hK => ?_) AllReadyH.nil
     go_simp
     have hb : Below w6.heap.size w6 (w6.alloc (.cells #[.int .i64 0, .int .i64 0, .int .i64 x] 3)) := (Below.refl _ _).alloc (Nat.le_refl _) _
     have HC := Lib.hid (lit_cellsL w6 3 [0, 0, x])
     have l6 : R < w6.heap.size := RD.out.lt
     replace KZ := Lib.hid (Three.below KZ.out hb KZ.out.lt)
     replace FZ := Lib.hid (FZ.out.grown (Below.grownBy hb none) (by simp))
     replace T5 := Lib.hid (Three.below T5.out hb T5.out.lt)
     replace BA := Lib.hid (Below.and BA.out hb)
     replace OA := Lib.hid (OA.out.below hb)
     replace LW := Lib.hid (Nat.le_trans LW.out hb.size)
     have RD := Lib.hid (RD.out.below hb)
     clear hb
     obtain ⟨p9, hp9⟩ : ∃ X, X = w6.heap.size := ⟨_, rfl⟩
     obtain ⟨w7, hw7⟩ : ∃ X, X = w6.alloc (.cells #[.int .i64 0, .int .i64 0, .int .i64 x] 3) := ⟨_, rfl⟩
     replace HC : Hid (∀ i (hi : i < ([0, 0, x] : List Int).length), (w6.alloc (.cells #[.int .i64 0, .int .i64 0, .int .i64 x] 3)).cell? ⟨w6.heap.size, i, none⟩ = some (.int .i64 (([0, 0, x] : List Int)[i]'hi))) := HC
     rw [← hw7] at HC KZ FZ T5 BA OA LW RD ⊢
     rw [← hp9] at HC l6 ⊢
     clear hw7 hp9
     refine hK.out _ _ T5.out (fun _ => ?_)
     clear hK KK
     (try simp only [Act.put, pu1, pu2, pu3])
     refine wpAnyH_ready (rs := [10]) (by kernel_rfl) (by simp) ?_
     refine AllReadyH.cons rfl (fun KK hK => ?_) AllReadyH.nil
     go_simp
     refine (oneM p9 [0, 0, x] RD.out (by omega) (by simp) (by simp) (by omega) HC.out).mono ?_
     rintro e w8 ⟨v, hv, rfl, q8, q80, q81, hr, hg⟩
     have v0 : 0 ≤ v ∧ v < (T.length : Int) := by
      simp only [List.mem_cons, List.not_mem_nil, or_false] at hv
      rcases hv with rfl | rfl | rfl <;> omega
     clear hv HC
     replace KZ := Lib.hid (KZ.out.grown hg (fun e => by injection e with e; omega))
     replace FZ := Lib.hid (FZ.out.grown hg (fun e => by injection e with e; omega))
     replace T5 := Lib.hid (T5.out.grown hg (fun e => by injection e with e; omega))
     replace BA := Lib.hid (BA.out.trans (Below.of_grown hg (by have := BA.out.size; have := LW.out; omega) (fun x hx => by injection hx with hx; omega)))
     replace OA := Lib.hid (show OwA w8 lo D1 d (some ⟨gT, oT, none⟩) t D T from ⟨own_same OA.out.d (fun x hx => hg.block x (own_block_ge OA.out.d x hx).2 (fun e => by injection e with e; have := (own_block_ge OA.out.d x hx).1; omega)), own_same OA.out.t (fun x hx => hg.block x (own_block_ge OA.out.t x hx).2 (fun e => by injection e with e; have := (own_block_ge OA.out.t x hx).1; omega)), OA.out.dt⟩)
     replace LW := Lib.hid (Nat.le_trans LW.out hg.size)
     have RD := Lib.hid hr
     clear hr hg
     refine hK.out _ _ T5.out (fun _ => ?_)
     clear hK KK
     (try simp only [Act.put, pu1, pu2, pu3])
     obtain ⟨j, rfl⟩ : ∃ J : Nat, v = (J : Int) := ⟨v.toNat, by omega⟩
     have hj : j < T.length := by omega
     obtain ⟨g9, o9, e9, ca⟩ := OA.out.rdA.t j hj
     injection e9 with e9
     injection e9 with e9 e10
     subst e9 e10
     generalize T[j] = r at ca
     have a0 : w8.cell? ⟨gT, oT + j * 5, none⟩ = some (.int .i64 r.c) := ca 0 _ rfl
     have a1 : w8.cell? ⟨gT, oT + j * 5 + 1, none⟩ = some (.int .i64 r.n) := ca 1 _ rfl
     have a2 : w8.cell? ⟨gT, oT + j * 5 + 2, none⟩ = some (.int .i64 r.o) := ca 2 _ rfl
     have a3 : w8.cell? ⟨gT, oT + j * 5 + 3, none⟩ = some (.int .i64 r.x) := ca 3 _ rfl
     have a4 : w8.cell? ⟨gT, oT + j * 5 + 4, none⟩ = some (.int .i64 r.y) := ca 4 _ rfl
     have i0 : (0 : Int) ≤ (j : Int) := by omega
     have i1 : (j : Int) < (T.length : Int) := by omega
     clear ca v0
     refine tkI 11 30 (v := ?_) rfl rfl ?_ ?_
     rotate_left
     · intro w1 hSw; go_simp; (try with_reducible rfl)
     (try simp only [Act.put, pu1, pu2, pu3])
     refine wpAnyH_ready (rs := [12, 13]) (by kernel_rfl) (by simp) ?_
     refine AllReadyH.cons rfl (fun KK hK => ?_) (AllReadyH.cons rfl (fun KK hK => ?_) AllReadyH.nil)
     · go_simp
       refine hK.out _ _ T5.out (fun _ => ?_)
       clear hK KK
       (try simp only [Act.put, pu1, pu2, pu3])
       clear a0 a1 a2 a3 a4 i0 i1
       obtain ⟨z0, z1, z2⟩ := KZ.out.cells
       have zf := KZ.out.frozen
       obtain ⟨y0, y1, y2, y3, y4⟩ := FZ.out.cells
       have yf := FZ.out.frozen
       refine wpAnyH_ready (rs := [13]) (by kernel_rfl) (by simp) ?_
       refine AllReadyH.cons rfl (fun KK hK => ?_) AllReadyH.nil
       go_simp
       refine hK.out _ _ (((T5.out.far (by omega) (j := 0) _).far (by omega) (j := 1) _).far (by omega) (j := 2) _) (fun _ => ?_)
       clear hK KK
       (try simp only [Act.put, pu1, pu2, pu3])
       refine wpAnyH_ready (rs := [14]) (by kernel_rfl) (by simp) ?_
       refine AllReadyH.cons rfl (fun KK hK => ?_) AllReadyH.nil
       go_simp
       refine hK.out _ _ ((((((((T5.out.far (by omega) (j := 0) _).far (by omega) (j := 1) _).far (by omega) (j := 2) _).far (by omega) (j := 0) _).far (by omega) (j := 1) _).far (by omega) (j := 2) _).far (by omega) (j := 3) _).far (by omega) (j := 4) _) (fun _ => ?_)
       clear hK KK
       (try simp only [Act.put, pu1, pu2, pu3])
       refine wpAnyH_done (by kernel_rfl) ?_ _
       have OG := Lib.hid (((((((((OA.out.put (q := w.heap.size) (by omega) 0 (.slice D1 D.length d)).put (q := w.heap.size) (by omega) 1 (.slice (some ⟨gT, oT, none⟩) T.length t)).put (q := w.heap.size) (by omega) 2 (.int .i64 k)).put (q := w.heap.size + 1) (by omega) 0 (.int .i64 r.c)).put (q := w.heap.size + 1) (by omega) 1 (.int .i64 r.n)).put (q := w.heap.size + 1) (by omega) 2 (.int .i64 r.o)).put (q := w.heap.size + 1) (by omega) 3 (.int .i64 r.x)).put (q := w.heap.size + 1) (by omega) 4 (.int .i64 r.y)).base (show w.heap.size ≤ lo by omega))
       have BG := Lib.hid ((((((((BA.out.setCell (p := ⟨w.heap.size, 0, none⟩) (Nat.le_refl _) (.slice D1 D.length d)).setCell (p := ⟨w.heap.size, 1, none⟩) (Nat.le_refl _) (.slice (some ⟨gT, oT, none⟩) T.length t)).setCell (p := ⟨w.heap.size, 2, none⟩) (Nat.le_refl _) (.int .i64 k)).setCell (p := ⟨w.heap.size + 1, 0, none⟩) (by simp) (.int .i64 r.c)).setCell (p := ⟨w.heap.size + 1, 1, none⟩) (by simp) (.int .i64 r.n)).setCell (p := ⟨w.heap.size + 1, 2, none⟩) (by simp) (.int .i64 r.o)).setCell (p := ⟨w.heap.size + 1, 3, none⟩) (by simp) (.int .i64 r.x)).setCell (p := ⟨w.heap.size + 1, 4, none⟩) (by simp) (.int .i64 r.y))
       clear OA BA T5 KZ FZ RD
       go_wp2
       refine bodyPost_ret (v := .tuple #[aheadV D1 D.length d (some ⟨gT, oT, none⟩) T.length t k, r.val]) (by simp [results, Try.results22, go_sem, z0, z1, z2, y0, y1, y2, y3, y4]) rfl ⟨D1, d, (some ⟨gT, oT, none⟩), t, D, T, k, r, rfl, hD, hT, OG.out, BG.out⟩
     · have gn : ¬ w.heap.size = gT := by
        have := (own_block_ge OA.out.t gT rfl).1
        omega
       have gm : ¬ gT = w.heap.size := fun e => gn e.symm
       obtain ⟨z0, z1, z2⟩ := KZ.out.cells
       have zf := KZ.out.frozen
       obtain ⟨y0, y1, y2, y3, y4⟩ := FZ.out.cells
       have yf := FZ.out.frozen
       go_simp
       refine hK.out _ _ (((T5.out.far (by omega) (j := 0) _).far (by omega) (j := 1) _).far (by omega) (j := 2) _) (fun _ => ?_)
       clear hK KK
       (try simp only [Act.put, pu1, pu2, pu3])
       refine wpAnyH_ready (rs := [12]) (by kernel_rfl) (by simp) ?_
       refine AllReadyH.cons rfl (fun KK hK => ?_) AllReadyH.nil
       go_simp
       refine hK.out _ _ (((T5.out.far (by omega) (j := 0) _).far (by omega) (j := 1) _).far (by omega) (j := 2) _) (fun _ => ?_)
       clear hK KK
       (try simp only [Act.put, pu1, pu2, pu3])
       clear a0 a1 a2 a3 a4 i0 i1 gn gm
       refine wpAnyH_ready (rs := [14]) (by kernel_rfl) (by simp) ?_
       refine AllReadyH.cons rfl (fun KK hK => ?_) AllReadyH.nil
       go_simp
       refine hK.out _ _ ((((((((T5.out.far (by omega) (j := 0) _).far (by omega) (j := 1) _).far (by omega) (j := 2) _).far (by omega) (j := 0) _).far (by omega) (j := 1) _).far (by omega) (j := 2) _).far (by omega) (j := 3) _).far (by omega) (j := 4) _) (fun _ => ?_)
       clear hK KK
       (try simp only [Act.put, pu1, pu2, pu3])
       refine wpAnyH_done (by kernel_rfl) ?_ _
       have OG := Lib.hid (((((((((OA.out.put (q := w.heap.size) (by omega) 0 (.slice D1 D.length d)).put (q := w.heap.size) (by omega) 1 (.slice (some ⟨gT, oT, none⟩) T.length t)).put (q := w.heap.size) (by omega) 2 (.int .i64 k)).put (q := w.heap.size + 1) (by omega) 0 (.int .i64 r.c)).put (q := w.heap.size + 1) (by omega) 1 (.int .i64 r.n)).put (q := w.heap.size + 1) (by omega) 2 (.int .i64 r.o)).put (q := w.heap.size + 1) (by omega) 3 (.int .i64 r.x)).put (q := w.heap.size + 1) (by omega) 4 (.int .i64 r.y)).base (show w.heap.size ≤ lo by omega))
       have BG := Lib.hid ((((((((BA.out.setCell (p := ⟨w.heap.size, 0, none⟩) (Nat.le_refl _) (.slice D1 D.length d)).setCell (p := ⟨w.heap.size, 1, none⟩) (Nat.le_refl _) (.slice (some ⟨gT, oT, none⟩) T.length t)).setCell (p := ⟨w.heap.size, 2, none⟩) (Nat.le_refl _) (.int .i64 k)).setCell (p := ⟨w.heap.size + 1, 0, none⟩) (by simp) (.int .i64 r.c)).setCell (p := ⟨w.heap.size + 1, 1, none⟩) (by simp) (.int .i64 r.n)).setCell (p := ⟨w.heap.size + 1, 2, none⟩) (by simp) (.int .i64 r.o)).setCell (p := ⟨w.heap.size + 1, 3, none⟩) (by simp) (.int .i64 r.x)).setCell (p := ⟨w.heap.size + 1, 4, none⟩) (by simp) (.int .i64 r.y))
       clear OA BA T5 KZ FZ RD
       go_wp2
       refine bodyPost_ret (v := .tuple #[aheadV D1 D.length d (some ⟨gT, oT, none⟩) T.length t k, r.val]) (by simp [results, Try.results22, go_sem, z0, z1, z2, y0, y1, y2, y3, y4]) rfl ⟨D1, d, (some ⟨gT, oT, none⟩), t, D, T, k, r, rfl, hD, hT, OG.out, BG.out⟩
   · have eg : decide (0 < g) = false := decide_eq_false hg0
     go_upto_region 5 with (fail)
     clear eg hg0
     refine wp_region_held_drew (S := fun WS => Three WS p5 25 (.slice D1 D.length d) (.slice T1 T.length t) (.int .i64 k)) (by kernel_rfl) T5.out.drew (fun hS0 => ?_)
     have hb : Below w4.heap.size w4 w4.drew := (Below.refl _ _).drew
     replace KZ := Lib.hid (Three.below KZ.out hb KZ.out.lt)
     replace FZ := Lib.hid (FZ.out.grown (Below.grownBy hb none) (by simp))
     replace T5 := Lib.hid (Three.below T5.out hb T5.out.lt)
     replace BA := Lib.hid (Below.and BA.out hb)
     replace OA := Lib.hid (OA.out.below hb)
     replace LW := Lib.hid (Nat.le_trans LW.out hb.size)
     have RD := Lib.hid (RD.out.below hb)
     clear hb
     obtain ⟨w0, hw0⟩ : ∃ X, X = w4.drew := ⟨_, rfl⟩
     rw [← hw0] at hS0 KZ FZ T5 BA OA LW RD ⊢
     clear hw0
     refine tkI 0 32 (v := ?_) rfl rfl ?_ ?_
     rotate_left
     · intro w1 hSw; obtain ⟨p0, p1, p2⟩ := Three.cells hSw; go_simp; (try with_reducible rfl)
     (try simp only [Act.put, pu1, pu2, pu3])
     refine tkI 1 33 (v := ?_) rfl rfl ?_ ?_
     rotate_left
     · intro w1 hSw; go_simp; (try with_reducible rfl)
     (try simp only [Act.put, pu1, pu2, pu3])
     refine wpAnyH_ready (rs := [2]) (by kernel_rfl) (by simp) ?_
     refine AllReadyH.cons rfl (fun KK hK => ?_) AllReadyH.nil
     go_simp
     refine (l20AnyReq RD.out (by omega)).mono ?_
     rintro e wy ⟨rc, rn, ro, rx, ry, rfl, qy, qy0, qy1, hr, hg⟩
     replace KZ := Lib.hid (KZ.out.grown hg (fun e => by injection e with e; omega))
     replace FZ := Lib.hid (FZ.out.grown hg (fun e => by injection e with e; omega))
     replace T5 := Lib.hid (T5.out.grown hg (fun e => by injection e with e; omega))
     replace BA := Lib.hid (BA.out.trans (Below.of_grown hg (by have := BA.out.size; have := LW.out; omega) (fun x hx => by injection hx with hx; omega)))
     replace OA := Lib.hid (show OwA wy lo D1 d T1 t D T from ⟨own_same OA.out.d (fun x hx => hg.block x (own_block_ge OA.out.d x hx).2 (fun e => by injection e with e; have := (own_block_ge OA.out.d x hx).1; omega)), own_same OA.out.t (fun x hx => hg.block x (own_block_ge OA.out.t x hx).2 (fun e => by injection e with e; have := (own_block_ge OA.out.t x hx).1; omega)), OA.out.dt⟩)
     replace LW := Lib.hid (Nat.le_trans LW.out hg.size)
     have RD := Lib.hid hr
     clear hr hg
     refine hK.out _ _ T5.out (fun _ => ?_)
     clear hK KK
     (try simp only [Act.put, pu1, pu2, pu3])
     obtain ⟨z0, z1, z2⟩ := KZ.out.cells
     have zf := KZ.out.frozen
     obtain ⟨y0, y1, y2, y3, y4⟩ := FZ.out.cells
     have yf := FZ.out.frozen
     refine wpAnyH_ready (rs := [3]) (by kernel_rfl) (by simp) ?_
     refine AllReadyH.cons rfl (fun KK hK => ?_) AllReadyH.nil
     go_simp
     refine hK.out _ _ (((T5.out.far (by omega) (j := 0) _).far (by omega) (j := 1) _).far (by omega) (j := 2) _) (fun _ => ?_)
     clear hK KK
     (try simp only [Act.put, pu1, pu2, pu3])
     refine wpAnyH_ready (rs := [4]) (by kernel_rfl) (by simp) ?_
     refine AllReadyH.cons rfl (fun KK hK => ?_) AllReadyH.nil
     go_simp
     refine hK.out _ _ ((((((((T5.out.far (by omega) (j := 0) _).far (by omega) (j := 1) _).far (by omega) (j := 2) _).far (by omega) (j := 0) _).far (by omega) (j := 1) _).far (by omega) (j := 2) _).far (by omega) (j := 3) _).far (by omega) (j := 4) _) (fun _ => ?_)
     clear hK KK
     (try simp only [Act.put, pu1, pu2, pu3])
     refine wpAnyH_done (by kernel_rfl) ?_ _
     have OG := Lib.hid (((((((((OA.out.put (q := w.heap.size) (by omega) 0 (.slice D1 D.length d)).put (q := w.heap.size) (by omega) 1 (.slice T1 T.length t)).put (q := w.heap.size) (by omega) 2 (.int .i64 k)).put (q := w.heap.size + 1) (by omega) 0 (.int .i64 rc)).put (q := w.heap.size + 1) (by omega) 1 (.int .i64 rn)).put (q := w.heap.size + 1) (by omega) 2 (.int .i64 ro)).put (q := w.heap.size + 1) (by omega) 3 (.int .i64 rx)).put (q := w.heap.size + 1) (by omega) 4 (.int .i64 ry)).base (show w.heap.size ≤ lo by omega))
     have BG := Lib.hid ((((((((BA.out.setCell (p := ⟨w.heap.size, 0, none⟩) (Nat.le_refl _) (.slice D1 D.length d)).setCell (p := ⟨w.heap.size, 1, none⟩) (Nat.le_refl _) (.slice T1 T.length t)).setCell (p := ⟨w.heap.size, 2, none⟩) (Nat.le_refl _) (.int .i64 k)).setCell (p := ⟨w.heap.size + 1, 0, none⟩) (by simp) (.int .i64 rc)).setCell (p := ⟨w.heap.size + 1, 1, none⟩) (by simp) (.int .i64 rn)).setCell (p := ⟨w.heap.size + 1, 2, none⟩) (by simp) (.int .i64 ro)).setCell (p := ⟨w.heap.size + 1, 3, none⟩) (by simp) (.int .i64 rx)).setCell (p := ⟨w.heap.size + 1, 4, none⟩) (by simp) (.int .i64 ry))
     clear OA BA T5 KZ FZ RD
     go_wp2
     refine bodyPost_ret (v := .tuple #[aheadV D1 D.length d T1 T.length t k, (⟨rc, rn, ro, rx, ry⟩ : Rq).val]) (by simp [results, Try.results22, go_sem, z0, z1, z2, y0, y1, y2, y3, y4]) rfl ⟨D1, d, T1, t, D, T, k, ⟨rc, rn, ro, rx, ry⟩, rfl, hD, hT, OG.out, BG.out⟩
 · have e0 : decide ((0 : Int) < (T.length : Int)) = false := decide_eq_false (by omega)
   obtain ⟨p0, p1, p2⟩ := T5.out.cells
   go_upto_region 5 with (fail)
   clear e0 p0 p1 p2
   refine wp_region_held_drew (S := fun WS => Three WS p5 25 (.slice D1 D.length d) (.slice T1 T.length t) (.int .i64 k)) (by kernel_rfl) T5.out.drew (fun hS0 => ?_)
   have hb : Below w3.heap.size w3 w3.drew := (Below.refl _ _).drew
   replace KZ := Lib.hid (Three.below KZ.out hb KZ.out.lt)
   replace FZ := Lib.hid (FZ.out.grown (Below.grownBy hb none) (by simp))
   replace T5 := Lib.hid (Three.below T5.out hb T5.out.lt)
   replace BA := Lib.hid (Below.and BA.out hb)
   replace OA := Lib.hid (OA.out.below hb)
   replace LW := Lib.hid (Nat.le_trans LW.out hb.size)
   have RD := Lib.hid (RD.out.below hb)
   clear hb
   obtain ⟨w0, hw0⟩ : ∃ X, X = w3.drew := ⟨_, rfl⟩
   rw [← hw0] at hS0 KZ FZ T5 BA OA LW RD ⊢
   clear hw0
   refine tkI 0 32 (v := ?_) rfl rfl ?_ ?_
   rotate_left
   · intro w1 hSw; obtain ⟨p0, p1, p2⟩ := Three.cells hSw; go_simp; (try with_reducible rfl)
   (try simp only [Act.put, pu1, pu2, pu3])
   refine tkI 1 33 (v := ?_) rfl rfl ?_ ?_
   rotate_left
   · intro w1 hSw; go_simp; (try with_reducible rfl)
   (try simp only [Act.put, pu1, pu2, pu3])
   refine wpAnyH_ready (rs := [2]) (by kernel_rfl) (by simp) ?_
   refine AllReadyH.cons rfl (fun KK hK => ?_) AllReadyH.nil
   go_simp
   refine (l20AnyReq RD.out (by omega)).mono ?_
   rintro e wy ⟨rc, rn, ro, rx, ry, rfl, qy, qy0, qy1, hr, hg⟩
   replace KZ := Lib.hid (KZ.out.grown hg (fun e => by injection e with e; omega))
   replace FZ := Lib.hid (FZ.out.grown hg (fun e => by injection e with e; omega))
   replace T5 := Lib.hid (T5.out.grown hg (fun e => by injection e with e; omega))
   replace BA := Lib.hid (BA.out.trans (Below.of_grown hg (by have := BA.out.size; have := LW.out; omega) (fun x hx => by injection hx with hx; omega)))
   replace OA := Lib.hid (show OwA wy lo D1 d T1 t D T from ⟨own_same OA.out.d (fun x hx => hg.block x (own_block_ge OA.out.d x hx).2 (fun e => by injection e with e; have := (own_block_ge OA.out.d x hx).1; omega)), own_same OA.out.t (fun x hx => hg.block x (own_block_ge OA.out.t x hx).2 (fun e => by injection e with e; have := (own_block_ge OA.out.t x hx).1; omega)), OA.out.dt⟩)
   replace LW := Lib.hid (Nat.le_trans LW.out hg.size)
   have RD := Lib.hid hr
   clear hr hg
   refine hK.out _ _ T5.out (fun _ => ?_)
   clear hK KK
   (try simp only [Act.put, pu1, pu2, pu3])
   obtain ⟨z0, z1, z2⟩ := KZ.out.cells
   have zf := KZ.out.frozen
   obtain ⟨y0, y1, y2, y3, y4⟩ := FZ.out.cells
   have yf := FZ.out.frozen
   refine wpAnyH_ready (rs := [3]) (by kernel_rfl) (by simp) ?_
   refine AllReadyH.cons rfl (fun KK hK => ?_) AllReadyH.nil
   go_simp
   refine hK.out _ _ (((T5.out.far (by omega) (j := 0) _).far (by omega) (j := 1) _).far (by omega) (j := 2) _) (fun _ => ?_)
   clear hK KK
   (try simp only [Act.put, pu1, pu2, pu3])
   refine wpAnyH_ready (rs := [4]) (by kernel_rfl) (by simp) ?_
   refine AllReadyH.cons rfl (fun KK hK => ?_) AllReadyH.nil
   go_simp
   refine hK.out _ _ ((((((((T5.out.far (by omega) (j := 0) _).far (by omega) (j := 1) _).far (by omega) (j := 2) _).far (by omega) (j := 0) _).far (by omega) (j := 1) _).far (by omega) (j := 2) _).far (by omega) (j := 3) _).far (by omega) (j := 4) _) (fun _ => ?_)
   clear hK KK
   (try simp only [Act.put, pu1, pu2, pu3])
   refine wpAnyH_done (by kernel_rfl) ?_ _
   have OG := Lib.hid (((((((((OA.out.put (q := w.heap.size) (by omega) 0 (.slice D1 D.length d)).put (q := w.heap.size) (by omega) 1 (.slice T1 T.length t)).put (q := w.heap.size) (by omega) 2 (.int .i64 k)).put (q := w.heap.size + 1) (by omega) 0 (.int .i64 rc)).put (q := w.heap.size + 1) (by omega) 1 (.int .i64 rn)).put (q := w.heap.size + 1) (by omega) 2 (.int .i64 ro)).put (q := w.heap.size + 1) (by omega) 3 (.int .i64 rx)).put (q := w.heap.size + 1) (by omega) 4 (.int .i64 ry)).base (show w.heap.size ≤ lo by omega))
   have BG := Lib.hid ((((((((BA.out.setCell (p := ⟨w.heap.size, 0, none⟩) (Nat.le_refl _) (.slice D1 D.length d)).setCell (p := ⟨w.heap.size, 1, none⟩) (Nat.le_refl _) (.slice T1 T.length t)).setCell (p := ⟨w.heap.size, 2, none⟩) (Nat.le_refl _) (.int .i64 k)).setCell (p := ⟨w.heap.size + 1, 0, none⟩) (by simp) (.int .i64 rc)).setCell (p := ⟨w.heap.size + 1, 1, none⟩) (by simp) (.int .i64 rn)).setCell (p := ⟨w.heap.size + 1, 2, none⟩) (by simp) (.int .i64 ro)).setCell (p := ⟨w.heap.size + 1, 3, none⟩) (by simp) (.int .i64 rx)).setCell (p := ⟨w.heap.size + 1, 4, none⟩) (by simp) (.int .i64 ry))
   clear OA BA T5 KZ FZ RD
   go_wp2
   refine bodyPost_ret (v := .tuple #[aheadV D1 D.length d T1 T.length t k, (⟨rc, rn, ro, rx, ry⟩ : Rq).val]) (by simp [results, Try.results22, go_sem, z0, z1, z2, y0, y1, y2, y3, y4]) rfl ⟨D1, d, T1, t, D, T, k, ⟨rc, rn, ro, rx, ry⟩, rfl, hD, hT, OG.out, BG.out⟩

end Go.Proofs.Ytnpdlpkomfegfaa
