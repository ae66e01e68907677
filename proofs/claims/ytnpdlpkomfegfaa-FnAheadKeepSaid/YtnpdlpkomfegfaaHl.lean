/- AheadKeep, both ways. -/
import Derived.Test.YtnpdlpkomfegfaaHk
namespace Go.Proofs.Ytnpdlpkomfegfaa
open Go.ChangeShapes Go.WideShapes Go.ChangeAt Go.RowKit
set_option linter.unusedVariables false
set_option linter.unusedSimpArgs false

def delT : Option Nat → List Rq → List Rq
 | none, T => T
 | some i, T => T.eraseIdx i
def bumpK (T : List Rq) (m : Option Nat) (k : Int) : Int := if 0 < T.length ∧ m ≠ some 0 then (if k < 99 then k + 1 else k) else k
/-- What AheadKeep gives. -/
def keepA (D T : List Rq) (k : Int) (r : Rq) : Ah × Bool :=
 if ahB D T k = true then (if okB r = true ∧ ¬ (atR r T = none ∧ D.length + T.length = 60) then ((D ++ [r], delT (atR r T) T, bumpK T (atR r T) k), true) else ((D, T, k), false)) else (([], [], 0), false)
theorem ahB_k {D T : List Rq} {k : Int} (h : ahB D T k = true) : 0 ≤ k ∧ k ≤ 99 := by
 unfold ahB at h
 simp only [Bool.and_eq_true, decide_eq_true_eq, inB] at h
 exact h.2.1
theorem OwA.pushD {W w' : World} {lo : Nat} {A : Option Addr} {a : Nat} {B : Option Addr} {b : Nat} {D T : List Rq} (h : OwA W lo A a B b D T) {v' : Value} {r : Rq} (ho : w'.ownsRow lo 37 5 v' (D.length + 1) (D.flatMap Rq.cells ++ [r].flatMap Rq.cells)) (hg : W.grownBy w' (Value.slice A D.length a).ownBlock) (hp : v'.ownBlock = (Value.slice A D.length a).ownBlock ∨ v'.ownBlock = some W.heap.size) :
 ∃ A' a', v' = .slice A' (D ++ [r]).length a' ∧ OwA w' lo A' a' B b (D ++ [r]) T := by
 have h1 := app_keepH h.t hg h.dt
 have h2 := app_apartH h.t hp h.dt
 obtain ⟨A', a', rfl⟩ := own_formH ho
 have hl : D.length + 1 = (D ++ [r]).length := by simp
 rw [← List.flatMap_append, hl] at ho
 rw [hl] at h2
 exact ⟨A', a', by rw [hl], ho, h1, h2⟩
theorem OwA.cut {W w' : World} {lo g : Nat} {A : Option Addr} {a b i : Nat} {D T : List Rq} (h : OwA W lo A a (some ⟨g, 0, none⟩) b D T) (hi : i < T.length) (ho : w'.ownsRow lo 37 5 (.slice (some ⟨g, 0, none⟩) (T.length - 1) b) (T.length - 1) (rqs (T.eraseIdx i))) (hg : W.grownBy w' (some g)) :
 OwA w' lo A a (some ⟨g, 0, none⟩) b D (T.eraseIdx i) := by
 have hl : T.length - 1 = (T.eraseIdx i).length := by rw [List.length_eraseIdx, if_pos hi]
 rw [hl] at ho
 exact ⟨app_keepH (u := .slice (some ⟨g, 0, none⟩) T.length b) h.d hg (apart_symmH h.dt), ho, fun x hx => h.dt x hx⟩

set_option maxRecDepth 100000 in
set_option maxHeartbeats 4000000 in
theorem implAheadKeep (A : Option Addr) (a : Nat) (B : Option Addr) (b : Nat) (D T : List Rq) (k : Int) (r : Rq) (w : World) (hD : D.length ≤ 1048576) (hT : T.length ≤ 1048576) (h : RdA w A a B b D T) :
 Calls Try.prog 23 #[aheadV A D.length a B T.length b k, r.val] w (DoAh (keepA D T k r) w) := by
 obtain ⟨rc, rn, ro, rx, ry⟩ := r
 obtain ⟨I, hi, hz0, hz1, hz2⟩ := parts_ofH infoReqH
 have I1 := Lib.hid hi
 have I2 := Lib.hid hz0
 have I3 := Lib.hid hz1
 have I4 := Lib.hid hz2
 clear hi hz0 hz1 hz2
 have HR := Lib.hid h
 have K2 := Lib.hid (((Three.new (u0 := .slice A D.length a) (u1 := .slice B T.length b) (u2 := .int .i64 k) (t := 25) w).alloc (.cells #[.int .i64 rc, .int .i64 rn, .int .i64 ro, .int .i64 rx, .int .i64 ry] 37)).alloc (.cells #[.slice none 0 0, .slice none 0 0, .int .i64 0] 25))
 have F3 : Hid (Five (((w.alloc (.cells #[.slice A D.length a, .slice B T.length b, .int .i64 k] 25)).alloc (.cells #[.int .i64 rc, .int .i64 rn, .int .i64 ro, .int .i64 rx, .int .i64 ry] 37)).alloc (.cells #[.slice none 0 0, .slice none 0 0, .int .i64 0] 25)) (w.heap.size + 1) 37 (.int .i64 rc) (.int .i64 rn) (.int .i64 ro) (.int .i64 rx) (.int .i64 ry)) := by have := (Five.new (u0 := .int .i64 rc) (u1 := .int .i64 rn) (u2 := .int .i64 ro) (u3 := .int .i64 rx) (u4 := .int .i64 ry) (t := 37) (w.alloc (.cells #[.slice A D.length a, .slice B T.length b, .int .i64 k] 25))).alloc (.cells #[.slice none 0 0, .slice none 0 0, .int .i64 0] 25); simpa [Hid] using this
 have K4 : Hid (Three (((w.alloc (.cells #[.slice A D.length a, .slice B T.length b, .int .i64 k] 25)).alloc (.cells #[.int .i64 rc, .int .i64 rn, .int .i64 ro, .int .i64 rx, .int .i64 ry] 37)).alloc (.cells #[.slice none 0 0, .slice none 0 0, .int .i64 0] 25)) (w.heap.size + 1 + 1) 25 (.slice none 0 0) (.slice none 0 0) (.int .i64 0)) := by have := Three.new (u0 := .slice none 0 0) (u1 := .slice none 0 0) (u2 := .int .i64 0) (t := 25) ((w.alloc (.cells #[.slice A D.length a, .slice B T.length b, .int .i64 k] 25)).alloc (.cells #[.int .i64 rc, .int .i64 rn, .int .i64 ro, .int .i64 rx, .int .i64 ry] 37)); simpa [Hid] using this
 have Z : Hid (Below w.heap.size w (((w.alloc (.cells #[.slice A D.length a, .slice B T.length b, .int .i64 k] 25)).alloc (.cells #[.int .i64 rc, .int .i64 rn, .int .i64 ro, .int .i64 rx, .int .i64 ry] 37)).alloc (.cells #[.slice none 0 0, .slice none 0 0, .int .i64 0] 25))) := (below_alloc2 w _ _).alloc (by simp; omega) _
 have ew : IntKind.i64.wrap ((D.length : Int) + (T.length : Int)) = (D.length : Int) + (T.length : Int) := IntWalk.i64_in _ (by omega)
 have EW := Lib.hid ew
 clear h ew
 go_enter Try.func23, Try.ntmps23
 go_upto_region 1 with (fail)
 have LZ0 : (((w.alloc (.cells #[.slice A D.length a, .slice B T.length b, .int .i64 k] 25)).alloc (.cells #[.int .i64 rc, .int .i64 rn, .int .i64 ro, .int .i64 rx, .int .i64 ry] 37)).alloc (.cells #[.slice none 0 0, .slice none 0 0, .int .i64 0] 25)).heap.size = w.heap.size + 3 := by simp
 obtain ⟨w0, hw0⟩ : ∃ X, X = (((w.alloc (.cells #[.slice A D.length a, .slice B T.length b, .int .i64 k] 25)).alloc (.cells #[.int .i64 rc, .int .i64 rn, .int .i64 ro, .int .i64 rx, .int .i64 ry] 37)).alloc (.cells #[.slice none 0 0, .slice none 0 0, .int .i64 0] 25)) := ⟨_, rfl⟩
 rw [← hw0] at K2 F3 K4 Z LZ0 ⊢
 have LZ := Lib.hid (show w.heap.size + 3 ≤ w0.heap.size by omega)
 clear hw0 LZ0
 obtain ⟨p0, p1, p2⟩ := K2.out.cells
 obtain ⟨y0, y1, y2, y3, y4⟩ := F3.out.cells
 go_wp2_with (fail)
 refine (implAheadOk A a B b D T k _ hD hT (Rd.below HR.out.d Z.out) (Rd.below HR.out.t Z.out)).mono ?_
 rintro e w1 ⟨rfl, hb⟩
 have K2 := Lib.hid (Three.below K2.out hb K2.out.lt)
 have F3 := Lib.hid (F3.out.grown (Below.grownBy hb none) (by simp))
 have K4 := Lib.hid (Three.below K4.out hb K4.out.lt)
 have Z := Lib.hid (Below.and Z.out hb)
 have LZ := Lib.hid (Nat.le_trans LZ.out hb.size)
 clear p0 p1 p2 y0 y1 y2 y3 y4
 clear hb
 rcases hok : ahB D T k with _ | _
 · have HX := Lib.hid (show keepA D T k ⟨rc, rn, ro, rx, ry⟩ = (([], [], 0), false) by unfold keepA; rw [hok]; rfl)
   clear hok
   obtain ⟨z0, z1, z2⟩ := K4.out.cells
   have zf := K4.out.frozen
   have lz := K4.out.lt
   have BG := Lib.hid (((Z.out.setCell (p := ⟨w.heap.size + 1 + 1, 0, none⟩) (by simp; omega) (.slice none 0 0)).setCell (p := ⟨w.heap.size + 1 + 1, 1, none⟩) (by simp; omega) (.slice none 0 0)).setCell (p := ⟨w.heap.size + 1 + 1, 2, none⟩) (by simp; omega) (.int .i64 0))
   skip
   clear K4 Z
   go_wp2
   refine bodyPost_ret (v := .tuple #[aheadV none 0 0 none 0 0 0, .bool false]) (by simp [results, Try.results23, go_sem, z0, z1, z2]) rfl ?_
   rw [HX.out]
   exact ⟨none, 0, none, 0, rfl, OwA.nil _ _, BG.out⟩
 have HL := Lib.hid (ahB_len hok)
 have HK := Lib.hid (ahB_k hok)
 have HOK := Lib.hid hok
 clear hok
 obtain ⟨p0, p1, p2⟩ := K2.out.cells
 obtain ⟨y0, y1, y2, y3, y4⟩ := F3.out.cells
 go_wp2_with (fail)
 refine (copyAhead A a B b D T k _ hD hT (Rd.below HR.out.d Z.out) (Rd.below HR.out.t Z.out) HR.out.nA HR.out.nB).mono ?_
 rintro e w2 ⟨A1, a1, B1, b1, rfl, oa, hb⟩
 have K2 := Lib.hid (Three.below K2.out hb K2.out.lt)
 have F3 := Lib.hid (F3.out.grown (Below.grownBy hb none) (by simp))
 have K4 := Lib.hid (Three.below K4.out hb K4.out.lt)
 have Z := Lib.hid (Below.and Z.out hb)
 have LZ2 := Nat.le_trans LZ.out hb.size
 have oa := oa.base LZ.out
 clear p0 p1 p2 y0 y1 y2 y3 y4
 clear hb
 have hba : Below w2.heap.size w2 (w2.alloc (.cells #[.slice A1 D.length a1, .slice B1 T.length b1, .int .i64 k] 25)) := (Below.refl _ _).alloc (Nat.le_refl _) _
 have K6 := Lib.hid (Three.new (u0 := .slice A1 D.length a1) (u1 := .slice B1 T.length b1) (u2 := .int .i64 k) (t := 25) w2)
 have OA := Lib.hid (oa.below hba)
 have K2 := Lib.hid (Three.below K2.out hba K2.out.lt)
 have F3 := Lib.hid (F3.out.grown (Below.grownBy hba none) (by simp))
 have K4 := Lib.hid (Three.below K4.out hba K4.out.lt)
 have Z := Lib.hid (Below.and Z.out hba)
 clear oa hba
 go_upto_region 4 with (fail)
 obtain ⟨p6, hp6⟩ : ∃ X, X = w2.heap.size := ⟨_, rfl⟩
 obtain ⟨wA, hwA⟩ : ∃ X, X = w2.alloc (.cells #[.slice A1 D.length a1, .slice B1 T.length b1, .int .i64 k] 25) := ⟨_, rfl⟩
 rw [← hwA] at K6 OA K2 F3 K4 Z ⊢
 rw [← hp6] at K6 LZ2 ⊢
 clear hwA hp6 LZ
 obtain ⟨p0, p1, p2⟩ := K2.out.cells
 obtain ⟨y0, y1, y2, y3, y4⟩ := F3.out.cells
 go_wp2_with (fail)
 refine (reqIndex B b T ⟨rc, rn, ro, rx, ry⟩ _ hT (Rd.below HR.out.t Z.out)).mono ?_
 rintro e w3 ⟨rfl, hb⟩
 have K2 := Lib.hid (Three.below K2.out hb K2.out.lt)
 have F3 := Lib.hid (F3.out.grown (Below.grownBy hb none) (by simp))
 have K4 := Lib.hid (Three.below K4.out hb K4.out.lt)
 have Z := Lib.hid (Below.and Z.out hb)
 have K6 := Lib.hid (Three.below K6.out hb K6.out.lt)
 have OA := Lib.hid (OA.out.below hb)
 clear p0 p1 p2 y0 y1 y2 y3 y4
 clear hb
 obtain ⟨m, hm⟩ : ∃ m, m = atR ⟨rc, rn, ro, rx, ry⟩ T := ⟨_, rfl⟩
 rw [← hm]
 have HM := Lib.hid hm
 clear hm
 rcases m with _ | i
 · rw [show atV none = -1 from rfl]
   obtain ⟨p0, p1, p2⟩ := K2.out.cells
   obtain ⟨y0, y1, y2, y3, y4⟩ := F3.out.cells
   go_wp2_with (fail)
   refine (okOrNull ⟨rc, rn, ro, rx, ry⟩ _).mono ?_
   rintro e w4 ⟨rfl, hb⟩
   have K2 := Lib.hid (Three.below K2.out hb K2.out.lt)
   have F3 := Lib.hid (F3.out.grown (Below.grownBy hb none) (by simp))
   have K4 := Lib.hid (Three.below K4.out hb K4.out.lt)
   have Z := Lib.hid (Below.and Z.out hb)
   have K6 := Lib.hid (Three.below K6.out hb K6.out.lt)
   have OA := Lib.hid (OA.out.below hb)
   clear p0 p1 p2 y0 y1 y2 y3 y4
   clear hb
   rcases hq : okB ⟨rc, rn, ro, rx, ry⟩ with _ | _
   · have HX := Lib.hid (show keepA D T k ⟨rc, rn, ro, rx, ry⟩ = ((D, T, k), false) by unfold keepA; rw [if_pos HOK.out, if_neg (by simp [hq])])
     obtain ⟨p0, p1, p2⟩ := K2.out.cells
     obtain ⟨y0, y1, y2, y3, y4⟩ := F3.out.cells
     obtain ⟨x0, x1, x2⟩ := K6.out.cells
     obtain ⟨z0, z1, z2⟩ := K4.out.cells
     have zf := K4.out.frozen
     have lz := K4.out.lt
     have BG := Lib.hid (((Z.out.setCell (p := ⟨w.heap.size + 1 + 1, 0, none⟩) (by simp; omega) (.slice A1 D.length a1)).setCell (p := ⟨w.heap.size + 1 + 1, 1, none⟩) (by simp; omega) (.slice B1 T.length b1)).setCell (p := ⟨w.heap.size + 1 + 1, 2, none⟩) (by simp; omega) (.int .i64 k))
     have OG := Lib.hid ((((OA.out.put (q := w.heap.size + 1 + 1) (by omega) 0 (.slice A1 D.length a1)).put (q := w.heap.size + 1 + 1) (by omega) 1 (.slice B1 T.length b1)).put (q := w.heap.size + 1 + 1) (by omega) 2 (.int .i64 k)).base (show w.heap.size ≤ w.heap.size + 3 by omega))
     clear K4 Z
     go_wp2
     refine bodyPost_ret (v := .tuple #[aheadV A1 D.length a1 B1 T.length b1 k, .bool false]) (by simp [results, Try.results23, go_sem, z0, z1, z2]) rfl ?_
     rw [HX.out]
     exact ⟨A1, a1, B1, b1, rfl, OG.out, BG.out⟩
   · have HQ := Lib.hid hq
     clear hq
     obtain ⟨p0, p1, p2⟩ := K2.out.cells
     obtain ⟨y0, y1, y2, y3, y4⟩ := F3.out.cells
     go_wp2_with (fail)
     refine (isFull A D.length a B T.length b k _ hD hT).mono ?_
     rintro e w5 ⟨rfl, hb⟩
     have K2 := Lib.hid (Three.below K2.out hb K2.out.lt)
     have F3 := Lib.hid (F3.out.grown (Below.grownBy hb none) (by simp))
     have K4 := Lib.hid (Three.below K4.out hb K4.out.lt)
     have Z := Lib.hid (Below.and Z.out hb)
     have K6 := Lib.hid (Three.below K6.out hb K6.out.lt)
     have OA := Lib.hid (OA.out.below hb)
     clear p0 p1 p2 y0 y1 y2 y3 y4
     clear hb
     by_cases hf : D.length + T.length = 60
     · rw [show decide (D.length + T.length = 60) = true from decide_eq_true hf]
       have HX := Lib.hid (show keepA D T k ⟨rc, rn, ro, rx, ry⟩ = ((D, T, k), false) by unfold keepA; rw [if_pos HOK.out, if_neg (by rw [← HM.out]; simp [hf])])
       obtain ⟨p0, p1, p2⟩ := K2.out.cells
       obtain ⟨y0, y1, y2, y3, y4⟩ := F3.out.cells
       obtain ⟨x0, x1, x2⟩ := K6.out.cells
       obtain ⟨z0, z1, z2⟩ := K4.out.cells
       have zf := K4.out.frozen
       have lz := K4.out.lt
       have BG := Lib.hid (((Z.out.setCell (p := ⟨w.heap.size + 1 + 1, 0, none⟩) (by simp; omega) (.slice A1 D.length a1)).setCell (p := ⟨w.heap.size + 1 + 1, 1, none⟩) (by simp; omega) (.slice B1 T.length b1)).setCell (p := ⟨w.heap.size + 1 + 1, 2, none⟩) (by simp; omega) (.int .i64 k))
       have OG := Lib.hid ((((OA.out.put (q := w.heap.size + 1 + 1) (by omega) 0 (.slice A1 D.length a1)).put (q := w.heap.size + 1 + 1) (by omega) 1 (.slice B1 T.length b1)).put (q := w.heap.size + 1 + 1) (by omega) 2 (.int .i64 k)).base (show w.heap.size ≤ w.heap.size + 3 by omega))
       clear K4 Z
       go_wp2
       refine bodyPost_ret (v := .tuple #[aheadV A1 D.length a1 B1 T.length b1 k, .bool false]) (by simp [results, Try.results23, go_sem, z0, z1, z2]) rfl ?_
       rw [HX.out]
       exact ⟨A1, a1, B1, b1, rfl, OG.out, BG.out⟩
     have HGO : Hid (okB ⟨rc, rn, ro, rx, ry⟩ = true ∧ ¬ (atR ⟨rc, rn, ro, rx, ry⟩ T = none ∧ D.length + T.length = 60)) := ⟨HQ.out, fun e => hf e.2⟩
     rw [show decide (D.length + T.length = 60) = false from decide_eq_false hf]
     clear hf
     by_cases h0 : 0 < T.length
     · have e0 : decide ((0 : Int) < (T.length : Int)) = true := decide_eq_true (by omega)
       have H0 := Lib.hid h0
       clear h0
       obtain ⟨k2, hk2⟩ : ∃ k2 : Int, k2 = (if k < 99 then k + 1 else k) := ⟨_, rfl⟩
       have HMN := Lib.hid (show (if (99 : Int) < k + 1 then (99 : Int) else k + 1) = k2 by have := HK.out; rw [hk2]; split <;> split <;> omega)
       have ek : IntKind.i64.wrap (k + 1) = k + 1 := IntWalk.i64_in _ (by have := HK.out; omega)
       have HK2 := Lib.hid hk2
       have xf := K6.out.frozen
       obtain ⟨p0, p1, p2⟩ := K2.out.cells
       obtain ⟨y0, y1, y2, y3, y4⟩ := F3.out.cells
       obtain ⟨x0, x1, x2⟩ := K6.out.cells
       have l6 := K6.out.lt
       clear hk2
       go_upto_region 9 with (fail)
       clear p0 p1 p2 y0 y1 y2 y3 y4 x0 x1 x2
       clear xf l6 ek
       rw [HMN.out]
       clear HMN
       have K2 := Lib.hid (K2.out.far (show w.heap.size ≠ p6 by omega) (j := 2) (.int .i64 k2))
       have F3 := Lib.hid (F3.out.farH (show w.heap.size + 1 ≠ p6 by omega) (j := 2) (.int .i64 k2))
       have K4 := Lib.hid (K4.out.far (show w.heap.size + 1 + 1 ≠ p6 by omega) (j := 2) (.int .i64 k2))
       have OA := Lib.hid (OA.out.box K6.out 2 (.int .i64 k2))
       have K6 := Lib.hid (K6.out.set2 (.int .i64 k2))
       have Z := Lib.hid (Z.out.setCell (p := ⟨p6, 2, none⟩) (by simp; omega) (.int .i64 k2))
       obtain ⟨w6, hw6⟩ : ∃ X, X = (w5.setCell ⟨p6, 2, none⟩ (.int .i64 k2)) := ⟨_, rfl⟩
       rw [← hw6] at K2 F3 K4 OA K6 Z ⊢
       clear hw6
       clear e0
       have hba : Below w6.heap.size w6 (w6.alloc (.cells #[.int .i64 rc, .int .i64 rn, .int .i64 ro, .int .i64 rx, .int .i64 ry] 37)) := (Below.refl _ _).alloc (Nat.le_refl _) _
       have OB := Lib.hid (OA.out.below hba)
       have HRd := Lib.hid (rq_oneH w6 37 ⟨rc, rn, ro, rx, ry⟩)
       have lo3 : w.heap.size + 3 ≤ w6.heap.size := by have := K6.out.lt; omega
       have hl60 := HL.out
       obtain ⟨p0, p1, p2⟩ := K2.out.cells
       obtain ⟨y0, y1, y2, y3, y4⟩ := F3.out.cells
       obtain ⟨x0, x1, x2⟩ := K6.out.cells
       have l6 := K6.out.lt
       have l3 := F3.out.lt
       go_wp2_with (at_builtin; go_loud (refine list_app (f := Rq.cells) (fun _ => rfl) rfl _ _ 23 rfl (w.heap.size + 3) 37 I (.agg #[.int .i64 0, .int .i64 0, .int .i64 0, .int .i64 0, .int .i64 0]) 40 Try.underlying23 I1.out I2.out I3.out I4.out rfl (by decide) _ D.length (D.flatMap Rq.cells) rfl OB.out.d _ _ 1 [⟨rc, rn, ro, rx, ry⟩] rfl rfl HRd.out (fun h => by cases h) (reqs_oneH _) (by unfold maxLen; omega) (by omega) (by simp; omega) ?_))
       intro vw7 w7a ho hg hp
       clear p0 p1 p2 y0 y1 y2 y3 y4 x0 x1 x2
       have K2 := Lib.hid (Three.below K2.out hba K2.out.lt)
       have F3 := Lib.hid (F3.out.grown (Below.grownBy hba none) (by simp))
       have K4 := Lib.hid (Three.below K4.out hba K4.out.lt)
       have Z := Lib.hid (Below.and Z.out hba)
       have K6 := Lib.hid (Three.below K6.out hba K6.out.lt)
       have bt := fun x hx => own_block_ge OB.out.d x hx
       have K2 := Lib.hid (K2.out.grown hg (fun e => by have := (bt _ e.symm).1; omega))
       have F3 := Lib.hid (F3.out.grown hg (fun e => by have := (bt _ e.symm).1; omega))
       have K4 := Lib.hid (K4.out.grown hg (fun e => by have := (bt _ e.symm).1; omega))
       have K6 := Lib.hid (K6.out.grown hg (fun e => own_typeH OB.out.d K6.out (by decide) e.symm))
       have Z := Lib.hid (Z.out.grown hg Z.out.size (fun q hq => by have := (bt _ hq).1; omega))
       obtain ⟨A5, a5, rfl, oa⟩ := OB.out.pushD ho hg (by simpa using hp)
       obtain ⟨D5, hD5⟩ : ∃ X, X = D ++ [(⟨rc, rn, ro, rx, ry⟩ : Rq)] := ⟨_, rfl⟩
       rw [← hD5] at oa ⊢
       have HD5 := Lib.hid hD5
       have OA := Lib.hid oa
       clear ho hg hp hba bt OB HRd lo3 l6 l3 oa hD5 hl60
       have xf := K6.out.frozen
       obtain ⟨p0, p1, p2⟩ := K2.out.cells
       obtain ⟨y0, y1, y2, y3, y4⟩ := F3.out.cells
       obtain ⟨x0, x1, x2⟩ := K6.out.cells
       go_upto_region 12 with (fail)
       clear p0 p1 p2 y0 y1 y2 y3 y4 x0 x1 x2
       clear xf
       have K2 := Lib.hid (K2.out.far (show w.heap.size ≠ p6 by omega) (j := 0) (.slice A5 D5.length a5))
       have F3 := Lib.hid (F3.out.farH (show w.heap.size + 1 ≠ p6 by omega) (j := 0) (.slice A5 D5.length a5))
       have K4 := Lib.hid (K4.out.far (show w.heap.size + 1 + 1 ≠ p6 by omega) (j := 0) (.slice A5 D5.length a5))
       have OA := Lib.hid (OA.out.box K6.out 0 (.slice A5 D5.length a5))
       have K6 := Lib.hid (K6.out.set0 (.slice A5 D5.length a5))
       have Z := Lib.hid (Z.out.setCell (p := ⟨p6, 0, none⟩) (by simp; omega) (.slice A5 D5.length a5))
       obtain ⟨w7, hw7⟩ : ∃ X, X = (w7a.setCell ⟨p6, 0, none⟩ (.slice A5 D5.length a5)) := ⟨_, rfl⟩
       rw [← hw7] at K2 F3 K4 OA K6 Z ⊢
       clear hw7
       have HX := Lib.hid (show keepA D T k ⟨rc, rn, ro, rx, ry⟩ = ((D5, T, k2), true) by
        unfold keepA
        rw [if_pos HOK.out, if_pos HGO.out, ← HM.out, HD5.out]
        simp only [bumpK, delT]; rw [if_pos ⟨H0.out, by simp⟩, ← HK2.out])
       obtain ⟨p0, p1, p2⟩ := K2.out.cells
       obtain ⟨y0, y1, y2, y3, y4⟩ := F3.out.cells
       obtain ⟨x0, x1, x2⟩ := K6.out.cells
       obtain ⟨z0, z1, z2⟩ := K4.out.cells
       have zf := K4.out.frozen
       have lz := K4.out.lt
       have BG := Lib.hid (((Z.out.setCell (p := ⟨w.heap.size + 1 + 1, 0, none⟩) (by simp; omega) (.slice A5 D5.length a5)).setCell (p := ⟨w.heap.size + 1 + 1, 1, none⟩) (by simp; omega) (.slice B1 T.length b1)).setCell (p := ⟨w.heap.size + 1 + 1, 2, none⟩) (by simp; omega) (.int .i64 k2))
       have OG := Lib.hid ((((OA.out.put (q := w.heap.size + 1 + 1) (by omega) 0 (.slice A5 D5.length a5)).put (q := w.heap.size + 1 + 1) (by omega) 1 (.slice B1 T.length b1)).put (q := w.heap.size + 1 + 1) (by omega) 2 (.int .i64 k2)).base (show w.heap.size ≤ w.heap.size + 3 by omega))
       clear K4 Z
       go_wp2
       refine bodyPost_ret (v := .tuple #[aheadV A5 D5.length a5 B1 T.length b1 k2, .bool true]) (by simp [results, Try.results23, go_sem, z0, z1, z2]) rfl ?_
       rw [HX.out]
       exact ⟨A5, a5, B1, b1, rfl, OG.out, BG.out⟩
     · have e0 : decide ((0 : Int) < (T.length : Int)) = false := decide_eq_false (by omega)
       have H0 := Lib.hid h0
       clear h0
       obtain ⟨p0, p1, p2⟩ := K2.out.cells
       obtain ⟨y0, y1, y2, y3, y4⟩ := F3.out.cells
       obtain ⟨x0, x1, x2⟩ := K6.out.cells
       go_upto_region 11 with (fail)
       clear p0 p1 p2 y0 y1 y2 y3 y4 x0 x1 x2
       clear e0
       have hba : Below w5.heap.size w5 (w5.alloc (.cells #[.int .i64 rc, .int .i64 rn, .int .i64 ro, .int .i64 rx, .int .i64 ry] 37)) := (Below.refl _ _).alloc (Nat.le_refl _) _
       have OB := Lib.hid (OA.out.below hba)
       have HRd := Lib.hid (rq_oneH w5 37 ⟨rc, rn, ro, rx, ry⟩)
       have lo3 : w.heap.size + 3 ≤ w5.heap.size := by have := K6.out.lt; omega
       have hl60 := HL.out
       obtain ⟨p0, p1, p2⟩ := K2.out.cells
       obtain ⟨y0, y1, y2, y3, y4⟩ := F3.out.cells
       obtain ⟨x0, x1, x2⟩ := K6.out.cells
       have l6 := K6.out.lt
       have l3 := F3.out.lt
       go_wp2_with (at_builtin; go_loud (refine list_app (f := Rq.cells) (fun _ => rfl) rfl _ _ 23 rfl (w.heap.size + 3) 37 I (.agg #[.int .i64 0, .int .i64 0, .int .i64 0, .int .i64 0, .int .i64 0]) 40 Try.underlying23 I1.out I2.out I3.out I4.out rfl (by decide) _ D.length (D.flatMap Rq.cells) rfl OB.out.d _ _ 1 [⟨rc, rn, ro, rx, ry⟩] rfl rfl HRd.out (fun h => by cases h) (reqs_oneH _) (by unfold maxLen; omega) (by omega) (by simp; omega) ?_))
       intro vw7 w7a ho hg hp
       clear p0 p1 p2 y0 y1 y2 y3 y4 x0 x1 x2
       have K2 := Lib.hid (Three.below K2.out hba K2.out.lt)
       have F3 := Lib.hid (F3.out.grown (Below.grownBy hba none) (by simp))
       have K4 := Lib.hid (Three.below K4.out hba K4.out.lt)
       have Z := Lib.hid (Below.and Z.out hba)
       have K6 := Lib.hid (Three.below K6.out hba K6.out.lt)
       have bt := fun x hx => own_block_ge OB.out.d x hx
       have K2 := Lib.hid (K2.out.grown hg (fun e => by have := (bt _ e.symm).1; omega))
       have F3 := Lib.hid (F3.out.grown hg (fun e => by have := (bt _ e.symm).1; omega))
       have K4 := Lib.hid (K4.out.grown hg (fun e => by have := (bt _ e.symm).1; omega))
       have K6 := Lib.hid (K6.out.grown hg (fun e => own_typeH OB.out.d K6.out (by decide) e.symm))
       have Z := Lib.hid (Z.out.grown hg Z.out.size (fun q hq => by have := (bt _ hq).1; omega))
       obtain ⟨A5, a5, rfl, oa⟩ := OB.out.pushD ho hg (by simpa using hp)
       obtain ⟨D5, hD5⟩ : ∃ X, X = D ++ [(⟨rc, rn, ro, rx, ry⟩ : Rq)] := ⟨_, rfl⟩
       rw [← hD5] at oa ⊢
       have HD5 := Lib.hid hD5
       have OA := Lib.hid oa
       clear ho hg hp hba bt OB HRd lo3 l6 l3 oa hD5 hl60
       have xf := K6.out.frozen
       obtain ⟨p0, p1, p2⟩ := K2.out.cells
       obtain ⟨y0, y1, y2, y3, y4⟩ := F3.out.cells
       obtain ⟨x0, x1, x2⟩ := K6.out.cells
       go_upto_region 12 with (fail)
       clear p0 p1 p2 y0 y1 y2 y3 y4 x0 x1 x2
       clear xf
       have K2 := Lib.hid (K2.out.far (show w.heap.size ≠ p6 by omega) (j := 0) (.slice A5 D5.length a5))
       have F3 := Lib.hid (F3.out.farH (show w.heap.size + 1 ≠ p6 by omega) (j := 0) (.slice A5 D5.length a5))
       have K4 := Lib.hid (K4.out.far (show w.heap.size + 1 + 1 ≠ p6 by omega) (j := 0) (.slice A5 D5.length a5))
       have OA := Lib.hid (OA.out.box K6.out 0 (.slice A5 D5.length a5))
       have K6 := Lib.hid (K6.out.set0 (.slice A5 D5.length a5))
       have Z := Lib.hid (Z.out.setCell (p := ⟨p6, 0, none⟩) (by simp; omega) (.slice A5 D5.length a5))
       obtain ⟨w7, hw7⟩ : ∃ X, X = (w7a.setCell ⟨p6, 0, none⟩ (.slice A5 D5.length a5)) := ⟨_, rfl⟩
       rw [← hw7] at K2 F3 K4 OA K6 Z ⊢
       clear hw7
       have HX := Lib.hid (show keepA D T k ⟨rc, rn, ro, rx, ry⟩ = ((D5, T, k), true) by
        unfold keepA
        rw [if_pos HOK.out, if_pos HGO.out, ← HM.out, HD5.out]
        simp only [bumpK, delT]; rw [if_neg (fun e => H0.out e.1)])
       obtain ⟨p0, p1, p2⟩ := K2.out.cells
       obtain ⟨y0, y1, y2, y3, y4⟩ := F3.out.cells
       obtain ⟨x0, x1, x2⟩ := K6.out.cells
       obtain ⟨z0, z1, z2⟩ := K4.out.cells
       have zf := K4.out.frozen
       have lz := K4.out.lt
       have BG := Lib.hid (((Z.out.setCell (p := ⟨w.heap.size + 1 + 1, 0, none⟩) (by simp; omega) (.slice A5 D5.length a5)).setCell (p := ⟨w.heap.size + 1 + 1, 1, none⟩) (by simp; omega) (.slice B1 T.length b1)).setCell (p := ⟨w.heap.size + 1 + 1, 2, none⟩) (by simp; omega) (.int .i64 k))
       have OG := Lib.hid ((((OA.out.put (q := w.heap.size + 1 + 1) (by omega) 0 (.slice A5 D5.length a5)).put (q := w.heap.size + 1 + 1) (by omega) 1 (.slice B1 T.length b1)).put (q := w.heap.size + 1 + 1) (by omega) 2 (.int .i64 k)).base (show w.heap.size ≤ w.heap.size + 3 by omega))
       clear K4 Z
       go_wp2
       refine bodyPost_ret (v := .tuple #[aheadV A5 D5.length a5 B1 T.length b1 k, .bool true]) (by simp [results, Try.results23, go_sem, z0, z1, z2]) rfl ?_
       rw [HX.out]
       exact ⟨A5, a5, B1, b1, rfl, OG.out, BG.out⟩
 · rw [show atV (some i) = (i : Int) from rfl]
   have hi := atR_lt HM.out.symm
   have e1 : decide ((i : Int) < 0) = false := by simp
   have i0 : (0 : Int) ≤ (i : Int) := by omega
   have HI := Lib.hid hi
   obtain ⟨p0, p1, p2⟩ := K2.out.cells
   obtain ⟨y0, y1, y2, y3, y4⟩ := F3.out.cells
   go_wp2_with (fail)
   refine (okOrNull ⟨rc, rn, ro, rx, ry⟩ _).mono ?_
   rintro e w4 ⟨rfl, hb⟩
   have K2 := Lib.hid (Three.below K2.out hb K2.out.lt)
   have F3 := Lib.hid (F3.out.grown (Below.grownBy hb none) (by simp))
   have K4 := Lib.hid (Three.below K4.out hb K4.out.lt)
   have Z := Lib.hid (Below.and Z.out hb)
   have K6 := Lib.hid (Three.below K6.out hb K6.out.lt)
   have OA := Lib.hid (OA.out.below hb)
   clear p0 p1 p2 y0 y1 y2 y3 y4
   clear hb
   rcases hq : okB ⟨rc, rn, ro, rx, ry⟩ with _ | _
   · have HX := Lib.hid (show keepA D T k ⟨rc, rn, ro, rx, ry⟩ = ((D, T, k), false) by unfold keepA; rw [if_pos HOK.out, if_neg (by simp [hq])])
     obtain ⟨p0, p1, p2⟩ := K2.out.cells
     obtain ⟨y0, y1, y2, y3, y4⟩ := F3.out.cells
     obtain ⟨x0, x1, x2⟩ := K6.out.cells
     obtain ⟨z0, z1, z2⟩ := K4.out.cells
     have zf := K4.out.frozen
     have lz := K4.out.lt
     have BG := Lib.hid (((Z.out.setCell (p := ⟨w.heap.size + 1 + 1, 0, none⟩) (by simp; omega) (.slice A1 D.length a1)).setCell (p := ⟨w.heap.size + 1 + 1, 1, none⟩) (by simp; omega) (.slice B1 T.length b1)).setCell (p := ⟨w.heap.size + 1 + 1, 2, none⟩) (by simp; omega) (.int .i64 k))
     have OG := Lib.hid ((((OA.out.put (q := w.heap.size + 1 + 1) (by omega) 0 (.slice A1 D.length a1)).put (q := w.heap.size + 1 + 1) (by omega) 1 (.slice B1 T.length b1)).put (q := w.heap.size + 1 + 1) (by omega) 2 (.int .i64 k)).base (show w.heap.size ≤ w.heap.size + 3 by omega))
     clear K4 Z
     go_wp2
     refine bodyPost_ret (v := .tuple #[aheadV A1 D.length a1 B1 T.length b1 k, .bool false]) (by simp [results, Try.results23, go_sem, z0, z1, z2]) rfl ?_
     rw [HX.out]
     exact ⟨A1, a1, B1, b1, rfl, OG.out, BG.out⟩
   · have HGO : Hid (okB ⟨rc, rn, ro, rx, ry⟩ = true ∧ ¬ (atR ⟨rc, rn, ro, rx, ry⟩ T = none ∧ D.length + T.length = 60)) := ⟨hq, fun e => by rw [← HM.out] at e; simp at e⟩
     clear hq
     have e0 : decide ((0 : Int) < (T.length : Int)) = true := decide_eq_true (by omega)
     have ei : IntKind.i64.wrap ((i : Int) + 1) = (i : Int) + 1 := IntWalk.i64_in _ (by have := HL.out; omega)
     obtain ⟨gB, rfl⟩ : ∃ g, B1 = some ⟨g, 0, none⟩ := by
      rcases (own_capR OA.out.t).2 with ⟨_, h⟩ | h
      · have := (own_capR OA.out.t).1; omega
      · exact h
     by_cases hz : i = 0
     · subst hz
       have HB : Hid (bumpK T (some 0) k = k) := by show _ = _; unfold bumpK; rw [if_neg (by simp)]
       obtain ⟨p0, p1, p2⟩ := K2.out.cells
       obtain ⟨y0, y1, y2, y3, y4⟩ := F3.out.cells
       obtain ⟨x0, x1, x2⟩ := K6.out.cells
       have xf := K6.out.frozen
       have l6 := K6.out.lt
       go_wp2_with (fail)
       have hd := delReq (w := w4) (lo := w.heap.size + 3) (g := gB) (c := b1) (E := T) 0 (by have := HI.out; omega) (by have := HL.out; omega) OA.out.t
       (try simp only [Int.ofNat_zero, Nat.cast_zero, Int.zero_add] at hd)
       refine hd.mono ?_
       rintro e w6a ⟨rfl, ho, hg⟩
       clear p0 p1 p2 y0 y1 y2 y3 y4 x0 x1 x2
       clear xf l6 hd
       have bt := fun x hx => own_block_ge OA.out.t x hx
       have K2 := Lib.hid (K2.out.grown hg (fun e => by have := (bt _ e.symm).1; omega))
       have F3 := Lib.hid (F3.out.grown hg (fun e => by have := (bt _ e.symm).1; omega))
       have K4 := Lib.hid (K4.out.grown hg (fun e => by have := (bt _ e.symm).1; omega))
       have K6 := Lib.hid (K6.out.grown hg (fun e => own_typeH OA.out.t K6.out (by decide) e.symm))
       have Z := Lib.hid (Z.out.grown hg Z.out.size (fun q hq => by have := (bt _ hq).1; omega))
       obtain ⟨T5, hT5⟩ : ∃ X, X = T.eraseIdx 0 := ⟨_, rfl⟩
       have oa := OA.out.cut (by have := HI.out; omega) ho hg
       have hl5 : T.length - 1 = T5.length := by rw [hT5, List.length_eraseIdx, if_pos (by have := HI.out; omega)]
       rw [hl5]
       rw [← hT5] at oa
       have HT5 := Lib.hid hT5
       have OA := Lib.hid oa
       have HL5 := Lib.hid hl5
       clear ho hg bt oa hT5 hl5 e0
       have xf := K6.out.frozen
       obtain ⟨p0, p1, p2⟩ := K2.out.cells
       obtain ⟨y0, y1, y2, y3, y4⟩ := F3.out.cells
       obtain ⟨x0, x1, x2⟩ := K6.out.cells
       have l6 := K6.out.lt
       go_upto_region 11 with (fail)
       clear p0 p1 p2 y0 y1 y2 y3 y4 x0 x1 x2
       clear xf l6
       have K2 := Lib.hid (K2.out.far (show w.heap.size ≠ p6 by omega) (j := 1) (.slice (some ⟨gB, 0, none⟩) T5.length b1))
       have F3 := Lib.hid (F3.out.farH (show w.heap.size + 1 ≠ p6 by omega) (j := 1) (.slice (some ⟨gB, 0, none⟩) T5.length b1))
       have K4 := Lib.hid (K4.out.far (show w.heap.size + 1 + 1 ≠ p6 by omega) (j := 1) (.slice (some ⟨gB, 0, none⟩) T5.length b1))
       have OA := Lib.hid (OA.out.box K6.out 1 (.slice (some ⟨gB, 0, none⟩) T5.length b1))
       have K6 := Lib.hid (K6.out.set1 (.slice (some ⟨gB, 0, none⟩) T5.length b1))
       have Z := Lib.hid (Z.out.setCell (p := ⟨p6, 1, none⟩) (by simp; omega) (.slice (some ⟨gB, 0, none⟩) T5.length b1))
       obtain ⟨w6, hw6⟩ : ∃ X, X = (w6a.setCell ⟨p6, 1, none⟩ (.slice (some ⟨gB, 0, none⟩) T5.length b1)) := ⟨_, rfl⟩
       rw [← hw6] at K2 F3 K4 OA K6 Z ⊢
       clear hw6
       have hba : Below w6.heap.size w6 (w6.alloc (.cells #[.int .i64 rc, .int .i64 rn, .int .i64 ro, .int .i64 rx, .int .i64 ry] 37)) := (Below.refl _ _).alloc (Nat.le_refl _) _
       have OB := Lib.hid (OA.out.below hba)
       have HRd := Lib.hid (rq_oneH w6 37 ⟨rc, rn, ro, rx, ry⟩)
       have lo3 : w.heap.size + 3 ≤ w6.heap.size := by have := K6.out.lt; omega
       have hl60 := HL.out
       obtain ⟨p0, p1, p2⟩ := K2.out.cells
       obtain ⟨y0, y1, y2, y3, y4⟩ := F3.out.cells
       obtain ⟨x0, x1, x2⟩ := K6.out.cells
       have l6 := K6.out.lt
       have l3 := F3.out.lt
       go_wp2_with (at_builtin; go_loud (refine list_app (f := Rq.cells) (fun _ => rfl) rfl _ _ 23 rfl (w.heap.size + 3) 37 I (.agg #[.int .i64 0, .int .i64 0, .int .i64 0, .int .i64 0, .int .i64 0]) 40 Try.underlying23 I1.out I2.out I3.out I4.out rfl (by decide) _ D.length (D.flatMap Rq.cells) rfl OB.out.d _ _ 1 [⟨rc, rn, ro, rx, ry⟩] rfl rfl HRd.out (fun h => by cases h) (reqs_oneH _) (by unfold maxLen; omega) (by omega) (by simp; omega) ?_))
       intro vw6b w6ba ho hg hp
       clear p0 p1 p2 y0 y1 y2 y3 y4 x0 x1 x2
       have K2 := Lib.hid (Three.below K2.out hba K2.out.lt)
       have F3 := Lib.hid (F3.out.grown (Below.grownBy hba none) (by simp))
       have K4 := Lib.hid (Three.below K4.out hba K4.out.lt)
       have Z := Lib.hid (Below.and Z.out hba)
       have K6 := Lib.hid (Three.below K6.out hba K6.out.lt)
       have bt := fun x hx => own_block_ge OB.out.d x hx
       have K2 := Lib.hid (K2.out.grown hg (fun e => by have := (bt _ e.symm).1; omega))
       have F3 := Lib.hid (F3.out.grown hg (fun e => by have := (bt _ e.symm).1; omega))
       have K4 := Lib.hid (K4.out.grown hg (fun e => by have := (bt _ e.symm).1; omega))
       have K6 := Lib.hid (K6.out.grown hg (fun e => own_typeH OB.out.d K6.out (by decide) e.symm))
       have Z := Lib.hid (Z.out.grown hg Z.out.size (fun q hq => by have := (bt _ hq).1; omega))
       obtain ⟨A5, a5, rfl, oa⟩ := OB.out.pushD ho hg (by simpa using hp)
       obtain ⟨D5, hD5⟩ : ∃ X, X = D ++ [(⟨rc, rn, ro, rx, ry⟩ : Rq)] := ⟨_, rfl⟩
       rw [← hD5] at oa ⊢
       have HD5 := Lib.hid hD5
       have OA := Lib.hid oa
       clear ho hg hp hba bt OB HRd lo3 l6 l3 oa hD5 hl60
       have xf := K6.out.frozen
       obtain ⟨p0, p1, p2⟩ := K2.out.cells
       obtain ⟨y0, y1, y2, y3, y4⟩ := F3.out.cells
       obtain ⟨x0, x1, x2⟩ := K6.out.cells
       go_upto_region 12 with (fail)
       clear p0 p1 p2 y0 y1 y2 y3 y4 x0 x1 x2
       clear xf
       have K2 := Lib.hid (K2.out.far (show w.heap.size ≠ p6 by omega) (j := 0) (.slice A5 D5.length a5))
       have F3 := Lib.hid (F3.out.farH (show w.heap.size + 1 ≠ p6 by omega) (j := 0) (.slice A5 D5.length a5))
       have K4 := Lib.hid (K4.out.far (show w.heap.size + 1 + 1 ≠ p6 by omega) (j := 0) (.slice A5 D5.length a5))
       have OA := Lib.hid (OA.out.box K6.out 0 (.slice A5 D5.length a5))
       have K6 := Lib.hid (K6.out.set0 (.slice A5 D5.length a5))
       have Z := Lib.hid (Z.out.setCell (p := ⟨p6, 0, none⟩) (by simp; omega) (.slice A5 D5.length a5))
       obtain ⟨w6b, hw6b⟩ : ∃ X, X = (w6ba.setCell ⟨p6, 0, none⟩ (.slice A5 D5.length a5)) := ⟨_, rfl⟩
       rw [← hw6b] at K2 F3 K4 OA K6 Z ⊢
       clear hw6b
       have HX := Lib.hid (show keepA D T k ⟨rc, rn, ro, rx, ry⟩ = ((D5, T5, k), true) by
        unfold keepA
        rw [if_pos HOK.out, if_pos HGO.out, ← HM.out, HD5.out]
        simp only [delT]; rw [HB.out, HT5.out])
       obtain ⟨p0, p1, p2⟩ := K2.out.cells
       obtain ⟨y0, y1, y2, y3, y4⟩ := F3.out.cells
       obtain ⟨x0, x1, x2⟩ := K6.out.cells
       obtain ⟨z0, z1, z2⟩ := K4.out.cells
       have zf := K4.out.frozen
       have lz := K4.out.lt
       have BG := Lib.hid (((Z.out.setCell (p := ⟨w.heap.size + 1 + 1, 0, none⟩) (by simp; omega) (.slice A5 D5.length a5)).setCell (p := ⟨w.heap.size + 1 + 1, 1, none⟩) (by simp; omega) (.slice (some ⟨gB, 0, none⟩) T5.length b1)).setCell (p := ⟨w.heap.size + 1 + 1, 2, none⟩) (by simp; omega) (.int .i64 k))
       have OG := Lib.hid ((((OA.out.put (q := w.heap.size + 1 + 1) (by omega) 0 (.slice A5 D5.length a5)).put (q := w.heap.size + 1 + 1) (by omega) 1 (.slice (some ⟨gB, 0, none⟩) T5.length b1)).put (q := w.heap.size + 1 + 1) (by omega) 2 (.int .i64 k)).base (show w.heap.size ≤ w.heap.size + 3 by omega))
       clear K4 Z
       go_wp2
       refine bodyPost_ret (v := .tuple #[aheadV A5 D5.length a5 (some ⟨gB, 0, none⟩) T5.length b1 k, .bool true]) (by simp [results, Try.results23, go_sem, z0, z1, z2]) rfl ?_
       rw [HX.out]
       exact ⟨A5, a5, (some ⟨gB, 0, none⟩), b1, rfl, OG.out, BG.out⟩
     · have ez : ((i : Int) != 0) = true := by simp; omega
       have HZ := Lib.hid hz
       clear hz
       obtain ⟨k2, hk2⟩ : ∃ k2 : Int, k2 = (if k < 99 then k + 1 else k) := ⟨_, rfl⟩
       have HMN := Lib.hid (show (if (99 : Int) < k + 1 then (99 : Int) else k + 1) = k2 by have := HK.out; rw [hk2]; split <;> split <;> omega)
       have ek : IntKind.i64.wrap (k + 1) = k + 1 := IntWalk.i64_in _ (by have := HK.out; omega)
       have HK2 := Lib.hid hk2
       have xf := K6.out.frozen
       obtain ⟨p0, p1, p2⟩ := K2.out.cells
       obtain ⟨y0, y1, y2, y3, y4⟩ := F3.out.cells
       obtain ⟨x0, x1, x2⟩ := K6.out.cells
       have l6 := K6.out.lt
       clear hk2
       go_upto_region 9 with (fail)
       clear p0 p1 p2 y0 y1 y2 y3 y4 x0 x1 x2
       clear xf l6 ek
       rw [HMN.out]
       clear HMN
       have K2 := Lib.hid (K2.out.far (show w.heap.size ≠ p6 by omega) (j := 2) (.int .i64 k2))
       have F3 := Lib.hid (F3.out.farH (show w.heap.size + 1 ≠ p6 by omega) (j := 2) (.int .i64 k2))
       have K4 := Lib.hid (K4.out.far (show w.heap.size + 1 + 1 ≠ p6 by omega) (j := 2) (.int .i64 k2))
       have OA := Lib.hid (OA.out.box K6.out 2 (.int .i64 k2))
       have K6 := Lib.hid (K6.out.set2 (.int .i64 k2))
       have Z := Lib.hid (Z.out.setCell (p := ⟨p6, 2, none⟩) (by simp; omega) (.int .i64 k2))
       obtain ⟨w6, hw6⟩ : ∃ X, X = (w4.setCell ⟨p6, 2, none⟩ (.int .i64 k2)) := ⟨_, rfl⟩
       rw [← hw6] at K2 F3 K4 OA K6 Z ⊢
       clear hw6
       clear ez
       have HB : Hid (bumpK T (some i) k = k2) := by show _ = _; unfold bumpK; rw [if_pos ⟨by have := HI.out; omega, by simpa using HZ.out⟩, HK2.out]
       obtain ⟨p0, p1, p2⟩ := K2.out.cells
       obtain ⟨y0, y1, y2, y3, y4⟩ := F3.out.cells
       obtain ⟨x0, x1, x2⟩ := K6.out.cells
       have xf := K6.out.frozen
       have l6 := K6.out.lt
       go_wp2_with (fail)
       have hd := delReq (w := w6) (lo := w.heap.size + 3) (g := gB) (c := b1) (E := T) i (by have := HI.out; omega) (by have := HL.out; omega) OA.out.t
       (try simp only [Int.ofNat_zero, Nat.cast_zero, Int.zero_add] at hd)
       refine hd.mono ?_
       rintro e w8a ⟨rfl, ho, hg⟩
       clear p0 p1 p2 y0 y1 y2 y3 y4 x0 x1 x2
       clear xf l6 hd
       have bt := fun x hx => own_block_ge OA.out.t x hx
       have K2 := Lib.hid (K2.out.grown hg (fun e => by have := (bt _ e.symm).1; omega))
       have F3 := Lib.hid (F3.out.grown hg (fun e => by have := (bt _ e.symm).1; omega))
       have K4 := Lib.hid (K4.out.grown hg (fun e => by have := (bt _ e.symm).1; omega))
       have K6 := Lib.hid (K6.out.grown hg (fun e => own_typeH OA.out.t K6.out (by decide) e.symm))
       have Z := Lib.hid (Z.out.grown hg Z.out.size (fun q hq => by have := (bt _ hq).1; omega))
       obtain ⟨T5, hT5⟩ : ∃ X, X = T.eraseIdx i := ⟨_, rfl⟩
       have oa := OA.out.cut (by have := HI.out; omega) ho hg
       have hl5 : T.length - 1 = T5.length := by rw [hT5, List.length_eraseIdx, if_pos (by have := HI.out; omega)]
       rw [hl5]
       rw [← hT5] at oa
       have HT5 := Lib.hid hT5
       have OA := Lib.hid oa
       have HL5 := Lib.hid hl5
       clear ho hg bt oa hT5 hl5 e0
       have xf := K6.out.frozen
       obtain ⟨p0, p1, p2⟩ := K2.out.cells
       obtain ⟨y0, y1, y2, y3, y4⟩ := F3.out.cells
       obtain ⟨x0, x1, x2⟩ := K6.out.cells
       have l6 := K6.out.lt
       go_upto_region 11 with (fail)
       clear p0 p1 p2 y0 y1 y2 y3 y4 x0 x1 x2
       clear xf l6
       have K2 := Lib.hid (K2.out.far (show w.heap.size ≠ p6 by omega) (j := 1) (.slice (some ⟨gB, 0, none⟩) T5.length b1))
       have F3 := Lib.hid (F3.out.farH (show w.heap.size + 1 ≠ p6 by omega) (j := 1) (.slice (some ⟨gB, 0, none⟩) T5.length b1))
       have K4 := Lib.hid (K4.out.far (show w.heap.size + 1 + 1 ≠ p6 by omega) (j := 1) (.slice (some ⟨gB, 0, none⟩) T5.length b1))
       have OA := Lib.hid (OA.out.box K6.out 1 (.slice (some ⟨gB, 0, none⟩) T5.length b1))
       have K6 := Lib.hid (K6.out.set1 (.slice (some ⟨gB, 0, none⟩) T5.length b1))
       have Z := Lib.hid (Z.out.setCell (p := ⟨p6, 1, none⟩) (by simp; omega) (.slice (some ⟨gB, 0, none⟩) T5.length b1))
       obtain ⟨w8, hw8⟩ : ∃ X, X = (w8a.setCell ⟨p6, 1, none⟩ (.slice (some ⟨gB, 0, none⟩) T5.length b1)) := ⟨_, rfl⟩
       rw [← hw8] at K2 F3 K4 OA K6 Z ⊢
       clear hw8
       have hba : Below w8.heap.size w8 (w8.alloc (.cells #[.int .i64 rc, .int .i64 rn, .int .i64 ro, .int .i64 rx, .int .i64 ry] 37)) := (Below.refl _ _).alloc (Nat.le_refl _) _
       have OB := Lib.hid (OA.out.below hba)
       have HRd := Lib.hid (rq_oneH w8 37 ⟨rc, rn, ro, rx, ry⟩)
       have lo3 : w.heap.size + 3 ≤ w8.heap.size := by have := K6.out.lt; omega
       have hl60 := HL.out
       obtain ⟨p0, p1, p2⟩ := K2.out.cells
       obtain ⟨y0, y1, y2, y3, y4⟩ := F3.out.cells
       obtain ⟨x0, x1, x2⟩ := K6.out.cells
       have l6 := K6.out.lt
       have l3 := F3.out.lt
       go_wp2_with (at_builtin; go_loud (refine list_app (f := Rq.cells) (fun _ => rfl) rfl _ _ 23 rfl (w.heap.size + 3) 37 I (.agg #[.int .i64 0, .int .i64 0, .int .i64 0, .int .i64 0, .int .i64 0]) 40 Try.underlying23 I1.out I2.out I3.out I4.out rfl (by decide) _ D.length (D.flatMap Rq.cells) rfl OB.out.d _ _ 1 [⟨rc, rn, ro, rx, ry⟩] rfl rfl HRd.out (fun h => by cases h) (reqs_oneH _) (by unfold maxLen; omega) (by omega) (by simp; omega) ?_))
       intro vw8b w8ba ho hg hp
       clear p0 p1 p2 y0 y1 y2 y3 y4 x0 x1 x2
       have K2 := Lib.hid (Three.below K2.out hba K2.out.lt)
       have F3 := Lib.hid (F3.out.grown (Below.grownBy hba none) (by simp))
       have K4 := Lib.hid (Three.below K4.out hba K4.out.lt)
       have Z := Lib.hid (Below.and Z.out hba)
       have K6 := Lib.hid (Three.below K6.out hba K6.out.lt)
       have bt := fun x hx => own_block_ge OB.out.d x hx
       have K2 := Lib.hid (K2.out.grown hg (fun e => by have := (bt _ e.symm).1; omega))
       have F3 := Lib.hid (F3.out.grown hg (fun e => by have := (bt _ e.symm).1; omega))
       have K4 := Lib.hid (K4.out.grown hg (fun e => by have := (bt _ e.symm).1; omega))
       have K6 := Lib.hid (K6.out.grown hg (fun e => own_typeH OB.out.d K6.out (by decide) e.symm))
       have Z := Lib.hid (Z.out.grown hg Z.out.size (fun q hq => by have := (bt _ hq).1; omega))
       obtain ⟨A5, a5, rfl, oa⟩ := OB.out.pushD ho hg (by simpa using hp)
       obtain ⟨D5, hD5⟩ : ∃ X, X = D ++ [(⟨rc, rn, ro, rx, ry⟩ : Rq)] := ⟨_, rfl⟩
       rw [← hD5] at oa ⊢
       have HD5 := Lib.hid hD5
       have OA := Lib.hid oa
       clear ho hg hp hba bt OB HRd lo3 l6 l3 oa hD5 hl60
       have xf := K6.out.frozen
       obtain ⟨p0, p1, p2⟩ := K2.out.cells
       obtain ⟨y0, y1, y2, y3, y4⟩ := F3.out.cells
       obtain ⟨x0, x1, x2⟩ := K6.out.cells
       go_upto_region 12 with (fail)
       clear p0 p1 p2 y0 y1 y2 y3 y4 x0 x1 x2
       clear xf
       have K2 := Lib.hid (K2.out.far (show w.heap.size ≠ p6 by omega) (j := 0) (.slice A5 D5.length a5))
       have F3 := Lib.hid (F3.out.farH (show w.heap.size + 1 ≠ p6 by omega) (j := 0) (.slice A5 D5.length a5))
       have K4 := Lib.hid (K4.out.far (show w.heap.size + 1 + 1 ≠ p6 by omega) (j := 0) (.slice A5 D5.length a5))
       have OA := Lib.hid (OA.out.box K6.out 0 (.slice A5 D5.length a5))
       have K6 := Lib.hid (K6.out.set0 (.slice A5 D5.length a5))
       have Z := Lib.hid (Z.out.setCell (p := ⟨p6, 0, none⟩) (by simp; omega) (.slice A5 D5.length a5))
       obtain ⟨w8b, hw8b⟩ : ∃ X, X = (w8ba.setCell ⟨p6, 0, none⟩ (.slice A5 D5.length a5)) := ⟨_, rfl⟩
       rw [← hw8b] at K2 F3 K4 OA K6 Z ⊢
       clear hw8b
       have HX := Lib.hid (show keepA D T k ⟨rc, rn, ro, rx, ry⟩ = ((D5, T5, k2), true) by
        unfold keepA
        rw [if_pos HOK.out, if_pos HGO.out, ← HM.out, HD5.out]
        simp only [delT]; rw [HB.out, HT5.out])
       obtain ⟨p0, p1, p2⟩ := K2.out.cells
       obtain ⟨y0, y1, y2, y3, y4⟩ := F3.out.cells
       obtain ⟨x0, x1, x2⟩ := K6.out.cells
       obtain ⟨z0, z1, z2⟩ := K4.out.cells
       have zf := K4.out.frozen
       have lz := K4.out.lt
       have BG := Lib.hid (((Z.out.setCell (p := ⟨w.heap.size + 1 + 1, 0, none⟩) (by simp; omega) (.slice A5 D5.length a5)).setCell (p := ⟨w.heap.size + 1 + 1, 1, none⟩) (by simp; omega) (.slice (some ⟨gB, 0, none⟩) T5.length b1)).setCell (p := ⟨w.heap.size + 1 + 1, 2, none⟩) (by simp; omega) (.int .i64 k2))
       have OG := Lib.hid ((((OA.out.put (q := w.heap.size + 1 + 1) (by omega) 0 (.slice A5 D5.length a5)).put (q := w.heap.size + 1 + 1) (by omega) 1 (.slice (some ⟨gB, 0, none⟩) T5.length b1)).put (q := w.heap.size + 1 + 1) (by omega) 2 (.int .i64 k2)).base (show w.heap.size ≤ w.heap.size + 3 by omega))
       clear K4 Z
       go_wp2
       refine bodyPost_ret (v := .tuple #[aheadV A5 D5.length a5 (some ⟨gB, 0, none⟩) T5.length b1 k2, .bool true]) (by simp [results, Try.results23, go_sem, z0, z1, z2]) rfl ?_
       rw [HX.out]
       exact ⟨A5, a5, (some ⟨gB, 0, none⟩), b1, rfl, OG.out, BG.out⟩

end Go.Proofs.Ytnpdlpkomfegfaa
