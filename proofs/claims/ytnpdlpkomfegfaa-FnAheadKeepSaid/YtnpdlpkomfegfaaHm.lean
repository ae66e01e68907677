/- AheadKeep, the model's way. -/
import Derived.Test.YtnpdlpkomfegfaaHl
namespace Go.Proofs.Ytnpdlpkomfegfaa
open Go.ChangeShapes Go.WideShapes Go.ChangeAt Go.RowKit
set_option linter.unusedVariables false
set_option linter.unusedSimpArgs false

structure RdAk (w : World) (A : Option Addr) (a : Nat) (B : Option Addr) (b : Nat) (D T : List Rq) : Prop where
 r : RdA w A a B b D T
 ct : T.length ≤ b
theorem OwA.rdAk {w : World} {lo : Nat} {A : Option Addr} {a : Nat} {B : Option Addr} {b : Nat} {D T : List Rq} (h : OwA w lo A a B b D T) : RdAk w A a B b D T := ⟨h.rdA, (own_capR h.t).1⟩
theorem Rd.takeR {w : World} {g o : Nat} {T : List Rq} (h : Rd 5 Rq.cells w (some ⟨g, o, none⟩) T) (i : Nat) : Rd 5 Rq.cells w (some ⟨g, o, none⟩) (T.take i) := fun j hj => by
 have hj' : j < T.length := by simp at hj; omega
 obtain ⟨g1, o1, e, hc⟩ := h j hj'
 rw [List.getElem_take]
 exact ⟨g1, o1, e, hc⟩
theorem Rd.dropR {w : World} {g o : Nat} {T : List Rq} (h : Rd 5 Rq.cells w (some ⟨g, o, none⟩) T) (i : Nat) : Rd 5 Rq.cells w (some ⟨g, o + i * 5, none⟩) (T.drop i) := fun j hj => by
 have hj' : i + j < T.length := by simp at hj; omega
 obtain ⟨g1, o1, e, hc⟩ := h (i + j) hj'
 rw [List.getElem_drop]
 injection e with e
 injection e with e1 e2
 subst e1 e2
 refine ⟨g, o + i * 5, rfl, fun p u hu => ?_⟩
 have := hc p u hu
 rw [show o + i * 5 + j * 5 + p = o + (i + j) * 5 + p by omega]
 exact this

set_option maxRecDepth 100000 in
set_option maxHeartbeats 4000000 in
theorem specAheadKeep (A : Option Addr) (a : Nat) (B : Option Addr) (b : Nat) (D T : List Rq) (k : Int) (r : Rq) (w : World) (hD : D.length ≤ 1048576) (hT : T.length ≤ 1048576) (hk0 : RdAk w A a B b D T) :
 Calls Try.prog 24 #[aheadV A D.length a B T.length b k, r.val] w (DoAh (keepA D T k r) w) := by
 obtain ⟨rc, rn, ro, rx, ry⟩ := r
 obtain ⟨I, hi, hz0, hz1, hz2⟩ := parts_ofH infoReqH
 have I1 := Lib.hid hi
 have I2 := Lib.hid hz0
 have I3 := Lib.hid hz1
 have I4 := Lib.hid hz2
 clear hi hz0 hz1 hz2
 have h := hk0.r
 have HR := Lib.hid h
 have HC := Lib.hid hk0.ct
 clear hk0
 have K2 := Lib.hid (((Three.new (u0 := .slice A D.length a) (u1 := .slice B T.length b) (u2 := .int .i64 k) (t := 25) w).alloc (.cells #[.int .i64 rc, .int .i64 rn, .int .i64 ro, .int .i64 rx, .int .i64 ry] 37)).alloc (.cells #[.slice none 0 0, .slice none 0 0, .int .i64 0] 25))
 have F3 : Hid (Five (((w.alloc (.cells #[.slice A D.length a, .slice B T.length b, .int .i64 k] 25)).alloc (.cells #[.int .i64 rc, .int .i64 rn, .int .i64 ro, .int .i64 rx, .int .i64 ry] 37)).alloc (.cells #[.slice none 0 0, .slice none 0 0, .int .i64 0] 25)) (w.heap.size + 1) 37 (.int .i64 rc) (.int .i64 rn) (.int .i64 ro) (.int .i64 rx) (.int .i64 ry)) := by have := (Five.new (u0 := .int .i64 rc) (u1 := .int .i64 rn) (u2 := .int .i64 ro) (u3 := .int .i64 rx) (u4 := .int .i64 ry) (t := 37) (w.alloc (.cells #[.slice A D.length a, .slice B T.length b, .int .i64 k] 25))).alloc (.cells #[.slice none 0 0, .slice none 0 0, .int .i64 0] 25); simpa [Hid] using this
 have K4 : Hid (Three (((w.alloc (.cells #[.slice A D.length a, .slice B T.length b, .int .i64 k] 25)).alloc (.cells #[.int .i64 rc, .int .i64 rn, .int .i64 ro, .int .i64 rx, .int .i64 ry] 37)).alloc (.cells #[.slice none 0 0, .slice none 0 0, .int .i64 0] 25)) (w.heap.size + 1 + 1) 25 (.slice none 0 0) (.slice none 0 0) (.int .i64 0)) := by have := Three.new (u0 := .slice none 0 0) (u1 := .slice none 0 0) (u2 := .int .i64 0) (t := 25) ((w.alloc (.cells #[.slice A D.length a, .slice B T.length b, .int .i64 k] 25)).alloc (.cells #[.int .i64 rc, .int .i64 rn, .int .i64 ro, .int .i64 rx, .int .i64 ry] 37)); simpa [Hid] using this
 have Z : Hid (Below w.heap.size w (((w.alloc (.cells #[.slice A D.length a, .slice B T.length b, .int .i64 k] 25)).alloc (.cells #[.int .i64 rc, .int .i64 rn, .int .i64 ro, .int .i64 rx, .int .i64 ry] 37)).alloc (.cells #[.slice none 0 0, .slice none 0 0, .int .i64 0] 25))) := (below_alloc2 w _ _).alloc (by simp; omega) _
 have ew : IntKind.i64.wrap ((D.length : Int) + (T.length : Int)) = (D.length : Int) + (T.length : Int) := IntWalk.i64_in _ (by omega)
 have EW := Lib.hid ew
 clear h ew
 go_enter Try.func24, Try.ntmps24
 go_upto_region 1 with (fail)
 have LZ0 : (((w.alloc (.cells #[.slice A D.length a, .slice B T.length b, .int .i64 k] 25)).alloc (.cells #[.int .i64 rc, .int .i64 rn, .int .i64 ro, .int .i64 rx, .int .i64 ry] 37)).alloc (.cells #[.slice none 0 0, .slice none 0 0, .int .i64 0] 25)).heap.size = w.heap.size + 3 := by simp
 obtain ⟨w0, hw0⟩ : ∃ X, X = (((w.alloc (.cells #[.slice A D.length a, .slice B T.length b, .int .i64 k] 25)).alloc (.cells #[.int .i64 rc, .int .i64 rn, .int .i64 ro, .int .i64 rx, .int .i64 ry] 37)).alloc (.cells #[.slice none 0 0, .slice none 0 0, .int .i64 0] 25)) := ⟨_, rfl⟩
 rw [← hw0] at K2 F3 K4 Z LZ0 ⊢
 have LZ := Lib.hid (show w.heap.size + 3 ≤ w0.heap.size by omega)
 clear hw0 LZ0
 obtain ⟨p0, p1, p2⟩ := K2.out.cells
 obtain ⟨y0, y1, y2, y3, y4⟩ := F3.out.cells
 go_wp2_with (fail)
 refine (l8Ok A a B b D T k _ hD hT (Rd.below HR.out.d Z.out) (Rd.below HR.out.t Z.out)).mono ?_
 rintro e w1 ⟨rfl, hb⟩
 have K2 := Lib.hid (Three.below K2.out hb K2.out.lt)
 have F3 := Lib.hid (F3.out.grown (Below.grownBy hb none) (by simp))
 have K4 := Lib.hid (Three.below K4.out hb K4.out.lt)
 have Z := Lib.hid (Below.and Z.out hb)
 have LZ := Lib.hid (Nat.le_trans LZ.out hb.size)
 clear p0 p1 p2 y0 y1 y2 y3 y4
 clear hb
 rcases hok : ahB D T k with _ | _
 · have HX := Lib.hid (show keepA D T k ⟨rc, rn, ro, rx, ry⟩ = (([], [], 0), false) by unfold keepA; rw [hok]; rfl)
   clear hok
   obtain ⟨z0, z1, z2⟩ := K4.out.cells
   have zf := K4.out.frozen
   have lz := K4.out.lt
   have BG := Lib.hid (((Z.out.setCell (p := ⟨w.heap.size + 1 + 1, 0, none⟩) (by simp; omega) (.slice none 0 0)).setCell (p := ⟨w.heap.size + 1 + 1, 1, none⟩) (by simp; omega) (.slice none 0 0)).setCell (p := ⟨w.heap.size + 1 + 1, 2, none⟩) (by simp; omega) (.int .i64 0))
   skip
   clear K4 Z
   go_wp2
   refine bodyPost_ret (v := .tuple #[aheadV none 0 0 none 0 0 0, .bool false]) (by simp [results, Try.results24, go_sem, z0, z1, z2]) rfl ?_
   rw [HX.out]
   exact ⟨none, 0, none, 0, rfl, OwA.nil _ _, BG.out⟩
 have HL := Lib.hid (ahB_len hok)
 have HK := Lib.hid (ahB_k hok)
 have HOK := Lib.hid hok
 clear hok
 obtain ⟨p0, p1, p2⟩ := K2.out.cells
 obtain ⟨y0, y1, y2, y3, y4⟩ := F3.out.cells
 go_wp2_with (fail)
 refine (l8Copy A a B b D T k _ hD hT (Rd.below HR.out.d Z.out) (Rd.below HR.out.t Z.out) HR.out.nA HR.out.nB).mono ?_
 rintro e w2 ⟨A1, a1, B1, b1, rfl, oa, hb⟩
 have K2 := Lib.hid (Three.below K2.out hb K2.out.lt)
 have F3 := Lib.hid (F3.out.grown (Below.grownBy hb none) (by simp))
 have K4 := Lib.hid (Three.below K4.out hb K4.out.lt)
 have Z := Lib.hid (Below.and Z.out hb)
 have LZ2 := Nat.le_trans LZ.out hb.size
 have oa := oa.base LZ.out
 clear p0 p1 p2 y0 y1 y2 y3 y4
 clear hb
 have hba : Below w2.heap.size w2 (w2.alloc (.cells #[.slice A1 D.length a1, .slice B1 T.length b1, .int .i64 k] 25)) := (Below.refl _ _).alloc (Nat.le_refl _) _
 have K6 := Lib.hid (Three.new (u0 := .slice A1 D.length a1) (u1 := .slice B1 T.length b1) (u2 := .int .i64 k) (t := 25) w2)
 have OA := Lib.hid (oa.below hba)
 have K2 := Lib.hid (Three.below K2.out hba K2.out.lt)
 have F3 := Lib.hid (F3.out.grown (Below.grownBy hba none) (by simp))
 have K4 := Lib.hid (Three.below K4.out hba K4.out.lt)
 have Z := Lib.hid (Below.and Z.out hba)
 clear oa hba
 go_upto_region 4 with (fail)
 obtain ⟨p6, hp6⟩ : ∃ X, X = w2.heap.size := ⟨_, rfl⟩
 obtain ⟨wA, hwA⟩ : ∃ X, X = w2.alloc (.cells #[.slice A1 D.length a1, .slice B1 T.length b1, .int .i64 k] 25) := ⟨_, rfl⟩
 rw [← hwA] at K6 OA K2 F3 K4 Z ⊢
 rw [← hp6] at K6 LZ2 ⊢
 clear hwA hp6 LZ
 obtain ⟨p0, p1, p2⟩ := K2.out.cells
 obtain ⟨y0, y1, y2, y3, y4⟩ := F3.out.cells
 go_wp2_with (fail)
 refine (l8At A D.length a B b T k ⟨rc, rn, ro, rx, ry⟩ _ hT (Rd.below HR.out.t Z.out)).mono ?_
 rintro e w3 ⟨rfl, hb⟩
 have K2 := Lib.hid (Three.below K2.out hb K2.out.lt)
 have F3 := Lib.hid (F3.out.grown (Below.grownBy hb none) (by simp))
 have K4 := Lib.hid (Three.below K4.out hb K4.out.lt)
 have Z := Lib.hid (Below.and Z.out hb)
 have K6 := Lib.hid (Three.below K6.out hb K6.out.lt)
 have OA := Lib.hid (OA.out.below hb)
 clear p0 p1 p2 y0 y1 y2 y3 y4
 clear hb
 obtain ⟨m, hm⟩ : ∃ m, m = atR ⟨rc, rn, ro, rx, ry⟩ T := ⟨_, rfl⟩
 rw [← hm]
 have HM := Lib.hid hm
 clear hm
 rcases m with _ | i
 · rw [show atV none = -1 from rfl]
   obtain ⟨p0, p1, p2⟩ := K2.out.cells
   obtain ⟨y0, y1, y2, y3, y4⟩ := F3.out.cells
   go_wp2_with (fail)
   refine (l1Ok rc rn ro rx ry _).mono ?_
   rintro e w4 ⟨rfl, hb⟩
   have K2 := Lib.hid (Three.below K2.out hb K2.out.lt)
   have F3 := Lib.hid (F3.out.grown (Below.grownBy hb none) (by simp))
   have K4 := Lib.hid (Three.below K4.out hb K4.out.lt)
   have Z := Lib.hid (Below.and Z.out hb)
   have K6 := Lib.hid (Three.below K6.out hb K6.out.lt)
   have OA := Lib.hid (OA.out.below hb)
   clear p0 p1 p2 y0 y1 y2 y3 y4
   clear hb
   rcases hq : reqB rc rn ro rx ry with _ | _
   · obtain ⟨p0, p1, p2⟩ := K2.out.cells
     obtain ⟨y0, y1, y2, y3, y4⟩ := F3.out.cells
     go_wp2_with (fail)
     refine (l1None ⟨rc, rn, ro, rx, ry⟩ _).mono ?_
     rintro e w5 ⟨rfl, hb⟩
     have K2 := Lib.hid (Three.below K2.out hb K2.out.lt)
     have F3 := Lib.hid (F3.out.grown (Below.grownBy hb none) (by simp))
     have K4 := Lib.hid (Three.below K4.out hb K4.out.lt)
     have Z := Lib.hid (Below.and Z.out hb)
     have K6 := Lib.hid (Three.below K6.out hb K6.out.lt)
     have OA := Lib.hid (OA.out.below hb)
     clear p0 p1 p2 y0 y1 y2 y3 y4
     clear hb
     rcases hn : nullB ⟨rc, rn, ro, rx, ry⟩ with _ | _
     · have HX := Lib.hid (show keepA D T k ⟨rc, rn, ro, rx, ry⟩ = ((D, T, k), false) by unfold keepA; rw [if_pos HOK.out, if_neg (by simp [okB, rqB, hq, hn])])
       obtain ⟨p0, p1, p2⟩ := K2.out.cells
       obtain ⟨y0, y1, y2, y3, y4⟩ := F3.out.cells
       obtain ⟨x0, x1, x2⟩ := K6.out.cells
       obtain ⟨z0, z1, z2⟩ := K4.out.cells
       have zf := K4.out.frozen
       have lz := K4.out.lt
       have BG := Lib.hid (((Z.out.setCell (p := ⟨w.heap.size + 1 + 1, 0, none⟩) (by simp; omega) (.slice A1 D.length a1)).setCell (p := ⟨w.heap.size + 1 + 1, 1, none⟩) (by simp; omega) (.slice B1 T.length b1)).setCell (p := ⟨w.heap.size + 1 + 1, 2, none⟩) (by simp; omega) (.int .i64 k))
       have OG := Lib.hid ((((OA.out.put (q := w.heap.size + 1 + 1) (by omega) 0 (.slice A1 D.length a1)).put (q := w.heap.size + 1 + 1) (by omega) 1 (.slice B1 T.length b1)).put (q := w.heap.size + 1 + 1) (by omega) 2 (.int .i64 k)).base (show w.heap.size ≤ w.heap.size + 3 by omega))
       clear K4 Z
       go_wp2
       refine bodyPost_ret (v := .tuple #[aheadV A1 D.length a1 B1 T.length b1 k, .bool false]) (by simp [results, Try.results24, go_sem, z0, z1, z2]) rfl ?_
       rw [HX.out]
       exact ⟨A1, a1, B1, b1, rfl, OG.out, BG.out⟩
     have HQ := Lib.hid (show okB ⟨rc, rn, ro, rx, ry⟩ = true by simp [okB, hn])
     clear hq hn
     have ew := EW.out
     by_cases hf : D.length + T.length = 60
     · have e60 : decide ((60 : Int) ≤ (D.length : Int) + (T.length : Int)) = true := by simp; omega
       have HX := Lib.hid (show keepA D T k ⟨rc, rn, ro, rx, ry⟩ = ((D, T, k), false) by unfold keepA; rw [if_pos HOK.out, if_neg (by rw [← HM.out]; simp [hf])])
       obtain ⟨p0, p1, p2⟩ := K2.out.cells
       obtain ⟨y0, y1, y2, y3, y4⟩ := F3.out.cells
       obtain ⟨x0, x1, x2⟩ := K6.out.cells
       obtain ⟨z0, z1, z2⟩ := K4.out.cells
       have zf := K4.out.frozen
       have lz := K4.out.lt
       have BG := Lib.hid (((Z.out.setCell (p := ⟨w.heap.size + 1 + 1, 0, none⟩) (by simp; omega) (.slice A1 D.length a1)).setCell (p := ⟨w.heap.size + 1 + 1, 1, none⟩) (by simp; omega) (.slice B1 T.length b1)).setCell (p := ⟨w.heap.size + 1 + 1, 2, none⟩) (by simp; omega) (.int .i64 k))
       have OG := Lib.hid ((((OA.out.put (q := w.heap.size + 1 + 1) (by omega) 0 (.slice A1 D.length a1)).put (q := w.heap.size + 1 + 1) (by omega) 1 (.slice B1 T.length b1)).put (q := w.heap.size + 1 + 1) (by omega) 2 (.int .i64 k)).base (show w.heap.size ≤ w.heap.size + 3 by omega))
       clear K4 Z
       go_wp2
       refine bodyPost_ret (v := .tuple #[aheadV A1 D.length a1 B1 T.length b1 k, .bool false]) (by simp [results, Try.results24, go_sem, z0, z1, z2]) rfl ?_
       rw [HX.out]
       exact ⟨A1, a1, B1, b1, rfl, OG.out, BG.out⟩
     have e60 : decide ((60 : Int) ≤ (D.length : Int) + (T.length : Int)) = false := by have := HL.out; simp; omega
     have HGO : Hid (okB ⟨rc, rn, ro, rx, ry⟩ = true ∧ ¬ (atR ⟨rc, rn, ro, rx, ry⟩ T = none ∧ D.length + T.length = 60)) := ⟨HQ.out, fun e => hf e.2⟩
     clear hf
     obtain ⟨p0, p1, p2⟩ := K2.out.cells
     obtain ⟨y0, y1, y2, y3, y4⟩ := F3.out.cells
     obtain ⟨x0, x1, x2⟩ := K6.out.cells
     go_upto_region 7 with (fail)
     clear p0 p1 p2 y0 y1 y2 y3 y4 x0 x1 x2
     clear e60 ew
     have hba : Below w5.heap.size w5 (w5.alloc (.cells #[.int .i64 rc, .int .i64 rn, .int .i64 ro, .int .i64 rx, .int .i64 ry] 37)) := (Below.refl _ _).alloc (Nat.le_refl _) _
     have OB := Lib.hid (OA.out.below hba)
     have HRd := Lib.hid (rq_oneH w5 37 ⟨rc, rn, ro, rx, ry⟩)
     have lo3 : w.heap.size + 3 ≤ w5.heap.size := by have := K6.out.lt; omega
     have hl60 := HL.out
     obtain ⟨p0, p1, p2⟩ := K2.out.cells
     obtain ⟨y0, y1, y2, y3, y4⟩ := F3.out.cells
     obtain ⟨x0, x1, x2⟩ := K6.out.cells
     have l6 := K6.out.lt
     have l3 := F3.out.lt
     go_wp2_with (at_builtin; go_loud (refine list_app (f := Rq.cells) (fun _ => rfl) rfl _ _ 23 rfl (w.heap.size + 3) 37 I (.agg #[.int .i64 0, .int .i64 0, .int .i64 0, .int .i64 0, .int .i64 0]) 40 Try.underlying23 I1.out I2.out I3.out I4.out rfl (by decide) _ D.length (D.flatMap Rq.cells) rfl OB.out.d _ _ 1 [⟨rc, rn, ro, rx, ry⟩] rfl rfl HRd.out (fun h => by cases h) (reqs_oneH _) (by unfold maxLen; omega) (by omega) (by simp; omega) ?_))
     intro vw8 w8a ho hg hp
     clear p0 p1 p2 y0 y1 y2 y3 y4 x0 x1 x2
     have K2 := Lib.hid (Three.below K2.out hba K2.out.lt)
     have F3 := Lib.hid (F3.out.grown (Below.grownBy hba none) (by simp))
     have K4 := Lib.hid (Three.below K4.out hba K4.out.lt)
     have Z := Lib.hid (Below.and Z.out hba)
     have K6 := Lib.hid (Three.below K6.out hba K6.out.lt)
     have bt := fun x hx => own_block_ge OB.out.d x hx
     have K2 := Lib.hid (K2.out.grown hg (fun e => by have := (bt _ e.symm).1; omega))
     have F3 := Lib.hid (F3.out.grown hg (fun e => by have := (bt _ e.symm).1; omega))
     have K4 := Lib.hid (K4.out.grown hg (fun e => by have := (bt _ e.symm).1; omega))
     have K6 := Lib.hid (K6.out.grown hg (fun e => own_typeH OB.out.d K6.out (by decide) e.symm))
     have Z := Lib.hid (Z.out.grown hg Z.out.size (fun q hq => by have := (bt _ hq).1; omega))
     obtain ⟨A5, a5, rfl, oa⟩ := OB.out.pushD ho hg (by simpa using hp)
     obtain ⟨D5, hD5⟩ : ∃ X, X = D ++ [(⟨rc, rn, ro, rx, ry⟩ : Rq)] := ⟨_, rfl⟩
     rw [← hD5] at oa ⊢
     have HD5 := Lib.hid hD5
     have OA := Lib.hid oa
     clear ho hg hp hba bt OB HRd lo3 l6 l3 oa hD5 hl60
     have xf := K6.out.frozen
     obtain ⟨p0, p1, p2⟩ := K2.out.cells
     obtain ⟨y0, y1, y2, y3, y4⟩ := F3.out.cells
     obtain ⟨x0, x1, x2⟩ := K6.out.cells
     go_upto_region 8 with (fail)
     clear p0 p1 p2 y0 y1 y2 y3 y4 x0 x1 x2
     clear xf
     have K2 := Lib.hid (K2.out.far (show w.heap.size ≠ p6 by omega) (j := 0) (.slice A5 D5.length a5))
     have F3 := Lib.hid (F3.out.farH (show w.heap.size + 1 ≠ p6 by omega) (j := 0) (.slice A5 D5.length a5))
     have K4 := Lib.hid (K4.out.far (show w.heap.size + 1 + 1 ≠ p6 by omega) (j := 0) (.slice A5 D5.length a5))
     have OA := Lib.hid (OA.out.box K6.out 0 (.slice A5 D5.length a5))
     have K6 := Lib.hid (K6.out.set0 (.slice A5 D5.length a5))
     have Z := Lib.hid (Z.out.setCell (p := ⟨p6, 0, none⟩) (by simp; omega) (.slice A5 D5.length a5))
     obtain ⟨w8, hw8⟩ : ∃ X, X = (w8a.setCell ⟨p6, 0, none⟩ (.slice A5 D5.length a5)) := ⟨_, rfl⟩
     rw [← hw8] at K2 F3 K4 OA K6 Z ⊢
     clear hw8
     by_cases h0 : 0 < T.length
     · have e0 : decide ((0 : Int) < (T.length : Int)) = true := decide_eq_true (by omega)
       have H0 := Lib.hid h0
       clear h0
       by_cases h9 : k < 99
       · have e9 : decide (k < 99) = true := decide_eq_true h9
         have ek : IntKind.i64.wrap (k + 1) = k + 1 := IntWalk.i64_in _ (by have := HK.out; omega)
         have H9 := Lib.hid h9
         have xf := K6.out.frozen
         obtain ⟨p0, p1, p2⟩ := K2.out.cells
         obtain ⟨y0, y1, y2, y3, y4⟩ := F3.out.cells
         obtain ⟨x0, x1, x2⟩ := K6.out.cells
         have l6 := K6.out.lt
         clear h9
         go_upto_region 12 with (fail)
         clear p0 p1 p2 y0 y1 y2 y3 y4 x0 x1 x2
         clear xf l6 ek e0 e9
         have K2 := Lib.hid (K2.out.far (show w.heap.size ≠ p6 by omega) (j := 2) (.int .i64 (k + 1)))
         have F3 := Lib.hid (F3.out.farH (show w.heap.size + 1 ≠ p6 by omega) (j := 2) (.int .i64 (k + 1)))
         have K4 := Lib.hid (K4.out.far (show w.heap.size + 1 + 1 ≠ p6 by omega) (j := 2) (.int .i64 (k + 1)))
         have OA := Lib.hid (OA.out.box K6.out 2 (.int .i64 (k + 1)))
         have K6 := Lib.hid (K6.out.set2 (.int .i64 (k + 1)))
         have Z := Lib.hid (Z.out.setCell (p := ⟨p6, 2, none⟩) (by simp; omega) (.int .i64 (k + 1)))
         obtain ⟨w9, hw9⟩ : ∃ X, X = (w8.setCell ⟨p6, 2, none⟩ (.int .i64 (k + 1))) := ⟨_, rfl⟩
         rw [← hw9] at K2 F3 K4 OA K6 Z ⊢
         clear hw9
         have HX := Lib.hid (show keepA D T k ⟨rc, rn, ro, rx, ry⟩ = ((D5, T, k + 1), true) by
          unfold keepA
          rw [if_pos HOK.out, if_pos HGO.out, ← HM.out, HD5.out]
          simp only [bumpK, delT]; rw [if_pos ⟨H0.out, by simp⟩, if_pos H9.out])
         obtain ⟨p0, p1, p2⟩ := K2.out.cells
         obtain ⟨y0, y1, y2, y3, y4⟩ := F3.out.cells
         obtain ⟨x0, x1, x2⟩ := K6.out.cells
         obtain ⟨z0, z1, z2⟩ := K4.out.cells
         have zf := K4.out.frozen
         have lz := K4.out.lt
         have BG := Lib.hid (((Z.out.setCell (p := ⟨w.heap.size + 1 + 1, 0, none⟩) (by simp; omega) (.slice A5 D5.length a5)).setCell (p := ⟨w.heap.size + 1 + 1, 1, none⟩) (by simp; omega) (.slice B1 T.length b1)).setCell (p := ⟨w.heap.size + 1 + 1, 2, none⟩) (by simp; omega) (.int .i64 (k + 1)))
         have OG := Lib.hid ((((OA.out.put (q := w.heap.size + 1 + 1) (by omega) 0 (.slice A5 D5.length a5)).put (q := w.heap.size + 1 + 1) (by omega) 1 (.slice B1 T.length b1)).put (q := w.heap.size + 1 + 1) (by omega) 2 (.int .i64 (k + 1))).base (show w.heap.size ≤ w.heap.size + 3 by omega))
         clear K4 Z
         go_wp2
         refine bodyPost_ret (v := .tuple #[aheadV A5 D5.length a5 B1 T.length b1 (k + 1), .bool true]) (by simp [results, Try.results24, go_sem, z0, z1, z2]) rfl ?_
         rw [HX.out]
         exact ⟨A5, a5, B1, b1, rfl, OG.out, BG.out⟩
       · have e9 : decide (k < 99) = false := decide_eq_false h9
         have H9 := Lib.hid h9
         clear h9
         have HX := Lib.hid (show keepA D T k ⟨rc, rn, ro, rx, ry⟩ = ((D5, T, k), true) by
          unfold keepA
          rw [if_pos HOK.out, if_pos HGO.out, ← HM.out, HD5.out]
          simp only [bumpK, delT]; rw [if_pos ⟨H0.out, by simp⟩, if_neg H9.out])
         obtain ⟨p0, p1, p2⟩ := K2.out.cells
         obtain ⟨y0, y1, y2, y3, y4⟩ := F3.out.cells
         obtain ⟨x0, x1, x2⟩ := K6.out.cells
         obtain ⟨z0, z1, z2⟩ := K4.out.cells
         have zf := K4.out.frozen
         have lz := K4.out.lt
         have BG := Lib.hid (((Z.out.setCell (p := ⟨w.heap.size + 1 + 1, 0, none⟩) (by simp; omega) (.slice A5 D5.length a5)).setCell (p := ⟨w.heap.size + 1 + 1, 1, none⟩) (by simp; omega) (.slice B1 T.length b1)).setCell (p := ⟨w.heap.size + 1 + 1, 2, none⟩) (by simp; omega) (.int .i64 k))
         have OG := Lib.hid ((((OA.out.put (q := w.heap.size + 1 + 1) (by omega) 0 (.slice A5 D5.length a5)).put (q := w.heap.size + 1 + 1) (by omega) 1 (.slice B1 T.length b1)).put (q := w.heap.size + 1 + 1) (by omega) 2 (.int .i64 k)).base (show w.heap.size ≤ w.heap.size + 3 by omega))
         clear K4 Z
         go_wp2
         refine bodyPost_ret (v := .tuple #[aheadV A5 D5.length a5 B1 T.length b1 k, .bool true]) (by simp [results, Try.results24, go_sem, z0, z1, z2]) rfl ?_
         rw [HX.out]
         exact ⟨A5, a5, B1, b1, rfl, OG.out, BG.out⟩
     · have e0 : decide ((0 : Int) < (T.length : Int)) = false := decide_eq_false (by omega)
       have H0 := Lib.hid h0
       clear h0
       have HX := Lib.hid (show keepA D T k ⟨rc, rn, ro, rx, ry⟩ = ((D5, T, k), true) by
        unfold keepA
        rw [if_pos HOK.out, if_pos HGO.out, ← HM.out, HD5.out]
        simp only [bumpK, delT]; rw [if_neg (fun e => H0.out e.1)])
       obtain ⟨p0, p1, p2⟩ := K2.out.cells
       obtain ⟨y0, y1, y2, y3, y4⟩ := F3.out.cells
       obtain ⟨x0, x1, x2⟩ := K6.out.cells
       obtain ⟨z0, z1, z2⟩ := K4.out.cells
       have zf := K4.out.frozen
       have lz := K4.out.lt
       have BG := Lib.hid (((Z.out.setCell (p := ⟨w.heap.size + 1 + 1, 0, none⟩) (by simp; omega) (.slice A5 D5.length a5)).setCell (p := ⟨w.heap.size + 1 + 1, 1, none⟩) (by simp; omega) (.slice B1 T.length b1)).setCell (p := ⟨w.heap.size + 1 + 1, 2, none⟩) (by simp; omega) (.int .i64 k))
       have OG := Lib.hid ((((OA.out.put (q := w.heap.size + 1 + 1) (by omega) 0 (.slice A5 D5.length a5)).put (q := w.heap.size + 1 + 1) (by omega) 1 (.slice B1 T.length b1)).put (q := w.heap.size + 1 + 1) (by omega) 2 (.int .i64 k)).base (show w.heap.size ≤ w.heap.size + 3 by omega))
       clear K4 Z
       go_wp2
       refine bodyPost_ret (v := .tuple #[aheadV A5 D5.length a5 B1 T.length b1 k, .bool true]) (by simp [results, Try.results24, go_sem, z0, z1, z2]) rfl ?_
       rw [HX.out]
       exact ⟨A5, a5, B1, b1, rfl, OG.out, BG.out⟩
   · have HQ := Lib.hid (show okB ⟨rc, rn, ro, rx, ry⟩ = true by simp [okB, rqB, hq])
     clear hq
     have ew := EW.out
     by_cases hf : D.length + T.length = 60
     · have e60 : decide ((60 : Int) ≤ (D.length : Int) + (T.length : Int)) = true := by simp; omega
       have HX := Lib.hid (show keepA D T k ⟨rc, rn, ro, rx, ry⟩ = ((D, T, k), false) by unfold keepA; rw [if_pos HOK.out, if_neg (by rw [← HM.out]; simp [hf])])
       obtain ⟨p0, p1, p2⟩ := K2.out.cells
       obtain ⟨y0, y1, y2, y3, y4⟩ := F3.out.cells
       obtain ⟨x0, x1, x2⟩ := K6.out.cells
       obtain ⟨z0, z1, z2⟩ := K4.out.cells
       have zf := K4.out.frozen
       have lz := K4.out.lt
       have BG := Lib.hid (((Z.out.setCell (p := ⟨w.heap.size + 1 + 1, 0, none⟩) (by simp; omega) (.slice A1 D.length a1)).setCell (p := ⟨w.heap.size + 1 + 1, 1, none⟩) (by simp; omega) (.slice B1 T.length b1)).setCell (p := ⟨w.heap.size + 1 + 1, 2, none⟩) (by simp; omega) (.int .i64 k))
       have OG := Lib.hid ((((OA.out.put (q := w.heap.size + 1 + 1) (by omega) 0 (.slice A1 D.length a1)).put (q := w.heap.size + 1 + 1) (by omega) 1 (.slice B1 T.length b1)).put (q := w.heap.size + 1 + 1) (by omega) 2 (.int .i64 k)).base (show w.heap.size ≤ w.heap.size + 3 by omega))
       clear K4 Z
       go_wp2
       refine bodyPost_ret (v := .tuple #[aheadV A1 D.length a1 B1 T.length b1 k, .bool false]) (by simp [results, Try.results24, go_sem, z0, z1, z2]) rfl ?_
       rw [HX.out]
       exact ⟨A1, a1, B1, b1, rfl, OG.out, BG.out⟩
     have e60 : decide ((60 : Int) ≤ (D.length : Int) + (T.length : Int)) = false := by have := HL.out; simp; omega
     have HGO : Hid (okB ⟨rc, rn, ro, rx, ry⟩ = true ∧ ¬ (atR ⟨rc, rn, ro, rx, ry⟩ T = none ∧ D.length + T.length = 60)) := ⟨HQ.out, fun e => hf e.2⟩
     clear hf
     obtain ⟨p0, p1, p2⟩ := K2.out.cells
     obtain ⟨y0, y1, y2, y3, y4⟩ := F3.out.cells
     obtain ⟨x0, x1, x2⟩ := K6.out.cells
     go_upto_region 7 with (fail)
     clear p0 p1 p2 y0 y1 y2 y3 y4 x0 x1 x2
     clear e60 ew
     have hba : Below w4.heap.size w4 (w4.alloc (.cells #[.int .i64 rc, .int .i64 rn, .int .i64 ro, .int .i64 rx, .int .i64 ry] 37)) := (Below.refl _ _).alloc (Nat.le_refl _) _
     have OB := Lib.hid (OA.out.below hba)
     have HRd := Lib.hid (rq_oneH w4 37 ⟨rc, rn, ro, rx, ry⟩)
     have lo3 : w.heap.size + 3 ≤ w4.heap.size := by have := K6.out.lt; omega
     have hl60 := HL.out
     obtain ⟨p0, p1, p2⟩ := K2.out.cells
     obtain ⟨y0, y1, y2, y3, y4⟩ := F3.out.cells
     obtain ⟨x0, x1, x2⟩ := K6.out.cells
     have l6 := K6.out.lt
     have l3 := F3.out.lt
     go_wp2_with (at_builtin; go_loud (refine list_app (f := Rq.cells) (fun _ => rfl) rfl _ _ 23 rfl (w.heap.size + 3) 37 I (.agg #[.int .i64 0, .int .i64 0, .int .i64 0, .int .i64 0, .int .i64 0]) 40 Try.underlying23 I1.out I2.out I3.out I4.out rfl (by decide) _ D.length (D.flatMap Rq.cells) rfl OB.out.d _ _ 1 [⟨rc, rn, ro, rx, ry⟩] rfl rfl HRd.out (fun h => by cases h) (reqs_oneH _) (by unfold maxLen; omega) (by omega) (by simp; omega) ?_))
     intro vw8 w8a ho hg hp
     clear p0 p1 p2 y0 y1 y2 y3 y4 x0 x1 x2
     have K2 := Lib.hid (Three.below K2.out hba K2.out.lt)
     have F3 := Lib.hid (F3.out.grown (Below.grownBy hba none) (by simp))
     have K4 := Lib.hid (Three.below K4.out hba K4.out.lt)
     have Z := Lib.hid (Below.and Z.out hba)
     have K6 := Lib.hid (Three.below K6.out hba K6.out.lt)
     have bt := fun x hx => own_block_ge OB.out.d x hx
     have K2 := Lib.hid (K2.out.grown hg (fun e => by have := (bt _ e.symm).1; omega))
     have F3 := Lib.hid (F3.out.grown hg (fun e => by have := (bt _ e.symm).1; omega))
     have K4 := Lib.hid (K4.out.grown hg (fun e => by have := (bt _ e.symm).1; omega))
     have K6 := Lib.hid (K6.out.grown hg (fun e => own_typeH OB.out.d K6.out (by decide) e.symm))
     have Z := Lib.hid (Z.out.grown hg Z.out.size (fun q hq => by have := (bt _ hq).1; omega))
     obtain ⟨A5, a5, rfl, oa⟩ := OB.out.pushD ho hg (by simpa using hp)
     obtain ⟨D5, hD5⟩ : ∃ X, X = D ++ [(⟨rc, rn, ro, rx, ry⟩ : Rq)] := ⟨_, rfl⟩
     rw [← hD5] at oa ⊢
     have HD5 := Lib.hid hD5
     have OA := Lib.hid oa
     clear ho hg hp hba bt OB HRd lo3 l6 l3 oa hD5 hl60
     have xf := K6.out.frozen
     obtain ⟨p0, p1, p2⟩ := K2.out.cells
     obtain ⟨y0, y1, y2, y3, y4⟩ := F3.out.cells
     obtain ⟨x0, x1, x2⟩ := K6.out.cells
     go_upto_region 8 with (fail)
     clear p0 p1 p2 y0 y1 y2 y3 y4 x0 x1 x2
     clear xf
     have K2 := Lib.hid (K2.out.far (show w.heap.size ≠ p6 by omega) (j := 0) (.slice A5 D5.length a5))
     have F3 := Lib.hid (F3.out.farH (show w.heap.size + 1 ≠ p6 by omega) (j := 0) (.slice A5 D5.length a5))
     have K4 := Lib.hid (K4.out.far (show w.heap.size + 1 + 1 ≠ p6 by omega) (j := 0) (.slice A5 D5.length a5))
     have OA := Lib.hid (OA.out.box K6.out 0 (.slice A5 D5.length a5))
     have K6 := Lib.hid (K6.out.set0 (.slice A5 D5.length a5))
     have Z := Lib.hid (Z.out.setCell (p := ⟨p6, 0, none⟩) (by simp; omega) (.slice A5 D5.length a5))
     obtain ⟨w8, hw8⟩ : ∃ X, X = (w8a.setCell ⟨p6, 0, none⟩ (.slice A5 D5.length a5)) := ⟨_, rfl⟩
     rw [← hw8] at K2 F3 K4 OA K6 Z ⊢
     clear hw8
     by_cases h0 : 0 < T.length
     · have e0 : decide ((0 : Int) < (T.length : Int)) = true := decide_eq_true (by omega)
       have H0 := Lib.hid h0
       clear h0
       by_cases h9 : k < 99
       · have e9 : decide (k < 99) = true := decide_eq_true h9
         have ek : IntKind.i64.wrap (k + 1) = k + 1 := IntWalk.i64_in _ (by have := HK.out; omega)
         have H9 := Lib.hid h9
         have xf := K6.out.frozen
         obtain ⟨p0, p1, p2⟩ := K2.out.cells
         obtain ⟨y0, y1, y2, y3, y4⟩ := F3.out.cells
         obtain ⟨x0, x1, x2⟩ := K6.out.cells
         have l6 := K6.out.lt
         clear h9
         go_upto_region 12 with (fail)
         clear p0 p1 p2 y0 y1 y2 y3 y4 x0 x1 x2
         clear xf l6 ek e0 e9
         have K2 := Lib.hid (K2.out.far (show w.heap.size ≠ p6 by omega) (j := 2) (.int .i64 (k + 1)))
         have F3 := Lib.hid (F3.out.farH (show w.heap.size + 1 ≠ p6 by omega) (j := 2) (.int .i64 (k + 1)))
         have K4 := Lib.hid (K4.out.far (show w.heap.size + 1 + 1 ≠ p6 by omega) (j := 2) (.int .i64 (k + 1)))
         have OA := Lib.hid (OA.out.box K6.out 2 (.int .i64 (k + 1)))
         have K6 := Lib.hid (K6.out.set2 (.int .i64 (k + 1)))
         have Z := Lib.hid (Z.out.setCell (p := ⟨p6, 2, none⟩) (by simp; omega) (.int .i64 (k + 1)))
         obtain ⟨w9, hw9⟩ : ∃ X, X = (w8.setCell ⟨p6, 2, none⟩ (.int .i64 (k + 1))) := ⟨_, rfl⟩
         rw [← hw9] at K2 F3 K4 OA K6 Z ⊢
         clear hw9
         have HX := Lib.hid (show keepA D T k ⟨rc, rn, ro, rx, ry⟩ = ((D5, T, k + 1), true) by
          unfold keepA
          rw [if_pos HOK.out, if_pos HGO.out, ← HM.out, HD5.out]
          simp only [bumpK, delT]; rw [if_pos ⟨H0.out, by simp⟩, if_pos H9.out])
         obtain ⟨p0, p1, p2⟩ := K2.out.cells
         obtain ⟨y0, y1, y2, y3, y4⟩ := F3.out.cells
         obtain ⟨x0, x1, x2⟩ := K6.out.cells
         obtain ⟨z0, z1, z2⟩ := K4.out.cells
         have zf := K4.out.frozen
         have lz := K4.out.lt
         have BG := Lib.hid (((Z.out.setCell (p := ⟨w.heap.size + 1 + 1, 0, none⟩) (by simp; omega) (.slice A5 D5.length a5)).setCell (p := ⟨w.heap.size + 1 + 1, 1, none⟩) (by simp; omega) (.slice B1 T.length b1)).setCell (p := ⟨w.heap.size + 1 + 1, 2, none⟩) (by simp; omega) (.int .i64 (k + 1)))
         have OG := Lib.hid ((((OA.out.put (q := w.heap.size + 1 + 1) (by omega) 0 (.slice A5 D5.length a5)).put (q := w.heap.size + 1 + 1) (by omega) 1 (.slice B1 T.length b1)).put (q := w.heap.size + 1 + 1) (by omega) 2 (.int .i64 (k + 1))).base (show w.heap.size ≤ w.heap.size + 3 by omega))
         clear K4 Z
         go_wp2
         refine bodyPost_ret (v := .tuple #[aheadV A5 D5.length a5 B1 T.length b1 (k + 1), .bool true]) (by simp [results, Try.results24, go_sem, z0, z1, z2]) rfl ?_
         rw [HX.out]
         exact ⟨A5, a5, B1, b1, rfl, OG.out, BG.out⟩
       · have e9 : decide (k < 99) = false := decide_eq_false h9
         have H9 := Lib.hid h9
         clear h9
         have HX := Lib.hid (show keepA D T k ⟨rc, rn, ro, rx, ry⟩ = ((D5, T, k), true) by
          unfold keepA
          rw [if_pos HOK.out, if_pos HGO.out, ← HM.out, HD5.out]
          simp only [bumpK, delT]; rw [if_pos ⟨H0.out, by simp⟩, if_neg H9.out])
         obtain ⟨p0, p1, p2⟩ := K2.out.cells
         obtain ⟨y0, y1, y2, y3, y4⟩ := F3.out.cells
         obtain ⟨x0, x1, x2⟩ := K6.out.cells
         obtain ⟨z0, z1, z2⟩ := K4.out.cells
         have zf := K4.out.frozen
         have lz := K4.out.lt
         have BG := Lib.hid (((Z.out.setCell (p := ⟨w.heap.size + 1 + 1, 0, none⟩) (by simp; omega) (.slice A5 D5.length a5)).setCell (p := ⟨w.heap.size + 1 + 1, 1, none⟩) (by simp; omega) (.slice B1 T.length b1)).setCell (p := ⟨w.heap.size + 1 + 1, 2, none⟩) (by simp; omega) (.int .i64 k))
         have OG := Lib.hid ((((OA.out.put (q := w.heap.size + 1 + 1) (by omega) 0 (.slice A5 D5.length a5)).put (q := w.heap.size + 1 + 1) (by omega) 1 (.slice B1 T.length b1)).put (q := w.heap.size + 1 + 1) (by omega) 2 (.int .i64 k)).base (show w.heap.size ≤ w.heap.size + 3 by omega))
         clear K4 Z
         go_wp2
         refine bodyPost_ret (v := .tuple #[aheadV A5 D5.length a5 B1 T.length b1 k, .bool true]) (by simp [results, Try.results24, go_sem, z0, z1, z2]) rfl ?_
         rw [HX.out]
         exact ⟨A5, a5, B1, b1, rfl, OG.out, BG.out⟩
     · have e0 : decide ((0 : Int) < (T.length : Int)) = false := decide_eq_false (by omega)
       have H0 := Lib.hid h0
       clear h0
       have HX := Lib.hid (show keepA D T k ⟨rc, rn, ro, rx, ry⟩ = ((D5, T, k), true) by
        unfold keepA
        rw [if_pos HOK.out, if_pos HGO.out, ← HM.out, HD5.out]
        simp only [bumpK, delT]; rw [if_neg (fun e => H0.out e.1)])
       obtain ⟨p0, p1, p2⟩ := K2.out.cells
       obtain ⟨y0, y1, y2, y3, y4⟩ := F3.out.cells
       obtain ⟨x0, x1, x2⟩ := K6.out.cells
       obtain ⟨z0, z1, z2⟩ := K4.out.cells
       have zf := K4.out.frozen
       have lz := K4.out.lt
       have BG := Lib.hid (((Z.out.setCell (p := ⟨w.heap.size + 1 + 1, 0, none⟩) (by simp; omega) (.slice A5 D5.length a5)).setCell (p := ⟨w.heap.size + 1 + 1, 1, none⟩) (by simp; omega) (.slice B1 T.length b1)).setCell (p := ⟨w.heap.size + 1 + 1, 2, none⟩) (by simp; omega) (.int .i64 k))
       have OG := Lib.hid ((((OA.out.put (q := w.heap.size + 1 + 1) (by omega) 0 (.slice A5 D5.length a5)).put (q := w.heap.size + 1 + 1) (by omega) 1 (.slice B1 T.length b1)).put (q := w.heap.size + 1 + 1) (by omega) 2 (.int .i64 k)).base (show w.heap.size ≤ w.heap.size + 3 by omega))
       clear K4 Z
       go_wp2
       refine bodyPost_ret (v := .tuple #[aheadV A5 D5.length a5 B1 T.length b1 k, .bool true]) (by simp [results, Try.results24, go_sem, z0, z1, z2]) rfl ?_
       rw [HX.out]
       exact ⟨A5, a5, B1, b1, rfl, OG.out, BG.out⟩
 · rw [show atV (some i) = (i : Int) from rfl]
   have hi := atR_lt HM.out.symm
   have e1 : decide ((i : Int) < 0) = false := by simp
   have i0 : (0 : Int) ≤ (i : Int) := by omega
   have HI := Lib.hid hi
   obtain ⟨gT, oT, rfl, _⟩ := HR.out.t i hi
   obtain ⟨p0, p1, p2⟩ := K2.out.cells
   obtain ⟨y0, y1, y2, y3, y4⟩ := F3.out.cells
   go_wp2_with (fail)
   refine (l1Ok rc rn ro rx ry _).mono ?_
   rintro e w4 ⟨rfl, hb⟩
   have K2 := Lib.hid (Three.below K2.out hb K2.out.lt)
   have F3 := Lib.hid (F3.out.grown (Below.grownBy hb none) (by simp))
   have K4 := Lib.hid (Three.below K4.out hb K4.out.lt)
   have Z := Lib.hid (Below.and Z.out hb)
   have K6 := Lib.hid (Three.below K6.out hb K6.out.lt)
   have OA := Lib.hid (OA.out.below hb)
   clear p0 p1 p2 y0 y1 y2 y3 y4
   clear hb
   rcases hq : reqB rc rn ro rx ry with _ | _
   · obtain ⟨p0, p1, p2⟩ := K2.out.cells
     obtain ⟨y0, y1, y2, y3, y4⟩ := F3.out.cells
     go_wp2_with (fail)
     refine (l1None ⟨rc, rn, ro, rx, ry⟩ _).mono ?_
     rintro e w5 ⟨rfl, hb⟩
     have K2 := Lib.hid (Three.below K2.out hb K2.out.lt)
     have F3 := Lib.hid (F3.out.grown (Below.grownBy hb none) (by simp))
     have K4 := Lib.hid (Three.below K4.out hb K4.out.lt)
     have Z := Lib.hid (Below.and Z.out hb)
     have K6 := Lib.hid (Three.below K6.out hb K6.out.lt)
     have OA := Lib.hid (OA.out.below hb)
     clear p0 p1 p2 y0 y1 y2 y3 y4
     clear hb
     rcases hn : nullB ⟨rc, rn, ro, rx, ry⟩ with _ | _
     · have HX := Lib.hid (show keepA D T k ⟨rc, rn, ro, rx, ry⟩ = ((D, T, k), false) by unfold keepA; rw [if_pos HOK.out, if_neg (by simp [okB, rqB, hq, hn])])
       obtain ⟨p0, p1, p2⟩ := K2.out.cells
       obtain ⟨y0, y1, y2, y3, y4⟩ := F3.out.cells
       obtain ⟨x0, x1, x2⟩ := K6.out.cells
       obtain ⟨z0, z1, z2⟩ := K4.out.cells
       have zf := K4.out.frozen
       have lz := K4.out.lt
       have BG := Lib.hid (((Z.out.setCell (p := ⟨w.heap.size + 1 + 1, 0, none⟩) (by simp; omega) (.slice A1 D.length a1)).setCell (p := ⟨w.heap.size + 1 + 1, 1, none⟩) (by simp; omega) (.slice B1 T.length b1)).setCell (p := ⟨w.heap.size + 1 + 1, 2, none⟩) (by simp; omega) (.int .i64 k))
       have OG := Lib.hid ((((OA.out.put (q := w.heap.size + 1 + 1) (by omega) 0 (.slice A1 D.length a1)).put (q := w.heap.size + 1 + 1) (by omega) 1 (.slice B1 T.length b1)).put (q := w.heap.size + 1 + 1) (by omega) 2 (.int .i64 k)).base (show w.heap.size ≤ w.heap.size + 3 by omega))
       clear K4 Z
       go_wp2
       refine bodyPost_ret (v := .tuple #[aheadV A1 D.length a1 B1 T.length b1 k, .bool false]) (by simp [results, Try.results24, go_sem, z0, z1, z2]) rfl ?_
       rw [HX.out]
       exact ⟨A1, a1, B1, b1, rfl, OG.out, BG.out⟩
     have HQ := Lib.hid (show okB ⟨rc, rn, ro, rx, ry⟩ = true by simp [okB, hn])
     clear hq hn
     have HGO : Hid (okB ⟨rc, rn, ro, rx, ry⟩ = true ∧ ¬ (atR ⟨rc, rn, ro, rx, ry⟩ T = none ∧ D.length + T.length = 60)) := ⟨HQ.out, fun e => by rw [← HM.out] at e; simp at e⟩
     obtain ⟨p0, p1, p2⟩ := K2.out.cells
     obtain ⟨y0, y1, y2, y3, y4⟩ := F3.out.cells
     obtain ⟨x0, x1, x2⟩ := K6.out.cells
     go_upto_region 7 with (fail)
     clear p0 p1 p2 y0 y1 y2 y3 y4 x0 x1 x2
     have hba : Below w5.heap.size w5 (w5.alloc (.cells #[.int .i64 rc, .int .i64 rn, .int .i64 ro, .int .i64 rx, .int .i64 ry] 37)) := (Below.refl _ _).alloc (Nat.le_refl _) _
     have OB := Lib.hid (OA.out.below hba)
     have HRd := Lib.hid (rq_oneH w5 37 ⟨rc, rn, ro, rx, ry⟩)
     have lo3 : w.heap.size + 3 ≤ w5.heap.size := by have := K6.out.lt; omega
     have hl60 := HL.out
     obtain ⟨p0, p1, p2⟩ := K2.out.cells
     obtain ⟨y0, y1, y2, y3, y4⟩ := F3.out.cells
     obtain ⟨x0, x1, x2⟩ := K6.out.cells
     have l6 := K6.out.lt
     have l3 := F3.out.lt
     go_wp2_with (at_builtin; go_loud (refine list_app (f := Rq.cells) (fun _ => rfl) rfl _ _ 23 rfl (w.heap.size + 3) 37 I (.agg #[.int .i64 0, .int .i64 0, .int .i64 0, .int .i64 0, .int .i64 0]) 40 Try.underlying23 I1.out I2.out I3.out I4.out rfl (by decide) _ D.length (D.flatMap Rq.cells) rfl OB.out.d _ _ 1 [⟨rc, rn, ro, rx, ry⟩] rfl rfl HRd.out (fun h => by cases h) (reqs_oneH _) (by unfold maxLen; omega) (by omega) (by simp; omega) ?_))
     intro vw8 w8a ho hg hp
     clear p0 p1 p2 y0 y1 y2 y3 y4 x0 x1 x2
     have K2 := Lib.hid (Three.below K2.out hba K2.out.lt)
     have F3 := Lib.hid (F3.out.grown (Below.grownBy hba none) (by simp))
     have K4 := Lib.hid (Three.below K4.out hba K4.out.lt)
     have Z := Lib.hid (Below.and Z.out hba)
     have K6 := Lib.hid (Three.below K6.out hba K6.out.lt)
     have bt := fun x hx => own_block_ge OB.out.d x hx
     have K2 := Lib.hid (K2.out.grown hg (fun e => by have := (bt _ e.symm).1; omega))
     have F3 := Lib.hid (F3.out.grown hg (fun e => by have := (bt _ e.symm).1; omega))
     have K4 := Lib.hid (K4.out.grown hg (fun e => by have := (bt _ e.symm).1; omega))
     have K6 := Lib.hid (K6.out.grown hg (fun e => own_typeH OB.out.d K6.out (by decide) e.symm))
     have Z := Lib.hid (Z.out.grown hg Z.out.size (fun q hq => by have := (bt _ hq).1; omega))
     obtain ⟨A5, a5, rfl, oa⟩ := OB.out.pushD ho hg (by simpa using hp)
     obtain ⟨D5, hD5⟩ : ∃ X, X = D ++ [(⟨rc, rn, ro, rx, ry⟩ : Rq)] := ⟨_, rfl⟩
     rw [← hD5] at oa ⊢
     have HD5 := Lib.hid hD5
     have OA := Lib.hid oa
     clear ho hg hp hba bt OB HRd lo3 l6 l3 oa hD5 hl60
     have xf := K6.out.frozen
     obtain ⟨p0, p1, p2⟩ := K2.out.cells
     obtain ⟨y0, y1, y2, y3, y4⟩ := F3.out.cells
     obtain ⟨x0, x1, x2⟩ := K6.out.cells
     go_upto_region 8 with (fail)
     clear p0 p1 p2 y0 y1 y2 y3 y4 x0 x1 x2
     clear xf
     have K2 := Lib.hid (K2.out.far (show w.heap.size ≠ p6 by omega) (j := 0) (.slice A5 D5.length a5))
     have F3 := Lib.hid (F3.out.farH (show w.heap.size + 1 ≠ p6 by omega) (j := 0) (.slice A5 D5.length a5))
     have K4 := Lib.hid (K4.out.far (show w.heap.size + 1 + 1 ≠ p6 by omega) (j := 0) (.slice A5 D5.length a5))
     have OA := Lib.hid (OA.out.box K6.out 0 (.slice A5 D5.length a5))
     have K6 := Lib.hid (K6.out.set0 (.slice A5 D5.length a5))
     have Z := Lib.hid (Z.out.setCell (p := ⟨p6, 0, none⟩) (by simp; omega) (.slice A5 D5.length a5))
     obtain ⟨w8, hw8⟩ : ∃ X, X = (w8a.setCell ⟨p6, 0, none⟩ (.slice A5 D5.length a5)) := ⟨_, rfl⟩
     rw [← hw8] at K2 F3 K4 OA K6 Z ⊢
     clear hw8
     by_cases hbi : b = i + 1
     · subst hbi
       have hl60 := HL.out
       have hib := HI.out
       have hTb := HC.out
       have j1 : (i : Int) ≤ (i : Int) + 1 := by omega
       have j2 : (i : Int) + 1 ≤ (T.length : Int) := by omega
       have j3 : (0 : Int) ≤ (i : Int) + 1 := by omega
       have j4 : IntKind.i64.wrap ((i : Int) + 1) = (i : Int) + 1 := IntWalk.i64_in _ (by omega)
       have j5 : ((i : Int) + 1).toNat = i + 1 := by omega
       have HRT : Hid (Rd 5 Rq.cells w8 (some ⟨gT, oT, none⟩) (T.take i)) := Rd.takeR (Rd.below HR.out.t Z.out) i
       have HRD : Hid (Rd 5 Rq.cells w8 (some ⟨gT, oT, none⟩) (T.drop (i + 1))) := fun j hj => by simp at hj; omega
       have HLNw10 := Lib.hid (show (T.take i).length = i by rw [List.length_take]; omega)
       have HLNw11 := Lib.hid (show (T.drop (i + 1)).length = 0 by rw [List.length_drop]; omega)
       have HER := Lib.hid (show (T.take i).flatMap Rq.cells ++ (T.drop (i + 1)).flatMap Rq.cells = (T.eraseIdx i).flatMap Rq.cells by rw [← List.flatMap_append, ← List.eraseIdx_eq_take_drop_succ])
       have HEL := Lib.hid (show i + 0 = (T.eraseIdx i).length by rw [List.length_eraseIdx, if_pos hib]; omega)
       obtain ⟨p0, p1, p2⟩ := K2.out.cells
       obtain ⟨y0, y1, y2, y3, y4⟩ := F3.out.cells
       obtain ⟨x0, x1, x2⟩ := K6.out.cells
       go_upto_region 9 with (fail)
       clear p0 p1 p2 y0 y1 y2 y3 y4 x0 x1 x2
       refine wp_region_held_drew (S := fun WS => Three WS w.heap.size 25 (.slice A D.length a) (.slice (some ⟨gT, oT, none⟩) T.length (i + 1)) (.int .i64 k)) (by kernel_rfl) K2.out.drew (fun hS0 => ?_)
       refine tkI 1 49 (v := ?_) rfl rfl ?_ ?_
       rotate_left
       · intro wS hSw; obtain ⟨p0, p1, p2⟩ := Three.cells hSw; go_simp; (try with_reducible rfl)
       (try simp only [Act.put, pu1, pu2, pu3])
       refine tkI 2 50 (v := ?_) rfl rfl ?_ ?_
       rotate_left
       · intro wS hSw; obtain ⟨p0, p1, p2⟩ := Three.cells hSw; go_simp; (try with_reducible rfl)
       (try simp only [Act.put, pu1, pu2, pu3])
       refine tkI 3 51 (v := ?_) rfl rfl ?_ ?_
       rotate_left
       · intro wS hSw; obtain ⟨p0, p1, p2⟩ := Three.cells hSw; go_simp; (try with_reducible rfl)
       (try simp only [Act.put, pu1, pu2, pu3])
       refine tkI 4 52 (v := ?_) rfl rfl ?_ ?_
       rotate_left
       · intro wS hSw; obtain ⟨p0, p1, p2⟩ := Three.cells hSw; go_simp; (try with_reducible rfl)
       (try simp only [Act.put, pu1, pu2, pu3])
       refine tkI 6 54 (v := ?_) rfl rfl ?_ ?_
       rotate_left
       · intro wS hSw; obtain ⟨p0, p1, p2⟩ := Three.cells hSw; go_simp; (try with_reducible rfl)
       (try simp only [Act.put, pu1, pu2, pu3])
       refine tkI 7 55 (v := ?_) rfl rfl ?_ ?_
       rotate_left
       · intro wS hSw; obtain ⟨p0, p1, p2⟩ := Three.cells hSw; go_simp; (try with_reducible rfl)
       (try simp only [Act.put, pu1, pu2, pu3])
       refine tkI 8 56 (v := ?_) rfl rfl ?_ ?_
       rotate_left
       · intro wS hSw; obtain ⟨p0, p1, p2⟩ := Three.cells hSw; go_simp; (try with_reducible rfl)
       (try simp only [Act.put, pu1, pu2, pu3])
       refine tkI 9 57 (v := ?_) rfl rfl ?_ ?_
       rotate_left
       · intro wS hSw; obtain ⟨p0, p1, p2⟩ := Three.cells hSw; go_simp; (try with_reducible rfl)
       (try simp only [Act.put, pu1, pu2, pu3])
       refine tkI 10 58 (v := ?_) rfl rfl ?_ ?_
       rotate_left
       · intro wS hSw; obtain ⟨p0, p1, p2⟩ := Three.cells hSw; go_simp; (try with_reducible rfl)
       (try simp only [Act.put, pu1, pu2, pu3])
       clear hS0
       refine wpAnyH_ready (rs := [0]) (by kernel_rfl) (by simp) ?_
       refine AllReadyH.cons rfl (fun KK hK => ?_) AllReadyH.nil
       go_simp
       refine hK.out _ _ (show Three (w8.alloc (.cells #[] 37)).drew _ _ _ _ _ from (K2.out.alloc (.cells #[] 37)).drew) (fun _ => ?_)
       clear hK KK
       (try simp only [Act.put, pu1, pu2, pu3])
       have hba : Below w8.heap.size w8 (w8.alloc (.cells #[] 37)).drew := ((Below.refl w8.heap.size w8).alloc (Nat.le_refl _) (.cells #[] 37)).drew
       have LO3 := Lib.hid (show w.heap.size + 3 ≤ w8.heap.size by have := K6.out.lt; omega)
       have OD0 := Lib.hid OA.out.d
       have DO : Hid (∀ x, (Value.slice (some ⟨w8.heap.size, 0, none⟩) 0 0).ownBlock = some x → (Value.slice A5 D5.length a5).ownBlock ≠ some x) := new_apartH OA.out.d
       have K2 := Lib.hid (Three.below K2.out hba K2.out.lt)
       have F3 := Lib.hid (F3.out.grown (Below.grownBy hba none) (by simp))
       have K4 := Lib.hid (Three.below K4.out hba K4.out.lt)
       have Z := Lib.hid (Below.and Z.out hba)
       have K6 := Lib.hid (Three.below K6.out hba K6.out.lt)
       have OA := Lib.hid (OA.out.below hba)
       have HRT := Lib.hid (Rd.below HRT.out hba)
       have HRD := Lib.hid (Rd.below HRD.out hba)
       have OD0 := Lib.hid (own_below OD0.out hba)
       have OD := OD0
       have OO : Hid ((w8.alloc (.cells #[] 37)).drew.ownsRow w8.heap.size 37 5 (.slice (some ⟨w8.heap.size, 0, none⟩) 0 0) 0 []) := own_nil_newH w8 37 5 rfl
       have LO : Hid (w8.heap.size ≤ (w8.alloc (.cells #[] 37)).drew.heap.size) := hba.size
       obtain ⟨lo, hlo⟩ : ∃ X, X = w8.heap.size := ⟨_, rfl⟩
       obtain ⟨w9, hw9⟩ : ∃ X, X = (w8.alloc (.cells #[] 37)).drew := ⟨_, rfl⟩
       rw [← hw9] at K2 F3 K4 K6 Z OA OO LO HRT HRD OD OD0 ⊢
       rw [← hlo] at OO LO LO3 DO ⊢
       clear hba hw9 hlo
       refine wpAnyH_ready (rs := [5]) (by kernel_rfl) (by simp) ?_
       refine AllReadyH.cons rfl (fun KK hK => ?_) AllReadyH.nil
       refine step_app (k := 5) (f := Rq.cells) (fun _ => rfl) (by rfl) _ _ 23 (by rfl) lo 37 I (.agg #[.int .i64 0, .int .i64 0, .int .i64 0, .int .i64 0, .int .i64 0]) 40 Try.underlying23 I1.out I2.out I3.out I4.out (by rfl) (by omega) _ 0 [] (by rfl) OO.out _ _ _ (T.take i) HLNw10.out (by rfl) HRT.out (fun h => by cases h) (reqs_oneH _) (by unfold maxLen; omega) (by omega) LO.out ?_
       intro vw10 w10 ho hg hp
       have hb : Below lo w9 w10 := Below.of_grown hg LO.out (fun x hx => (own_block_ge OO.out x hx).1)
       have hrd := HRD.out
       have bt := fun x hx => own_block_ge OO.out x hx
       have l3 := LO3.out
       have K2 := Lib.hid (K2.out.grown hg (fun e => by have := (bt _ e.symm).1; omega))
       have F3 := Lib.hid (F3.out.grown hg (fun e => by have := (bt _ e.symm).1; omega))
       have K4 := Lib.hid (K4.out.grown hg (fun e => by have := (bt _ e.symm).1; omega))
       have K6 := Lib.hid (K6.out.grown hg (fun e => own_typeH OO.out K6.out (by decide) e.symm))
       have Z := Lib.hid (Z.out.grown hg Z.out.size (fun q hq => by have := (bt _ hq).1; omega))
       have OD := Lib.hid (app_keepH OD.out hg DO.out)
       have DO := Lib.hid (app_apartH OD0.out hp DO.out)
       have OD0 := OD
       have LO := Lib.hid (Nat.le_trans LO.out hg.size)
       have HRD := Lib.hid (Rd.below HR.out.t Z.out)
       have HRD : Hid (Rd 5 Rq.cells w10 (some ⟨gT, oT, none⟩) (T.drop (i + 1))) := fun j hj => by simp at hj; omega
       have OO : Hid (w10.ownsRow lo 37 5 vw10 i ((T.take i).flatMap Rq.cells)) := by simpa [Hid] using ho
       refine hK.out _ _ K2.out (fun _ => ?_)
       clear hK KK
       (try simp only [Act.put, pu1, pu2, pu3])
       clear ho hg hp hb bt l3 hrd
       refine wpAnyH_ready (rs := [11]) (by kernel_rfl) (by simp) ?_
       refine AllReadyH.cons rfl (fun KK hK => ?_) AllReadyH.nil
       refine step_app (k := 5) (f := Rq.cells) (fun _ => rfl) (by rfl) _ _ 23 (by rfl) lo 37 I (.agg #[.int .i64 0, .int .i64 0, .int .i64 0, .int .i64 0, .int .i64 0]) 40 Try.underlying23 I1.out I2.out I3.out I4.out (by rfl) (by omega) _ i ((T.take i).flatMap Rq.cells) (by rfl) OO.out _ _ _ (T.drop (i + 1)) HLNw11.out (by rfl) HRD.out (fun h => by cases h) (reqs_oneH _) (by unfold maxLen; omega) (by omega) LO.out ?_
       intro vw11 w11 ho hg hp
       have bt := fun x hx => own_block_ge OO.out x hx
       have l3 := LO3.out
       have K2 := Lib.hid (K2.out.grown hg (fun e => by have := (bt _ e.symm).1; omega))
       have F3 := Lib.hid (F3.out.grown hg (fun e => by have := (bt _ e.symm).1; omega))
       have K4 := Lib.hid (K4.out.grown hg (fun e => by have := (bt _ e.symm).1; omega))
       have K6 := Lib.hid (K6.out.grown hg (fun e => own_typeH OO.out K6.out (by decide) e.symm))
       have Z := Lib.hid (Z.out.grown hg Z.out.size (fun q hq => by have := (bt _ hq).1; omega))
       have OD := Lib.hid (app_keepH OD.out hg DO.out)
       have DO := Lib.hid (app_apartH OD0.out hp DO.out)
       rw [HER.out, HEL.out] at ho
       obtain ⟨T5, hT5⟩ : ∃ X, X = T.eraseIdx i := ⟨_, rfl⟩
       obtain ⟨B6, b6, rfl⟩ := own_formH ho
       rw [← hT5] at ho DO
       try rw [HEL.out]
       rw [← hT5]
       have HT5 := Lib.hid hT5
       refine hK.out _ _ K2.out (fun _ => ?_)
       clear hK KK
       (try simp only [Act.put, pu1, pu2, pu3])
       have OA : Hid (OwA w11 (w.heap.size + 3) A5 a5 B6 b6 D5 T5) := ⟨OD.out, own_base ho (by have := LO3.out; omega), apart_symmH DO.out⟩
       have xf := K6.out.frozen
       have n26 : w.heap.size ≠ p6 := by omega
       clear ho hg hp bt l3 OO OD OD0 DO HRT HRD HER HEL hT5 LO LO3 HLNw10 HLNw11
       refine wpAnyH_ready (rs := [12]) (by kernel_rfl) (by simp) ?_
       refine AllReadyH.cons rfl (fun KK hK => ?_) AllReadyH.nil
       go_simp
       refine hK.out _ _ K2.out (fun _ => ?_)
       clear hK KK
       (try simp only [Act.put, pu1, pu2, pu3])
       refine wpAnyH_ready (rs := [13]) (by kernel_rfl) (by simp) ?_
       refine AllReadyH.cons rfl (fun KK hK => ?_) AllReadyH.nil
       obtain ⟨x0, x1, x2⟩ := K6.out.cells
       go_simp
       refine hK.out _ _ (K2.out.far n26 (j := 1) _) (fun _ => ?_)
       clear hK KK
       (try simp only [Act.put, pu1, pu2, pu3])
       refine wpAnyH_done (by kernel_rfl) ?_ _
       clear x0 x1 x2 xf n26
       have K2 := Lib.hid (K2.out.far (show w.heap.size ≠ p6 by omega) (j := 1) (.slice B6 T5.length b6))
       have F3 := Lib.hid (F3.out.farH (show w.heap.size + 1 ≠ p6 by omega) (j := 1) (.slice B6 T5.length b6))
       have K4 := Lib.hid (K4.out.far (show w.heap.size + 1 + 1 ≠ p6 by omega) (j := 1) (.slice B6 T5.length b6))
       have OA := Lib.hid (OA.out.box K6.out 1 (.slice B6 T5.length b6))
       have K6 := Lib.hid (K6.out.set1 (.slice B6 T5.length b6))
       have Z := Lib.hid (Z.out.setCell (p := ⟨p6, 1, none⟩) (by simp; omega) (.slice B6 T5.length b6))
       obtain ⟨w12, hw12⟩ : ∃ X, X = (w11.setCell ⟨p6, 1, none⟩ (.slice B6 T5.length b6)) := ⟨_, rfl⟩
       rw [← hw12] at K2 F3 K4 OA K6 Z ⊢
       clear hw12
       by_cases hz : i = 0
       · subst hz
         have HX := Lib.hid (show keepA D T k ⟨rc, rn, ro, rx, ry⟩ = ((D5, T5, k), true) by
          unfold keepA
          rw [if_pos HOK.out, if_pos HGO.out, ← HM.out, HD5.out]
          simp only [delT, bumpK]
          rw [if_neg (by simp), HT5.out])
         obtain ⟨p0, p1, p2⟩ := K2.out.cells
         obtain ⟨y0, y1, y2, y3, y4⟩ := F3.out.cells
         obtain ⟨x0, x1, x2⟩ := K6.out.cells
         obtain ⟨z0, z1, z2⟩ := K4.out.cells
         have zf := K4.out.frozen
         have lz := K4.out.lt
         have BG := Lib.hid (((Z.out.setCell (p := ⟨w.heap.size + 1 + 1, 0, none⟩) (by simp; omega) (.slice A5 D5.length a5)).setCell (p := ⟨w.heap.size + 1 + 1, 1, none⟩) (by simp; omega) (.slice B6 T5.length b6)).setCell (p := ⟨w.heap.size + 1 + 1, 2, none⟩) (by simp; omega) (.int .i64 k))
         have OG := Lib.hid ((((OA.out.put (q := w.heap.size + 1 + 1) (by omega) 0 (.slice A5 D5.length a5)).put (q := w.heap.size + 1 + 1) (by omega) 1 (.slice B6 T5.length b6)).put (q := w.heap.size + 1 + 1) (by omega) 2 (.int .i64 k)).base (show w.heap.size ≤ w.heap.size + 3 by omega))
         clear K4 Z
         go_wp2
         refine bodyPost_ret (v := .tuple #[aheadV A5 D5.length a5 B6 T5.length b6 k, .bool true]) (by simp [results, Try.results24, go_sem, z0, z1, z2]) rfl ?_
         rw [HX.out]
         exact ⟨A5, a5, B6, b6, rfl, OG.out, BG.out⟩
       · have ez : ((i : Int) != 0) = true := by simp; omega
         have e0 : decide ((0 : Int) < (T.length : Int)) = true := decide_eq_true (by have := HI.out; omega)
         have HB := Lib.hid (show 0 < T.length ∧ (some i : Option Nat) ≠ some 0 from ⟨by have := HI.out; omega, by simpa using hz⟩)
         clear hz
         by_cases h9 : k < 99
         · have e9 : decide (k < 99) = true := decide_eq_true h9
           have ek : IntKind.i64.wrap (k + 1) = k + 1 := IntWalk.i64_in _ (by have := HK.out; omega)
           have H9 := Lib.hid h9
           have xf := K6.out.frozen
           obtain ⟨p0, p1, p2⟩ := K2.out.cells
           obtain ⟨y0, y1, y2, y3, y4⟩ := F3.out.cells
           obtain ⟨x0, x1, x2⟩ := K6.out.cells
           have l6 := K6.out.lt
           clear h9
           go_upto_region 12 with (fail)
           clear p0 p1 p2 y0 y1 y2 y3 y4 x0 x1 x2
           clear xf l6 ek e0 e9 ez
           have K2 := Lib.hid (K2.out.far (show w.heap.size ≠ p6 by omega) (j := 2) (.int .i64 (k + 1)))
           have F3 := Lib.hid (F3.out.farH (show w.heap.size + 1 ≠ p6 by omega) (j := 2) (.int .i64 (k + 1)))
           have K4 := Lib.hid (K4.out.far (show w.heap.size + 1 + 1 ≠ p6 by omega) (j := 2) (.int .i64 (k + 1)))
           have OA := Lib.hid (OA.out.box K6.out 2 (.int .i64 (k + 1)))
           have K6 := Lib.hid (K6.out.set2 (.int .i64 (k + 1)))
           have Z := Lib.hid (Z.out.setCell (p := ⟨p6, 2, none⟩) (by simp; omega) (.int .i64 (k + 1)))
           obtain ⟨w13, hw13⟩ : ∃ X, X = (w12.setCell ⟨p6, 2, none⟩ (.int .i64 (k + 1))) := ⟨_, rfl⟩
           rw [← hw13] at K2 F3 K4 OA K6 Z ⊢
           clear hw13
           have HX := Lib.hid (show keepA D T k ⟨rc, rn, ro, rx, ry⟩ = ((D5, T5, k + 1), true) by
            unfold keepA
            rw [if_pos HOK.out, if_pos HGO.out, ← HM.out, HD5.out]
            simp only [delT, bumpK]
            rw [if_pos HB.out, if_pos H9.out, HT5.out])
           obtain ⟨p0, p1, p2⟩ := K2.out.cells
           obtain ⟨y0, y1, y2, y3, y4⟩ := F3.out.cells
           obtain ⟨x0, x1, x2⟩ := K6.out.cells
           obtain ⟨z0, z1, z2⟩ := K4.out.cells
           have zf := K4.out.frozen
           have lz := K4.out.lt
           have BG := Lib.hid (((Z.out.setCell (p := ⟨w.heap.size + 1 + 1, 0, none⟩) (by simp; omega) (.slice A5 D5.length a5)).setCell (p := ⟨w.heap.size + 1 + 1, 1, none⟩) (by simp; omega) (.slice B6 T5.length b6)).setCell (p := ⟨w.heap.size + 1 + 1, 2, none⟩) (by simp; omega) (.int .i64 (k + 1)))
           have OG := Lib.hid ((((OA.out.put (q := w.heap.size + 1 + 1) (by omega) 0 (.slice A5 D5.length a5)).put (q := w.heap.size + 1 + 1) (by omega) 1 (.slice B6 T5.length b6)).put (q := w.heap.size + 1 + 1) (by omega) 2 (.int .i64 (k + 1))).base (show w.heap.size ≤ w.heap.size + 3 by omega))
           clear K4 Z
           go_wp2
           refine bodyPost_ret (v := .tuple #[aheadV A5 D5.length a5 B6 T5.length b6 (k + 1), .bool true]) (by simp [results, Try.results24, go_sem, z0, z1, z2]) rfl ?_
           rw [HX.out]
           exact ⟨A5, a5, B6, b6, rfl, OG.out, BG.out⟩
         · have e9 : decide (k < 99) = false := decide_eq_false h9
           have H9 := Lib.hid h9
           clear h9
           have HX := Lib.hid (show keepA D T k ⟨rc, rn, ro, rx, ry⟩ = ((D5, T5, k), true) by
            unfold keepA
            rw [if_pos HOK.out, if_pos HGO.out, ← HM.out, HD5.out]
            simp only [delT, bumpK]
            rw [if_pos HB.out, if_neg H9.out, HT5.out])
           obtain ⟨p0, p1, p2⟩ := K2.out.cells
           obtain ⟨y0, y1, y2, y3, y4⟩ := F3.out.cells
           obtain ⟨x0, x1, x2⟩ := K6.out.cells
           obtain ⟨z0, z1, z2⟩ := K4.out.cells
           have zf := K4.out.frozen
           have lz := K4.out.lt
           have BG := Lib.hid (((Z.out.setCell (p := ⟨w.heap.size + 1 + 1, 0, none⟩) (by simp; omega) (.slice A5 D5.length a5)).setCell (p := ⟨w.heap.size + 1 + 1, 1, none⟩) (by simp; omega) (.slice B6 T5.length b6)).setCell (p := ⟨w.heap.size + 1 + 1, 2, none⟩) (by simp; omega) (.int .i64 k))
           have OG := Lib.hid ((((OA.out.put (q := w.heap.size + 1 + 1) (by omega) 0 (.slice A5 D5.length a5)).put (q := w.heap.size + 1 + 1) (by omega) 1 (.slice B6 T5.length b6)).put (q := w.heap.size + 1 + 1) (by omega) 2 (.int .i64 k)).base (show w.heap.size ≤ w.heap.size + 3 by omega))
           clear K4 Z
           go_wp2
           refine bodyPost_ret (v := .tuple #[aheadV A5 D5.length a5 B6 T5.length b6 k, .bool true]) (by simp [results, Try.results24, go_sem, z0, z1, z2]) rfl ?_
           rw [HX.out]
           exact ⟨A5, a5, B6, b6, rfl, OG.out, BG.out⟩
     · skip
       have hl60 := HL.out
       have hib := HI.out
       have hTb := HC.out
       have j1 : (i : Int) ≤ ((b : Nat) : Int) := by omega
       have j2 : (i : Int) + 1 ≤ (T.length : Int) := by omega
       have j3 : (0 : Int) ≤ (i : Int) + 1 := by omega
       have j4 : IntKind.i64.wrap ((i : Int) + 1) = (i : Int) + 1 := IntWalk.i64_in _ (by omega)
       have j5 : ((i : Int) + 1).toNat = i + 1 := by omega
       have HRT : Hid (Rd 5 Rq.cells w8 (some ⟨gT, oT, none⟩) (T.take i)) := Rd.takeR (Rd.below HR.out.t Z.out) i
       have HRD : Hid (Rd 5 Rq.cells w8 (some ⟨gT, oT + (i + 1) * 5, none⟩) (T.drop (i + 1))) := Rd.dropR (Rd.below HR.out.t Z.out) (i + 1)
       have HLNw10 := Lib.hid (show (T.take i).length = i by rw [List.length_take]; omega)
       have HLNw11 := Lib.hid (show (T.drop (i + 1)).length = T.length - (i + 1) by rw [List.length_drop])
       have HER := Lib.hid (show (T.take i).flatMap Rq.cells ++ (T.drop (i + 1)).flatMap Rq.cells = (T.eraseIdx i).flatMap Rq.cells by rw [← List.flatMap_append, ← List.eraseIdx_eq_take_drop_succ])
       have HEL := Lib.hid (show i + (T.length - (i + 1)) = (T.eraseIdx i).length by rw [List.length_eraseIdx, if_pos hib]; omega)
       obtain ⟨p0, p1, p2⟩ := K2.out.cells
       obtain ⟨y0, y1, y2, y3, y4⟩ := F3.out.cells
       obtain ⟨x0, x1, x2⟩ := K6.out.cells
       go_upto_region 9 with (fail)
       clear p0 p1 p2 y0 y1 y2 y3 y4 x0 x1 x2
       refine wp_region_held_drew (S := fun WS => Three WS w.heap.size 25 (.slice A D.length a) (.slice (some ⟨gT, oT, none⟩) T.length b) (.int .i64 k)) (by kernel_rfl) K2.out.drew (fun hS0 => ?_)
       refine tkI 1 49 (v := ?_) rfl rfl ?_ ?_
       rotate_left
       · intro wS hSw; obtain ⟨p0, p1, p2⟩ := Three.cells hSw; go_simp; (try with_reducible rfl)
       (try simp only [Act.put, pu1, pu2, pu3])
       refine tkI 2 50 (v := ?_) rfl rfl ?_ ?_
       rotate_left
       · intro wS hSw; obtain ⟨p0, p1, p2⟩ := Three.cells hSw; go_simp; (try with_reducible rfl)
       (try simp only [Act.put, pu1, pu2, pu3])
       refine tkI 3 51 (v := ?_) rfl rfl ?_ ?_
       rotate_left
       · intro wS hSw; obtain ⟨p0, p1, p2⟩ := Three.cells hSw; go_simp; (try with_reducible rfl)
       (try simp only [Act.put, pu1, pu2, pu3])
       refine tkI 4 52 (v := ?_) rfl rfl ?_ ?_
       rotate_left
       · intro wS hSw; obtain ⟨p0, p1, p2⟩ := Three.cells hSw; go_simp; (try with_reducible rfl)
       (try simp only [Act.put, pu1, pu2, pu3])
       refine tkI 6 54 (v := ?_) rfl rfl ?_ ?_
       rotate_left
       · intro wS hSw; obtain ⟨p0, p1, p2⟩ := Three.cells hSw; go_simp; (try with_reducible rfl)
       (try simp only [Act.put, pu1, pu2, pu3])
       refine tkI 7 55 (v := ?_) rfl rfl ?_ ?_
       rotate_left
       · intro wS hSw; obtain ⟨p0, p1, p2⟩ := Three.cells hSw; go_simp; (try with_reducible rfl)
       (try simp only [Act.put, pu1, pu2, pu3])
       refine tkI 8 56 (v := ?_) rfl rfl ?_ ?_
       rotate_left
       · intro wS hSw; obtain ⟨p0, p1, p2⟩ := Three.cells hSw; go_simp; (try with_reducible rfl)
       (try simp only [Act.put, pu1, pu2, pu3])
       refine tkI 9 57 (v := ?_) rfl rfl ?_ ?_
       rotate_left
       · intro wS hSw; obtain ⟨p0, p1, p2⟩ := Three.cells hSw; go_simp; (try with_reducible rfl)
       (try simp only [Act.put, pu1, pu2, pu3])
       refine tkI 10 58 (v := ?_) rfl rfl ?_ ?_
       rotate_left
       · intro wS hSw; obtain ⟨p0, p1, p2⟩ := Three.cells hSw; go_simp; (try with_reducible rfl)
       (try simp only [Act.put, pu1, pu2, pu3])
       clear hS0
       refine wpAnyH_ready (rs := [0]) (by kernel_rfl) (by simp) ?_
       refine AllReadyH.cons rfl (fun KK hK => ?_) AllReadyH.nil
       go_simp
       refine hK.out _ _ (show Three (w8.alloc (.cells #[] 37)).drew _ _ _ _ _ from (K2.out.alloc (.cells #[] 37)).drew) (fun _ => ?_)
       clear hK KK
       (try simp only [Act.put, pu1, pu2, pu3])
       have hba : Below w8.heap.size w8 (w8.alloc (.cells #[] 37)).drew := ((Below.refl w8.heap.size w8).alloc (Nat.le_refl _) (.cells #[] 37)).drew
       have LO3 := Lib.hid (show w.heap.size + 3 ≤ w8.heap.size by have := K6.out.lt; omega)
       have OD0 := Lib.hid OA.out.d
       have DO : Hid (∀ x, (Value.slice (some ⟨w8.heap.size, 0, none⟩) 0 0).ownBlock = some x → (Value.slice A5 D5.length a5).ownBlock ≠ some x) := new_apartH OA.out.d
       have K2 := Lib.hid (Three.below K2.out hba K2.out.lt)
       have F3 := Lib.hid (F3.out.grown (Below.grownBy hba none) (by simp))
       have K4 := Lib.hid (Three.below K4.out hba K4.out.lt)
       have Z := Lib.hid (Below.and Z.out hba)
       have K6 := Lib.hid (Three.below K6.out hba K6.out.lt)
       have OA := Lib.hid (OA.out.below hba)
       have HRT := Lib.hid (Rd.below HRT.out hba)
       have HRD := Lib.hid (Rd.below HRD.out hba)
       have OD0 := Lib.hid (own_below OD0.out hba)
       have OD := OD0
       have OO : Hid ((w8.alloc (.cells #[] 37)).drew.ownsRow w8.heap.size 37 5 (.slice (some ⟨w8.heap.size, 0, none⟩) 0 0) 0 []) := own_nil_newH w8 37 5 rfl
       have LO : Hid (w8.heap.size ≤ (w8.alloc (.cells #[] 37)).drew.heap.size) := hba.size
       obtain ⟨lo, hlo⟩ : ∃ X, X = w8.heap.size := ⟨_, rfl⟩
       obtain ⟨w9, hw9⟩ : ∃ X, X = (w8.alloc (.cells #[] 37)).drew := ⟨_, rfl⟩
       rw [← hw9] at K2 F3 K4 K6 Z OA OO LO HRT HRD OD OD0 ⊢
       rw [← hlo] at OO LO LO3 DO ⊢
       clear hba hw9 hlo
       refine wpAnyH_ready (rs := [5]) (by kernel_rfl) (by simp) ?_
       refine AllReadyH.cons rfl (fun KK hK => ?_) AllReadyH.nil
       refine step_app (k := 5) (f := Rq.cells) (fun _ => rfl) (by rfl) _ _ 23 (by rfl) lo 37 I (.agg #[.int .i64 0, .int .i64 0, .int .i64 0, .int .i64 0, .int .i64 0]) 40 Try.underlying23 I1.out I2.out I3.out I4.out (by rfl) (by omega) _ 0 [] (by rfl) OO.out _ _ _ (T.take i) HLNw10.out (by rfl) HRT.out (fun h => by cases h) (reqs_oneH _) (by unfold maxLen; omega) (by omega) LO.out ?_
       intro vw10 w10 ho hg hp
       have hb : Below lo w9 w10 := Below.of_grown hg LO.out (fun x hx => (own_block_ge OO.out x hx).1)
       have hrd := HRD.out
       have bt := fun x hx => own_block_ge OO.out x hx
       have l3 := LO3.out
       have K2 := Lib.hid (K2.out.grown hg (fun e => by have := (bt _ e.symm).1; omega))
       have F3 := Lib.hid (F3.out.grown hg (fun e => by have := (bt _ e.symm).1; omega))
       have K4 := Lib.hid (K4.out.grown hg (fun e => by have := (bt _ e.symm).1; omega))
       have K6 := Lib.hid (K6.out.grown hg (fun e => own_typeH OO.out K6.out (by decide) e.symm))
       have Z := Lib.hid (Z.out.grown hg Z.out.size (fun q hq => by have := (bt _ hq).1; omega))
       have OD := Lib.hid (app_keepH OD.out hg DO.out)
       have DO := Lib.hid (app_apartH OD0.out hp DO.out)
       have OD0 := OD
       have LO := Lib.hid (Nat.le_trans LO.out hg.size)
       have HRD := Lib.hid (Rd.below HR.out.t Z.out)
       have HRD : Hid (Rd 5 Rq.cells w10 (some ⟨gT, oT + (i + 1) * 5, none⟩) (T.drop (i + 1))) := Rd.dropR HRD.out (i + 1)
       have OO : Hid (w10.ownsRow lo 37 5 vw10 i ((T.take i).flatMap Rq.cells)) := by simpa [Hid] using ho
       refine hK.out _ _ K2.out (fun _ => ?_)
       clear hK KK
       (try simp only [Act.put, pu1, pu2, pu3])
       clear ho hg hp hb bt l3 hrd
       refine wpAnyH_ready (rs := [11]) (by kernel_rfl) (by simp) ?_
       refine AllReadyH.cons rfl (fun KK hK => ?_) AllReadyH.nil
       refine step_app (k := 5) (f := Rq.cells) (fun _ => rfl) (by rfl) _ _ 23 (by rfl) lo 37 I (.agg #[.int .i64 0, .int .i64 0, .int .i64 0, .int .i64 0, .int .i64 0]) 40 Try.underlying23 I1.out I2.out I3.out I4.out (by rfl) (by omega) _ i ((T.take i).flatMap Rq.cells) (by rfl) OO.out _ _ _ (T.drop (i + 1)) HLNw11.out (by rfl) HRD.out (fun h => by cases h) (reqs_oneH _) (by unfold maxLen; omega) (by omega) LO.out ?_
       intro vw11 w11 ho hg hp
       have bt := fun x hx => own_block_ge OO.out x hx
       have l3 := LO3.out
       have K2 := Lib.hid (K2.out.grown hg (fun e => by have := (bt _ e.symm).1; omega))
       have F3 := Lib.hid (F3.out.grown hg (fun e => by have := (bt _ e.symm).1; omega))
       have K4 := Lib.hid (K4.out.grown hg (fun e => by have := (bt _ e.symm).1; omega))
       have K6 := Lib.hid (K6.out.grown hg (fun e => own_typeH OO.out K6.out (by decide) e.symm))
       have Z := Lib.hid (Z.out.grown hg Z.out.size (fun q hq => by have := (bt _ hq).1; omega))
       have OD := Lib.hid (app_keepH OD.out hg DO.out)
       have DO := Lib.hid (app_apartH OD0.out hp DO.out)
       rw [HER.out, HEL.out] at ho
       obtain ⟨T5, hT5⟩ : ∃ X, X = T.eraseIdx i := ⟨_, rfl⟩
       obtain ⟨B6, b6, rfl⟩ := own_formH ho
       rw [← hT5] at ho DO
       try rw [HEL.out]
       rw [← hT5]
       have HT5 := Lib.hid hT5
       refine hK.out _ _ K2.out (fun _ => ?_)
       clear hK KK
       (try simp only [Act.put, pu1, pu2, pu3])
       have OA : Hid (OwA w11 (w.heap.size + 3) A5 a5 B6 b6 D5 T5) := ⟨OD.out, own_base ho (by have := LO3.out; omega), apart_symmH DO.out⟩
       have xf := K6.out.frozen
       have n26 : w.heap.size ≠ p6 := by omega
       clear ho hg hp bt l3 OO OD OD0 DO HRT HRD HER HEL hT5 LO LO3 HLNw10 HLNw11
       refine wpAnyH_ready (rs := [12]) (by kernel_rfl) (by simp) ?_
       refine AllReadyH.cons rfl (fun KK hK => ?_) AllReadyH.nil
       go_simp
       refine hK.out _ _ K2.out (fun _ => ?_)
       clear hK KK
       (try simp only [Act.put, pu1, pu2, pu3])
       refine wpAnyH_ready (rs := [13]) (by kernel_rfl) (by simp) ?_
       refine AllReadyH.cons rfl (fun KK hK => ?_) AllReadyH.nil
       obtain ⟨x0, x1, x2⟩ := K6.out.cells
       go_simp
       refine hK.out _ _ (K2.out.far n26 (j := 1) _) (fun _ => ?_)
       clear hK KK
       (try simp only [Act.put, pu1, pu2, pu3])
       refine wpAnyH_done (by kernel_rfl) ?_ _
       clear x0 x1 x2 xf n26
       have K2 := Lib.hid (K2.out.far (show w.heap.size ≠ p6 by omega) (j := 1) (.slice B6 T5.length b6))
       have F3 := Lib.hid (F3.out.farH (show w.heap.size + 1 ≠ p6 by omega) (j := 1) (.slice B6 T5.length b6))
       have K4 := Lib.hid (K4.out.far (show w.heap.size + 1 + 1 ≠ p6 by omega) (j := 1) (.slice B6 T5.length b6))
       have OA := Lib.hid (OA.out.box K6.out 1 (.slice B6 T5.length b6))
       have K6 := Lib.hid (K6.out.set1 (.slice B6 T5.length b6))
       have Z := Lib.hid (Z.out.setCell (p := ⟨p6, 1, none⟩) (by simp; omega) (.slice B6 T5.length b6))
       obtain ⟨w12, hw12⟩ : ∃ X, X = (w11.setCell ⟨p6, 1, none⟩ (.slice B6 T5.length b6)) := ⟨_, rfl⟩
       rw [← hw12] at K2 F3 K4 OA K6 Z ⊢
       clear hw12
       by_cases hz : i = 0
       · subst hz
         have HX := Lib.hid (show keepA D T k ⟨rc, rn, ro, rx, ry⟩ = ((D5, T5, k), true) by
          unfold keepA
          rw [if_pos HOK.out, if_pos HGO.out, ← HM.out, HD5.out]
          simp only [delT, bumpK]
          rw [if_neg (by simp), HT5.out])
         obtain ⟨p0, p1, p2⟩ := K2.out.cells
         obtain ⟨y0, y1, y2, y3, y4⟩ := F3.out.cells
         obtain ⟨x0, x1, x2⟩ := K6.out.cells
         obtain ⟨z0, z1, z2⟩ := K4.out.cells
         have zf := K4.out.frozen
         have lz := K4.out.lt
         have BG := Lib.hid (((Z.out.setCell (p := ⟨w.heap.size + 1 + 1, 0, none⟩) (by simp; omega) (.slice A5 D5.length a5)).setCell (p := ⟨w.heap.size + 1 + 1, 1, none⟩) (by simp; omega) (.slice B6 T5.length b6)).setCell (p := ⟨w.heap.size + 1 + 1, 2, none⟩) (by simp; omega) (.int .i64 k))
         have OG := Lib.hid ((((OA.out.put (q := w.heap.size + 1 + 1) (by omega) 0 (.slice A5 D5.length a5)).put (q := w.heap.size + 1 + 1) (by omega) 1 (.slice B6 T5.length b6)).put (q := w.heap.size + 1 + 1) (by omega) 2 (.int .i64 k)).base (show w.heap.size ≤ w.heap.size + 3 by omega))
         clear K4 Z
         go_wp2
         refine bodyPost_ret (v := .tuple #[aheadV A5 D5.length a5 B6 T5.length b6 k, .bool true]) (by simp [results, Try.results24, go_sem, z0, z1, z2]) rfl ?_
         rw [HX.out]
         exact ⟨A5, a5, B6, b6, rfl, OG.out, BG.out⟩
       · have ez : ((i : Int) != 0) = true := by simp; omega
         have e0 : decide ((0 : Int) < (T.length : Int)) = true := decide_eq_true (by have := HI.out; omega)
         have HB := Lib.hid (show 0 < T.length ∧ (some i : Option Nat) ≠ some 0 from ⟨by have := HI.out; omega, by simpa using hz⟩)
         clear hz
         by_cases h9 : k < 99
         · have e9 : decide (k < 99) = true := decide_eq_true h9
           have ek : IntKind.i64.wrap (k + 1) = k + 1 := IntWalk.i64_in _ (by have := HK.out; omega)
           have H9 := Lib.hid h9
           have xf := K6.out.frozen
           obtain ⟨p0, p1, p2⟩ := K2.out.cells
           obtain ⟨y0, y1, y2, y3, y4⟩ := F3.out.cells
           obtain ⟨x0, x1, x2⟩ := K6.out.cells
           have l6 := K6.out.lt
           clear h9
           go_upto_region 12 with (fail)
           clear p0 p1 p2 y0 y1 y2 y3 y4 x0 x1 x2
           clear xf l6 ek e0 e9 ez
           have K2 := Lib.hid (K2.out.far (show w.heap.size ≠ p6 by omega) (j := 2) (.int .i64 (k + 1)))
           have F3 := Lib.hid (F3.out.farH (show w.heap.size + 1 ≠ p6 by omega) (j := 2) (.int .i64 (k + 1)))
           have K4 := Lib.hid (K4.out.far (show w.heap.size + 1 + 1 ≠ p6 by omega) (j := 2) (.int .i64 (k + 1)))
           have OA := Lib.hid (OA.out.box K6.out 2 (.int .i64 (k + 1)))
           have K6 := Lib.hid (K6.out.set2 (.int .i64 (k + 1)))
           have Z := Lib.hid (Z.out.setCell (p := ⟨p6, 2, none⟩) (by simp; omega) (.int .i64 (k + 1)))
           obtain ⟨w13, hw13⟩ : ∃ X, X = (w12.setCell ⟨p6, 2, none⟩ (.int .i64 (k + 1))) := ⟨_, rfl⟩
           rw [← hw13] at K2 F3 K4 OA K6 Z ⊢
           clear hw13
           have HX := Lib.hid (show keepA D T k ⟨rc, rn, ro, rx, ry⟩ = ((D5, T5, k + 1), true) by
            unfold keepA
            rw [if_pos HOK.out, if_pos HGO.out, ← HM.out, HD5.out]
            simp only [delT, bumpK]
            rw [if_pos HB.out, if_pos H9.out, HT5.out])
           obtain ⟨p0, p1, p2⟩ := K2.out.cells
           obtain ⟨y0, y1, y2, y3, y4⟩ := F3.out.cells
           obtain ⟨x0, x1, x2⟩ := K6.out.cells
           obtain ⟨z0, z1, z2⟩ := K4.out.cells
           have zf := K4.out.frozen
           have lz := K4.out.lt
           have BG := Lib.hid (((Z.out.setCell (p := ⟨w.heap.size + 1 + 1, 0, none⟩) (by simp; omega) (.slice A5 D5.length a5)).setCell (p := ⟨w.heap.size + 1 + 1, 1, none⟩) (by simp; omega) (.slice B6 T5.length b6)).setCell (p := ⟨w.heap.size + 1 + 1, 2, none⟩) (by simp; omega) (.int .i64 (k + 1)))
           have OG := Lib.hid ((((OA.out.put (q := w.heap.size + 1 + 1) (by omega) 0 (.slice A5 D5.length a5)).put (q := w.heap.size + 1 + 1) (by omega) 1 (.slice B6 T5.length b6)).put (q := w.heap.size + 1 + 1) (by omega) 2 (.int .i64 (k + 1))).base (show w.heap.size ≤ w.heap.size + 3 by omega))
           clear K4 Z
           go_wp2
           refine bodyPost_ret (v := .tuple #[aheadV A5 D5.length a5 B6 T5.length b6 (k + 1), .bool true]) (by simp [results, Try.results24, go_sem, z0, z1, z2]) rfl ?_
           rw [HX.out]
           exact ⟨A5, a5, B6, b6, rfl, OG.out, BG.out⟩
         · have e9 : decide (k < 99) = false := decide_eq_false h9
           have H9 := Lib.hid h9
           clear h9
           have HX := Lib.hid (show keepA D T k ⟨rc, rn, ro, rx, ry⟩ = ((D5, T5, k), true) by
            unfold keepA
            rw [if_pos HOK.out, if_pos HGO.out, ← HM.out, HD5.out]
            simp only [delT, bumpK]
            rw [if_pos HB.out, if_neg H9.out, HT5.out])
           obtain ⟨p0, p1, p2⟩ := K2.out.cells
           obtain ⟨y0, y1, y2, y3, y4⟩ := F3.out.cells
           obtain ⟨x0, x1, x2⟩ := K6.out.cells
           obtain ⟨z0, z1, z2⟩ := K4.out.cells
           have zf := K4.out.frozen
           have lz := K4.out.lt
           have BG := Lib.hid (((Z.out.setCell (p := ⟨w.heap.size + 1 + 1, 0, none⟩) (by simp; omega) (.slice A5 D5.length a5)).setCell (p := ⟨w.heap.size + 1 + 1, 1, none⟩) (by simp; omega) (.slice B6 T5.length b6)).setCell (p := ⟨w.heap.size + 1 + 1, 2, none⟩) (by simp; omega) (.int .i64 k))
           have OG := Lib.hid ((((OA.out.put (q := w.heap.size + 1 + 1) (by omega) 0 (.slice A5 D5.length a5)).put (q := w.heap.size + 1 + 1) (by omega) 1 (.slice B6 T5.length b6)).put (q := w.heap.size + 1 + 1) (by omega) 2 (.int .i64 k)).base (show w.heap.size ≤ w.heap.size + 3 by omega))
           clear K4 Z
           go_wp2
           refine bodyPost_ret (v := .tuple #[aheadV A5 D5.length a5 B6 T5.length b6 k, .bool true]) (by simp [results, Try.results24, go_sem, z0, z1, z2]) rfl ?_
           rw [HX.out]
           exact ⟨A5, a5, B6, b6, rfl, OG.out, BG.out⟩
   · have HQ := Lib.hid (show okB ⟨rc, rn, ro, rx, ry⟩ = true by simp [okB, rqB, hq])
     clear hq
     have HGO : Hid (okB ⟨rc, rn, ro, rx, ry⟩ = true ∧ ¬ (atR ⟨rc, rn, ro, rx, ry⟩ T = none ∧ D.length + T.length = 60)) := ⟨HQ.out, fun e => by rw [← HM.out] at e; simp at e⟩
     obtain ⟨p0, p1, p2⟩ := K2.out.cells
     obtain ⟨y0, y1, y2, y3, y4⟩ := F3.out.cells
     obtain ⟨x0, x1, x2⟩ := K6.out.cells
     go_upto_region 7 with (fail)
     clear p0 p1 p2 y0 y1 y2 y3 y4 x0 x1 x2
     have hba : Below w4.heap.size w4 (w4.alloc (.cells #[.int .i64 rc, .int .i64 rn, .int .i64 ro, .int .i64 rx, .int .i64 ry] 37)) := (Below.refl _ _).alloc (Nat.le_refl _) _
     have OB := Lib.hid (OA.out.below hba)
     have HRd := Lib.hid (rq_oneH w4 37 ⟨rc, rn, ro, rx, ry⟩)
     have lo3 : w.heap.size + 3 ≤ w4.heap.size := by have := K6.out.lt; omega
     have hl60 := HL.out
     obtain ⟨p0, p1, p2⟩ := K2.out.cells
     obtain ⟨y0, y1, y2, y3, y4⟩ := F3.out.cells
     obtain ⟨x0, x1, x2⟩ := K6.out.cells
     have l6 := K6.out.lt
     have l3 := F3.out.lt
     go_wp2_with (at_builtin; go_loud (refine list_app (f := Rq.cells) (fun _ => rfl) rfl _ _ 23 rfl (w.heap.size + 3) 37 I (.agg #[.int .i64 0, .int .i64 0, .int .i64 0, .int .i64 0, .int .i64 0]) 40 Try.underlying23 I1.out I2.out I3.out I4.out rfl (by decide) _ D.length (D.flatMap Rq.cells) rfl OB.out.d _ _ 1 [⟨rc, rn, ro, rx, ry⟩] rfl rfl HRd.out (fun h => by cases h) (reqs_oneH _) (by unfold maxLen; omega) (by omega) (by simp; omega) ?_))
     intro vw8 w8a ho hg hp
     clear p0 p1 p2 y0 y1 y2 y3 y4 x0 x1 x2
     have K2 := Lib.hid (Three.below K2.out hba K2.out.lt)
     have F3 := Lib.hid (F3.out.grown (Below.grownBy hba none) (by simp))
     have K4 := Lib.hid (Three.below K4.out hba K4.out.lt)
     have Z := Lib.hid (Below.and Z.out hba)
     have K6 := Lib.hid (Three.below K6.out hba K6.out.lt)
     have bt := fun x hx => own_block_ge OB.out.d x hx
     have K2 := Lib.hid (K2.out.grown hg (fun e => by have := (bt _ e.symm).1; omega))
     have F3 := Lib.hid (F3.out.grown hg (fun e => by have := (bt _ e.symm).1; omega))
     have K4 := Lib.hid (K4.out.grown hg (fun e => by have := (bt _ e.symm).1; omega))
     have K6 := Lib.hid (K6.out.grown hg (fun e => own_typeH OB.out.d K6.out (by decide) e.symm))
     have Z := Lib.hid (Z.out.grown hg Z.out.size (fun q hq => by have := (bt _ hq).1; omega))
     obtain ⟨A5, a5, rfl, oa⟩ := OB.out.pushD ho hg (by simpa using hp)
     obtain ⟨D5, hD5⟩ : ∃ X, X = D ++ [(⟨rc, rn, ro, rx, ry⟩ : Rq)] := ⟨_, rfl⟩
     rw [← hD5] at oa ⊢
     have HD5 := Lib.hid hD5
     have OA := Lib.hid oa
     clear ho hg hp hba bt OB HRd lo3 l6 l3 oa hD5 hl60
     have xf := K6.out.frozen
     obtain ⟨p0, p1, p2⟩ := K2.out.cells
     obtain ⟨y0, y1, y2, y3, y4⟩ := F3.out.cells
     obtain ⟨x0, x1, x2⟩ := K6.out.cells
     go_upto_region 8 with (fail)
     clear p0 p1 p2 y0 y1 y2 y3 y4 x0 x1 x2
     clear xf
     have K2 := Lib.hid (K2.out.far (show w.heap.size ≠ p6 by omega) (j := 0) (.slice A5 D5.length a5))
     have F3 := Lib.hid (F3.out.farH (show w.heap.size + 1 ≠ p6 by omega) (j := 0) (.slice A5 D5.length a5))
     have K4 := Lib.hid (K4.out.far (show w.heap.size + 1 + 1 ≠ p6 by omega) (j := 0) (.slice A5 D5.length a5))
     have OA := Lib.hid (OA.out.box K6.out 0 (.slice A5 D5.length a5))
     have K6 := Lib.hid (K6.out.set0 (.slice A5 D5.length a5))
     have Z := Lib.hid (Z.out.setCell (p := ⟨p6, 0, none⟩) (by simp; omega) (.slice A5 D5.length a5))
     obtain ⟨w8, hw8⟩ : ∃ X, X = (w8a.setCell ⟨p6, 0, none⟩ (.slice A5 D5.length a5)) := ⟨_, rfl⟩
     rw [← hw8] at K2 F3 K4 OA K6 Z ⊢
     clear hw8
     by_cases hbi : b = i + 1
     · subst hbi
       have hl60 := HL.out
       have hib := HI.out
       have hTb := HC.out
       have j1 : (i : Int) ≤ (i : Int) + 1 := by omega
       have j2 : (i : Int) + 1 ≤ (T.length : Int) := by omega
       have j3 : (0 : Int) ≤ (i : Int) + 1 := by omega
       have j4 : IntKind.i64.wrap ((i : Int) + 1) = (i : Int) + 1 := IntWalk.i64_in _ (by omega)
       have j5 : ((i : Int) + 1).toNat = i + 1 := by omega
       have HRT : Hid (Rd 5 Rq.cells w8 (some ⟨gT, oT, none⟩) (T.take i)) := Rd.takeR (Rd.below HR.out.t Z.out) i
       have HRD : Hid (Rd 5 Rq.cells w8 (some ⟨gT, oT, none⟩) (T.drop (i + 1))) := fun j hj => by simp at hj; omega
       have HLNw10 := Lib.hid (show (T.take i).length = i by rw [List.length_take]; omega)
       have HLNw11 := Lib.hid (show (T.drop (i + 1)).length = 0 by rw [List.length_drop]; omega)
       have HER := Lib.hid (show (T.take i).flatMap Rq.cells ++ (T.drop (i + 1)).flatMap Rq.cells = (T.eraseIdx i).flatMap Rq.cells by rw [← List.flatMap_append, ← List.eraseIdx_eq_take_drop_succ])
       have HEL := Lib.hid (show i + 0 = (T.eraseIdx i).length by rw [List.length_eraseIdx, if_pos hib]; omega)
       obtain ⟨p0, p1, p2⟩ := K2.out.cells
       obtain ⟨y0, y1, y2, y3, y4⟩ := F3.out.cells
       obtain ⟨x0, x1, x2⟩ := K6.out.cells
       go_upto_region 9 with (fail)
       clear p0 p1 p2 y0 y1 y2 y3 y4 x0 x1 x2
       refine wp_region_held_drew (S := fun WS => Three WS w.heap.size 25 (.slice A D.length a) (.slice (some ⟨gT, oT, none⟩) T.length (i + 1)) (.int .i64 k)) (by kernel_rfl) K2.out.drew (fun hS0 => ?_)
       refine tkI 1 49 (v := ?_) rfl rfl ?_ ?_
       rotate_left
       · intro wS hSw; obtain ⟨p0, p1, p2⟩ := Three.cells hSw; go_simp; (try with_reducible rfl)
       (try simp only [Act.put, pu1, pu2, pu3])
       refine tkI 2 50 (v := ?_) rfl rfl ?_ ?_
       rotate_left
       · intro wS hSw; obtain ⟨p0, p1, p2⟩ := Three.cells hSw; go_simp; (try with_reducible rfl)
       (try simp only [Act.put, pu1, pu2, pu3])
       refine tkI 3 51 (v := ?_) rfl rfl ?_ ?_
       rotate_left
       · intro wS hSw; obtain ⟨p0, p1, p2⟩ := Three.cells hSw; go_simp; (try with_reducible rfl)
       (try simp only [Act.put, pu1, pu2, pu3])
       refine tkI 4 52 (v := ?_) rfl rfl ?_ ?_
       rotate_left
       · intro wS hSw; obtain ⟨p0, p1, p2⟩ := Three.cells hSw; go_simp; (try with_reducible rfl)
       (try simp only [Act.put, pu1, pu2, pu3])
       refine tkI 6 54 (v := ?_) rfl rfl ?_ ?_
       rotate_left
       · intro wS hSw; obtain ⟨p0, p1, p2⟩ := Three.cells hSw; go_simp; (try with_reducible rfl)
       (try simp only [Act.put, pu1, pu2, pu3])
       refine tkI 7 55 (v := ?_) rfl rfl ?_ ?_
       rotate_left
       · intro wS hSw; obtain ⟨p0, p1, p2⟩ := Three.cells hSw; go_simp; (try with_reducible rfl)
       (try simp only [Act.put, pu1, pu2, pu3])
       refine tkI 8 56 (v := ?_) rfl rfl ?_ ?_
       rotate_left
       · intro wS hSw; obtain ⟨p0, p1, p2⟩ := Three.cells hSw; go_simp; (try with_reducible rfl)
       (try simp only [Act.put, pu1, pu2, pu3])
       refine tkI 9 57 (v := ?_) rfl rfl ?_ ?_
       rotate_left
       · intro wS hSw; obtain ⟨p0, p1, p2⟩ := Three.cells hSw; go_simp; (try with_reducible rfl)
       (try simp only [Act.put, pu1, pu2, pu3])
       refine tkI 10 58 (v := ?_) rfl rfl ?_ ?_
       rotate_left
       · intro wS hSw; obtain ⟨p0, p1, p2⟩ := Three.cells hSw; go_simp; (try with_reducible rfl)
       (try simp only [Act.put, pu1, pu2, pu3])
       clear hS0
       refine wpAnyH_ready (rs := [0]) (by kernel_rfl) (by simp) ?_
       refine AllReadyH.cons rfl (fun KK hK => ?_) AllReadyH.nil
       go_simp
       refine hK.out _ _ (show Three (w8.alloc (.cells #[] 37)).drew _ _ _ _ _ from (K2.out.alloc (.cells #[] 37)).drew) (fun _ => ?_)
       clear hK KK
       (try simp only [Act.put, pu1, pu2, pu3])
       have hba : Below w8.heap.size w8 (w8.alloc (.cells #[] 37)).drew := ((Below.refl w8.heap.size w8).alloc (Nat.le_refl _) (.cells #[] 37)).drew
       have LO3 := Lib.hid (show w.heap.size + 3 ≤ w8.heap.size by have := K6.out.lt; omega)
       have OD0 := Lib.hid OA.out.d
       have DO : Hid (∀ x, (Value.slice (some ⟨w8.heap.size, 0, none⟩) 0 0).ownBlock = some x → (Value.slice A5 D5.length a5).ownBlock ≠ some x) := new_apartH OA.out.d
       have K2 := Lib.hid (Three.below K2.out hba K2.out.lt)
       have F3 := Lib.hid (F3.out.grown (Below.grownBy hba none) (by simp))
       have K4 := Lib.hid (Three.below K4.out hba K4.out.lt)
       have Z := Lib.hid (Below.and Z.out hba)
       have K6 := Lib.hid (Three.below K6.out hba K6.out.lt)
       have OA := Lib.hid (OA.out.below hba)
       have HRT := Lib.hid (Rd.below HRT.out hba)
       have HRD := Lib.hid (Rd.below HRD.out hba)
       have OD0 := Lib.hid (own_below OD0.out hba)
       have OD := OD0
       have OO : Hid ((w8.alloc (.cells #[] 37)).drew.ownsRow w8.heap.size 37 5 (.slice (some ⟨w8.heap.size, 0, none⟩) 0 0) 0 []) := own_nil_newH w8 37 5 rfl
       have LO : Hid (w8.heap.size ≤ (w8.alloc (.cells #[] 37)).drew.heap.size) := hba.size
       obtain ⟨lo, hlo⟩ : ∃ X, X = w8.heap.size := ⟨_, rfl⟩
       obtain ⟨w9, hw9⟩ : ∃ X, X = (w8.alloc (.cells #[] 37)).drew := ⟨_, rfl⟩
       rw [← hw9] at K2 F3 K4 K6 Z OA OO LO HRT HRD OD OD0 ⊢
       rw [← hlo] at OO LO LO3 DO ⊢
       clear hba hw9 hlo
       refine wpAnyH_ready (rs := [5]) (by kernel_rfl) (by simp) ?_
       refine AllReadyH.cons rfl (fun KK hK => ?_) AllReadyH.nil
       refine step_app (k := 5) (f := Rq.cells) (fun _ => rfl) (by rfl) _ _ 23 (by rfl) lo 37 I (.agg #[.int .i64 0, .int .i64 0, .int .i64 0, .int .i64 0, .int .i64 0]) 40 Try.underlying23 I1.out I2.out I3.out I4.out (by rfl) (by omega) _ 0 [] (by rfl) OO.out _ _ _ (T.take i) HLNw10.out (by rfl) HRT.out (fun h => by cases h) (reqs_oneH _) (by unfold maxLen; omega) (by omega) LO.out ?_
       intro vw10 w10 ho hg hp
       have hb : Below lo w9 w10 := Below.of_grown hg LO.out (fun x hx => (own_block_ge OO.out x hx).1)
       have hrd := HRD.out
       have bt := fun x hx => own_block_ge OO.out x hx
       have l3 := LO3.out
       have K2 := Lib.hid (K2.out.grown hg (fun e => by have := (bt _ e.symm).1; omega))
       have F3 := Lib.hid (F3.out.grown hg (fun e => by have := (bt _ e.symm).1; omega))
       have K4 := Lib.hid (K4.out.grown hg (fun e => by have := (bt _ e.symm).1; omega))
       have K6 := Lib.hid (K6.out.grown hg (fun e => own_typeH OO.out K6.out (by decide) e.symm))
       have Z := Lib.hid (Z.out.grown hg Z.out.size (fun q hq => by have := (bt _ hq).1; omega))
       have OD := Lib.hid (app_keepH OD.out hg DO.out)
       have DO := Lib.hid (app_apartH OD0.out hp DO.out)
       have OD0 := OD
       have LO := Lib.hid (Nat.le_trans LO.out hg.size)
       have HRD := Lib.hid (Rd.below HR.out.t Z.out)
       have HRD : Hid (Rd 5 Rq.cells w10 (some ⟨gT, oT, none⟩) (T.drop (i + 1))) := fun j hj => by simp at hj; omega
       have OO : Hid (w10.ownsRow lo 37 5 vw10 i ((T.take i).flatMap Rq.cells)) := by simpa [Hid] using ho
       refine hK.out _ _ K2.out (fun _ => ?_)
       clear hK KK
       (try simp only [Act.put, pu1, pu2, pu3])
       clear ho hg hp hb bt l3 hrd
       refine wpAnyH_ready (rs := [11]) (by kernel_rfl) (by simp) ?_
       refine AllReadyH.cons rfl (fun KK hK => ?_) AllReadyH.nil
       refine step_app (k := 5) (f := Rq.cells) (fun _ => rfl) (by rfl) _ _ 23 (by rfl) lo 37 I (.agg #[.int .i64 0, .int .i64 0, .int .i64 0, .int .i64 0, .int .i64 0]) 40 Try.underlying23 I1.out I2.out I3.out I4.out (by rfl) (by omega) _ i ((T.take i).flatMap Rq.cells) (by rfl) OO.out _ _ _ (T.drop (i + 1)) HLNw11.out (by rfl) HRD.out (fun h => by cases h) (reqs_oneH _) (by unfold maxLen; omega) (by omega) LO.out ?_
       intro vw11 w11 ho hg hp
       have bt := fun x hx => own_block_ge OO.out x hx
       have l3 := LO3.out
       have K2 := Lib.hid (K2.out.grown hg (fun e => by have := (bt _ e.symm).1; omega))
       have F3 := Lib.hid (F3.out.grown hg (fun e => by have := (bt _ e.symm).1; omega))
       have K4 := Lib.hid (K4.out.grown hg (fun e => by have := (bt _ e.symm).1; omega))
       have K6 := Lib.hid (K6.out.grown hg (fun e => own_typeH OO.out K6.out (by decide) e.symm))
       have Z := Lib.hid (Z.out.grown hg Z.out.size (fun q hq => by have := (bt _ hq).1; omega))
       have OD := Lib.hid (app_keepH OD.out hg DO.out)
       have DO := Lib.hid (app_apartH OD0.out hp DO.out)
       rw [HER.out, HEL.out] at ho
       obtain ⟨T5, hT5⟩ : ∃ X, X = T.eraseIdx i := ⟨_, rfl⟩
       obtain ⟨B6, b6, rfl⟩ := own_formH ho
       rw [← hT5] at ho DO
       try rw [HEL.out]
       rw [← hT5]
       have HT5 := Lib.hid hT5
       refine hK.out _ _ K2.out (fun _ => ?_)
       clear hK KK
       (try simp only [Act.put, pu1, pu2, pu3])
       have OA : Hid (OwA w11 (w.heap.size + 3) A5 a5 B6 b6 D5 T5) := ⟨OD.out, own_base ho (by have := LO3.out; omega), apart_symmH DO.out⟩
       have xf := K6.out.frozen
       have n26 : w.heap.size ≠ p6 := by omega
       clear ho hg hp bt l3 OO OD OD0 DO HRT HRD HER HEL hT5 LO LO3 HLNw10 HLNw11
       refine wpAnyH_ready (rs := [12]) (by kernel_rfl) (by simp) ?_
       refine AllReadyH.cons rfl (fun KK hK => ?_) AllReadyH.nil
       go_simp
       refine hK.out _ _ K2.out (fun _ => ?_)
       clear hK KK
       (try simp only [Act.put, pu1, pu2, pu3])
       refine wpAnyH_ready (rs := [13]) (by kernel_rfl) (by simp) ?_
       refine AllReadyH.cons rfl (fun KK hK => ?_) AllReadyH.nil
       obtain ⟨x0, x1, x2⟩ := K6.out.cells
       go_simp
       refine hK.out _ _ (K2.out.far n26 (j := 1) _) (fun _ => ?_)
       clear hK KK
       (try simp only [Act.put, pu1, pu2, pu3])
       refine wpAnyH_done (by kernel_rfl) ?_ _
       clear x0 x1 x2 xf n26
       have K2 := Lib.hid (K2.out.far (show w.heap.size ≠ p6 by omega) (j := 1) (.slice B6 T5.length b6))
       have F3 := Lib.hid (F3.out.farH (show w.heap.size + 1 ≠ p6 by omega) (j := 1) (.slice B6 T5.length b6))
       have K4 := Lib.hid (K4.out.far (show w.heap.size + 1 + 1 ≠ p6 by omega) (j := 1) (.slice B6 T5.length b6))
       have OA := Lib.hid (OA.out.box K6.out 1 (.slice B6 T5.length b6))
       have K6 := Lib.hid (K6.out.set1 (.slice B6 T5.length b6))
       have Z := Lib.hid (Z.out.setCell (p := ⟨p6, 1, none⟩) (by simp; omega) (.slice B6 T5.length b6))
       obtain ⟨w12, hw12⟩ : ∃ X, X = (w11.setCell ⟨p6, 1, none⟩ (.slice B6 T5.length b6)) := ⟨_, rfl⟩
       rw [← hw12] at K2 F3 K4 OA K6 Z ⊢
       clear hw12
       by_cases hz : i = 0
       · subst hz
         have HX := Lib.hid (show keepA D T k ⟨rc, rn, ro, rx, ry⟩ = ((D5, T5, k), true) by
          unfold keepA
          rw [if_pos HOK.out, if_pos HGO.out, ← HM.out, HD5.out]
          simp only [delT, bumpK]
          rw [if_neg (by simp), HT5.out])
         obtain ⟨p0, p1, p2⟩ := K2.out.cells
         obtain ⟨y0, y1, y2, y3, y4⟩ := F3.out.cells
         obtain ⟨x0, x1, x2⟩ := K6.out.cells
         obtain ⟨z0, z1, z2⟩ := K4.out.cells
         have zf := K4.out.frozen
         have lz := K4.out.lt
         have BG := Lib.hid (((Z.out.setCell (p := ⟨w.heap.size + 1 + 1, 0, none⟩) (by simp; omega) (.slice A5 D5.length a5)).setCell (p := ⟨w.heap.size + 1 + 1, 1, none⟩) (by simp; omega) (.slice B6 T5.length b6)).setCell (p := ⟨w.heap.size + 1 + 1, 2, none⟩) (by simp; omega) (.int .i64 k))
         have OG := Lib.hid ((((OA.out.put (q := w.heap.size + 1 + 1) (by omega) 0 (.slice A5 D5.length a5)).put (q := w.heap.size + 1 + 1) (by omega) 1 (.slice B6 T5.length b6)).put (q := w.heap.size + 1 + 1) (by omega) 2 (.int .i64 k)).base (show w.heap.size ≤ w.heap.size + 3 by omega))
         clear K4 Z
         go_wp2
         refine bodyPost_ret (v := .tuple #[aheadV A5 D5.length a5 B6 T5.length b6 k, .bool true]) (by simp [results, Try.results24, go_sem, z0, z1, z2]) rfl ?_
         rw [HX.out]
         exact ⟨A5, a5, B6, b6, rfl, OG.out, BG.out⟩
       · have ez : ((i : Int) != 0) = true := by simp; omega
         have e0 : decide ((0 : Int) < (T.length : Int)) = true := decide_eq_true (by have := HI.out; omega)
         have HB := Lib.hid (show 0 < T.length ∧ (some i : Option Nat) ≠ some 0 from ⟨by have := HI.out; omega, by simpa using hz⟩)
         clear hz
         by_cases h9 : k < 99
         · have e9 : decide (k < 99) = true := decide_eq_true h9
           have ek : IntKind.i64.wrap (k + 1) = k + 1 := IntWalk.i64_in _ (by have := HK.out; omega)
           have H9 := Lib.hid h9
           have xf := K6.out.frozen
           obtain ⟨p0, p1, p2⟩ := K2.out.cells
           obtain ⟨y0, y1, y2, y3, y4⟩ := F3.out.cells
           obtain ⟨x0, x1, x2⟩ := K6.out.cells
           have l6 := K6.out.lt
           clear h9
           go_upto_region 12 with (fail)
           clear p0 p1 p2 y0 y1 y2 y3 y4 x0 x1 x2
           clear xf l6 ek e0 e9 ez
           have K2 := Lib.hid (K2.out.far (show w.heap.size ≠ p6 by omega) (j := 2) (.int .i64 (k + 1)))
           have F3 := Lib.hid (F3.out.farH (show w.heap.size + 1 ≠ p6 by omega) (j := 2) (.int .i64 (k + 1)))
           have K4 := Lib.hid (K4.out.far (show w.heap.size + 1 + 1 ≠ p6 by omega) (j := 2) (.int .i64 (k + 1)))
           have OA := Lib.hid (OA.out.box K6.out 2 (.int .i64 (k + 1)))
           have K6 := Lib.hid (K6.out.set2 (.int .i64 (k + 1)))
           have Z := Lib.hid (Z.out.setCell (p := ⟨p6, 2, none⟩) (by simp; omega) (.int .i64 (k + 1)))
           obtain ⟨w13, hw13⟩ : ∃ X, X = (w12.setCell ⟨p6, 2, none⟩ (.int .i64 (k + 1))) := ⟨_, rfl⟩
           rw [← hw13] at K2 F3 K4 OA K6 Z ⊢
           clear hw13
           have HX := Lib.hid (show keepA D T k ⟨rc, rn, ro, rx, ry⟩ = ((D5, T5, k + 1), true) by
            unfold keepA
            rw [if_pos HOK.out, if_pos HGO.out, ← HM.out, HD5.out]
            simp only [delT, bumpK]
            rw [if_pos HB.out, if_pos H9.out, HT5.out])
           obtain ⟨p0, p1, p2⟩ := K2.out.cells
           obtain ⟨y0, y1, y2, y3, y4⟩ := F3.out.cells
           obtain ⟨x0, x1, x2⟩ := K6.out.cells
           obtain ⟨z0, z1, z2⟩ := K4.out.cells
           have zf := K4.out.frozen
           have lz := K4.out.lt
           have BG := Lib.hid (((Z.out.setCell (p := ⟨w.heap.size + 1 + 1, 0, none⟩) (by simp; omega) (.slice A5 D5.length a5)).setCell (p := ⟨w.heap.size + 1 + 1, 1, none⟩) (by simp; omega) (.slice B6 T5.length b6)).setCell (p := ⟨w.heap.size + 1 + 1, 2, none⟩) (by simp; omega) (.int .i64 (k + 1)))
           have OG := Lib.hid ((((OA.out.put (q := w.heap.size + 1 + 1) (by omega) 0 (.slice A5 D5.length a5)).put (q := w.heap.size + 1 + 1) (by omega) 1 (.slice B6 T5.length b6)).put (q := w.heap.size + 1 + 1) (by omega) 2 (.int .i64 (k + 1))).base (show w.heap.size ≤ w.heap.size + 3 by omega))
           clear K4 Z
           go_wp2
           refine bodyPost_ret (v := .tuple #[aheadV A5 D5.length a5 B6 T5.length b6 (k + 1), .bool true]) (by simp [results, Try.results24, go_sem, z0, z1, z2]) rfl ?_
           rw [HX.out]
           exact ⟨A5, a5, B6, b6, rfl, OG.out, BG.out⟩
         · have e9 : decide (k < 99) = false := decide_eq_false h9
           have H9 := Lib.hid h9
           clear h9
           have HX := Lib.hid (show keepA D T k ⟨rc, rn, ro, rx, ry⟩ = ((D5, T5, k), true) by
            unfold keepA
            rw [if_pos HOK.out, if_pos HGO.out, ← HM.out, HD5.out]
            simp only [delT, bumpK]
            rw [if_pos HB.out, if_neg H9.out, HT5.out])
           obtain ⟨p0, p1, p2⟩ := K2.out.cells
           obtain ⟨y0, y1, y2, y3, y4⟩ := F3.out.cells
           obtain ⟨x0, x1, x2⟩ := K6.out.cells
           obtain ⟨z0, z1, z2⟩ := K4.out.cells
           have zf := K4.out.frozen
           have lz := K4.out.lt
           have BG := Lib.hid (((Z.out.setCell (p := ⟨w.heap.size + 1 + 1, 0, none⟩) (by simp; omega) (.slice A5 D5.length a5)).setCell (p := ⟨w.heap.size + 1 + 1, 1, none⟩) (by simp; omega) (.slice B6 T5.length b6)).setCell (p := ⟨w.heap.size + 1 + 1, 2, none⟩) (by simp; omega) (.int .i64 k))
           have OG := Lib.hid ((((OA.out.put (q := w.heap.size + 1 + 1) (by omega) 0 (.slice A5 D5.length a5)).put (q := w.heap.size + 1 + 1) (by omega) 1 (.slice B6 T5.length b6)).put (q := w.heap.size + 1 + 1) (by omega) 2 (.int .i64 k)).base (show w.heap.size ≤ w.heap.size + 3 by omega))
           clear K4 Z
           go_wp2
           refine bodyPost_ret (v := .tuple #[aheadV A5 D5.length a5 B6 T5.length b6 k, .bool true]) (by simp [results, Try.results24, go_sem, z0, z1, z2]) rfl ?_
           rw [HX.out]
           exact ⟨A5, a5, B6, b6, rfl, OG.out, BG.out⟩
     · skip
       have hl60 := HL.out
       have hib := HI.out
       have hTb := HC.out
       have j1 : (i : Int) ≤ ((b : Nat) : Int) := by omega
       have j2 : (i : Int) + 1 ≤ (T.length : Int) := by omega
       have j3 : (0 : Int) ≤ (i : Int) + 1 := by omega
       have j4 : IntKind.i64.wrap ((i : Int) + 1) = (i : Int) + 1 := IntWalk.i64_in _ (by omega)
       have j5 : ((i : Int) + 1).toNat = i + 1 := by omega
       have HRT : Hid (Rd 5 Rq.cells w8 (some ⟨gT, oT, none⟩) (T.take i)) := Rd.takeR (Rd.below HR.out.t Z.out) i
       have HRD : Hid (Rd 5 Rq.cells w8 (some ⟨gT, oT + (i + 1) * 5, none⟩) (T.drop (i + 1))) := Rd.dropR (Rd.below HR.out.t Z.out) (i + 1)
       have HLNw10 := Lib.hid (show (T.take i).length = i by rw [List.length_take]; omega)
       have HLNw11 := Lib.hid (show (T.drop (i + 1)).length = T.length - (i + 1) by rw [List.length_drop])
       have HER := Lib.hid (show (T.take i).flatMap Rq.cells ++ (T.drop (i + 1)).flatMap Rq.cells = (T.eraseIdx i).flatMap Rq.cells by rw [← List.flatMap_append, ← List.eraseIdx_eq_take_drop_succ])
       have HEL := Lib.hid (show i + (T.length - (i + 1)) = (T.eraseIdx i).length by rw [List.length_eraseIdx, if_pos hib]; omega)
       obtain ⟨p0, p1, p2⟩ := K2.out.cells
       obtain ⟨y0, y1, y2, y3, y4⟩ := F3.out.cells
       obtain ⟨x0, x1, x2⟩ := K6.out.cells
       go_upto_region 9 with (fail)
       clear p0 p1 p2 y0 y1 y2 y3 y4 x0 x1 x2
       refine wp_region_held_drew (S := fun WS => Three WS w.heap.size 25 (.slice A D.length a) (.slice (some ⟨gT, oT, none⟩) T.length b) (.int .i64 k)) (by kernel_rfl) K2.out.drew (fun hS0 => ?_)
       refine tkI 1 49 (v := ?_) rfl rfl ?_ ?_
       rotate_left
       · intro wS hSw; obtain ⟨p0, p1, p2⟩ := Three.cells hSw; go_simp; (try with_reducible rfl)
       (try simp only [Act.put, pu1, pu2, pu3])
       refine tkI 2 50 (v := ?_) rfl rfl ?_ ?_
       rotate_left
       · intro wS hSw; obtain ⟨p0, p1, p2⟩ := Three.cells hSw; go_simp; (try with_reducible rfl)
       (try simp only [Act.put, pu1, pu2, pu3])
       refine tkI 3 51 (v := ?_) rfl rfl ?_ ?_
       rotate_left
       · intro wS hSw; obtain ⟨p0, p1, p2⟩ := Three.cells hSw; go_simp; (try with_reducible rfl)
       (try simp only [Act.put, pu1, pu2, pu3])
       refine tkI 4 52 (v := ?_) rfl rfl ?_ ?_
       rotate_left
       · intro wS hSw; obtain ⟨p0, p1, p2⟩ := Three.cells hSw; go_simp; (try with_reducible rfl)
       (try simp only [Act.put, pu1, pu2, pu3])
       refine tkI 6 54 (v := ?_) rfl rfl ?_ ?_
       rotate_left
       · intro wS hSw; obtain ⟨p0, p1, p2⟩ := Three.cells hSw; go_simp; (try with_reducible rfl)
       (try simp only [Act.put, pu1, pu2, pu3])
       refine tkI 7 55 (v := ?_) rfl rfl ?_ ?_
       rotate_left
       · intro wS hSw; obtain ⟨p0, p1, p2⟩ := Three.cells hSw; go_simp; (try with_reducible rfl)
       (try simp only [Act.put, pu1, pu2, pu3])
       refine tkI 8 56 (v := ?_) rfl rfl ?_ ?_
       rotate_left
       · intro wS hSw; obtain ⟨p0, p1, p2⟩ := Three.cells hSw; go_simp; (try with_reducible rfl)
       (try simp only [Act.put, pu1, pu2, pu3])
       refine tkI 9 57 (v := ?_) rfl rfl ?_ ?_
       rotate_left
       · intro wS hSw; obtain ⟨p0, p1, p2⟩ := Three.cells hSw; go_simp; (try with_reducible rfl)
       (try simp only [Act.put, pu1, pu2, pu3])
       refine tkI 10 58 (v := ?_) rfl rfl ?_ ?_
       rotate_left
       · intro wS hSw; obtain ⟨p0, p1, p2⟩ := Three.cells hSw; go_simp; (try with_reducible rfl)
       (try simp only [Act.put, pu1, pu2, pu3])
       clear hS0
       refine wpAnyH_ready (rs := [0]) (by kernel_rfl) (by simp) ?_
       refine AllReadyH.cons rfl (fun KK hK => ?_) AllReadyH.nil
       go_simp
       refine hK.out _ _ (show Three (w8.alloc (.cells #[] 37)).drew _ _ _ _ _ from (K2.out.alloc (.cells #[] 37)).drew) (fun _ => ?_)
       clear hK KK
       (try simp only [Act.put, pu1, pu2, pu3])
       have hba : Below w8.heap.size w8 (w8.alloc (.cells #[] 37)).drew := ((Below.refl w8.heap.size w8).alloc (Nat.le_refl _) (.cells #[] 37)).drew
       have LO3 := Lib.hid (show w.heap.size + 3 ≤ w8.heap.size by have := K6.out.lt; omega)
       have OD0 := Lib.hid OA.out.d
       have DO : Hid (∀ x, (Value.slice (some ⟨w8.heap.size, 0, none⟩) 0 0).ownBlock = some x → (Value.slice A5 D5.length a5).ownBlock ≠ some x) := new_apartH OA.out.d
       have K2 := Lib.hid (Three.below K2.out hba K2.out.lt)
       have F3 := Lib.hid (F3.out.grown (Below.grownBy hba none) (by simp))
       have K4 := Lib.hid (Three.below K4.out hba K4.out.lt)
       have Z := Lib.hid (Below.and Z.out hba)
       have K6 := Lib.hid (Three.below K6.out hba K6.out.lt)
       have OA := Lib.hid (OA.out.below hba)
       have HRT := Lib.hid (Rd.below HRT.out hba)
       have HRD := Lib.hid (Rd.below HRD.out hba)
       have OD0 := Lib.hid (own_below OD0.out hba)
       have OD := OD0
       have OO : Hid ((w8.alloc (.cells #[] 37)).drew.ownsRow w8.heap.size 37 5 (.slice (some ⟨w8.heap.size, 0, none⟩) 0 0) 0 []) := own_nil_newH w8 37 5 rfl
       have LO : Hid (w8.heap.size ≤ (w8.alloc (.cells #[] 37)).drew.heap.size) := hba.size
       obtain ⟨lo, hlo⟩ : ∃ X, X = w8.heap.size := ⟨_, rfl⟩
       obtain ⟨w9, hw9⟩ : ∃ X, X = (w8.alloc (.cells #[] 37)).drew := ⟨_, rfl⟩
       rw [← hw9] at K2 F3 K4 K6 Z OA OO LO HRT HRD OD OD0 ⊢
       rw [← hlo] at OO LO LO3 DO ⊢
       clear hba hw9 hlo
       refine wpAnyH_ready (rs := [5]) (by kernel_rfl) (by simp) ?_
       refine AllReadyH.cons rfl (fun KK hK => ?_) AllReadyH.nil
       refine step_app (k := 5) (f := Rq.cells) (fun _ => rfl) (by rfl) _ _ 23 (by rfl) lo 37 I (.agg #[.int .i64 0, .int .i64 0, .int .i64 0, .int .i64 0, .int .i64 0]) 40 Try.underlying23 I1.out I2.out I3.out I4.out (by rfl) (by omega) _ 0 [] (by rfl) OO.out _ _ _ (T.take i) HLNw10.out (by rfl) HRT.out (fun h => by cases h) (reqs_oneH _) (by unfold maxLen; omega) (by omega) LO.out ?_
       intro vw10 w10 ho hg hp
       have hb : Below lo w9 w10 := Below.of_grown hg LO.out (fun x hx => (own_block_ge OO.out x hx).1)
       have hrd := HRD.out
       have bt := fun x hx => own_block_ge OO.out x hx
       have l3 := LO3.out
       have K2 := Lib.hid (K2.out.grown hg (fun e => by have := (bt _ e.symm).1; omega))
       have F3 := Lib.hid (F3.out.grown hg (fun e => by have := (bt _ e.symm).1; omega))
       have K4 := Lib.hid (K4.out.grown hg (fun e => by have := (bt _ e.symm).1; omega))
       have K6 := Lib.hid (K6.out.grown hg (fun e => own_typeH OO.out K6.out (by decide) e.symm))
       have Z := Lib.hid (Z.out.grown hg Z.out.size (fun q hq => by have := (bt _ hq).1; omega))
       have OD := Lib.hid (app_keepH OD.out hg DO.out)
       have DO := Lib.hid (app_apartH OD0.out hp DO.out)
       have OD0 := OD
       have LO := Lib.hid (Nat.le_trans LO.out hg.size)
       have HRD := Lib.hid (Rd.below HR.out.t Z.out)
       have HRD : Hid (Rd 5 Rq.cells w10 (some ⟨gT, oT + (i + 1) * 5, none⟩) (T.drop (i + 1))) := Rd.dropR HRD.out (i + 1)
       have OO : Hid (w10.ownsRow lo 37 5 vw10 i ((T.take i).flatMap Rq.cells)) := by simpa [Hid] using ho
       refine hK.out _ _ K2.out (fun _ => ?_)
       clear hK KK
       (try simp only [Act.put, pu1, pu2, pu3])
       clear ho hg hp hb bt l3 hrd
       refine wpAnyH_ready (rs := [11]) (by kernel_rfl) (by simp) ?_
       refine AllReadyH.cons rfl (fun KK hK => ?_) AllReadyH.nil
       refine step_app (k := 5) (f := Rq.cells) (fun _ => rfl) (by rfl) _ _ 23 (by rfl) lo 37 I (.agg #[.int .i64 0, .int .i64 0, .int .i64 0, .int .i64 0, .int .i64 0]) 40 Try.underlying23 I1.out I2.out I3.out I4.out (by rfl) (by omega) _ i ((T.take i).flatMap Rq.cells) (by rfl) OO.out _ _ _ (T.drop (i + 1)) HLNw11.out (by rfl) HRD.out (fun h => by cases h) (reqs_oneH _) (by unfold maxLen; omega) (by omega) LO.out ?_
       intro vw11 w11 ho hg hp
       have bt := fun x hx => own_block_ge OO.out x hx
       have l3 := LO3.out
       have K2 := Lib.hid (K2.out.grown hg (fun e => by have := (bt _ e.symm).1; omega))
       have F3 := Lib.hid (F3.out.grown hg (fun e => by have := (bt _ e.symm).1; omega))
       have K4 := Lib.hid (K4.out.grown hg (fun e => by have := (bt _ e.symm).1; omega))
       have K6 := Lib.hid (K6.out.grown hg (fun e => own_typeH OO.out K6.out (by decide) e.symm))
       have Z := Lib.hid (Z.out.grown hg Z.out.size (fun q hq => by have := (bt _ hq).1; omega))
       have OD := Lib.hid (app_keepH OD.out hg DO.out)
       have DO := Lib.hid (app_apartH OD0.out hp DO.out)
       rw [HER.out, HEL.out] at ho
       obtain ⟨T5, hT5⟩ : ∃ X, X = T.eraseIdx i := ⟨_, rfl⟩
       obtain ⟨B6, b6, rfl⟩ := own_formH ho
       rw [← hT5] at ho DO
       try rw [HEL.out]
       rw [← hT5]
       have HT5 := Lib.hid hT5
       refine hK.out _ _ K2.out (fun _ => ?_)
       clear hK KK
       (try simp only [Act.put, pu1, pu2, pu3])
       have OA : Hid (OwA w11 (w.heap.size + 3) A5 a5 B6 b6 D5 T5) := ⟨OD.out, own_base ho (by have := LO3.out; omega), apart_symmH DO.out⟩
       have xf := K6.out.frozen
       have n26 : w.heap.size ≠ p6 := by omega
       clear ho hg hp bt l3 OO OD OD0 DO HRT HRD HER HEL hT5 LO LO3 HLNw10 HLNw11
       refine wpAnyH_ready (rs := [12]) (by kernel_rfl) (by simp) ?_
       refine AllReadyH.cons rfl (fun KK hK => ?_) AllReadyH.nil
       go_simp
       refine hK.out _ _ K2.out (fun _ => ?_)
       clear hK KK
       (try simp only [Act.put, pu1, pu2, pu3])
       refine wpAnyH_ready (rs := [13]) (by kernel_rfl) (by simp) ?_
       refine AllReadyH.cons rfl (fun KK hK => ?_) AllReadyH.nil
       obtain ⟨x0, x1, x2⟩ := K6.out.cells
       go_simp
       refine hK.out _ _ (K2.out.far n26 (j := 1) _) (fun _ => ?_)
       clear hK KK
       (try simp only [Act.put, pu1, pu2, pu3])
       refine wpAnyH_done (by kernel_rfl) ?_ _
       clear x0 x1 x2 xf n26
       have K2 := Lib.hid (K2.out.far (show w.heap.size ≠ p6 by omega) (j := 1) (.slice B6 T5.length b6))
       have F3 := Lib.hid (F3.out.farH (show w.heap.size + 1 ≠ p6 by omega) (j := 1) (.slice B6 T5.length b6))
       have K4 := Lib.hid (K4.out.far (show w.heap.size + 1 + 1 ≠ p6 by omega) (j := 1) (.slice B6 T5.length b6))
       have OA := Lib.hid (OA.out.box K6.out 1 (.slice B6 T5.length b6))
       have K6 := Lib.hid (K6.out.set1 (.slice B6 T5.length b6))
       have Z := Lib.hid (Z.out.setCell (p := ⟨p6, 1, none⟩) (by simp; omega) (.slice B6 T5.length b6))
       obtain ⟨w12, hw12⟩ : ∃ X, X = (w11.setCell ⟨p6, 1, none⟩ (.slice B6 T5.length b6)) := ⟨_, rfl⟩
       rw [← hw12] at K2 F3 K4 OA K6 Z ⊢
       clear hw12
       by_cases hz : i = 0
       · subst hz
         have HX := Lib.hid (show keepA D T k ⟨rc, rn, ro, rx, ry⟩ = ((D5, T5, k), true) by
          unfold keepA
          rw [if_pos HOK.out, if_pos HGO.out, ← HM.out, HD5.out]
          simp only [delT, bumpK]
          rw [if_neg (by simp), HT5.out])
         obtain ⟨p0, p1, p2⟩ := K2.out.cells
         obtain ⟨y0, y1, y2, y3, y4⟩ := F3.out.cells
         obtain ⟨x0, x1, x2⟩ := K6.out.cells
         obtain ⟨z0, z1, z2⟩ := K4.out.cells
         have zf := K4.out.frozen
         have lz := K4.out.lt
         have BG := Lib.hid (((Z.out.setCell (p := ⟨w.heap.size + 1 + 1, 0, none⟩) (by simp; omega) (.slice A5 D5.length a5)).setCell (p := ⟨w.heap.size + 1 + 1, 1, none⟩) (by simp; omega) (.slice B6 T5.length b6)).setCell (p := ⟨w.heap.size + 1 + 1, 2, none⟩) (by simp; omega) (.int .i64 k))
         have OG := Lib.hid ((((OA.out.put (q := w.heap.size + 1 + 1) (by omega) 0 (.slice A5 D5.length a5)).put (q := w.heap.size + 1 + 1) (by omega) 1 (.slice B6 T5.length b6)).put (q := w.heap.size + 1 + 1) (by omega) 2 (.int .i64 k)).base (show w.heap.size ≤ w.heap.size + 3 by omega))
         clear K4 Z
         go_wp2
         refine bodyPost_ret (v := .tuple #[aheadV A5 D5.length a5 B6 T5.length b6 k, .bool true]) (by simp [results, Try.results24, go_sem, z0, z1, z2]) rfl ?_
         rw [HX.out]
         exact ⟨A5, a5, B6, b6, rfl, OG.out, BG.out⟩
       · have ez : ((i : Int) != 0) = true := by simp; omega
         have e0 : decide ((0 : Int) < (T.length : Int)) = true := decide_eq_true (by have := HI.out; omega)
         have HB := Lib.hid (show 0 < T.length ∧ (some i : Option Nat) ≠ some 0 from ⟨by have := HI.out; omega, by simpa using hz⟩)
         clear hz
         by_cases h9 : k < 99
         · have e9 : decide (k < 99) = true := decide_eq_true h9
           have ek : IntKind.i64.wrap (k + 1) = k + 1 := IntWalk.i64_in _ (by have := HK.out; omega)
           have H9 := Lib.hid h9
           have xf := K6.out.frozen
           obtain ⟨p0, p1, p2⟩ := K2.out.cells
           obtain ⟨y0, y1, y2, y3, y4⟩ := F3.out.cells
           obtain ⟨x0, x1, x2⟩ := K6.out.cells
           have l6 := K6.out.lt
           clear h9
           go_upto_region 12 with (fail)
           clear p0 p1 p2 y0 y1 y2 y3 y4 x0 x1 x2
           clear xf l6 ek e0 e9 ez
           have K2 := Lib.hid (K2.out.far (show w.heap.size ≠ p6 by omega) (j := 2) (.int .i64 (k + 1)))
           have F3 := Lib.hid (F3.out.farH (show w.heap.size + 1 ≠ p6 by omega) (j := 2) (.int .i64 (k + 1)))
           have K4 := Lib.hid (K4.out.far (show w.heap.size + 1 + 1 ≠ p6 by omega) (j := 2) (.int .i64 (k + 1)))
           have OA := Lib.hid (OA.out.box K6.out 2 (.int .i64 (k + 1)))
           have K6 := Lib.hid (K6.out.set2 (.int .i64 (k + 1)))
           have Z := Lib.hid (Z.out.setCell (p := ⟨p6, 2, none⟩) (by simp; omega) (.int .i64 (k + 1)))
           obtain ⟨w13, hw13⟩ : ∃ X, X = (w12.setCell ⟨p6, 2, none⟩ (.int .i64 (k + 1))) := ⟨_, rfl⟩
           rw [← hw13] at K2 F3 K4 OA K6 Z ⊢
           clear hw13
           have HX := Lib.hid (show keepA D T k ⟨rc, rn, ro, rx, ry⟩ = ((D5, T5, k + 1), true) by
            unfold keepA
            rw [if_pos HOK.out, if_pos HGO.out, ← HM.out, HD5.out]
            simp only [delT, bumpK]
            rw [if_pos HB.out, if_pos H9.out, HT5.out])
           obtain ⟨p0, p1, p2⟩ := K2.out.cells
           obtain ⟨y0, y1, y2, y3, y4⟩ := F3.out.cells
           obtain ⟨x0, x1, x2⟩ := K6.out.cells
           obtain ⟨z0, z1, z2⟩ := K4.out.cells
           have zf := K4.out.frozen
           have lz := K4.out.lt
           have BG := Lib.hid (((Z.out.setCell (p := ⟨w.heap.size + 1 + 1, 0, none⟩) (by simp; omega) (.slice A5 D5.length a5)).setCell (p := ⟨w.heap.size + 1 + 1, 1, none⟩) (by simp; omega) (.slice B6 T5.length b6)).setCell (p := ⟨w.heap.size + 1 + 1, 2, none⟩) (by simp; omega) (.int .i64 (k + 1)))
           have OG := Lib.hid ((((OA.out.put (q := w.heap.size + 1 + 1) (by omega) 0 (.slice A5 D5.length a5)).put (q := w.heap.size + 1 + 1) (by omega) 1 (.slice B6 T5.length b6)).put (q := w.heap.size + 1 + 1) (by omega) 2 (.int .i64 (k + 1))).base (show w.heap.size ≤ w.heap.size + 3 by omega))
           clear K4 Z
           go_wp2
           refine bodyPost_ret (v := .tuple #[aheadV A5 D5.length a5 B6 T5.length b6 (k + 1), .bool true]) (by simp [results, Try.results24, go_sem, z0, z1, z2]) rfl ?_
           rw [HX.out]
           exact ⟨A5, a5, B6, b6, rfl, OG.out, BG.out⟩
         · have e9 : decide (k < 99) = false := decide_eq_false h9
           have H9 := Lib.hid h9
           clear h9
           have HX := Lib.hid (show keepA D T k ⟨rc, rn, ro, rx, ry⟩ = ((D5, T5, k), true) by
            unfold keepA
            rw [if_pos HOK.out, if_pos HGO.out, ← HM.out, HD5.out]
            simp only [delT, bumpK]
            rw [if_pos HB.out, if_neg H9.out, HT5.out])
           obtain ⟨p0, p1, p2⟩ := K2.out.cells
           obtain ⟨y0, y1, y2, y3, y4⟩ := F3.out.cells
           obtain ⟨x0, x1, x2⟩ := K6.out.cells
           obtain ⟨z0, z1, z2⟩ := K4.out.cells
           have zf := K4.out.frozen
           have lz := K4.out.lt
           have BG := Lib.hid (((Z.out.setCell (p := ⟨w.heap.size + 1 + 1, 0, none⟩) (by simp; omega) (.slice A5 D5.length a5)).setCell (p := ⟨w.heap.size + 1 + 1, 1, none⟩) (by simp; omega) (.slice B6 T5.length b6)).setCell (p := ⟨w.heap.size + 1 + 1, 2, none⟩) (by simp; omega) (.int .i64 k))
           have OG := Lib.hid ((((OA.out.put (q := w.heap.size + 1 + 1) (by omega) 0 (.slice A5 D5.length a5)).put (q := w.heap.size + 1 + 1) (by omega) 1 (.slice B6 T5.length b6)).put (q := w.heap.size + 1 + 1) (by omega) 2 (.int .i64 k)).base (show w.heap.size ≤ w.heap.size + 3 by omega))
           clear K4 Z
           go_wp2
           refine bodyPost_ret (v := .tuple #[aheadV A5 D5.length a5 B6 T5.length b6 k, .bool true]) (by simp [results, Try.results24, go_sem, z0, z1, z2]) rfl ?_
           rw [HX.out]
           exact ⟨A5, a5, B6, b6, rfl, OG.out, BG.out⟩

end Go.Proofs.Ytnpdlpkomfegfaa
