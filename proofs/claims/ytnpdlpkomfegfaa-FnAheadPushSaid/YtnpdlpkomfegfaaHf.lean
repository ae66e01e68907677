/- AheadPush, both ways. -/
import Derived.Test.YtnpdlpkomfegfaaHe
namespace Go.Proofs.Ytnpdlpkomfegfaa
open Go.ChangeShapes Go.WideShapes Go.ChangeAt Go.RowKit
set_option linter.unusedVariables false
set_option linter.unusedSimpArgs false

abbrev Ah := List Rq × List Rq × Int
/-- What is done ahead, as it is handed over. -/
structure RdA (w : World) (A : Option Addr) (a : Nat) (B : Option Addr) (b : Nat) (D T : List Rq) : Prop where
 d : Rd 5 Rq.cells w A D
 t : Rd 5 Rq.cells w B T
 nA : A = none → a = 0
 nB : B = none → b = 0
theorem RdA.below {w w' : World} {A : Option Addr} {a : Nat} {B : Option Addr} {b : Nat} {D T : List Rq} (h : RdA w A a B b D T) (hb : Below w.heap.size w w') : RdA w' A a B b D T := ⟨Rd.below h.d hb, Rd.below h.t hb, h.nA, h.nB⟩
theorem own_nilH {w : World} {base : Nat} {e : TypeId} {size : Nat} {A : Option Addr} {c n : Nat} {xs : List Value} (h : w.ownsRow base e size (.slice A n c) n xs) : A = none → c = 0 := by
 rintro rfl
 rcases h.2 with ⟨h1, h2⟩ | ⟨g, cap, cur, h1, _⟩
 · simp only [Value.slice.injEq] at h1; exact h1.2.2
 · simp at h1
theorem OwA.rdA {w : World} {lo : Nat} {A : Option Addr} {a : Nat} {B : Option Addr} {b : Nat} {D T : List Rq} (h : OwA w lo A a B b D T) : RdA w A a B b D T := ⟨h.rd.1, h.rd.2, own_nilH h.d, own_nilH h.t⟩
/-- What AheadPush gives. -/
def pushA (D T : List Rq) (k : Int) (r : Rq) : Ah × Bool :=
 if ahB D T k = true then (if rqB r = true ∧ D.length + T.length < 60 then ((D, T ++ [r], k), true) else ((D, T, k), false)) else (([], [], 0), false)
def DoAh (X : Ah × Bool) (w : World) (e : Ending) (w' : World) : Prop :=
 ∃ A a B b, e = .returned (.tuple #[aheadV A X.1.1.length a B X.1.2.1.length b X.1.2.2, .bool X.2]) ∧ OwA w' w.heap.size A a B b X.1.1 X.1.2.1 ∧ Below w.heap.size w w'
theorem ahB_len {D T : List Rq} {k : Int} (h : ahB D T k = true) : D.length + T.length ≤ 60 := by
 unfold ahB at h
 simp only [Bool.and_eq_true, decide_eq_true_eq] at h
 exact h.1
theorem Five.farH {w : World} {g : Nat} {t : TypeId} {u0 u1 u2 u3 u4 : Value} (h : Five w g t u0 u1 u2 u3 u4) {g' j : Nat} (hg : g ≠ g') (v : Value) : Five (w.setCell ⟨g', j, none⟩ v) g t u0 u1 u2 u3 u4 := (heap_setCell_other w ⟨g', j, none⟩ g v (by simpa using hg)).trans h
theorem rq_oneH (w : World) (t : TypeId) (x : Rq) : Rd 5 Rq.cells (w.alloc (.cells #[.int .i64 x.c, .int .i64 x.n, .int .i64 x.o, .int .i64 x.x, .int .i64 x.y] t)) (some ⟨w.heap.size, 0, none⟩) [x] := by
 intro i h
 have hi : i = 0 := by simpa using h
 subst hi
 refine ⟨w.heap.size, 0, rfl, fun j u hu => ?_⟩
 have hb := cell_of_row _ _ j _ t (0, 0) (heap_alloc_new w (.cells #[.int .i64 x.c, .int .i64 x.n, .int .i64 x.o, .int .i64 x.x, .int .i64 x.y] t))
 rw [show 0 + 0 * 5 + j = j by omega, hb]
 simpa [Rq.cells] using hu
theorem OwA.push {W w' : World} {lo : Nat} {A : Option Addr} {a : Nat} {B : Option Addr} {b : Nat} {D T : List Rq} (h : OwA W lo A a B b D T) {v' : Value} {r : Rq} (ho : w'.ownsRow lo 37 5 v' (T.length + 1) (T.flatMap Rq.cells ++ [r].flatMap Rq.cells)) (hg : W.grownBy w' (Value.slice B T.length b).ownBlock) (hp : v'.ownBlock = (Value.slice B T.length b).ownBlock ∨ v'.ownBlock = some W.heap.size) :
 ∃ B' b', v' = .slice B' (T ++ [r]).length b' ∧ OwA w' lo A a B' b' D (T ++ [r]) := by
 have h1 := app_keepH h.d hg (apart_symmH h.dt)
 have h2 := apart_symmH (app_apartH h.d hp (apart_symmH h.dt))
 obtain ⟨B', b', rfl⟩ := own_formH ho
 have hl : T.length + 1 = (T ++ [r]).length := by simp
 rw [← List.flatMap_append, hl] at ho
 rw [hl] at h2
 exact ⟨B', b', by rw [hl], h1, ho, h2⟩
theorem own_typeH {w : World} {base p : Nat} {e t : TypeId} {size n : Nat} {v : Value} {xs : List Value} {cs : Array Value} (h : w.ownsRow base e size v n xs) (hG : w.heap[p]? = some (.cells cs t)) (hne : e ≠ t) : v.ownBlock ≠ some p := fun hv => by
 rcases h.2 with ⟨h1, h2⟩ | ⟨g, cap, cur, h1, _⟩
 · rw [h1] at hv; cases hv
 · subst h1
   simp only [Value.ownBlock, Option.some.injEq] at hv
   exact own_ne_block h hG hne hv.symm
theorem OwA.box {w : World} {lo : Nat} {A : Option Addr} {a : Nat} {B : Option Addr} {b : Nat} {D T : List Rq} (h : OwA w lo A a B b D T) {p : Nat} {u0 u1 u2 : Value} (hT : Three w p 25 u0 u1 u2) (o : Nat) (u : Value) : OwA (w.setCell ⟨p, o, none⟩ u) lo A a B b D T := by
 have put : ∀ {e : TypeId} {size n : Nat} {v : Value} {xs : List Value}, w.ownsRow lo e size v n xs → v.ownBlock ≠ some p → (w.setCell ⟨p, o, none⟩ u).ownsRow lo e size v n xs := fun h1 h2 => own_same h1 (fun k hk => heap_setCell_other w ⟨p, o, none⟩ k _ (by
  intro e
  subst e
  exact h2 hk))
 exact ⟨put h.d (own_typeH h.d hT (by decide)), put h.t (own_typeH h.t hT (by decide)), h.dt⟩
theorem isFull (A : Option Addr) (n a : Nat) (B : Option Addr) (m b : Nat) (k : Int) (w : World) (hn : n ≤ 1048576) (hm : m ≤ 1048576) :
 Calls Try.prog 44 #[aheadV A n a B m b k] w fun e w' => e = .returned (.bool (decide (n + m = 60))) ∧ Below w.heap.size w w' := by
 have ew : IntKind.i64.wrap ((n : Int) + (m : Int)) = (n : Int) + (m : Int) := IntWalk.i64_in _ (by omega)
 have HV := Lib.hid (show decide (n + m = 60) = ((n : Int) + (m : Int) == 60) by rw [Bool.eq_iff_iff]; simp; omega)
 go_enter Try.func44, Try.ntmps44
 go_wp2
 go_light
 go_ret
 exact ⟨ret_bool (by rw [HV.out]), (Below.refl _ _).alloc (Nat.le_refl _) _⟩

set_option maxRecDepth 100000 in
set_option maxHeartbeats 4000000 in
theorem implAheadPush (A : Option Addr) (a : Nat) (B : Option Addr) (b : Nat) (D T : List Rq) (k : Int) (r : Rq) (w : World) (hD : D.length ≤ 1048576) (hT : T.length ≤ 1048576) (h : RdA w A a B b D T) :
 Calls Try.prog 16 #[aheadV A D.length a B T.length b k, r.val] w (DoAh (pushA D T k r) w) := by
 obtain ⟨rc, rn, ro, rx, ry⟩ := r
 obtain ⟨I, hi, hz0, hz1, hz2⟩ := parts_ofH infoReqH
 have I1 := Lib.hid hi
 have I2 := Lib.hid hz0
 have I3 := Lib.hid hz1
 have I4 := Lib.hid hz2
 clear hi hz0 hz1 hz2
 have HR := Lib.hid h
 have K2 := Lib.hid (((Three.new (u0 := .slice A D.length a) (u1 := .slice B T.length b) (u2 := .int .i64 k) (t := 25) w).alloc (.cells #[.int .i64 rc, .int .i64 rn, .int .i64 ro, .int .i64 rx, .int .i64 ry] 37)).alloc (.cells #[.slice none 0 0, .slice none 0 0, .int .i64 0] 25))
 have F3 : Hid (Five (((w.alloc (.cells #[.slice A D.length a, .slice B T.length b, .int .i64 k] 25)).alloc (.cells #[.int .i64 rc, .int .i64 rn, .int .i64 ro, .int .i64 rx, .int .i64 ry] 37)).alloc (.cells #[.slice none 0 0, .slice none 0 0, .int .i64 0] 25)) (w.heap.size + 1) 37 (.int .i64 rc) (.int .i64 rn) (.int .i64 ro) (.int .i64 rx) (.int .i64 ry)) := by have := (Five.new (u0 := .int .i64 rc) (u1 := .int .i64 rn) (u2 := .int .i64 ro) (u3 := .int .i64 rx) (u4 := .int .i64 ry) (t := 37) (w.alloc (.cells #[.slice A D.length a, .slice B T.length b, .int .i64 k] 25))).alloc (.cells #[.slice none 0 0, .slice none 0 0, .int .i64 0] 25); simpa [Hid] using this
 have K4 : Hid (Three (((w.alloc (.cells #[.slice A D.length a, .slice B T.length b, .int .i64 k] 25)).alloc (.cells #[.int .i64 rc, .int .i64 rn, .int .i64 ro, .int .i64 rx, .int .i64 ry] 37)).alloc (.cells #[.slice none 0 0, .slice none 0 0, .int .i64 0] 25)) (w.heap.size + 1 + 1) 25 (.slice none 0 0) (.slice none 0 0) (.int .i64 0)) := by have := Three.new (u0 := .slice none 0 0) (u1 := .slice none 0 0) (u2 := .int .i64 0) (t := 25) ((w.alloc (.cells #[.slice A D.length a, .slice B T.length b, .int .i64 k] 25)).alloc (.cells #[.int .i64 rc, .int .i64 rn, .int .i64 ro, .int .i64 rx, .int .i64 ry] 37)); simpa [Hid] using this
 have Z : Hid (Below w.heap.size w (((w.alloc (.cells #[.slice A D.length a, .slice B T.length b, .int .i64 k] 25)).alloc (.cells #[.int .i64 rc, .int .i64 rn, .int .i64 ro, .int .i64 rx, .int .i64 ry] 37)).alloc (.cells #[.slice none 0 0, .slice none 0 0, .int .i64 0] 25))) := (below_alloc2 w _ _).alloc (by simp; omega) _
 have ew : IntKind.i64.wrap ((D.length : Int) + (T.length : Int)) = (D.length : Int) + (T.length : Int) := IntWalk.i64_in _ (by omega)
 have EW := Lib.hid ew
 clear h ew
 go_enter Try.func16, Try.ntmps16
 go_upto_region 1 with (fail)
 have LZ0 : (((w.alloc (.cells #[.slice A D.length a, .slice B T.length b, .int .i64 k] 25)).alloc (.cells #[.int .i64 rc, .int .i64 rn, .int .i64 ro, .int .i64 rx, .int .i64 ry] 37)).alloc (.cells #[.slice none 0 0, .slice none 0 0, .int .i64 0] 25)).heap.size = w.heap.size + 3 := by simp
 obtain ⟨w0, hw0⟩ : ∃ X, X = (((w.alloc (.cells #[.slice A D.length a, .slice B T.length b, .int .i64 k] 25)).alloc (.cells #[.int .i64 rc, .int .i64 rn, .int .i64 ro, .int .i64 rx, .int .i64 ry] 37)).alloc (.cells #[.slice none 0 0, .slice none 0 0, .int .i64 0] 25)) := ⟨_, rfl⟩
 rw [← hw0] at K2 F3 K4 Z LZ0 ⊢
 have LZ := Lib.hid (show w.heap.size + 3 ≤ w0.heap.size by omega)
 clear hw0 LZ0
 obtain ⟨p0, p1, p2⟩ := K2.out.cells
 obtain ⟨y0, y1, y2, y3, y4⟩ := F3.out.cells
 go_wp2_with (fail)
 refine (implAheadOk A a B b D T k _ hD hT (Rd.below HR.out.d Z.out) (Rd.below HR.out.t Z.out)).mono ?_
 rintro e w1 ⟨rfl, hb⟩
 have K2 := Lib.hid (Three.below K2.out hb K2.out.lt)
 have F3 := Lib.hid (F3.out.grown (Below.grownBy hb none) (by simp))
 have K4 := Lib.hid (Three.below K4.out hb K4.out.lt)
 have Z := Lib.hid (Below.and Z.out hb)
 have LZ := Lib.hid (Nat.le_trans LZ.out hb.size)
 clear p0 p1 p2 y0 y1 y2 y3 y4
 clear hb
 rcases hok : ahB D T k with _ | _
 · have HX := Lib.hid (show pushA D T k ⟨rc, rn, ro, rx, ry⟩ = (([], [], 0), false) by unfold pushA; rw [hok]; rfl)
   clear hok
   obtain ⟨z0, z1, z2⟩ := K4.out.cells
   have zf := K4.out.frozen
   have lz := K4.out.lt
   have BG := Lib.hid (((Z.out.setCell (p := ⟨w.heap.size + 1 + 1, 0, none⟩) (by simp; omega) (.slice none 0 0)).setCell (p := ⟨w.heap.size + 1 + 1, 1, none⟩) (by simp; omega) (.slice none 0 0)).setCell (p := ⟨w.heap.size + 1 + 1, 2, none⟩) (by simp; omega) (.int .i64 0))
   skip
   clear K4 Z
   go_wp2
   refine bodyPost_ret (v := .tuple #[aheadV none 0 0 none 0 0 0, .bool false]) (by simp [results, Try.results16, go_sem, z0, z1, z2]) rfl ?_
   rw [HX.out]
   exact ⟨none, 0, none, 0, rfl, OwA.nil _ _, BG.out⟩
 have HL := Lib.hid (ahB_len hok)
 have HOK := Lib.hid hok
 clear hok
 obtain ⟨p0, p1, p2⟩ := K2.out.cells
 obtain ⟨y0, y1, y2, y3, y4⟩ := F3.out.cells
 go_wp2_with (fail)
 refine (copyAhead A a B b D T k _ hD hT (Rd.below HR.out.d Z.out) (Rd.below HR.out.t Z.out) HR.out.nA HR.out.nB).mono ?_
 rintro e w2 ⟨A1, a1, B1, b1, rfl, oa, hb⟩
 have K2 := Lib.hid (Three.below K2.out hb K2.out.lt)
 have F3 := Lib.hid (F3.out.grown (Below.grownBy hb none) (by simp))
 have K4 := Lib.hid (Three.below K4.out hb K4.out.lt)
 have Z := Lib.hid (Below.and Z.out hb)
 have LZ2 := Nat.le_trans LZ.out hb.size
 have oa := oa.base LZ.out
 clear p0 p1 p2 y0 y1 y2 y3 y4
 clear hb
 have hba : Below w2.heap.size w2 (w2.alloc (.cells #[.slice A1 D.length a1, .slice B1 T.length b1, .int .i64 k] 25)) := (Below.refl _ _).alloc (Nat.le_refl _) _
 have K6 := Lib.hid (Three.new (u0 := .slice A1 D.length a1) (u1 := .slice B1 T.length b1) (u2 := .int .i64 k) (t := 25) w2)
 have OA := Lib.hid (oa.below hba)
 have NP := Lib.hid (show (Value.slice B1 T.length b1).ownBlock ≠ some w2.heap.size from fun e => by have := (own_block_ge oa.t _ e).2; omega)
 have K2 := Lib.hid (Three.below K2.out hba K2.out.lt)
 have F3 := Lib.hid (F3.out.grown (Below.grownBy hba none) (by simp))
 have K4 := Lib.hid (Three.below K4.out hba K4.out.lt)
 have Z := Lib.hid (Below.and Z.out hba)
 clear oa hba
 go_upto_region 4 with (fail)
 obtain ⟨p6, hp6⟩ : ∃ X, X = w2.heap.size := ⟨_, rfl⟩
 obtain ⟨wA, hwA⟩ : ∃ X, X = w2.alloc (.cells #[.slice A1 D.length a1, .slice B1 T.length b1, .int .i64 k] 25) := ⟨_, rfl⟩
 rw [← hwA] at K6 OA K2 F3 K4 Z ⊢
 rw [← hp6] at K6 NP LZ2 ⊢
 clear hwA hp6 LZ
 obtain ⟨p0, p1, p2⟩ := K2.out.cells
 obtain ⟨y0, y1, y2, y3, y4⟩ := F3.out.cells
 go_wp2_with (fail)
 refine (implReqOk rc rn ro rx ry _).mono ?_
 rintro e w3 ⟨rfl, hb⟩
 have K2 := Lib.hid (Three.below K2.out hb K2.out.lt)
 have F3 := Lib.hid (F3.out.grown (Below.grownBy hb none) (by simp))
 have K4 := Lib.hid (Three.below K4.out hb K4.out.lt)
 have Z := Lib.hid (Below.and Z.out hb)
 have K6 := Lib.hid (Three.below K6.out hb K6.out.lt)
 have OA := Lib.hid (OA.out.below hb)
 clear p0 p1 p2 y0 y1 y2 y3 y4
 clear hb
 rcases hq : reqB rc rn ro rx ry with _ | _
 · have HX := Lib.hid (show pushA D T k ⟨rc, rn, ro, rx, ry⟩ = ((D, T, k), false) by unfold pushA; rw [if_pos HOK.out, if_neg (by simp [rqB, hq])])
   clear hq HOK
   obtain ⟨p0, p1, p2⟩ := K2.out.cells
   obtain ⟨y0, y1, y2, y3, y4⟩ := F3.out.cells
   obtain ⟨x0, x1, x2⟩ := K6.out.cells
   obtain ⟨z0, z1, z2⟩ := K4.out.cells
   have zf := K4.out.frozen
   have lz := K4.out.lt
   have BG := Lib.hid (((Z.out.setCell (p := ⟨w.heap.size + 1 + 1, 0, none⟩) (by simp; omega) (.slice A1 D.length a1)).setCell (p := ⟨w.heap.size + 1 + 1, 1, none⟩) (by simp; omega) (.slice B1 T.length b1)).setCell (p := ⟨w.heap.size + 1 + 1, 2, none⟩) (by simp; omega) (.int .i64 k))
   have OG := Lib.hid ((((OA.out.put (q := w.heap.size + 1 + 1) (by omega) 0 (.slice A1 D.length a1)).put (q := w.heap.size + 1 + 1) (by omega) 1 (.slice B1 T.length b1)).put (q := w.heap.size + 1 + 1) (by omega) 2 (.int .i64 k)).base (show w.heap.size ≤ w.heap.size + 3 by omega))
   clear K4 Z
   go_wp2
   refine bodyPost_ret (v := .tuple #[aheadV A1 D.length a1 B1 T.length b1 k, .bool false]) (by simp [results, Try.results16, go_sem, z0, z1, z2]) rfl ?_
   rw [HX.out]
   exact ⟨A1, a1, B1, b1, rfl, OG.out, BG.out⟩
 obtain ⟨p0, p1, p2⟩ := K2.out.cells
 obtain ⟨y0, y1, y2, y3, y4⟩ := F3.out.cells
 go_wp2_with (fail)
 refine (isFull A D.length a B T.length b k _ hD hT).mono ?_
 rintro e w4 ⟨rfl, hb⟩
 have K2 := Lib.hid (Three.below K2.out hb K2.out.lt)
 have F3 := Lib.hid (F3.out.grown (Below.grownBy hb none) (by simp))
 have K4 := Lib.hid (Three.below K4.out hb K4.out.lt)
 have Z := Lib.hid (Below.and Z.out hb)
 have K6 := Lib.hid (Three.below K6.out hb K6.out.lt)
 have OA := Lib.hid (OA.out.below hb)
 clear p0 p1 p2 y0 y1 y2 y3 y4
 clear hb
 by_cases hf : D.length + T.length = 60
 · have HX := Lib.hid (show pushA D T k ⟨rc, rn, ro, rx, ry⟩ = ((D, T, k), false) by unfold pushA; rw [if_pos HOK.out, if_neg (by simp; omega)])
   rw [show decide (D.length + T.length = 60) = true from decide_eq_true hf]
   clear hf hq HOK
   obtain ⟨p0, p1, p2⟩ := K2.out.cells
   obtain ⟨y0, y1, y2, y3, y4⟩ := F3.out.cells
   obtain ⟨x0, x1, x2⟩ := K6.out.cells
   obtain ⟨z0, z1, z2⟩ := K4.out.cells
   have zf := K4.out.frozen
   have lz := K4.out.lt
   have BG := Lib.hid (((Z.out.setCell (p := ⟨w.heap.size + 1 + 1, 0, none⟩) (by simp; omega) (.slice A1 D.length a1)).setCell (p := ⟨w.heap.size + 1 + 1, 1, none⟩) (by simp; omega) (.slice B1 T.length b1)).setCell (p := ⟨w.heap.size + 1 + 1, 2, none⟩) (by simp; omega) (.int .i64 k))
   have OG := Lib.hid ((((OA.out.put (q := w.heap.size + 1 + 1) (by omega) 0 (.slice A1 D.length a1)).put (q := w.heap.size + 1 + 1) (by omega) 1 (.slice B1 T.length b1)).put (q := w.heap.size + 1 + 1) (by omega) 2 (.int .i64 k)).base (show w.heap.size ≤ w.heap.size + 3 by omega))
   clear K4 Z
   go_wp2
   refine bodyPost_ret (v := .tuple #[aheadV A1 D.length a1 B1 T.length b1 k, .bool false]) (by simp [results, Try.results16, go_sem, z0, z1, z2]) rfl ?_
   rw [HX.out]
   exact ⟨A1, a1, B1, b1, rfl, OG.out, BG.out⟩
 have HX := Lib.hid (show pushA D T k ⟨rc, rn, ro, rx, ry⟩ = ((D, T ++ [⟨rc, rn, ro, rx, ry⟩], k), true) by unfold pushA; rw [if_pos HOK.out, if_pos ⟨hq, by have := HL.out; omega⟩])
 rw [show decide (D.length + T.length = 60) = false from decide_eq_false hf]
 have hl60 := HL.out
 clear hf hq HOK
 have hba : Below w4.heap.size w4 (w4.alloc (.cells #[.int .i64 rc, .int .i64 rn, .int .i64 ro, .int .i64 rx, .int .i64 ry] 37)) := (Below.refl _ _).alloc (Nat.le_refl _) _
 have OB := Lib.hid (OA.out.below hba)
 have HRd := Lib.hid (rq_oneH w4 37 ⟨rc, rn, ro, rx, ry⟩)
 have lo3 : w.heap.size + 3 ≤ w4.heap.size := by have := K6.out.lt; omega
 obtain ⟨p0, p1, p2⟩ := K2.out.cells
 obtain ⟨y0, y1, y2, y3, y4⟩ := F3.out.cells
 obtain ⟨x0, x1, x2⟩ := K6.out.cells
 have l6 := K6.out.lt
 have l3 := F3.out.lt
 go_wp2_with (at_builtin; go_loud (refine list_app (f := Rq.cells) (fun _ => rfl) rfl _ _ 23 rfl (w.heap.size + 3) 37 I (.agg #[.int .i64 0, .int .i64 0, .int .i64 0, .int .i64 0, .int .i64 0]) 40 Try.underlying23 I1.out I2.out I3.out I4.out rfl (by decide) _ T.length (T.flatMap Rq.cells) rfl OB.out.t _ _ 1 [⟨rc, rn, ro, rx, ry⟩] rfl rfl HRd.out (fun h => by cases h) (reqs_oneH _) (by unfold maxLen; omega) (by omega) (by simp; omega) ?_))
 intro v5 w5 ho hg hp
 clear p0 p1 p2 y0 y1 y2 y3 y4 x0 x1 x2
 have K2 := Lib.hid (Three.below K2.out hba K2.out.lt)
 have F3 := Lib.hid (F3.out.grown (Below.grownBy hba none) (by simp))
 have K4 := Lib.hid (Three.below K4.out hba K4.out.lt)
 have Z := Lib.hid (Below.and Z.out hba)
 have K6 := Lib.hid (Three.below K6.out hba K6.out.lt)
 have lT := hba.size
 have bt := fun x hx => own_block_ge OB.out.t x hx
 have K2 := Lib.hid (K2.out.grown hg (fun e => by have := (bt _ e.symm).1; omega))
 have F3 := Lib.hid (F3.out.grown hg (fun e => by have := (bt _ e.symm).1; omega))
 have K4 := Lib.hid (K4.out.grown hg (fun e => by have := (bt _ e.symm).1; omega))
 have K6 := Lib.hid (K6.out.grown hg (fun e => NP.out e.symm))
 have Z := Lib.hid (Z.out.grown hg Z.out.size (fun q hq => by have := (bt _ hq).1; omega))
 obtain ⟨B5, b5, rfl, oa⟩ := OB.out.push ho hg (by simpa using hp)
 clear ho hg hp hba bt lT OB HRd OA lo3 l6 l3
 obtain ⟨T5, hT5⟩ : ∃ X, X = T ++ [(⟨rc, rn, ro, rx, ry⟩ : Rq)] := ⟨_, rfl⟩
 rw [← hT5] at oa ⊢
 have HX := Lib.hid (show pushA D T k ⟨rc, rn, ro, rx, ry⟩ = ((D, T5, k), true) by rw [HX.out, hT5])
 clear hT5
 have OA := Lib.hid oa
 have xf := K6.out.frozen
 obtain ⟨p0, p1, p2⟩ := K2.out.cells
 obtain ⟨y0, y1, y2, y3, y4⟩ := F3.out.cells
 obtain ⟨x0, x1, x2⟩ := K6.out.cells
 go_upto_region 7 with (fail)
 have K2 := Lib.hid (K2.out.far (show w.heap.size ≠ p6 by omega) (j := 1) (.slice B5 T5.length b5))
 have F3 := Lib.hid (F3.out.farH (show w.heap.size + 1 ≠ p6 by omega) (j := 1) (.slice B5 T5.length b5))
 have K4 := Lib.hid (K4.out.far (show w.heap.size + 1 + 1 ≠ p6 by omega) (j := 1) (.slice B5 T5.length b5))
 have OA := Lib.hid (OA.out.box K6.out 1 (.slice B5 T5.length b5))
 have K6 := Lib.hid (K6.out.set1 (.slice B5 T5.length b5))
 have Z := Lib.hid (Z.out.setCell (p := ⟨p6, 1, none⟩) (by simp; omega) (.slice B5 T5.length b5))
 clear p0 p1 p2 y0 y1 y2 y3 y4 x0 x1 x2
 clear xf
 obtain ⟨p0, p1, p2⟩ := K2.out.cells
 obtain ⟨y0, y1, y2, y3, y4⟩ := F3.out.cells
 obtain ⟨x0, x1, x2⟩ := K6.out.cells
 obtain ⟨z0, z1, z2⟩ := K4.out.cells
 have zf := K4.out.frozen
 have lz := K4.out.lt
 have BG := Lib.hid (((Z.out.setCell (p := ⟨w.heap.size + 1 + 1, 0, none⟩) (by simp; omega) (.slice A1 D.length a1)).setCell (p := ⟨w.heap.size + 1 + 1, 1, none⟩) (by simp; omega) (.slice B5 T5.length b5)).setCell (p := ⟨w.heap.size + 1 + 1, 2, none⟩) (by simp; omega) (.int .i64 k))
 have OG := Lib.hid ((((OA.out.put (q := w.heap.size + 1 + 1) (by omega) 0 (.slice A1 D.length a1)).put (q := w.heap.size + 1 + 1) (by omega) 1 (.slice B5 T5.length b5)).put (q := w.heap.size + 1 + 1) (by omega) 2 (.int .i64 k)).base (show w.heap.size ≤ w.heap.size + 3 by omega))
 clear K4 Z
 go_wp2
 refine bodyPost_ret (v := .tuple #[aheadV A1 D.length a1 B5 T5.length b5 k, .bool true]) (by simp [results, Try.results16, go_sem, z0, z1, z2]) rfl ?_
 rw [HX.out]
 exact ⟨A1, a1, B5, b5, rfl, OG.out, BG.out⟩

set_option maxRecDepth 100000 in
set_option maxHeartbeats 4000000 in
theorem specAheadPush (A : Option Addr) (a : Nat) (B : Option Addr) (b : Nat) (D T : List Rq) (k : Int) (r : Rq) (w : World) (hD : D.length ≤ 1048576) (hT : T.length ≤ 1048576) (h : RdA w A a B b D T) :
 Calls Try.prog 17 #[aheadV A D.length a B T.length b k, r.val] w (DoAh (pushA D T k r) w) := by
 obtain ⟨rc, rn, ro, rx, ry⟩ := r
 obtain ⟨I, hi, hz0, hz1, hz2⟩ := parts_ofH infoReqH
 have I1 := Lib.hid hi
 have I2 := Lib.hid hz0
 have I3 := Lib.hid hz1
 have I4 := Lib.hid hz2
 clear hi hz0 hz1 hz2
 have HR := Lib.hid h
 have K2 := Lib.hid (((Three.new (u0 := .slice A D.length a) (u1 := .slice B T.length b) (u2 := .int .i64 k) (t := 25) w).alloc (.cells #[.int .i64 rc, .int .i64 rn, .int .i64 ro, .int .i64 rx, .int .i64 ry] 37)).alloc (.cells #[.slice none 0 0, .slice none 0 0, .int .i64 0] 25))
 have F3 : Hid (Five (((w.alloc (.cells #[.slice A D.length a, .slice B T.length b, .int .i64 k] 25)).alloc (.cells #[.int .i64 rc, .int .i64 rn, .int .i64 ro, .int .i64 rx, .int .i64 ry] 37)).alloc (.cells #[.slice none 0 0, .slice none 0 0, .int .i64 0] 25)) (w.heap.size + 1) 37 (.int .i64 rc) (.int .i64 rn) (.int .i64 ro) (.int .i64 rx) (.int .i64 ry)) := by have := (Five.new (u0 := .int .i64 rc) (u1 := .int .i64 rn) (u2 := .int .i64 ro) (u3 := .int .i64 rx) (u4 := .int .i64 ry) (t := 37) (w.alloc (.cells #[.slice A D.length a, .slice B T.length b, .int .i64 k] 25))).alloc (.cells #[.slice none 0 0, .slice none 0 0, .int .i64 0] 25); simpa [Hid] using this
 have K4 : Hid (Three (((w.alloc (.cells #[.slice A D.length a, .slice B T.length b, .int .i64 k] 25)).alloc (.cells #[.int .i64 rc, .int .i64 rn, .int .i64 ro, .int .i64 rx, .int .i64 ry] 37)).alloc (.cells #[.slice none 0 0, .slice none 0 0, .int .i64 0] 25)) (w.heap.size + 1 + 1) 25 (.slice none 0 0) (.slice none 0 0) (.int .i64 0)) := by have := Three.new (u0 := .slice none 0 0) (u1 := .slice none 0 0) (u2 := .int .i64 0) (t := 25) ((w.alloc (.cells #[.slice A D.length a, .slice B T.length b, .int .i64 k] 25)).alloc (.cells #[.int .i64 rc, .int .i64 rn, .int .i64 ro, .int .i64 rx, .int .i64 ry] 37)); simpa [Hid] using this
 have Z : Hid (Below w.heap.size w (((w.alloc (.cells #[.slice A D.length a, .slice B T.length b, .int .i64 k] 25)).alloc (.cells #[.int .i64 rc, .int .i64 rn, .int .i64 ro, .int .i64 rx, .int .i64 ry] 37)).alloc (.cells #[.slice none 0 0, .slice none 0 0, .int .i64 0] 25))) := (below_alloc2 w _ _).alloc (by simp; omega) _
 have ew : IntKind.i64.wrap ((D.length : Int) + (T.length : Int)) = (D.length : Int) + (T.length : Int) := IntWalk.i64_in _ (by omega)
 have EW := Lib.hid ew
 clear h ew
 go_enter Try.func17, Try.ntmps17
 go_upto_region 1 with (fail)
 have LZ0 : (((w.alloc (.cells #[.slice A D.length a, .slice B T.length b, .int .i64 k] 25)).alloc (.cells #[.int .i64 rc, .int .i64 rn, .int .i64 ro, .int .i64 rx, .int .i64 ry] 37)).alloc (.cells #[.slice none 0 0, .slice none 0 0, .int .i64 0] 25)).heap.size = w.heap.size + 3 := by simp
 obtain ⟨w0, hw0⟩ : ∃ X, X = (((w.alloc (.cells #[.slice A D.length a, .slice B T.length b, .int .i64 k] 25)).alloc (.cells #[.int .i64 rc, .int .i64 rn, .int .i64 ro, .int .i64 rx, .int .i64 ry] 37)).alloc (.cells #[.slice none 0 0, .slice none 0 0, .int .i64 0] 25)) := ⟨_, rfl⟩
 rw [← hw0] at K2 F3 K4 Z LZ0 ⊢
 have LZ := Lib.hid (show w.heap.size + 3 ≤ w0.heap.size by omega)
 clear hw0 LZ0
 obtain ⟨p0, p1, p2⟩ := K2.out.cells
 obtain ⟨y0, y1, y2, y3, y4⟩ := F3.out.cells
 go_wp2_with (fail)
 refine (l8Ok A a B b D T k _ hD hT (Rd.below HR.out.d Z.out) (Rd.below HR.out.t Z.out)).mono ?_
 rintro e w1 ⟨rfl, hb⟩
 have K2 := Lib.hid (Three.below K2.out hb K2.out.lt)
 have F3 := Lib.hid (F3.out.grown (Below.grownBy hb none) (by simp))
 have K4 := Lib.hid (Three.below K4.out hb K4.out.lt)
 have Z := Lib.hid (Below.and Z.out hb)
 have LZ := Lib.hid (Nat.le_trans LZ.out hb.size)
 clear p0 p1 p2 y0 y1 y2 y3 y4
 clear hb
 rcases hok : ahB D T k with _ | _
 · have HX := Lib.hid (show pushA D T k ⟨rc, rn, ro, rx, ry⟩ = (([], [], 0), false) by unfold pushA; rw [hok]; rfl)
   clear hok
   obtain ⟨z0, z1, z2⟩ := K4.out.cells
   have zf := K4.out.frozen
   have lz := K4.out.lt
   have BG := Lib.hid (((Z.out.setCell (p := ⟨w.heap.size + 1 + 1, 0, none⟩) (by simp; omega) (.slice none 0 0)).setCell (p := ⟨w.heap.size + 1 + 1, 1, none⟩) (by simp; omega) (.slice none 0 0)).setCell (p := ⟨w.heap.size + 1 + 1, 2, none⟩) (by simp; omega) (.int .i64 0))
   skip
   clear K4 Z
   go_wp2
   refine bodyPost_ret (v := .tuple #[aheadV none 0 0 none 0 0 0, .bool false]) (by simp [results, Try.results17, go_sem, z0, z1, z2]) rfl ?_
   rw [HX.out]
   exact ⟨none, 0, none, 0, rfl, OwA.nil _ _, BG.out⟩
 have HL := Lib.hid (ahB_len hok)
 have HOK := Lib.hid hok
 clear hok
 obtain ⟨p0, p1, p2⟩ := K2.out.cells
 obtain ⟨y0, y1, y2, y3, y4⟩ := F3.out.cells
 go_wp2_with (fail)
 refine (l8Copy A a B b D T k _ hD hT (Rd.below HR.out.d Z.out) (Rd.below HR.out.t Z.out) HR.out.nA HR.out.nB).mono ?_
 rintro e w2 ⟨A1, a1, B1, b1, rfl, oa, hb⟩
 have K2 := Lib.hid (Three.below K2.out hb K2.out.lt)
 have F3 := Lib.hid (F3.out.grown (Below.grownBy hb none) (by simp))
 have K4 := Lib.hid (Three.below K4.out hb K4.out.lt)
 have Z := Lib.hid (Below.and Z.out hb)
 have LZ2 := Nat.le_trans LZ.out hb.size
 have oa := oa.base LZ.out
 clear p0 p1 p2 y0 y1 y2 y3 y4
 clear hb
 have hba : Below w2.heap.size w2 (w2.alloc (.cells #[.slice A1 D.length a1, .slice B1 T.length b1, .int .i64 k] 25)) := (Below.refl _ _).alloc (Nat.le_refl _) _
 have K6 := Lib.hid (Three.new (u0 := .slice A1 D.length a1) (u1 := .slice B1 T.length b1) (u2 := .int .i64 k) (t := 25) w2)
 have OA := Lib.hid (oa.below hba)
 have NP := Lib.hid (show (Value.slice B1 T.length b1).ownBlock ≠ some w2.heap.size from fun e => by have := (own_block_ge oa.t _ e).2; omega)
 have K2 := Lib.hid (Three.below K2.out hba K2.out.lt)
 have F3 := Lib.hid (F3.out.grown (Below.grownBy hba none) (by simp))
 have K4 := Lib.hid (Three.below K4.out hba K4.out.lt)
 have Z := Lib.hid (Below.and Z.out hba)
 clear oa hba
 go_upto_region 4 with (fail)
 obtain ⟨p6, hp6⟩ : ∃ X, X = w2.heap.size := ⟨_, rfl⟩
 obtain ⟨wA, hwA⟩ : ∃ X, X = w2.alloc (.cells #[.slice A1 D.length a1, .slice B1 T.length b1, .int .i64 k] 25) := ⟨_, rfl⟩
 rw [← hwA] at K6 OA K2 F3 K4 Z ⊢
 rw [← hp6] at K6 NP LZ2 ⊢
 clear hwA hp6 LZ
 obtain ⟨p0, p1, p2⟩ := K2.out.cells
 obtain ⟨y0, y1, y2, y3, y4⟩ := F3.out.cells
 go_wp2_with (fail)
 refine (l1Ok rc rn ro rx ry _).mono ?_
 rintro e w3 ⟨rfl, hb⟩
 have K2 := Lib.hid (Three.below K2.out hb K2.out.lt)
 have F3 := Lib.hid (F3.out.grown (Below.grownBy hb none) (by simp))
 have K4 := Lib.hid (Three.below K4.out hb K4.out.lt)
 have Z := Lib.hid (Below.and Z.out hb)
 have K6 := Lib.hid (Three.below K6.out hb K6.out.lt)
 have OA := Lib.hid (OA.out.below hb)
 clear p0 p1 p2 y0 y1 y2 y3 y4
 clear hb
 rcases hq : reqB rc rn ro rx ry with _ | _
 · have HX := Lib.hid (show pushA D T k ⟨rc, rn, ro, rx, ry⟩ = ((D, T, k), false) by unfold pushA; rw [if_pos HOK.out, if_neg (by simp [rqB, hq])])
   clear hq HOK
   obtain ⟨p0, p1, p2⟩ := K2.out.cells
   obtain ⟨y0, y1, y2, y3, y4⟩ := F3.out.cells
   obtain ⟨x0, x1, x2⟩ := K6.out.cells
   obtain ⟨z0, z1, z2⟩ := K4.out.cells
   have zf := K4.out.frozen
   have lz := K4.out.lt
   have BG := Lib.hid (((Z.out.setCell (p := ⟨w.heap.size + 1 + 1, 0, none⟩) (by simp; omega) (.slice A1 D.length a1)).setCell (p := ⟨w.heap.size + 1 + 1, 1, none⟩) (by simp; omega) (.slice B1 T.length b1)).setCell (p := ⟨w.heap.size + 1 + 1, 2, none⟩) (by simp; omega) (.int .i64 k))
   have OG := Lib.hid ((((OA.out.put (q := w.heap.size + 1 + 1) (by omega) 0 (.slice A1 D.length a1)).put (q := w.heap.size + 1 + 1) (by omega) 1 (.slice B1 T.length b1)).put (q := w.heap.size + 1 + 1) (by omega) 2 (.int .i64 k)).base (show w.heap.size ≤ w.heap.size + 3 by omega))
   clear K4 Z
   go_wp2
   refine bodyPost_ret (v := .tuple #[aheadV A1 D.length a1 B1 T.length b1 k, .bool false]) (by simp [results, Try.results17, go_sem, z0, z1, z2]) rfl ?_
   rw [HX.out]
   exact ⟨A1, a1, B1, b1, rfl, OG.out, BG.out⟩
 by_cases hf : D.length + T.length = 60
 · have HX := Lib.hid (show pushA D T k ⟨rc, rn, ro, rx, ry⟩ = ((D, T, k), false) by unfold pushA; rw [if_pos HOK.out, if_neg (by simp; omega)])

   have ew := EW.out
   have e60 : decide ((60 : Int) ≤ (D.length : Int) + (T.length : Int)) = true := by simp; omega
   clear hf hq HOK
   obtain ⟨p0, p1, p2⟩ := K2.out.cells
   obtain ⟨y0, y1, y2, y3, y4⟩ := F3.out.cells
   obtain ⟨x0, x1, x2⟩ := K6.out.cells
   obtain ⟨z0, z1, z2⟩ := K4.out.cells
   have zf := K4.out.frozen
   have lz := K4.out.lt
   have BG := Lib.hid (((Z.out.setCell (p := ⟨w.heap.size + 1 + 1, 0, none⟩) (by simp; omega) (.slice A1 D.length a1)).setCell (p := ⟨w.heap.size + 1 + 1, 1, none⟩) (by simp; omega) (.slice B1 T.length b1)).setCell (p := ⟨w.heap.size + 1 + 1, 2, none⟩) (by simp; omega) (.int .i64 k))
   have OG := Lib.hid ((((OA.out.put (q := w.heap.size + 1 + 1) (by omega) 0 (.slice A1 D.length a1)).put (q := w.heap.size + 1 + 1) (by omega) 1 (.slice B1 T.length b1)).put (q := w.heap.size + 1 + 1) (by omega) 2 (.int .i64 k)).base (show w.heap.size ≤ w.heap.size + 3 by omega))
   clear K4 Z
   go_wp2
   refine bodyPost_ret (v := .tuple #[aheadV A1 D.length a1 B1 T.length b1 k, .bool false]) (by simp [results, Try.results17, go_sem, z0, z1, z2]) rfl ?_
   rw [HX.out]
   exact ⟨A1, a1, B1, b1, rfl, OG.out, BG.out⟩
 have HX := Lib.hid (show pushA D T k ⟨rc, rn, ro, rx, ry⟩ = ((D, T ++ [⟨rc, rn, ro, rx, ry⟩], k), true) by unfold pushA; rw [if_pos HOK.out, if_pos ⟨hq, by have := HL.out; omega⟩])

 have hl60 := HL.out
 have ew := EW.out
 have e60 : decide ((60 : Int) ≤ (D.length : Int) + (T.length : Int)) = false := by simp; omega
 clear hf hq HOK
 have hba : Below w3.heap.size w3 (w3.alloc (.cells #[.int .i64 rc, .int .i64 rn, .int .i64 ro, .int .i64 rx, .int .i64 ry] 37)) := (Below.refl _ _).alloc (Nat.le_refl _) _
 have OB := Lib.hid (OA.out.below hba)
 have HRd := Lib.hid (rq_oneH w3 37 ⟨rc, rn, ro, rx, ry⟩)
 have lo3 : w.heap.size + 3 ≤ w3.heap.size := by have := K6.out.lt; omega
 obtain ⟨p0, p1, p2⟩ := K2.out.cells
 obtain ⟨y0, y1, y2, y3, y4⟩ := F3.out.cells
 obtain ⟨x0, x1, x2⟩ := K6.out.cells
 have l6 := K6.out.lt
 have l3 := F3.out.lt
 go_wp2_with (at_builtin; go_loud (refine list_app (f := Rq.cells) (fun _ => rfl) rfl _ _ 23 rfl (w.heap.size + 3) 37 I (.agg #[.int .i64 0, .int .i64 0, .int .i64 0, .int .i64 0, .int .i64 0]) 40 Try.underlying23 I1.out I2.out I3.out I4.out rfl (by decide) _ T.length (T.flatMap Rq.cells) rfl OB.out.t _ _ 1 [⟨rc, rn, ro, rx, ry⟩] rfl rfl HRd.out (fun h => by cases h) (reqs_oneH _) (by unfold maxLen; omega) (by omega) (by simp; omega) ?_))
 intro v5 w5 ho hg hp
 clear p0 p1 p2 y0 y1 y2 y3 y4 x0 x1 x2
 have K2 := Lib.hid (Three.below K2.out hba K2.out.lt)
 have F3 := Lib.hid (F3.out.grown (Below.grownBy hba none) (by simp))
 have K4 := Lib.hid (Three.below K4.out hba K4.out.lt)
 have Z := Lib.hid (Below.and Z.out hba)
 have K6 := Lib.hid (Three.below K6.out hba K6.out.lt)
 have lT := hba.size
 have bt := fun x hx => own_block_ge OB.out.t x hx
 have K2 := Lib.hid (K2.out.grown hg (fun e => by have := (bt _ e.symm).1; omega))
 have F3 := Lib.hid (F3.out.grown hg (fun e => by have := (bt _ e.symm).1; omega))
 have K4 := Lib.hid (K4.out.grown hg (fun e => by have := (bt _ e.symm).1; omega))
 have K6 := Lib.hid (K6.out.grown hg (fun e => NP.out e.symm))
 have Z := Lib.hid (Z.out.grown hg Z.out.size (fun q hq => by have := (bt _ hq).1; omega))
 obtain ⟨B5, b5, rfl, oa⟩ := OB.out.push ho hg (by simpa using hp)
 clear ho hg hp hba bt lT OB HRd OA lo3 l6 l3
 obtain ⟨T5, hT5⟩ : ∃ X, X = T ++ [(⟨rc, rn, ro, rx, ry⟩ : Rq)] := ⟨_, rfl⟩
 rw [← hT5] at oa ⊢
 have HX := Lib.hid (show pushA D T k ⟨rc, rn, ro, rx, ry⟩ = ((D, T5, k), true) by rw [HX.out, hT5])
 clear hT5
 have OA := Lib.hid oa
 have xf := K6.out.frozen
 obtain ⟨p0, p1, p2⟩ := K2.out.cells
 obtain ⟨y0, y1, y2, y3, y4⟩ := F3.out.cells
 obtain ⟨x0, x1, x2⟩ := K6.out.cells
 go_upto_region 7 with (fail)
 have K2 := Lib.hid (K2.out.far (show w.heap.size ≠ p6 by omega) (j := 1) (.slice B5 T5.length b5))
 have F3 := Lib.hid (F3.out.farH (show w.heap.size + 1 ≠ p6 by omega) (j := 1) (.slice B5 T5.length b5))
 have K4 := Lib.hid (K4.out.far (show w.heap.size + 1 + 1 ≠ p6 by omega) (j := 1) (.slice B5 T5.length b5))
 have OA := Lib.hid (OA.out.box K6.out 1 (.slice B5 T5.length b5))
 have K6 := Lib.hid (K6.out.set1 (.slice B5 T5.length b5))
 have Z := Lib.hid (Z.out.setCell (p := ⟨p6, 1, none⟩) (by simp; omega) (.slice B5 T5.length b5))
 clear p0 p1 p2 y0 y1 y2 y3 y4 x0 x1 x2
 clear xf
 obtain ⟨p0, p1, p2⟩ := K2.out.cells
 obtain ⟨y0, y1, y2, y3, y4⟩ := F3.out.cells
 obtain ⟨x0, x1, x2⟩ := K6.out.cells
 obtain ⟨z0, z1, z2⟩ := K4.out.cells
 have zf := K4.out.frozen
 have lz := K4.out.lt
 have BG := Lib.hid (((Z.out.setCell (p := ⟨w.heap.size + 1 + 1, 0, none⟩) (by simp; omega) (.slice A1 D.length a1)).setCell (p := ⟨w.heap.size + 1 + 1, 1, none⟩) (by simp; omega) (.slice B5 T5.length b5)).setCell (p := ⟨w.heap.size + 1 + 1, 2, none⟩) (by simp; omega) (.int .i64 k))
 have OG := Lib.hid ((((OA.out.put (q := w.heap.size + 1 + 1) (by omega) 0 (.slice A1 D.length a1)).put (q := w.heap.size + 1 + 1) (by omega) 1 (.slice B5 T5.length b5)).put (q := w.heap.size + 1 + 1) (by omega) 2 (.int .i64 k)).base (show w.heap.size ≤ w.heap.size + 3 by omega))
 clear K4 Z
 go_wp2
 refine bodyPost_ret (v := .tuple #[aheadV A1 D.length a1 B5 T5.length b5 k, .bool true]) (by simp [results, Try.results17, go_sem, z0, z1, z2]) rfl ?_
 rw [HX.out]
 exact ⟨A1, a1, B5, b5, rfl, OG.out, BG.out⟩

end Go.Proofs.Ytnpdlpkomfegfaa
