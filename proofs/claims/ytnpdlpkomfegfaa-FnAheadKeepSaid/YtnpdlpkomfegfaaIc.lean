/- The game as it looks: AheadGame, both ways. -/
import Derived.Test.YtnpdlpkomfegfaaIb
namespace Go.Proofs.Ytnpdlpkomfegfaa
open Go.ChangeShapes Go.WideShapes Go.ChangeAt Go.RowKit
set_option linter.unusedVariables false
set_option linter.unusedSimpArgs false

def agG (D T : List Rq) (k : Int) : Gm := if ahB D T k = true then T.foldl stepF (foldG D) else ([], [], [])
def acG (D T : List Rq) (k : Int) : List Int := if ahB D T k = true then codesG (foldG D) T else []
def AgI (X : Gm) (w : World) (e : Ending) (w' : World) : Prop :=
 ∃ A a B b C c, e = .returned (gameV A X.1.length a B X.2.1.length b C X.2.2.length c) ∧ OwG w' w.heap.size A a B b C c X.1 X.2.1 X.2.2 ∧ Below w.heap.size w w'
theorem fold_ok {D T : List Rq} {k : Int} (h : ahB D T k = true) : gokB (T.foldl stepF (foldG D)).1 (T.foldl stepF (foldG D)).2.1 (T.foldl stepF (foldG D)).2.2 = true :=
 foldG_ok _ _ (foldG_ok D g0 g0_ok (ahB_all h).1) (ahB_all h).2
theorem agG_len (D T : List Rq) (k : Int) : (agG D T k).1.length ≤ 4 ∧ (agG D T k).2.1.length ≤ 16 ∧ (agG D T k).2.2.length ≤ 4 := by
 unfold agG
 split
 · rename_i h
   have := okG_of (fold_ok h)
   exact ⟨this.e.len, Nat.le_of_eq this.f, Nat.le_of_eq this.l⟩
 · simp
theorem fold_app (D T : List Rq) : foldG (D ++ T) = T.foldl stepF (foldG D) := by
 unfold foldG
 rw [List.foldl_append]

set_option maxRecDepth 100000 in
set_option maxHeartbeats 4000000 in
theorem implAheadGame (A : Option Addr) (a : Nat) (B : Option Addr) (b : Nat) (D T : List Rq) (k : Int) (w : World) (hD : D.length ≤ 1048576) (hT : T.length ≤ 1048576) (h : RdAc w A a B b D T) :
 Calls Try.prog 14 #[aheadV A D.length a B T.length b k] w (AgI (agG D T k) w) := by
 have HR := Lib.hid h
 have K1 := Lib.hid ((Three.new (u0 := .slice A D.length a) (u1 := .slice B T.length b) (u2 := .int .i64 k) (t := 25) w).alloc (.cells #[.slice none 0 0, .slice none 0 0, .slice none 0 0] 30))
 have K2 : Hid (Three ((w.alloc (.cells #[.slice A D.length a, .slice B T.length b, .int .i64 k] 25)).alloc (.cells #[.slice none 0 0, .slice none 0 0, .slice none 0 0] 30)) (w.heap.size + 1) 30 (.slice none 0 0) (.slice none 0 0) (.slice none 0 0)) := by have := Three.new (u0 := .slice none 0 0) (u1 := .slice none 0 0) (u2 := .slice none 0 0) (t := 30) (w.alloc (.cells #[.slice A D.length a, .slice B T.length b, .int .i64 k] 25)); simpa [Hid] using this
 have Z : Hid (Below w.heap.size w ((w.alloc (.cells #[.slice A D.length a, .slice B T.length b, .int .i64 k] 25)).alloc (.cells #[.slice none 0 0, .slice none 0 0, .slice none 0 0] 30))) := below_alloc2 w _ _
 have LZ : Hid (w.heap.size + 2 ≤ ((w.alloc (.cells #[.slice A D.length a, .slice B T.length b, .int .i64 k] 25)).alloc (.cells #[.slice none 0 0, .slice none 0 0, .slice none 0 0] 30)).heap.size) := by show _ ≤ _; simp
 clear h
 go_enter Try.func14, Try.ntmps14
 go_upto_region 1 with (fail)
 obtain ⟨w0, hw0⟩ : ∃ X, X = ((w.alloc (.cells #[.slice A D.length a, .slice B T.length b, .int .i64 k] 25)).alloc (.cells #[.slice none 0 0, .slice none 0 0, .slice none 0 0] 30)) := ⟨_, rfl⟩
 rw [← hw0] at K1 K2 Z LZ ⊢
 clear hw0
 obtain ⟨p0, p1, p2⟩ := K1.out.cells
 go_wp2_with (fail)
 refine (implAheadOk A a B b D T k _ hD hT (Rd.below HR.out.r.d Z.out) (Rd.below HR.out.r.t Z.out)).mono ?_
 rintro e w1 ⟨rfl, hb⟩
 have K1 := Lib.hid (Three.below K1.out hb K1.out.lt)
 have K2 := Lib.hid (Three.below K2.out hb K2.out.lt)
 have Z := Lib.hid (Below.and Z.out hb)
 have LZ := Lib.hid (Nat.le_trans LZ.out hb.size)
 clear hb p0 p1 p2
 rcases hok : ahB D T k with _ | _
 · have HX := Lib.hid (show agG D T k = ([], [], []) by unfold agG; rw [hok]; rfl)
   clear hok
   obtain ⟨z0, z1, z2⟩ := K2.out.cells
   have zf := K2.out.frozen
   have BG : ∀ p0 p1 p2 : Value, Below w.heap.size w (((w1.setCell ⟨w.heap.size + 1, 0, none⟩ p0).setCell ⟨w.heap.size + 1, 1, none⟩ p1).setCell ⟨w.heap.size + 1, 2, none⟩ p2) := fun p0 p1 p2 => by
    iterate 3 (refine Below.setCell ?_ (by first | (simp; done) | (simp; omega)) _)
    exact Z.out
   go_wp2
   refine bodyPost_ret (v := .agg #[.slice none 0 0, .slice none 0 0, .slice none 0 0]) (by simp [results, Try.results14, go_sem, z0, z1, z2]) rfl ⟨none, 0, none, 0, none, 0, by rw [HX.out]; rfl, by rw [HX.out]; exact OwG.nil _ _, BG _ _ _⟩
 have HX := Lib.hid (show agG D T k = T.foldl stepF (foldG D) by unfold agG; rw [if_pos hok])
 have HOK := Lib.hid hok
 clear hok
 obtain ⟨p0, p1, p2⟩ := K1.out.cells
 go_wp2_with (fail)
 refine (forecastOf A a B b D T k w1 HOK.out (HR.out.below Z.out)).mono ?_
 rintro e w2 ⟨pf, lg, A1, a1, B1, b1, C1, c1, Q, q, V, v, us, A0, a0, B0, b0, C0, c0, rfl, hlg, hpf, fc, _, _, _, _, hb⟩
 obtain ⟨X, hX⟩ : ∃ X, X = T.foldl stepF (foldG D) := ⟨_, rfl⟩
 rw [← hX] at fc HX
 have GG := Lib.hid (fc.g.base (show w.heap.size + 2 ≤ lg from Nat.le_trans LZ.out hlg))
 have F5 := Lib.hid fc.at_
 have K2 := Lib.hid (Three.below K2.out hb K2.out.lt)
 have Z := Lib.hid (Below.and Z.out hb)
 clear hb p0 p1 p2 fc hX
 obtain ⟨x0, x1, x2, x3, x4⟩ := F5.out.cells
 obtain ⟨z0, z1, z2⟩ := K2.out.cells
 have zf := K2.out.frozen
 have GN := Lib.hid ((((GG.out.put (q := w.heap.size + 1) (by omega) 0 (.slice A1 X.1.length a1)).put (q := w.heap.size + 1) (by omega) 1 (.slice B1 X.2.1.length b1)).put (q := w.heap.size + 1) (by omega) 2 (.slice C1 X.2.2.length c1)).base (show w.heap.size ≤ w.heap.size + 2 by omega))
 have BG := Lib.hid (((Z.out.setCell (p := ⟨w.heap.size + 1, 0, none⟩) (by simp) (.slice A1 X.1.length a1)).setCell (p := ⟨w.heap.size + 1, 1, none⟩) (by simp) (.slice B1 X.2.1.length b1)).setCell (p := ⟨w.heap.size + 1, 2, none⟩) (by simp) (.slice C1 X.2.2.length c1))
 clear GG F5 K2 Z K1
 go_wp2
 refine bodyPost_ret (v := .agg #[.slice A1 X.1.length a1, .slice B1 X.2.1.length b1, .slice C1 X.2.2.length c1]) (by simp [results, Try.results14, go_sem, z0, z1, z2]) rfl ⟨A1, a1, B1, b1, C1, c1, by rw [HX.out], by rw [HX.out]; exact GN.out, BG.out⟩

end Go.Proofs.Ytnpdlpkomfegfaa
