/- The model's GameDo. -/
import Derived.Test.YtagjkngiijmokaaGw
namespace Go.Proofs.Ytagjkngiijmokaa
open Go.ChangeShapes Go.WideShapes Go.ChangeAt Go.RowKit
set_option linter.unusedVariables false
set_option linter.unusedSimpArgs false

/-- A step of a game, of any input. -/
def stepG (E : List Fig) (F L : List Int) (r : Rq) : Gm × Int :=
 if gokB E F L = true ∧ okB r = true then doG E F L r else (([], [], []), 1)
theorem GmR.nil (w : World) : GmR w none 0 none 0 none 0 [] [] [] :=
 ⟨(fun i h => by simp at h), (fun i h => by simp at h), (fun i h => by simp at h), Nat.le_refl _, Nat.le_refl _, Nat.le_refl _, .inl ⟨rfl, rfl⟩, .inl ⟨rfl, rfl⟩, .inl ⟨rfl, rfl⟩, (fun x h => by cases h), (fun x h => by cases h), (fun x h => by cases h)⟩

theorem GmR.box {w : World} {A : Option Addr} {a : Nat} {B : Option Addr} {b : Nat} {C : Option Addr} {d : Nat} {E : List Fig} {F L : List Int} (h : GmR w A a B b C d E F L) {p : Nat} {A0 : Option Addr} {n0 c0 : Nat} (hp : w.cell? ⟨p, 0, none⟩ = some (.slice A0 n0 c0)) (o : Nat) (v : Value) : GmR (w.setCell ⟨p, o, none⟩ v) A a B b C d E F L := by
 refine ⟨fun i hi => ?_, fun i hi => ?_, fun i hi => ?_, h.cA, h.cB, h.cC, h.nA, h.nB, h.nC, fun x hx => by simpa using h.lA x hx, fun x hx => by simpa using h.lB x hx, fun x hx => by simpa using h.lC x hx⟩
 · obtain ⟨g, hg, a0, a1, a2, a3, a4⟩ := h.rE i hi
   have hn : g ≠ p := fun e => by
    obtain ⟨g', hg', b0, _⟩ := h.rE 0 (by omega)
    rw [hg] at hg'
    cases hg'
    rw [e, show 0 * 5 = 0 from rfl, hp] at b0
    cases b0
   exact ⟨g, hg, cell_far a0 hn, cell_far a1 hn, cell_far a2 hn, cell_far a3 hn, cell_far a4 hn⟩
 · obtain ⟨g, hg, a0⟩ := h.rF i hi
   have hn : g ≠ p := fun e => by
    obtain ⟨g', hg', b0⟩ := h.rF 0 (by omega)
    rw [hg] at hg'
    cases hg'
    rw [e, hp] at b0
    cases b0
   exact ⟨g, hg, cell_far a0 hn⟩
 · obtain ⟨g, hg, a0⟩ := h.rL i hi
   have hn : g ≠ p := fun e => by
    obtain ⟨g', hg', b0⟩ := h.rL 0 (by omega)
    rw [hg] at hg'
    cases hg'
    rw [e, hp] at b0
    cases b0
   exact ⟨g, hg, cell_far a0 hn⟩

set_option maxRecDepth 100000 in
set_option maxHeartbeats 8000000 in
theorem stepBad1 (A : Option Addr) (a : Nat) (B : Option Addr) (b : Nat) (C : Option Addr) (d : Nat) (E : List Fig) (F L : List Int) (rc rn ro rx ry : Int) (w : World) (hE : E.length ≤ 1048576) (hF : F.length ≤ 1048576) (hL : L.length ≤ 1048576) (hgb : gokB E F L = false) (hg : GmL w A B C E F L) :
 Calls Try.prog 15 #[gameV A E.length a B F.length b C L.length d, .agg #[.int .i64 rc, .int .i64 rn, .int .i64 ro, .int .i64 rx, .int .i64 ry]] w (DoR (([], [], []), 1) w) := by
 show Calls Try.prog 15 #[gameV A E.length a B F.length b C L.length d, .agg #[.int .i64 rc, .int .i64 rn, .int .i64 ro, .int .i64 rx, .int .i64 ry]] w fun e w' => ∃ A' a' B' b' C' d', e = .returned (.tuple #[gameV A' 0 a' B' 0 b' C' 0 d', .int .i64 1]) ∧ GmR w' A' a' B' b' C' d' [] [] [] ∧ Below w.heap.size w w'
 have BW : Hid (Below w.heap.size w (((w.alloc (.cells #[.slice A E.length a, .slice B F.length b, .slice C L.length d] 28)).alloc (.cells #[.int .i64 rc, .int .i64 rn, .int .i64 ro, .int .i64 rx, .int .i64 ry] 35)).alloc (.cells #[.slice none 0 0, .slice none 0 0, .slice none 0 0] 28))) := ((below_alloc2 w _ _).alloc (by simp; omega) _)
 have HSW : Hid ((((w.alloc (.cells #[.slice A E.length a, .slice B F.length b, .slice C L.length d] 28)).alloc (.cells #[.int .i64 rc, .int .i64 rn, .int .i64 ro, .int .i64 rx, .int .i64 ry] 35)).alloc (.cells #[.slice none 0 0, .slice none 0 0, .slice none 0 0] 28)).heap.size = w.heap.size + 3) := by show _ = _; simp
 have K0 : Hid (Three (((w.alloc (.cells #[.slice A E.length a, .slice B F.length b, .slice C L.length d] 28)).alloc (.cells #[.int .i64 rc, .int .i64 rn, .int .i64 ro, .int .i64 rx, .int .i64 ry] 35)).alloc (.cells #[.slice none 0 0, .slice none 0 0, .slice none 0 0] 28)) w.heap.size 28 (.slice A E.length a) (.slice B F.length b) (.slice C L.length d)) := ((Three.new w).alloc _).alloc _
 have KR : Hid (Bkk (((w.alloc (.cells #[.slice A E.length a, .slice B F.length b, .slice C L.length d] 28)).alloc (.cells #[.int .i64 rc, .int .i64 rn, .int .i64 ro, .int .i64 rx, .int .i64 ry] 35)).alloc (.cells #[.slice none 0 0, .slice none 0 0, .slice none 0 0] 28)) (w.heap.size + 1) 35 #[.int .i64 rc, .int .i64 rn, .int .i64 ro, .int .i64 rx, .int .i64 ry]) := by have := (Bkk.new (t := 35) (cs := #[.int .i64 rc, .int .i64 rn, .int .i64 ro, .int .i64 rx, .int .i64 ry]) (w.alloc (.cells #[.slice A E.length a, .slice B F.length b, .slice C L.length d] 28))).alloc (.cells #[.slice none 0 0, .slice none 0 0, .slice none 0 0] 28); simpa [Hid] using this
 have K1 : Hid (Three (((w.alloc (.cells #[.slice A E.length a, .slice B F.length b, .slice C L.length d] 28)).alloc (.cells #[.int .i64 rc, .int .i64 rn, .int .i64 ro, .int .i64 rx, .int .i64 ry] 35)).alloc (.cells #[.slice none 0 0, .slice none 0 0, .slice none 0 0] 28)) (w.heap.size + 1 + 1) 28 (.slice none 0 0) (.slice none 0 0) (.slice none 0 0)) := by have := Three.new (t := 28) (u0 := .slice none 0 0) (u1 := .slice none 0 0) (u2 := .slice none 0 0) ((w.alloc (.cells #[.slice A E.length a, .slice B F.length b, .slice C L.length d] 28)).alloc (.cells #[.int .i64 rc, .int .i64 rn, .int .i64 ro, .int .i64 rx, .int .i64 ry] 35)); simpa [Hid] using this
 have HG0 := Lib.hid hg
 have HGB := Lib.hid hgb
 have HG := Lib.hid (hg.below BW.out)
 have T0 := K0
 have T1 := K1
 have TR := KR
 have SZ := Lib.hid (show w.heap.size + 3 ≤ (((w.alloc (.cells #[.slice A E.length a, .slice B F.length b, .slice C L.length d] 28)).alloc (.cells #[.int .i64 rc, .int .i64 rn, .int .i64 ro, .int .i64 rx, .int .i64 ry] 35)).alloc (.cells #[.slice none 0 0, .slice none 0 0, .slice none 0 0] 28)).heap.size by rw [HSW.out]; omega)
 clear K0 K1 KR HSW
 clear hg hgb
 unfold gameV
 go_enter Try.func15, Try.ntmps15
 go_wp2_with (fail)
 refine (l2OkJ A a B b C d E F L _ hE hF hL HG.out.rE HG.out.rF HG.out.rL).mono ?_
 rintro e wa ⟨rfl, hb⟩
 rw [HGB.out]
 have Ba := Lib.hid (Below.and BW.out hb)
 have T0 := Lib.hid (T0.out.below hb (by have := SZ.out; omega))
 have T1 := Lib.hid (T1.out.below hb (by have := SZ.out; omega))
 have TR := Lib.hid (TR.out.below hb)
 have SZ := Lib.hid (show w.heap.size + 3 ≤ wa.heap.size by have := hb.size; have := SZ.out; omega)
 clear hb
 obtain ⟨z0, z1, z2⟩ := T1.out.cells
 have zf := T1.out.frozen
 have l1 := T0.out.lt
 have BG : ∀ p0 p1 p2 : Value, Below w.heap.size w (((wa.setCell ⟨w.heap.size + 1 + 1, 0, none⟩ p0).setCell ⟨w.heap.size + 1 + 1, 1, none⟩ p1).setCell ⟨w.heap.size + 1 + 1, 2, none⟩ p2) := fun p0 p1 p2 => by
  iterate 3 (refine Below.setCell ?_ (by first | (simp; done) | (simp; omega)) _)
  exact Ba.out
 go_wp2
 refine bodyPost_ret (v := .tuple #[.agg #[.slice none 0 0, .slice none 0 0, .slice none 0 0], .int .i64 1]) (by simp [results, Try.results15, go_sem, z0, z1, z2]) rfl ⟨none, 0, none, 0, none, 0, rfl, GmR.nil _, BG _ _ _⟩

set_option maxRecDepth 100000 in
set_option maxHeartbeats 8000000 in
theorem stepBad2 (A : Option Addr) (a : Nat) (B : Option Addr) (b : Nat) (C : Option Addr) (d : Nat) (E : List Fig) (F L : List Int) (rc rn ro rx ry : Int) (w : World) (hE : E.length ≤ 1048576) (hF : F.length ≤ 1048576) (hL : L.length ≤ 1048576) (hgb : gokB E F L = true) (hq : reqB rc rn ro rx ry = false) (hn : nullB ⟨rc, rn, ro, rx, ry⟩ = false) (hg : GmR w A a B b C d E F L) :
 Calls Try.prog 15 #[gameV A E.length a B F.length b C L.length d, .agg #[.int .i64 rc, .int .i64 rn, .int .i64 ro, .int .i64 rx, .int .i64 ry]] w (DoR (([], [], []), 1) w) := by
 show Calls Try.prog 15 #[gameV A E.length a B F.length b C L.length d, .agg #[.int .i64 rc, .int .i64 rn, .int .i64 ro, .int .i64 rx, .int .i64 ry]] w fun e w' => ∃ A' a' B' b' C' d', e = .returned (.tuple #[gameV A' 0 a' B' 0 b' C' 0 d', .int .i64 1]) ∧ GmR w' A' a' B' b' C' d' [] [] [] ∧ Below w.heap.size w w'
 have BW : Hid (Below w.heap.size w (((w.alloc (.cells #[.slice A E.length a, .slice B F.length b, .slice C L.length d] 28)).alloc (.cells #[.int .i64 rc, .int .i64 rn, .int .i64 ro, .int .i64 rx, .int .i64 ry] 35)).alloc (.cells #[.slice none 0 0, .slice none 0 0, .slice none 0 0] 28))) := ((below_alloc2 w _ _).alloc (by simp; omega) _)
 have HSW : Hid ((((w.alloc (.cells #[.slice A E.length a, .slice B F.length b, .slice C L.length d] 28)).alloc (.cells #[.int .i64 rc, .int .i64 rn, .int .i64 ro, .int .i64 rx, .int .i64 ry] 35)).alloc (.cells #[.slice none 0 0, .slice none 0 0, .slice none 0 0] 28)).heap.size = w.heap.size + 3) := by show _ = _; simp
 have K0 : Hid (Three (((w.alloc (.cells #[.slice A E.length a, .slice B F.length b, .slice C L.length d] 28)).alloc (.cells #[.int .i64 rc, .int .i64 rn, .int .i64 ro, .int .i64 rx, .int .i64 ry] 35)).alloc (.cells #[.slice none 0 0, .slice none 0 0, .slice none 0 0] 28)) w.heap.size 28 (.slice A E.length a) (.slice B F.length b) (.slice C L.length d)) := ((Three.new w).alloc _).alloc _
 have KR : Hid (Bkk (((w.alloc (.cells #[.slice A E.length a, .slice B F.length b, .slice C L.length d] 28)).alloc (.cells #[.int .i64 rc, .int .i64 rn, .int .i64 ro, .int .i64 rx, .int .i64 ry] 35)).alloc (.cells #[.slice none 0 0, .slice none 0 0, .slice none 0 0] 28)) (w.heap.size + 1) 35 #[.int .i64 rc, .int .i64 rn, .int .i64 ro, .int .i64 rx, .int .i64 ry]) := by have := (Bkk.new (t := 35) (cs := #[.int .i64 rc, .int .i64 rn, .int .i64 ro, .int .i64 rx, .int .i64 ry]) (w.alloc (.cells #[.slice A E.length a, .slice B F.length b, .slice C L.length d] 28))).alloc (.cells #[.slice none 0 0, .slice none 0 0, .slice none 0 0] 28); simpa [Hid] using this
 have K1 : Hid (Three (((w.alloc (.cells #[.slice A E.length a, .slice B F.length b, .slice C L.length d] 28)).alloc (.cells #[.int .i64 rc, .int .i64 rn, .int .i64 ro, .int .i64 rx, .int .i64 ry] 35)).alloc (.cells #[.slice none 0 0, .slice none 0 0, .slice none 0 0] 28)) (w.heap.size + 1 + 1) 28 (.slice none 0 0) (.slice none 0 0) (.slice none 0 0)) := by have := Three.new (t := 28) (u0 := .slice none 0 0) (u1 := .slice none 0 0) (u2 := .slice none 0 0) ((w.alloc (.cells #[.slice A E.length a, .slice B F.length b, .slice C L.length d] 28)).alloc (.cells #[.int .i64 rc, .int .i64 rn, .int .i64 ro, .int .i64 rx, .int .i64 ry] 35)); simpa [Hid] using this
 have HG0 := Lib.hid hg
 have HGB := Lib.hid hgb
 have HG := Lib.hid (hg.below BW.out)
 have T0 := K0
 have T1 := K1
 have TR := KR
 have SZ := Lib.hid (show w.heap.size + 3 ≤ (((w.alloc (.cells #[.slice A E.length a, .slice B F.length b, .slice C L.length d] 28)).alloc (.cells #[.int .i64 rc, .int .i64 rn, .int .i64 ro, .int .i64 rx, .int .i64 ry] 35)).alloc (.cells #[.slice none 0 0, .slice none 0 0, .slice none 0 0] 28)).heap.size by rw [HSW.out]; omega)
 clear K0 K1 KR HSW
 have HQ := Lib.hid hq
 have HN := Lib.hid hn
 clear hq hn
 clear hg hgb
 unfold gameV
 go_enter Try.func15, Try.ntmps15
 go_wp2_with (fail)
 refine (l2Ok A a B b C d E F L _ hE hF hL HG.out.rE HG.out.rF HG.out.rL).mono ?_
 rintro e wa ⟨rfl, hb⟩
 rw [HGB.out]
 have Ba := Lib.hid (Below.and BW.out hb)
 have T0 := Lib.hid (T0.out.below hb (by have := SZ.out; omega))
 have T1 := Lib.hid (T1.out.below hb (by have := SZ.out; omega))
 have TR := Lib.hid (TR.out.below hb)
 have SZ := Lib.hid (show w.heap.size + 3 ≤ wa.heap.size by have := hb.size; have := SZ.out; omega)
 clear hb
 have xr0 : wa.cell? ⟨w.heap.size + 1, 0, none⟩ = some (.int .i64 rc) := TR.out.cell 0
 have xr1 : wa.cell? ⟨w.heap.size + 1, 1, none⟩ = some (.int .i64 rn) := TR.out.cell 1
 have xr2 : wa.cell? ⟨w.heap.size + 1, 2, none⟩ = some (.int .i64 ro) := TR.out.cell 2
 have xr3 : wa.cell? ⟨w.heap.size + 1, 3, none⟩ = some (.int .i64 rx) := TR.out.cell 3
 have xr4 : wa.cell? ⟨w.heap.size + 1, 4, none⟩ = some (.int .i64 ry) := TR.out.cell 4
 go_wp2_with (fail)
 refine (l1Ok rc rn ro rx ry _).mono ?_
 rintro e wb ⟨rfl, hb⟩
 rw [HQ.out]
 have Bb := Lib.hid (Below.and Ba.out hb)
 have T0 := Lib.hid (T0.out.below hb (by have := SZ.out; omega))
 have T1 := Lib.hid (T1.out.below hb (by have := SZ.out; omega))
 have TR := Lib.hid (TR.out.below hb)
 have SZ := Lib.hid (show w.heap.size + 3 ≤ wb.heap.size by have := hb.size; have := SZ.out; omega)
 clear hb
 clear xr0 xr1 xr2 xr3 xr4
 have xr0 : wb.cell? ⟨w.heap.size + 1, 0, none⟩ = some (.int .i64 rc) := TR.out.cell 0
 have xr1 : wb.cell? ⟨w.heap.size + 1, 1, none⟩ = some (.int .i64 rn) := TR.out.cell 1
 have xr2 : wb.cell? ⟨w.heap.size + 1, 2, none⟩ = some (.int .i64 ro) := TR.out.cell 2
 have xr3 : wb.cell? ⟨w.heap.size + 1, 3, none⟩ = some (.int .i64 rx) := TR.out.cell 3
 have xr4 : wb.cell? ⟨w.heap.size + 1, 4, none⟩ = some (.int .i64 ry) := TR.out.cell 4
 go_wp2_with (fail)
 refine (l1None ⟨rc, rn, ro, rx, ry⟩ _).mono ?_
 rintro e wc ⟨rfl, hb⟩
 rw [HN.out]
 have Bc := Lib.hid (Below.and Bb.out hb)
 have T0 := Lib.hid (T0.out.below hb (by have := SZ.out; omega))
 have T1 := Lib.hid (T1.out.below hb (by have := SZ.out; omega))
 have TR := Lib.hid (TR.out.below hb)
 have SZ := Lib.hid (show w.heap.size + 3 ≤ wc.heap.size by have := hb.size; have := SZ.out; omega)
 clear hb
 clear xr0 xr1 xr2 xr3 xr4
 obtain ⟨z0, z1, z2⟩ := T1.out.cells
 have zf := T1.out.frozen
 have l1 := T0.out.lt
 have BG : ∀ p0 p1 p2 : Value, Below w.heap.size w (((wc.setCell ⟨w.heap.size + 1 + 1, 0, none⟩ p0).setCell ⟨w.heap.size + 1 + 1, 1, none⟩ p1).setCell ⟨w.heap.size + 1 + 1, 2, none⟩ p2) := fun p0 p1 p2 => by
  iterate 3 (refine Below.setCell ?_ (by first | (simp; done) | (simp; omega)) _)
  exact Bc.out
 go_wp2
 refine bodyPost_ret (v := .tuple #[.agg #[.slice none 0 0, .slice none 0 0, .slice none 0 0], .int .i64 1]) (by simp [results, Try.results15, go_sem, z0, z1, z2]) rfl ⟨none, 0, none, 0, none, 0, rfl, GmR.nil _, BG _ _ _⟩

set_option maxRecDepth 100000 in
set_option maxHeartbeats 8000000 in
theorem stepGood1 (A : Option Addr) (a : Nat) (B : Option Addr) (b : Nat) (C : Option Addr) (d : Nat) (E : List Fig) (F L : List Int) (rc rn ro rx ry : Int) (w : World) (hE : E.length ≤ 1048576) (hF : F.length ≤ 1048576) (hL : L.length ≤ 1048576) (hgb : gokB E F L = true) (hq : reqB rc rn ro rx ry = true) (hg : GmR w A a B b C d E F L) :
 Calls Try.prog 15 #[gameV A E.length a B F.length b C L.length d, .agg #[.int .i64 rc, .int .i64 rn, .int .i64 ro, .int .i64 rx, .int .i64 ry]] w (DoR (doG E F L ⟨rc, rn, ro, rx, ry⟩) w) := by
 show Calls Try.prog 15 #[gameV A E.length a B F.length b C L.length d, .agg #[.int .i64 rc, .int .i64 rn, .int .i64 ro, .int .i64 rx, .int .i64 ry]] w fun e w' => ∃ A' a' B' b' C' d', e = .returned (.tuple #[gameV A' (doG E F L ⟨rc, rn, ro, rx, ry⟩).1.1.length a' B' (doG E F L ⟨rc, rn, ro, rx, ry⟩).1.2.1.length b' C' (doG E F L ⟨rc, rn, ro, rx, ry⟩).1.2.2.length d', .int .i64 (doG E F L ⟨rc, rn, ro, rx, ry⟩).2]) ∧ GmR w' A' a' B' b' C' d' (doG E F L ⟨rc, rn, ro, rx, ry⟩).1.1 (doG E F L ⟨rc, rn, ro, rx, ry⟩).1.2.1 (doG E F L ⟨rc, rn, ro, rx, ry⟩).1.2.2 ∧ Below w.heap.size w w'
 have BW : Hid (Below w.heap.size w (((w.alloc (.cells #[.slice A E.length a, .slice B F.length b, .slice C L.length d] 28)).alloc (.cells #[.int .i64 rc, .int .i64 rn, .int .i64 ro, .int .i64 rx, .int .i64 ry] 35)).alloc (.cells #[.slice none 0 0, .slice none 0 0, .slice none 0 0] 28))) := ((below_alloc2 w _ _).alloc (by simp; omega) _)
 have HSW : Hid ((((w.alloc (.cells #[.slice A E.length a, .slice B F.length b, .slice C L.length d] 28)).alloc (.cells #[.int .i64 rc, .int .i64 rn, .int .i64 ro, .int .i64 rx, .int .i64 ry] 35)).alloc (.cells #[.slice none 0 0, .slice none 0 0, .slice none 0 0] 28)).heap.size = w.heap.size + 3) := by show _ = _; simp
 have K0 : Hid (Three (((w.alloc (.cells #[.slice A E.length a, .slice B F.length b, .slice C L.length d] 28)).alloc (.cells #[.int .i64 rc, .int .i64 rn, .int .i64 ro, .int .i64 rx, .int .i64 ry] 35)).alloc (.cells #[.slice none 0 0, .slice none 0 0, .slice none 0 0] 28)) w.heap.size 28 (.slice A E.length a) (.slice B F.length b) (.slice C L.length d)) := ((Three.new w).alloc _).alloc _
 have KR : Hid (Bkk (((w.alloc (.cells #[.slice A E.length a, .slice B F.length b, .slice C L.length d] 28)).alloc (.cells #[.int .i64 rc, .int .i64 rn, .int .i64 ro, .int .i64 rx, .int .i64 ry] 35)).alloc (.cells #[.slice none 0 0, .slice none 0 0, .slice none 0 0] 28)) (w.heap.size + 1) 35 #[.int .i64 rc, .int .i64 rn, .int .i64 ro, .int .i64 rx, .int .i64 ry]) := by have := (Bkk.new (t := 35) (cs := #[.int .i64 rc, .int .i64 rn, .int .i64 ro, .int .i64 rx, .int .i64 ry]) (w.alloc (.cells #[.slice A E.length a, .slice B F.length b, .slice C L.length d] 28))).alloc (.cells #[.slice none 0 0, .slice none 0 0, .slice none 0 0] 28); simpa [Hid] using this
 have K1 : Hid (Three (((w.alloc (.cells #[.slice A E.length a, .slice B F.length b, .slice C L.length d] 28)).alloc (.cells #[.int .i64 rc, .int .i64 rn, .int .i64 ro, .int .i64 rx, .int .i64 ry] 35)).alloc (.cells #[.slice none 0 0, .slice none 0 0, .slice none 0 0] 28)) (w.heap.size + 1 + 1) 28 (.slice none 0 0) (.slice none 0 0) (.slice none 0 0)) := by have := Three.new (t := 28) (u0 := .slice none 0 0) (u1 := .slice none 0 0) (u2 := .slice none 0 0) ((w.alloc (.cells #[.slice A E.length a, .slice B F.length b, .slice C L.length d] 28)).alloc (.cells #[.int .i64 rc, .int .i64 rn, .int .i64 ro, .int .i64 rx, .int .i64 ry] 35)); simpa [Hid] using this
 have HG0 := Lib.hid hg
 have HGB := Lib.hid hgb
 have HG := Lib.hid (hg.below BW.out)
 have T0 := K0
 have T1 := K1
 have TR := KR
 have SZ := Lib.hid (show w.heap.size + 3 ≤ (((w.alloc (.cells #[.slice A E.length a, .slice B F.length b, .slice C L.length d] 28)).alloc (.cells #[.int .i64 rc, .int .i64 rn, .int .i64 ro, .int .i64 rx, .int .i64 ry] 35)).alloc (.cells #[.slice none 0 0, .slice none 0 0, .slice none 0 0] 28)).heap.size by rw [HSW.out]; omega)
 clear K0 K1 KR HSW
 have HR := Lib.hid (show okB ⟨rc, rn, ro, rx, ry⟩ = true by simp [okB, rqB, hq])
 have HQ := Lib.hid hq
 clear hq
 clear hg hgb
 unfold gameV
 go_enter Try.func15, Try.ntmps15
 go_wp2_with (fail)
 refine (l2Ok A a B b C d E F L _ hE hF hL HG.out.rE HG.out.rF HG.out.rL).mono ?_
 rintro e wa ⟨rfl, hb⟩
 rw [HGB.out]
 have Ba := Lib.hid (Below.and BW.out hb)
 have T0 := Lib.hid (T0.out.below hb (by have := SZ.out; omega))
 have T1 := Lib.hid (T1.out.below hb (by have := SZ.out; omega))
 have TR := Lib.hid (TR.out.below hb)
 have SZ := Lib.hid (show w.heap.size + 3 ≤ wa.heap.size by have := hb.size; have := SZ.out; omega)
 clear hb
 have xr0 : wa.cell? ⟨w.heap.size + 1, 0, none⟩ = some (.int .i64 rc) := TR.out.cell 0
 have xr1 : wa.cell? ⟨w.heap.size + 1, 1, none⟩ = some (.int .i64 rn) := TR.out.cell 1
 have xr2 : wa.cell? ⟨w.heap.size + 1, 2, none⟩ = some (.int .i64 ro) := TR.out.cell 2
 have xr3 : wa.cell? ⟨w.heap.size + 1, 3, none⟩ = some (.int .i64 rx) := TR.out.cell 3
 have xr4 : wa.cell? ⟨w.heap.size + 1, 4, none⟩ = some (.int .i64 ry) := TR.out.cell 4
 go_wp2_with (fail)
 refine (l1Ok rc rn ro rx ry _).mono ?_
 rintro e wb ⟨rfl, hb⟩
 rw [HQ.out]
 have Bb := Lib.hid (Below.and Ba.out hb)
 have T0 := Lib.hid (T0.out.below hb (by have := SZ.out; omega))
 have T1 := Lib.hid (T1.out.below hb (by have := SZ.out; omega))
 have TR := Lib.hid (TR.out.below hb)
 have SZ := Lib.hid (show w.heap.size + 3 ≤ wb.heap.size by have := hb.size; have := SZ.out; omega)
 clear hb
 clear xr0 xr1 xr2 xr3 xr4
 go_wp2_with (fail)
 have SB : ∀ {wx : World}, Below wb.heap.size wb wx → ((fun W => W.cell? ⟨w.heap.size, 0, none⟩ = some (.slice A E.length a) ∧ W.cell? ⟨w.heap.size, 1, none⟩ = some (.slice B F.length b) ∧ W.cell? ⟨w.heap.size, 2, none⟩ = some (.slice C L.length d) ∧ W.cell? ⟨w.heap.size + 1, 0, none⟩ = some (.int .i64 rc) ∧ W.cell? ⟨w.heap.size + 1, 1, none⟩ = some (.int .i64 rn) ∧ W.cell? ⟨w.heap.size + 1, 2, none⟩ = some (.int .i64 ro) ∧ W.cell? ⟨w.heap.size + 1, 3, none⟩ = some (.int .i64 rx) ∧ W.cell? ⟨w.heap.size + 1, 4, none⟩ = some (.int .i64 ry))) wx := fun hb => by
  obtain ⟨s0, s1, s2⟩ := (T0.out.below hb T0.out.lt).cells
  have tr := TR.out.below hb
  exact ⟨s0, s1, s2, tr.cell 0, tr.cell 1, tr.cell 2, tr.cell 3, tr.cell 4⟩
 obtain ⟨s0, s1, s2, s3, s4, s5, s6, s7⟩ := SB (Below.refl _ _)
 have HD : Hid (Below wb.heap.size wb wb.drew) := (Below.refl _ _).drew
 have HGz := Lib.hid (HG0.out.below (Below.and Bb.out HD.out))
 have HO := Lib.hid (okG_of HGB.out)
 refine wp_region_held_drew (S := (fun W => W.cell? ⟨w.heap.size, 0, none⟩ = some (.slice A E.length a) ∧ W.cell? ⟨w.heap.size, 1, none⟩ = some (.slice B F.length b) ∧ W.cell? ⟨w.heap.size, 2, none⟩ = some (.slice C L.length d) ∧ W.cell? ⟨w.heap.size + 1, 0, none⟩ = some (.int .i64 rc) ∧ W.cell? ⟨w.heap.size + 1, 1, none⟩ = some (.int .i64 rn) ∧ W.cell? ⟨w.heap.size + 1, 2, none⟩ = some (.int .i64 ro) ∧ W.cell? ⟨w.heap.size + 1, 3, none⟩ = some (.int .i64 rx) ∧ W.cell? ⟨w.heap.size + 1, 4, none⟩ = some (.int .i64 ry))) (by kernel_rfl) ⟨s0, s1, s2, s3, s4, s5, s6, s7⟩ (fun hS0 => ?_)
 refine tkI 0 20 (v := ?_) rfl rfl ?_ ?_
 rotate_left
 · intro w1 hSw; (try dsimp only at hSw); go_split_ands; go_simp; (try with_reducible rfl)
 (try simp only [Act.put, pu1, pu2, pu3])
 refine tkI 2 22 (v := ?_) rfl rfl ?_ ?_
 rotate_left
 · intro w1 hSw; (try dsimp only at hSw); go_split_ands; go_simp; (try with_reducible rfl)
 (try simp only [Act.put, pu1, pu2, pu3])
 refine wpAnyH_ready (rs := [1]) (by kernel_rfl) (by simp) ?_
 refine AllReadyH.cons rfl (fun K hK => ?_) AllReadyH.nil
 go_simp
 refine (l2Copy A a B b C d E F L _ HO.out.e.len (by rw [HO.out.f]; omega) (by rw [HO.out.l]; omega) HGz.out.rE HGz.out.rF HGz.out.rL (nil_cap HGz.out.nA) (nil_cap HGz.out.nB) (nil_cap HGz.out.nC)).mono ?_
 rintro e wd ⟨A1, a1, B1, b1, C1, d1, rfl, oE, oF, oL, _, _, _, hb⟩
 have HBd := Lib.hid (Below.and HD.out hb)
 have GL : Hid (GmR wd A1 a1 B1 b1 C1 d1 E F L) := ⟨RdF.of_own oE, RdI.of_own oF, RdI.of_own oL, (own_cap oE).1, (own_cap oF).1, (own_cap oL).1, (own_cap oE).2, (own_cap oF).2, (own_cap oL).2, (fun x hx => (own_at oE x hx).2), (fun x hx => (own_at oF x hx).2), (fun x hx => (own_at oL x hx).2)⟩
 clear hb oE oF oL
 have hS1 := SB HBd.out
 refine hK.out _ _ hS1 (fun hS2 => ?_)
 clear hK K
 (try simp only [Act.put, pu1, pu2, pu3])
 refine wpAnyH_ready (rs := [3]) (by kernel_rfl) (by simp) ?_
 refine AllReadyH.cons rfl (fun K hK => ?_) AllReadyH.nil
 go_simp
 refine (specDo A1 a1 B1 b1 C1 d1 E F L ⟨rc, rn, ro, rx, ry⟩ _ HO.out HR.out GL.out).mono ?_
 unfold DoR
 rintro e we ⟨A', a', B', b', C', d', rfl, hG, hb⟩
 have HBe := Lib.hid (Below.and HBd.out (hb.mono (Nat.le_refl _)))
 have HGe := Lib.hid hG
 clear hb hG
 obtain ⟨N3, hN3⟩ : ∃ N3, N3 = (doG E F L ⟨rc, rn, ro, rx, ry⟩).1.1.length := ⟨_, rfl⟩
 obtain ⟨M3, hM3⟩ : ∃ M3, M3 = (doG E F L ⟨rc, rn, ro, rx, ry⟩).1.2.1.length := ⟨_, rfl⟩
 obtain ⟨K3, hK3⟩ : ∃ K3, K3 = (doG E F L ⟨rc, rn, ro, rx, ry⟩).1.2.2.length := ⟨_, rfl⟩
 obtain ⟨C3, hC3⟩ : ∃ C3, C3 = (doG E F L ⟨rc, rn, ro, rx, ry⟩).2 := ⟨_, rfl⟩
 have HN3 := Lib.hid hN3
 have HM3 := Lib.hid hM3
 have HK3 := Lib.hid hK3
 have HC3 := Lib.hid hC3
 unfold gameV
 rw [← hN3, ← hM3, ← hK3, ← hC3]
 clear hN3 hM3 hK3 hC3
 have hS3 := SB HBe.out
 refine hK.out _ _ hS3 (fun hS4 => ?_)
 clear hK K
 (try simp only [Act.put, pu1, pu2, pu3])
 have T1 := Lib.hid (T1.out.below HBe.out (by have := SZ.out; omega))
 obtain ⟨z0, z1, z2⟩ := T1.out.cells
 have zf := T1.out.frozen
 obtain ⟨s0, s1, s2, s3, s4, s5, s6, s7⟩ := hS4
 refine tkI 4 24 (v := ?_) rfl rfl ?_ ?_
 rotate_left
 · intro w1 hSw; (try dsimp only at hSw); go_split_ands; go_simp; (try with_reducible rfl)
 (try simp only [Act.put, pu1, pu2, pu3])
 refine tkI 5 25 (v := ?_) rfl rfl ?_ ?_
 rotate_left
 · intro w1 hSw; (try dsimp only at hSw); go_split_ands; go_simp; (try with_reducible rfl)
 (try simp only [Act.put, pu1, pu2, pu3])
 refine wpAnyH_ready (rs := [6]) (by kernel_rfl) (by simp) ?_
 refine AllReadyH.cons rfl (fun K hK => ?_) AllReadyH.nil
 go_simp
 refine hK.out _ _ ⟨by go_simp, by go_simp, by go_simp, by go_simp, by go_simp, by go_simp, by go_simp, by go_simp⟩ (fun hS5 => ?_)
 clear hK K
 (try simp only [Act.put, pu1, pu2, pu3])
 refine tkI 7 5 (v := ?_) rfl rfl ?_ ?_
 rotate_left
 · intro w1 hSw; (try dsimp only at hSw); go_split_ands; go_simp; (try with_reducible rfl)
 (try simp only [Act.put, pu1, pu2, pu3])
 refine wpAnyH_done (by kernel_rfl) ?_ _
 go_wp2
 refine bodyPost_ret (v := .tuple #[.agg #[.slice A' N3 a', .slice B' M3 b', .slice C' K3 d'], .int .i64 C3]) (by simp [results, Try.results15, go_sem, z0, z1, z2]) rfl ⟨A', a', B', b', C', d', by rw [HN3.out, HM3.out, HK3.out, HC3.out], ?_, ?_⟩
 · exact ((HGe.out.box T1.out.cells.1 0 _).box (T1.out.set0 _).cells.1 1 _).box ((T1.out.set0 _).set1 _).cells.1 2 _
 · iterate 3 (refine Below.setCell ?_ (by first | (simp; done) | (simp; omega)) _)
   exact Below.and Bb.out HBe.out

set_option maxRecDepth 100000 in
set_option maxHeartbeats 8000000 in
theorem stepGood2 (A : Option Addr) (a : Nat) (B : Option Addr) (b : Nat) (C : Option Addr) (d : Nat) (E : List Fig) (F L : List Int) (rc rn ro rx ry : Int) (w : World) (hE : E.length ≤ 1048576) (hF : F.length ≤ 1048576) (hL : L.length ≤ 1048576) (hgb : gokB E F L = true) (hq : reqB rc rn ro rx ry = false) (hn : nullB ⟨rc, rn, ro, rx, ry⟩ = true) (hg : GmR w A a B b C d E F L) :
 Calls Try.prog 15 #[gameV A E.length a B F.length b C L.length d, .agg #[.int .i64 rc, .int .i64 rn, .int .i64 ro, .int .i64 rx, .int .i64 ry]] w (DoR (doG E F L ⟨rc, rn, ro, rx, ry⟩) w) := by
 show Calls Try.prog 15 #[gameV A E.length a B F.length b C L.length d, .agg #[.int .i64 rc, .int .i64 rn, .int .i64 ro, .int .i64 rx, .int .i64 ry]] w fun e w' => ∃ A' a' B' b' C' d', e = .returned (.tuple #[gameV A' (doG E F L ⟨rc, rn, ro, rx, ry⟩).1.1.length a' B' (doG E F L ⟨rc, rn, ro, rx, ry⟩).1.2.1.length b' C' (doG E F L ⟨rc, rn, ro, rx, ry⟩).1.2.2.length d', .int .i64 (doG E F L ⟨rc, rn, ro, rx, ry⟩).2]) ∧ GmR w' A' a' B' b' C' d' (doG E F L ⟨rc, rn, ro, rx, ry⟩).1.1 (doG E F L ⟨rc, rn, ro, rx, ry⟩).1.2.1 (doG E F L ⟨rc, rn, ro, rx, ry⟩).1.2.2 ∧ Below w.heap.size w w'
 have BW : Hid (Below w.heap.size w (((w.alloc (.cells #[.slice A E.length a, .slice B F.length b, .slice C L.length d] 28)).alloc (.cells #[.int .i64 rc, .int .i64 rn, .int .i64 ro, .int .i64 rx, .int .i64 ry] 35)).alloc (.cells #[.slice none 0 0, .slice none 0 0, .slice none 0 0] 28))) := ((below_alloc2 w _ _).alloc (by simp; omega) _)
 have HSW : Hid ((((w.alloc (.cells #[.slice A E.length a, .slice B F.length b, .slice C L.length d] 28)).alloc (.cells #[.int .i64 rc, .int .i64 rn, .int .i64 ro, .int .i64 rx, .int .i64 ry] 35)).alloc (.cells #[.slice none 0 0, .slice none 0 0, .slice none 0 0] 28)).heap.size = w.heap.size + 3) := by show _ = _; simp
 have K0 : Hid (Three (((w.alloc (.cells #[.slice A E.length a, .slice B F.length b, .slice C L.length d] 28)).alloc (.cells #[.int .i64 rc, .int .i64 rn, .int .i64 ro, .int .i64 rx, .int .i64 ry] 35)).alloc (.cells #[.slice none 0 0, .slice none 0 0, .slice none 0 0] 28)) w.heap.size 28 (.slice A E.length a) (.slice B F.length b) (.slice C L.length d)) := ((Three.new w).alloc _).alloc _
 have KR : Hid (Bkk (((w.alloc (.cells #[.slice A E.length a, .slice B F.length b, .slice C L.length d] 28)).alloc (.cells #[.int .i64 rc, .int .i64 rn, .int .i64 ro, .int .i64 rx, .int .i64 ry] 35)).alloc (.cells #[.slice none 0 0, .slice none 0 0, .slice none 0 0] 28)) (w.heap.size + 1) 35 #[.int .i64 rc, .int .i64 rn, .int .i64 ro, .int .i64 rx, .int .i64 ry]) := by have := (Bkk.new (t := 35) (cs := #[.int .i64 rc, .int .i64 rn, .int .i64 ro, .int .i64 rx, .int .i64 ry]) (w.alloc (.cells #[.slice A E.length a, .slice B F.length b, .slice C L.length d] 28))).alloc (.cells #[.slice none 0 0, .slice none 0 0, .slice none 0 0] 28); simpa [Hid] using this
 have K1 : Hid (Three (((w.alloc (.cells #[.slice A E.length a, .slice B F.length b, .slice C L.length d] 28)).alloc (.cells #[.int .i64 rc, .int .i64 rn, .int .i64 ro, .int .i64 rx, .int .i64 ry] 35)).alloc (.cells #[.slice none 0 0, .slice none 0 0, .slice none 0 0] 28)) (w.heap.size + 1 + 1) 28 (.slice none 0 0) (.slice none 0 0) (.slice none 0 0)) := by have := Three.new (t := 28) (u0 := .slice none 0 0) (u1 := .slice none 0 0) (u2 := .slice none 0 0) ((w.alloc (.cells #[.slice A E.length a, .slice B F.length b, .slice C L.length d] 28)).alloc (.cells #[.int .i64 rc, .int .i64 rn, .int .i64 ro, .int .i64 rx, .int .i64 ry] 35)); simpa [Hid] using this
 have HG0 := Lib.hid hg
 have HGB := Lib.hid hgb
 have HG := Lib.hid (hg.below BW.out)
 have T0 := K0
 have T1 := K1
 have TR := KR
 have SZ := Lib.hid (show w.heap.size + 3 ≤ (((w.alloc (.cells #[.slice A E.length a, .slice B F.length b, .slice C L.length d] 28)).alloc (.cells #[.int .i64 rc, .int .i64 rn, .int .i64 ro, .int .i64 rx, .int .i64 ry] 35)).alloc (.cells #[.slice none 0 0, .slice none 0 0, .slice none 0 0] 28)).heap.size by rw [HSW.out]; omega)
 clear K0 K1 KR HSW
 have HR := Lib.hid (show okB ⟨rc, rn, ro, rx, ry⟩ = true by simp [okB, hn])
 have HQ := Lib.hid hq
 have HN := Lib.hid hn
 clear hq hn
 clear hg hgb
 unfold gameV
 go_enter Try.func15, Try.ntmps15
 go_wp2_with (fail)
 refine (l2Ok A a B b C d E F L _ hE hF hL HG.out.rE HG.out.rF HG.out.rL).mono ?_
 rintro e wa ⟨rfl, hb⟩
 rw [HGB.out]
 have Ba := Lib.hid (Below.and BW.out hb)
 have T0 := Lib.hid (T0.out.below hb (by have := SZ.out; omega))
 have T1 := Lib.hid (T1.out.below hb (by have := SZ.out; omega))
 have TR := Lib.hid (TR.out.below hb)
 have SZ := Lib.hid (show w.heap.size + 3 ≤ wa.heap.size by have := hb.size; have := SZ.out; omega)
 clear hb
 have xr0 : wa.cell? ⟨w.heap.size + 1, 0, none⟩ = some (.int .i64 rc) := TR.out.cell 0
 have xr1 : wa.cell? ⟨w.heap.size + 1, 1, none⟩ = some (.int .i64 rn) := TR.out.cell 1
 have xr2 : wa.cell? ⟨w.heap.size + 1, 2, none⟩ = some (.int .i64 ro) := TR.out.cell 2
 have xr3 : wa.cell? ⟨w.heap.size + 1, 3, none⟩ = some (.int .i64 rx) := TR.out.cell 3
 have xr4 : wa.cell? ⟨w.heap.size + 1, 4, none⟩ = some (.int .i64 ry) := TR.out.cell 4
 go_wp2_with (fail)
 refine (l1Ok rc rn ro rx ry _).mono ?_
 rintro e wb ⟨rfl, hb⟩
 rw [HQ.out]
 have Bb := Lib.hid (Below.and Ba.out hb)
 have T0 := Lib.hid (T0.out.below hb (by have := SZ.out; omega))
 have T1 := Lib.hid (T1.out.below hb (by have := SZ.out; omega))
 have TR := Lib.hid (TR.out.below hb)
 have SZ := Lib.hid (show w.heap.size + 3 ≤ wb.heap.size by have := hb.size; have := SZ.out; omega)
 clear hb
 clear xr0 xr1 xr2 xr3 xr4
 have xr0 : wb.cell? ⟨w.heap.size + 1, 0, none⟩ = some (.int .i64 rc) := TR.out.cell 0
 have xr1 : wb.cell? ⟨w.heap.size + 1, 1, none⟩ = some (.int .i64 rn) := TR.out.cell 1
 have xr2 : wb.cell? ⟨w.heap.size + 1, 2, none⟩ = some (.int .i64 ro) := TR.out.cell 2
 have xr3 : wb.cell? ⟨w.heap.size + 1, 3, none⟩ = some (.int .i64 rx) := TR.out.cell 3
 have xr4 : wb.cell? ⟨w.heap.size + 1, 4, none⟩ = some (.int .i64 ry) := TR.out.cell 4
 go_wp2_with (fail)
 refine (l1None ⟨rc, rn, ro, rx, ry⟩ _).mono ?_
 rintro e wc ⟨rfl, hb⟩
 rw [HN.out]
 have Bc := Lib.hid (Below.and Bb.out hb)
 have T0 := Lib.hid (T0.out.below hb (by have := SZ.out; omega))
 have T1 := Lib.hid (T1.out.below hb (by have := SZ.out; omega))
 have TR := Lib.hid (TR.out.below hb)
 have SZ := Lib.hid (show w.heap.size + 3 ≤ wc.heap.size by have := hb.size; have := SZ.out; omega)
 clear hb
 clear xr0 xr1 xr2 xr3 xr4
 go_wp2_with (fail)
 have SB : ∀ {wx : World}, Below wc.heap.size wc wx → ((fun W => W.cell? ⟨w.heap.size, 0, none⟩ = some (.slice A E.length a) ∧ W.cell? ⟨w.heap.size, 1, none⟩ = some (.slice B F.length b) ∧ W.cell? ⟨w.heap.size, 2, none⟩ = some (.slice C L.length d) ∧ W.cell? ⟨w.heap.size + 1, 0, none⟩ = some (.int .i64 rc) ∧ W.cell? ⟨w.heap.size + 1, 1, none⟩ = some (.int .i64 rn) ∧ W.cell? ⟨w.heap.size + 1, 2, none⟩ = some (.int .i64 ro) ∧ W.cell? ⟨w.heap.size + 1, 3, none⟩ = some (.int .i64 rx) ∧ W.cell? ⟨w.heap.size + 1, 4, none⟩ = some (.int .i64 ry))) wx := fun hb => by
  obtain ⟨s0, s1, s2⟩ := (T0.out.below hb T0.out.lt).cells
  have tr := TR.out.below hb
  exact ⟨s0, s1, s2, tr.cell 0, tr.cell 1, tr.cell 2, tr.cell 3, tr.cell 4⟩
 obtain ⟨s0, s1, s2, s3, s4, s5, s6, s7⟩ := SB (Below.refl _ _)
 have HD : Hid (Below wc.heap.size wc wc.drew) := (Below.refl _ _).drew
 have HGz := Lib.hid (HG0.out.below (Below.and Bc.out HD.out))
 have HO := Lib.hid (okG_of HGB.out)
 refine wp_region_held_drew (S := (fun W => W.cell? ⟨w.heap.size, 0, none⟩ = some (.slice A E.length a) ∧ W.cell? ⟨w.heap.size, 1, none⟩ = some (.slice B F.length b) ∧ W.cell? ⟨w.heap.size, 2, none⟩ = some (.slice C L.length d) ∧ W.cell? ⟨w.heap.size + 1, 0, none⟩ = some (.int .i64 rc) ∧ W.cell? ⟨w.heap.size + 1, 1, none⟩ = some (.int .i64 rn) ∧ W.cell? ⟨w.heap.size + 1, 2, none⟩ = some (.int .i64 ro) ∧ W.cell? ⟨w.heap.size + 1, 3, none⟩ = some (.int .i64 rx) ∧ W.cell? ⟨w.heap.size + 1, 4, none⟩ = some (.int .i64 ry))) (by kernel_rfl) ⟨s0, s1, s2, s3, s4, s5, s6, s7⟩ (fun hS0 => ?_)
 refine tkI 0 20 (v := ?_) rfl rfl ?_ ?_
 rotate_left
 · intro w1 hSw; (try dsimp only at hSw); go_split_ands; go_simp; (try with_reducible rfl)
 (try simp only [Act.put, pu1, pu2, pu3])
 refine tkI 2 22 (v := ?_) rfl rfl ?_ ?_
 rotate_left
 · intro w1 hSw; (try dsimp only at hSw); go_split_ands; go_simp; (try with_reducible rfl)
 (try simp only [Act.put, pu1, pu2, pu3])
 refine wpAnyH_ready (rs := [1]) (by kernel_rfl) (by simp) ?_
 refine AllReadyH.cons rfl (fun K hK => ?_) AllReadyH.nil
 go_simp
 refine (l2Copy A a B b C d E F L _ HO.out.e.len (by rw [HO.out.f]; omega) (by rw [HO.out.l]; omega) HGz.out.rE HGz.out.rF HGz.out.rL (nil_cap HGz.out.nA) (nil_cap HGz.out.nB) (nil_cap HGz.out.nC)).mono ?_
 rintro e wd ⟨A1, a1, B1, b1, C1, d1, rfl, oE, oF, oL, _, _, _, hb⟩
 have HBd := Lib.hid (Below.and HD.out hb)
 have GL : Hid (GmR wd A1 a1 B1 b1 C1 d1 E F L) := ⟨RdF.of_own oE, RdI.of_own oF, RdI.of_own oL, (own_cap oE).1, (own_cap oF).1, (own_cap oL).1, (own_cap oE).2, (own_cap oF).2, (own_cap oL).2, (fun x hx => (own_at oE x hx).2), (fun x hx => (own_at oF x hx).2), (fun x hx => (own_at oL x hx).2)⟩
 clear hb oE oF oL
 have hS1 := SB HBd.out
 refine hK.out _ _ hS1 (fun hS2 => ?_)
 clear hK K
 (try simp only [Act.put, pu1, pu2, pu3])
 refine wpAnyH_ready (rs := [3]) (by kernel_rfl) (by simp) ?_
 refine AllReadyH.cons rfl (fun K hK => ?_) AllReadyH.nil
 go_simp
 refine (specDo A1 a1 B1 b1 C1 d1 E F L ⟨rc, rn, ro, rx, ry⟩ _ HO.out HR.out GL.out).mono ?_
 unfold DoR
 rintro e we ⟨A', a', B', b', C', d', rfl, hG, hb⟩
 have HBe := Lib.hid (Below.and HBd.out (hb.mono (Nat.le_refl _)))
 have HGe := Lib.hid hG
 clear hb hG
 obtain ⟨N3, hN3⟩ : ∃ N3, N3 = (doG E F L ⟨rc, rn, ro, rx, ry⟩).1.1.length := ⟨_, rfl⟩
 obtain ⟨M3, hM3⟩ : ∃ M3, M3 = (doG E F L ⟨rc, rn, ro, rx, ry⟩).1.2.1.length := ⟨_, rfl⟩
 obtain ⟨K3, hK3⟩ : ∃ K3, K3 = (doG E F L ⟨rc, rn, ro, rx, ry⟩).1.2.2.length := ⟨_, rfl⟩
 obtain ⟨C3, hC3⟩ : ∃ C3, C3 = (doG E F L ⟨rc, rn, ro, rx, ry⟩).2 := ⟨_, rfl⟩
 have HN3 := Lib.hid hN3
 have HM3 := Lib.hid hM3
 have HK3 := Lib.hid hK3
 have HC3 := Lib.hid hC3
 unfold gameV
 rw [← hN3, ← hM3, ← hK3, ← hC3]
 clear hN3 hM3 hK3 hC3
 have hS3 := SB HBe.out
 refine hK.out _ _ hS3 (fun hS4 => ?_)
 clear hK K
 (try simp only [Act.put, pu1, pu2, pu3])
 have T1 := Lib.hid (T1.out.below HBe.out (by have := SZ.out; omega))
 obtain ⟨z0, z1, z2⟩ := T1.out.cells
 have zf := T1.out.frozen
 obtain ⟨s0, s1, s2, s3, s4, s5, s6, s7⟩ := hS4
 refine tkI 4 24 (v := ?_) rfl rfl ?_ ?_
 rotate_left
 · intro w1 hSw; (try dsimp only at hSw); go_split_ands; go_simp; (try with_reducible rfl)
 (try simp only [Act.put, pu1, pu2, pu3])
 refine tkI 5 25 (v := ?_) rfl rfl ?_ ?_
 rotate_left
 · intro w1 hSw; (try dsimp only at hSw); go_split_ands; go_simp; (try with_reducible rfl)
 (try simp only [Act.put, pu1, pu2, pu3])
 refine wpAnyH_ready (rs := [6]) (by kernel_rfl) (by simp) ?_
 refine AllReadyH.cons rfl (fun K hK => ?_) AllReadyH.nil
 go_simp
 refine hK.out _ _ ⟨by go_simp, by go_simp, by go_simp, by go_simp, by go_simp, by go_simp, by go_simp, by go_simp⟩ (fun hS5 => ?_)
 clear hK K
 (try simp only [Act.put, pu1, pu2, pu3])
 refine tkI 7 5 (v := ?_) rfl rfl ?_ ?_
 rotate_left
 · intro w1 hSw; (try dsimp only at hSw); go_split_ands; go_simp; (try with_reducible rfl)
 (try simp only [Act.put, pu1, pu2, pu3])
 refine wpAnyH_done (by kernel_rfl) ?_ _
 go_wp2
 refine bodyPost_ret (v := .tuple #[.agg #[.slice A' N3 a', .slice B' M3 b', .slice C' K3 d'], .int .i64 C3]) (by simp [results, Try.results15, go_sem, z0, z1, z2]) rfl ⟨A', a', B', b', C', d', by rw [HN3.out, HM3.out, HK3.out, HC3.out], ?_, ?_⟩
 · exact ((HGe.out.box T1.out.cells.1 0 _).box (T1.out.set0 _).cells.1 1 _).box ((T1.out.set0 _).set1 _).cells.1 2 _
 · iterate 3 (refine Below.setCell ?_ (by first | (simp; done) | (simp; omega)) _)
   exact Below.and Bc.out HBe.out

set_option maxRecDepth 100000 in
set_option maxHeartbeats 400000 in
theorem specGameDo (A : Option Addr) (a : Nat) (B : Option Addr) (b : Nat) (C : Option Addr) (d : Nat) (E : List Fig) (F L : List Int) (r : Rq) (w : World) (hE : E.length ≤ 1048576) (hF : F.length ≤ 1048576) (hL : L.length ≤ 1048576) (hg : GmR w A a B b C d E F L) :
 Calls Try.prog 15 #[gameV A E.length a B F.length b C L.length d, r.val] w (DoR (stepG E F L r) w) := by
 obtain ⟨rc, rn, ro, rx, ry⟩ := r
 rcases hgb : gokB E F L with _ | _
 · have hA : stepG E F L ⟨rc, rn, ro, rx, ry⟩ = (([], [], []), 1) := by simp [stepG, hgb]
   rw [hA]
   exact stepBad1 A a B b C d E F L rc rn ro rx ry w hE hF hL hgb hg.gl
 rcases hq : reqB rc rn ro rx ry with _ | _
 · rcases hn : nullB ⟨rc, rn, ro, rx, ry⟩ with _ | _
   · have hA : stepG E F L ⟨rc, rn, ro, rx, ry⟩ = (([], [], []), 1) := by simp [stepG, okB, rqB, hq, hn]
     rw [hA]
     exact stepBad2 A a B b C d E F L rc rn ro rx ry w hE hF hL hgb hq hn hg
   · have hA : stepG E F L ⟨rc, rn, ro, rx, ry⟩ = doG E F L ⟨rc, rn, ro, rx, ry⟩ := by simp [stepG, okB, hgb, hn]
     rw [hA]
     exact stepGood2 A a B b C d E F L rc rn ro rx ry w hE hF hL hgb hq hn hg
 · have hA : stepG E F L ⟨rc, rn, ro, rx, ry⟩ = doG E F L ⟨rc, rn, ro, rx, ry⟩ := by simp [stepG, okB, rqB, hgb, hq]
   rw [hA]
   exact stepGood1 A a B b C d E F L rc rn ro rx ry w hE hF hL hgb hq hg

end Go.Proofs.Ytagjkngiijmokaa
