import Derived.Test.YtameldhdegcpoaaNH
namespace Go.Proofs.Ytameldhdegcpoaa
open Go.ChangeShapes Go.WideShapes Go.ChangeAt Go.RowKit
set_option linter.unusedVariables false
set_option linter.unusedSimpArgs false
structure OwG (w : World) (lo : Nat) (A : Option Addr) (a : Nat) (B : Option Addr) (b : Nat) (C : Option Addr) (d : Nat) (E : List Fig) (F L : List Int) : Prop where
 e : w.ownsRow lo 72 5 (.slice A E.length a) E.length (figs E)
 f : w.ownsRow lo 3 1 (.slice B F.length b) F.length (ints F)
 l : w.ownsRow lo 3 1 (.slice C L.length d) L.length (ints L)
 ef : ∀ x, (Value.slice A E.length a).ownBlock = some x → (Value.slice B F.length b).ownBlock ≠ some x
 el : ∀ x, (Value.slice A E.length a).ownBlock = some x → (Value.slice C L.length d).ownBlock ≠ some x
 fl : ∀ x, (Value.slice B F.length b).ownBlock = some x → (Value.slice C L.length d).ownBlock ≠ some x
def DoI (X : Gm × Int) (w : World) (e : Ending) (w' : World) : Prop :=
 ∃ A' a' B' b' C' d', e = .returned (.tuple #[gameV A' X.1.1.length a' B' X.1.2.1.length b' C' X.1.2.2.length d', .int .i64 X.2]) ∧ OwG w' w.heap.size A' a' B' b' C' d' X.1.1 X.1.2.1 X.1.2.2 ∧ Below w.heap.size w w'
theorem OwG.nil (w : World) (lo : Nat) : OwG w lo none 0 none 0 none 0 [] [] [] :=
 ⟨World.ownsRow_nil _ _ _ _, World.ownsRow_nil _ _ _ _, World.ownsRow_nil _ _ _ _, (fun _ h => by cases h), (fun _ h => by cases h), (fun _ h => by cases h)⟩
theorem Bd.own {w : World} {p lo : Nat} {A : Option Addr} {a : Nat} {B : Option Addr} {b : Nat} {C : Option Addr} {d : Nat} {E : List Fig} {F L : List Int} (h : Bd w p lo A a B b C d E F L) : OwG w lo A a B b C d E F L := ⟨h.e, h.f, h.l, h.ef, h.el, h.fl⟩
theorem OwG.base {w : World} {p lo : Nat} {A : Option Addr} {a : Nat} {B : Option Addr} {b : Nat} {C : Option Addr} {d : Nat} {E : List Fig} {F L : List Int} (h : OwG w p A a B b C d E F L) (hl : lo ≤ p) : OwG w lo A a B b C d E F L := ⟨own_base h.e hl, own_base h.f hl, own_base h.l hl, h.ef, h.el, h.fl⟩
theorem OwG.put {w : World} {lo : Nat} {A : Option Addr} {a : Nat} {B : Option Addr} {b : Nat} {C : Option Addr} {d : Nat} {E : List Fig} {F L : List Int} (h : OwG w lo A a B b C d E F L) {q : Nat} (hq : q < lo) (o : Nat) (u : Value) : OwG (w.setCell ⟨q, o, none⟩ u) lo A a B b C d E F L := ⟨own_put h.e hq o u, own_put h.f hq o u, own_put h.l hq o u, h.ef, h.el, h.fl⟩
theorem Bd.drew {w : World} {p lo : Nat} {A : Option Addr} {a : Nat} {B : Option Addr} {b : Nat} {C : Option Addr} {d : Nat} {E : List Fig} {F L : List Int} (h : Bd w p lo A a B b C d E F L) : Bd w.drew p lo A a B b C d E F L := h.below (Below.refl _ _).drew
theorem Bd.setL {w : World} {p lo : Nat} {A : Option Addr} {a : Nat} {B : Option Addr} {b d : Nat} {E : List Fig} {F L : List Int} {g : Nat} (h : Bd w p lo A a B b (some ⟨g, 0, none⟩) d E F L) (k : Nat) (hk : k < L.length) (v : Int) : Bd (w.setCell ⟨g, k, none⟩ (.int .i64 v)) p lo A a B b (some ⟨g, 0, none⟩) d E F (L.set k v) := by
 have hn : L.length = (L.set k v).length := by simp
 have hl : k < (ints L).length := by simpa [ints] using hk
 obtain ⟨h1, h2⟩ := own_set1 k (.int .i64 v) hl h.l
 have hi : (ints L).set k (.int .i64 v) = ints (L.set k v) := by unfold ints; rw [List.map_set]
 rw [hi, hn] at h1
 have e0 := h.at_
 have e2 := h.el
 have e3 := h.fl
 have e4 := h.pl
 rw [hn] at e0 e2 e3 e4
 refine ⟨e0.grown h2 (by simpa [Value.ownBlock] using fun e => h.pl (by rw [← e]; rfl)), ?_, ?_, h1, h.ef, e2, e3, h.pe, h.pf, e4, h.lo⟩
 · exact h.e.kept h2 (.inr fun e => h.el g e rfl)
 · exact h.f.kept h2 (.inr fun e => h.fl g e rfl)
theorem Bd.new {w : World} {lo : Nat} {A : Option Addr} {a : Nat} {B : Option Addr} {b : Nat} {C : Option Addr} {d : Nat} {E : List Fig} {F L : List Int} (h : OwG w lo A a B b C d E F L) (hl : lo ≤ w.heap.size) : Bd (w.alloc (.cells #[.slice A E.length a, .slice B F.length b, .slice C L.length d] 29)) w.heap.size lo A a B b C d E F L := by
 have hb : Below w.heap.size w (w.alloc (.cells #[.slice A E.length a, .slice B F.length b, .slice C L.length d] 29)) := (Below.refl _ _).alloc (Nat.le_refl _) _
 refine ⟨Three.new w, own_keepN h.e (Below.grownBy hb none), own_keepN h.f (Below.grownBy hb none), own_keepN h.l (Below.grownBy hb none), h.ef, h.el, h.fl, fun e => ?_, fun e => ?_, fun e => ?_, hl⟩
 · have := (own_block_ge h.e _ e).2; omega
 · have := (own_block_ge h.f _ e).2; omega
 · have := (own_block_ge h.l _ e).2; omega
theorem perfG_L (E : List Fig) (F L : List Int) (r : Rq) : (perfG E F L r).1.2.2 = L := by
 unfold perfG
 split
 · split <;> rfl
 · split
   · rfl
   · split
     · rfl
     · exact actG_L _ _ _ _ _ _
set_option maxRecDepth 100000 in
set_option maxHeartbeats 8000000 in
theorem stepBadI1 (A : Option Addr) (a : Nat) (B : Option Addr) (b : Nat) (C : Option Addr) (d : Nat) (E : List Fig) (F L : List Int) (rc rn ro rx ry : Int) (w : World) (hE : E.length ≤ 1048576) (hF : F.length ≤ 1048576) (hL : L.length ≤ 1048576) (hgb : gokB E F L = false) (hg : GmL w A B C E F L) :
 Calls Try.prog 36 #[gameV A E.length a B F.length b C L.length d, .agg #[.int .i64 rc, .int .i64 rn, .int .i64 ro, .int .i64 rx, .int .i64 ry]] w (DoI (([], [], []), 1) w) := by
 have BW : Hid (Below w.heap.size w (((w.alloc (.cells #[.slice A E.length a, .slice B F.length b, .slice C L.length d] 29)).alloc (.cells #[.int .i64 rc, .int .i64 rn, .int .i64 ro, .int .i64 rx, .int .i64 ry] 49)).alloc (.cells #[.slice none 0 0, .slice none 0 0, .slice none 0 0] 29))) := ((below_alloc2 w _ _).alloc (by simp; omega) _)
 have HSW : Hid ((((w.alloc (.cells #[.slice A E.length a, .slice B F.length b, .slice C L.length d] 29)).alloc (.cells #[.int .i64 rc, .int .i64 rn, .int .i64 ro, .int .i64 rx, .int .i64 ry] 49)).alloc (.cells #[.slice none 0 0, .slice none 0 0, .slice none 0 0] 29)).heap.size = w.heap.size + 3) := by show _ = _; simp
 have K0 : Hid (Three (((w.alloc (.cells #[.slice A E.length a, .slice B F.length b, .slice C L.length d] 29)).alloc (.cells #[.int .i64 rc, .int .i64 rn, .int .i64 ro, .int .i64 rx, .int .i64 ry] 49)).alloc (.cells #[.slice none 0 0, .slice none 0 0, .slice none 0 0] 29)) w.heap.size 29 (.slice A E.length a) (.slice B F.length b) (.slice C L.length d)) := ((Three.new w).alloc _).alloc _
 have KR : Hid (Bkk (((w.alloc (.cells #[.slice A E.length a, .slice B F.length b, .slice C L.length d] 29)).alloc (.cells #[.int .i64 rc, .int .i64 rn, .int .i64 ro, .int .i64 rx, .int .i64 ry] 49)).alloc (.cells #[.slice none 0 0, .slice none 0 0, .slice none 0 0] 29)) (w.heap.size + 1) 49 #[.int .i64 rc, .int .i64 rn, .int .i64 ro, .int .i64 rx, .int .i64 ry]) := by have := (Bkk.new (t := 49) (cs := #[.int .i64 rc, .int .i64 rn, .int .i64 ro, .int .i64 rx, .int .i64 ry]) (w.alloc (.cells #[.slice A E.length a, .slice B F.length b, .slice C L.length d] 29))).alloc (.cells #[.slice none 0 0, .slice none 0 0, .slice none 0 0] 29); simpa [Hid] using this
 have K1 : Hid (Three (((w.alloc (.cells #[.slice A E.length a, .slice B F.length b, .slice C L.length d] 29)).alloc (.cells #[.int .i64 rc, .int .i64 rn, .int .i64 ro, .int .i64 rx, .int .i64 ry] 49)).alloc (.cells #[.slice none 0 0, .slice none 0 0, .slice none 0 0] 29)) (w.heap.size + 1 + 1) 29 (.slice none 0 0) (.slice none 0 0) (.slice none 0 0)) := by have := Three.new (t := 29) (u0 := .slice none 0 0) (u1 := .slice none 0 0) (u2 := .slice none 0 0) ((w.alloc (.cells #[.slice A E.length a, .slice B F.length b, .slice C L.length d] 29)).alloc (.cells #[.int .i64 rc, .int .i64 rn, .int .i64 ro, .int .i64 rx, .int .i64 ry] 49)); simpa [Hid] using this
 have HG0 := Lib.hid hg
 have HGB := Lib.hid hgb
 have HG := Lib.hid (hg.below BW.out)
 have BF := BW
 have T0 := K0
 have T1 := K1
 have TR := KR
 have SZ := Lib.hid (show w.heap.size + 3 ≤ (((w.alloc (.cells #[.slice A E.length a, .slice B F.length b, .slice C L.length d] 29)).alloc (.cells #[.int .i64 rc, .int .i64 rn, .int .i64 ro, .int .i64 rx, .int .i64 ry] 49)).alloc (.cells #[.slice none 0 0, .slice none 0 0, .slice none 0 0] 29)).heap.size by rw [HSW.out]; omega)
 clear K0 K1 KR HSW BW
 clear hg hgb
 unfold gameV
 go_enter Try.func36, Try.ntmps36
 go_wp2_with (fail)
 refine (gameOkJ A a B b C d E F L _ hE hF hL HG.out.rE HG.out.rF HG.out.r4).mono ?_
 rintro e wa ⟨rfl, hb⟩
 rw [HGB.out]
 have BF := Lib.hid (Below.and BF.out hb)
 have T0 := Lib.hid (T0.out.below hb (by have := SZ.out; omega))
 have T1 := Lib.hid (T1.out.below hb (by have := SZ.out; omega))
 have TR := Lib.hid (TR.out.below hb)
 have SZ := Lib.hid (show w.heap.size + 3 ≤ wa.heap.size by have := hb.size; have := SZ.out; omega)
 clear hb
 obtain ⟨z0, z1, z2⟩ := T1.out.cells
 have zf := T1.out.frozen
 have BG : ∀ p0 p1 p2 : Value, Below w.heap.size w (((wa.setCell ⟨w.heap.size + 1 + 1, 0, none⟩ p0).setCell ⟨w.heap.size + 1 + 1, 1, none⟩ p1).setCell ⟨w.heap.size + 1 + 1, 2, none⟩ p2) := fun p0 p1 p2 => by
  iterate 3 (refine Below.setCell ?_ (by first | (simp; done) | (simp; omega)) _)
  exact BF.out
 go_wp2
 refine bodyPost_ret (v := .tuple #[.agg #[.slice none 0 0, .slice none 0 0, .slice none 0 0], .int .i64 1]) (by simp [results, Try.results36, go_sem, z0, z1, z2]) rfl ⟨none, 0, none, 0, none, 0, rfl, OwG.nil _ _, BG _ _ _⟩
set_option maxRecDepth 100000 in
set_option maxHeartbeats 8000000 in
theorem stepBadI2 (A : Option Addr) (a : Nat) (B : Option Addr) (b : Nat) (C : Option Addr) (d : Nat) (E : List Fig) (F L : List Int) (rc rn ro rx ry : Int) (w : World) (hE : E.length ≤ 1048576) (hF : F.length ≤ 1048576) (hL : L.length ≤ 1048576) (hgb : gokB E F L = true) (hok : okB ⟨rc, rn, ro, rx, ry⟩ = false) (hg : GmR w A a B b C d E F L) :
 Calls Try.prog 36 #[gameV A E.length a B F.length b C L.length d, .agg #[.int .i64 rc, .int .i64 rn, .int .i64 ro, .int .i64 rx, .int .i64 ry]] w (DoI (([], [], []), 1) w) := by
 have HOK := Lib.hid hok
 clear hok
 have BW : Hid (Below w.heap.size w (((w.alloc (.cells #[.slice A E.length a, .slice B F.length b, .slice C L.length d] 29)).alloc (.cells #[.int .i64 rc, .int .i64 rn, .int .i64 ro, .int .i64 rx, .int .i64 ry] 49)).alloc (.cells #[.slice none 0 0, .slice none 0 0, .slice none 0 0] 29))) := ((below_alloc2 w _ _).alloc (by simp; omega) _)
 have HSW : Hid ((((w.alloc (.cells #[.slice A E.length a, .slice B F.length b, .slice C L.length d] 29)).alloc (.cells #[.int .i64 rc, .int .i64 rn, .int .i64 ro, .int .i64 rx, .int .i64 ry] 49)).alloc (.cells #[.slice none 0 0, .slice none 0 0, .slice none 0 0] 29)).heap.size = w.heap.size + 3) := by show _ = _; simp
 have K0 : Hid (Three (((w.alloc (.cells #[.slice A E.length a, .slice B F.length b, .slice C L.length d] 29)).alloc (.cells #[.int .i64 rc, .int .i64 rn, .int .i64 ro, .int .i64 rx, .int .i64 ry] 49)).alloc (.cells #[.slice none 0 0, .slice none 0 0, .slice none 0 0] 29)) w.heap.size 29 (.slice A E.length a) (.slice B F.length b) (.slice C L.length d)) := ((Three.new w).alloc _).alloc _
 have KR : Hid (Bkk (((w.alloc (.cells #[.slice A E.length a, .slice B F.length b, .slice C L.length d] 29)).alloc (.cells #[.int .i64 rc, .int .i64 rn, .int .i64 ro, .int .i64 rx, .int .i64 ry] 49)).alloc (.cells #[.slice none 0 0, .slice none 0 0, .slice none 0 0] 29)) (w.heap.size + 1) 49 #[.int .i64 rc, .int .i64 rn, .int .i64 ro, .int .i64 rx, .int .i64 ry]) := by have := (Bkk.new (t := 49) (cs := #[.int .i64 rc, .int .i64 rn, .int .i64 ro, .int .i64 rx, .int .i64 ry]) (w.alloc (.cells #[.slice A E.length a, .slice B F.length b, .slice C L.length d] 29))).alloc (.cells #[.slice none 0 0, .slice none 0 0, .slice none 0 0] 29); simpa [Hid] using this
 have K1 : Hid (Three (((w.alloc (.cells #[.slice A E.length a, .slice B F.length b, .slice C L.length d] 29)).alloc (.cells #[.int .i64 rc, .int .i64 rn, .int .i64 ro, .int .i64 rx, .int .i64 ry] 49)).alloc (.cells #[.slice none 0 0, .slice none 0 0, .slice none 0 0] 29)) (w.heap.size + 1 + 1) 29 (.slice none 0 0) (.slice none 0 0) (.slice none 0 0)) := by have := Three.new (t := 29) (u0 := .slice none 0 0) (u1 := .slice none 0 0) (u2 := .slice none 0 0) ((w.alloc (.cells #[.slice A E.length a, .slice B F.length b, .slice C L.length d] 29)).alloc (.cells #[.int .i64 rc, .int .i64 rn, .int .i64 ro, .int .i64 rx, .int .i64 ry] 49)); simpa [Hid] using this
 have HG0 := Lib.hid hg
 have HGB := Lib.hid hgb
 have HG := Lib.hid (hg.below BW.out)
 have BF := BW
 have T0 := K0
 have T1 := K1
 have TR := KR
 have SZ := Lib.hid (show w.heap.size + 3 ≤ (((w.alloc (.cells #[.slice A E.length a, .slice B F.length b, .slice C L.length d] 29)).alloc (.cells #[.int .i64 rc, .int .i64 rn, .int .i64 ro, .int .i64 rx, .int .i64 ry] 49)).alloc (.cells #[.slice none 0 0, .slice none 0 0, .slice none 0 0] 29)).heap.size by rw [HSW.out]; omega)
 clear K0 K1 KR HSW BW
 clear hg hgb
 unfold gameV
 go_enter Try.func36, Try.ntmps36
 go_wp2_with (fail)
 refine (gameOk A a B b C d E F L _ hE hF hL HG.out.rE HG.out.rF HG.out.rL).mono ?_
 rintro e wa ⟨rfl, hb⟩
 rw [HGB.out]
 have BF := Lib.hid (Below.and BF.out hb)
 have T0 := Lib.hid (T0.out.below hb (by have := SZ.out; omega))
 have T1 := Lib.hid (T1.out.below hb (by have := SZ.out; omega))
 have TR := Lib.hid (TR.out.below hb)
 have SZ := Lib.hid (show w.heap.size + 3 ≤ wa.heap.size by have := hb.size; have := SZ.out; omega)
 clear hb
 have xr0 : wa.cell? ⟨w.heap.size + 1, 0, none⟩ = some (.int .i64 rc) := TR.out.cell 0
 have xr1 : wa.cell? ⟨w.heap.size + 1, 1, none⟩ = some (.int .i64 rn) := TR.out.cell 1
 have xr2 : wa.cell? ⟨w.heap.size + 1, 2, none⟩ = some (.int .i64 ro) := TR.out.cell 2
 have xr3 : wa.cell? ⟨w.heap.size + 1, 3, none⟩ = some (.int .i64 rx) := TR.out.cell 3
 have xr4 : wa.cell? ⟨w.heap.size + 1, 4, none⟩ = some (.int .i64 ry) := TR.out.cell 4
 go_wp2_with (fail)
 refine (okOrNull ⟨rc, rn, ro, rx, ry⟩ _).mono ?_
 rintro e wb ⟨rfl, hb⟩
 rw [HOK.out]
 clear xr0 xr1 xr2 xr3 xr4
 have BF := Lib.hid (Below.and BF.out hb)
 have T0 := Lib.hid (T0.out.below hb (by have := SZ.out; omega))
 have T1 := Lib.hid (T1.out.below hb (by have := SZ.out; omega))
 have TR := Lib.hid (TR.out.below hb)
 have SZ := Lib.hid (show w.heap.size + 3 ≤ wb.heap.size by have := hb.size; have := SZ.out; omega)
 clear hb
 obtain ⟨z0, z1, z2⟩ := T1.out.cells
 have zf := T1.out.frozen
 have BG : ∀ p0 p1 p2 : Value, Below w.heap.size w (((wb.setCell ⟨w.heap.size + 1 + 1, 0, none⟩ p0).setCell ⟨w.heap.size + 1 + 1, 1, none⟩ p1).setCell ⟨w.heap.size + 1 + 1, 2, none⟩ p2) := fun p0 p1 p2 => by
  iterate 3 (refine Below.setCell ?_ (by first | (simp; done) | (simp; omega)) _)
  exact BF.out
 go_wp2
 refine bodyPost_ret (v := .tuple #[.agg #[.slice none 0 0, .slice none 0 0, .slice none 0 0], .int .i64 1]) (by simp [results, Try.results36, go_sem, z0, z1, z2]) rfl ⟨none, 0, none, 0, none, 0, rfl, OwG.nil _ _, BG _ _ _⟩
set_option maxRecDepth 100000 in
set_option maxHeartbeats 8000000 in
theorem stepNullI (A : Option Addr) (a : Nat) (B : Option Addr) (b : Nat) (C : Option Addr) (d : Nat) (E : List Fig) (F L : List Int) (rc rn ro rx ry : Int) (w : World) (hE : E.length ≤ 1048576) (hF : F.length ≤ 1048576) (hL : L.length ≤ 1048576) (hgb : gokB E F L = true) (hok : okB ⟨rc, rn, ro, rx, ry⟩ = true) (hn : nullB ⟨rc, rn, ro, rx, ry⟩ = true) (hg : GmR w A a B b C d E F L) :
 Calls Try.prog 36 #[gameV A E.length a B F.length b C L.length d, .agg #[.int .i64 rc, .int .i64 rn, .int .i64 ro, .int .i64 rx, .int .i64 ry]] w (DoI ((E, F, L), 2) w) := by
 have HOK := Lib.hid hok
 clear hok
 have HN := Lib.hid hn
 clear hn
 have BW : Hid (Below w.heap.size w (((w.alloc (.cells #[.slice A E.length a, .slice B F.length b, .slice C L.length d] 29)).alloc (.cells #[.int .i64 rc, .int .i64 rn, .int .i64 ro, .int .i64 rx, .int .i64 ry] 49)).alloc (.cells #[.slice none 0 0, .slice none 0 0, .slice none 0 0] 29))) := ((below_alloc2 w _ _).alloc (by simp; omega) _)
 have HSW : Hid ((((w.alloc (.cells #[.slice A E.length a, .slice B F.length b, .slice C L.length d] 29)).alloc (.cells #[.int .i64 rc, .int .i64 rn, .int .i64 ro, .int .i64 rx, .int .i64 ry] 49)).alloc (.cells #[.slice none 0 0, .slice none 0 0, .slice none 0 0] 29)).heap.size = w.heap.size + 3) := by show _ = _; simp
 have K0 : Hid (Three (((w.alloc (.cells #[.slice A E.length a, .slice B F.length b, .slice C L.length d] 29)).alloc (.cells #[.int .i64 rc, .int .i64 rn, .int .i64 ro, .int .i64 rx, .int .i64 ry] 49)).alloc (.cells #[.slice none 0 0, .slice none 0 0, .slice none 0 0] 29)) w.heap.size 29 (.slice A E.length a) (.slice B F.length b) (.slice C L.length d)) := ((Three.new w).alloc _).alloc _
 have KR : Hid (Bkk (((w.alloc (.cells #[.slice A E.length a, .slice B F.length b, .slice C L.length d] 29)).alloc (.cells #[.int .i64 rc, .int .i64 rn, .int .i64 ro, .int .i64 rx, .int .i64 ry] 49)).alloc (.cells #[.slice none 0 0, .slice none 0 0, .slice none 0 0] 29)) (w.heap.size + 1) 49 #[.int .i64 rc, .int .i64 rn, .int .i64 ro, .int .i64 rx, .int .i64 ry]) := by have := (Bkk.new (t := 49) (cs := #[.int .i64 rc, .int .i64 rn, .int .i64 ro, .int .i64 rx, .int .i64 ry]) (w.alloc (.cells #[.slice A E.length a, .slice B F.length b, .slice C L.length d] 29))).alloc (.cells #[.slice none 0 0, .slice none 0 0, .slice none 0 0] 29); simpa [Hid] using this
 have K1 : Hid (Three (((w.alloc (.cells #[.slice A E.length a, .slice B F.length b, .slice C L.length d] 29)).alloc (.cells #[.int .i64 rc, .int .i64 rn, .int .i64 ro, .int .i64 rx, .int .i64 ry] 49)).alloc (.cells #[.slice none 0 0, .slice none 0 0, .slice none 0 0] 29)) (w.heap.size + 1 + 1) 29 (.slice none 0 0) (.slice none 0 0) (.slice none 0 0)) := by have := Three.new (t := 29) (u0 := .slice none 0 0) (u1 := .slice none 0 0) (u2 := .slice none 0 0) ((w.alloc (.cells #[.slice A E.length a, .slice B F.length b, .slice C L.length d] 29)).alloc (.cells #[.int .i64 rc, .int .i64 rn, .int .i64 ro, .int .i64 rx, .int .i64 ry] 49)); simpa [Hid] using this
 have HG0 := Lib.hid hg
 have HGB := Lib.hid hgb
 have HG := Lib.hid (hg.below BW.out)
 have BF := BW
 have T0 := K0
 have T1 := K1
 have TR := KR
 have SZ := Lib.hid (show w.heap.size + 3 ≤ (((w.alloc (.cells #[.slice A E.length a, .slice B F.length b, .slice C L.length d] 29)).alloc (.cells #[.int .i64 rc, .int .i64 rn, .int .i64 ro, .int .i64 rx, .int .i64 ry] 49)).alloc (.cells #[.slice none 0 0, .slice none 0 0, .slice none 0 0] 29)).heap.size by rw [HSW.out]; omega)
 clear K0 K1 KR HSW BW
 clear hg hgb
 unfold gameV
 go_enter Try.func36, Try.ntmps36
 go_wp2_with (fail)
 refine (gameOk A a B b C d E F L _ hE hF hL HG.out.rE HG.out.rF HG.out.rL).mono ?_
 rintro e wa ⟨rfl, hb⟩
 rw [HGB.out]
 have BF := Lib.hid (Below.and BF.out hb)
 have T0 := Lib.hid (T0.out.below hb (by have := SZ.out; omega))
 have T1 := Lib.hid (T1.out.below hb (by have := SZ.out; omega))
 have TR := Lib.hid (TR.out.below hb)
 have SZ := Lib.hid (show w.heap.size + 3 ≤ wa.heap.size by have := hb.size; have := SZ.out; omega)
 clear hb
 have xr0 : wa.cell? ⟨w.heap.size + 1, 0, none⟩ = some (.int .i64 rc) := TR.out.cell 0
 have xr1 : wa.cell? ⟨w.heap.size + 1, 1, none⟩ = some (.int .i64 rn) := TR.out.cell 1
 have xr2 : wa.cell? ⟨w.heap.size + 1, 2, none⟩ = some (.int .i64 ro) := TR.out.cell 2
 have xr3 : wa.cell? ⟨w.heap.size + 1, 3, none⟩ = some (.int .i64 rx) := TR.out.cell 3
 have xr4 : wa.cell? ⟨w.heap.size + 1, 4, none⟩ = some (.int .i64 ry) := TR.out.cell 4
 go_wp2_with (fail)
 refine (okOrNull ⟨rc, rn, ro, rx, ry⟩ _).mono ?_
 rintro e wb ⟨rfl, hb⟩
 rw [HOK.out]
 clear xr0 xr1 xr2 xr3 xr4
 have BF := Lib.hid (Below.and BF.out hb)
 have T0 := Lib.hid (T0.out.below hb (by have := SZ.out; omega))
 have T1 := Lib.hid (T1.out.below hb (by have := SZ.out; omega))
 have TR := Lib.hid (TR.out.below hb)
 have SZ := Lib.hid (show w.heap.size + 3 ≤ wb.heap.size by have := hb.size; have := SZ.out; omega)
 clear hb
 obtain ⟨y0, y1, y2⟩ := T0.out.cells
 have HO := Lib.hid (okG_of HGB.out)
 have HGz := Lib.hid (HG0.out.below BF.out)
 go_wp2_with (fail)
 refine (copyGame A a B b C d E F L _ HO.out.e.len (by rw [HO.out.f]; omega) (by rw [HO.out.l]; omega) HGz.out.rE HGz.out.rF HGz.out.rL (nil_cap HGz.out.nA) (nil_cap HGz.out.nB) (nil_cap HGz.out.nC)).mono ?_
 rintro e wc ⟨A1, a1, B1, b1, C1, d1, rfl, oE, oF, oL, q1, q2, q3, hb⟩
 clear y0 y1 y2 HGz
 have HB := Lib.hid (Bd.new ⟨oE, oF, oL, q1, q2, q3⟩ hb.size)
 have LO := Lib.hid SZ.out
 clear oE oF oL q1 q2 q3
 have BF := Lib.hid (Below.and BF.out hb)
 have T0 := Lib.hid (T0.out.below hb (by have := SZ.out; omega))
 have T1 := Lib.hid (T1.out.below hb (by have := SZ.out; omega))
 have TR := Lib.hid (TR.out.below hb)
 have SZ := Lib.hid (show w.heap.size + 3 ≤ wc.heap.size by have := hb.size; have := SZ.out; omega)
 clear hb
 unfold gameV
 have xr0 : wc.cell? ⟨w.heap.size + 1, 0, none⟩ = some (.int .i64 rc) := TR.out.cell 0
 have xr1 : wc.cell? ⟨w.heap.size + 1, 1, none⟩ = some (.int .i64 rn) := TR.out.cell 1
 have xr2 : wc.cell? ⟨w.heap.size + 1, 2, none⟩ = some (.int .i64 ro) := TR.out.cell 2
 have xr3 : wc.cell? ⟨w.heap.size + 1, 3, none⟩ = some (.int .i64 rx) := TR.out.cell 3
 have xr4 : wc.cell? ⟨w.heap.size + 1, 4, none⟩ = some (.int .i64 ry) := TR.out.cell 4
 have l9 : w.heap.size + 1 < wc.heap.size := by have := SZ.out; omega
 go_wp2_with (fail)
 clear xr0 xr1 xr2 xr3 xr4
 clear l9
 have hb0 : Below wc.heap.size wc (wc.alloc (.cells #[.slice A1 E.length a1, .slice B1 F.length b1, .slice C1 L.length d1] 29)) := (Below.refl _ _).alloc (Nat.le_refl _) _
 refine (isNull ⟨rc, rn, ro, rx, ry⟩ _).mono ?_
 rintro e we ⟨rfl, hb1⟩
 rw [HN.out]
 have HB := Lib.hid (HB.out.below hb1)
 have hb := Below.and hb0 hb1
 clear hb0 hb1
 have BF := Lib.hid (Below.and BF.out hb)
 have T0 := Lib.hid (T0.out.below hb (by have := SZ.out; omega))
 have T1 := Lib.hid (T1.out.below hb (by have := SZ.out; omega))
 have TR := Lib.hid (TR.out.below hb)
 have SZ := Lib.hid (show w.heap.size + 3 ≤ we.heap.size by have := hb.size; have := SZ.out; omega)
 clear hb
 obtain ⟨v0, v1, v2⟩ := HB.out.at_.cells
 obtain ⟨z0, z1, z2⟩ := T1.out.cells
 have zf := T1.out.frozen
 have HOw := Lib.hid (HB.out.own)
 have BG : ∀ p0 p1 p2 : Value, Below w.heap.size w (((we.setCell ⟨w.heap.size + 1 + 1, 0, none⟩ p0).setCell ⟨w.heap.size + 1 + 1, 1, none⟩ p1).setCell ⟨w.heap.size + 1 + 1, 2, none⟩ p2) := fun p0 p1 p2 => by
  iterate 3 (refine Below.setCell ?_ (by first | (simp; done) | (simp; omega)) _)
  exact BF.out
 go_wp2
 refine bodyPost_ret (v := .tuple #[.agg #[.slice A1 E.length a1, .slice B1 F.length b1, .slice C1 L.length d1], .int .i64 2]) (by simp [results, Try.results36, go_sem, v0, v1, v2, z0, z1, z2]) rfl ⟨A1, a1, B1, b1, C1, d1, rfl, ?_, BG _ _ _⟩
 exact (((HOw.out.put (by have := LO.out; omega) 0 _).put (by have := LO.out; omega) 1 _).put (by have := LO.out; omega) 2 _).base (by have := LO.out; omega)
end Go.Proofs.Ytameldhdegcpoaa
