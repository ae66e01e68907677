/- A heap in memory: which is ahead, an exchange, the parent, the child that comes first, whether all is in order. -/
import Derived.Test.YtgnemgnhjallhaaVb
import Derived.Test.YtgnemgnhjallhaaHe
import Derived.BigRegion
import Derived.BigQuiet
import Derived.Deep.QuietTactic
import Derived.Deep.Cut
namespace Go.Proofs.Ytgnemgnhjallhaa
open Go.ChangeShapes Go.WideShapes Go.ChangeAt Go.RowKit
set_option linter.unusedVariables false
set_option linter.unusedSimpArgs false

def OwT (w : World) (lo : Nat) (A : Option Addr) (a : Nat) (L : List Tm) : Prop := w.ownsRow lo 25 3 (.slice A L.length a) L.length (L.flatMap Tm.cells)
theorem OwT.below {w w' : World} {lo : Nat} {A : Option Addr} {a : Nat} {L : List Tm} (h : OwT w lo A a L) (hb : Below w.heap.size w w') : OwT w' lo A a L := own_below (show w.ownsRow _ _ _ _ _ _ from h) hb
theorem OwT.put {w : World} {lo : Nat} {A : Option Addr} {a : Nat} {L : List Tm} (h : OwT w lo A a L) {q : Nat} (hq : q < lo) (o : Nat) (u : Value) : OwT (w.setCell ⟨q, o, none⟩ u) lo A a L := own_put (show w.ownsRow _ _ _ _ _ _ from h) hq o u
theorem OwT.base {w : World} {lo p : Nat} {A : Option Addr} {a : Nat} {L : List Tm} (h : OwT w p A a L) (hl : lo ≤ p) : OwT w lo A a L := own_base (show w.ownsRow _ _ _ _ _ _ from h) hl
theorem OwT.rd {w : World} {lo : Nat} {A : Option Addr} {a : Nat} {L : List Tm} (h : OwT w lo A a L) : Rd 3 Tm.cells w A L := Rd.of_own (f := Tm.cells) (k := 3) (fun _ => rfl) (show w.ownsRow _ _ _ _ _ _ from h) rfl
theorem OwT.nil (w : World) (lo : Nat) : OwT w lo none 0 [] := World.ownsRow_nil _ _ _ _
theorem own_typeV {w : World} {base p : Nat} {e t : TypeId} {size n : Nat} {v : Value} {xs : List Value} {cs : Array Value} (h : w.ownsRow base e size v n xs) (hG : w.heap[p]? = some (.cells cs t)) (hne : e ≠ t) : v.ownBlock ≠ some p := fun e0 => by
  rcases h.2 with ⟨rfl, _⟩ | ⟨g, cap, cur, rfl, _, h3, _⟩
  · simp [Value.ownBlock] at e0
  · simp only [Value.ownBlock, Option.some.injEq] at e0
    subst e0
    rw [hG] at h3
    simp only [Option.some.injEq, Obj.cells.injEq] at h3
    exact hne h3.2.1.symm
theorem OwT.apart {w : World} {lo p : Nat} {A : Option Addr} {a : Nat} {L : List Tm} {t : TypeId} {cs : Array Value} (h : OwT w lo A a L) (hT : Bkk w p t cs) (hne : 25 ≠ t) : (Value.slice A L.length a).ownBlock ≠ some p := own_typeV (show w.ownsRow _ _ _ _ _ _ from h) hT hne
theorem OwT.box {w : World} {lo p : Nat} {A : Option Addr} {a : Nat} {L : List Tm} {t : TypeId} {cs : Array Value} (h : OwT w lo A a L) (hT : Bkk w p t cs) (hne : 25 ≠ t) (o : Nat) (u : Value) : OwT (w.setCell ⟨p, o, none⟩ u) lo A a L :=
  own_same (show w.ownsRow _ _ _ _ _ _ from h) (fun k hk => heap_setCell_other w ⟨p, o, none⟩ k _ (by
    intro e
    subst e
    exact h.apart hT hne hk))
theorem rows_set3 (L : List Tm) (i : Nat) (x : Tm) (h : i < L.length) : (((L.flatMap Tm.cells).set (i * 3) (.int .i64 x.a)).set (i * 3 + 1) (.int .i64 x.f)).set (i * 3 + 2) (.int .i64 x.n) = (L.set i x).flatMap Tm.cells := by
  induction L generalizing i with
  | nil => simp at h
  | cons e L ih =>
    rcases i with _ | i
    · simp [List.flatMap_cons, Tm.cells]
    · have h1 := ih i (by simpa using h)
      have hl : ∀ (Y : List Value) (m : Nat) (u : Value), (e.cells ++ Y).set (m + 3) u = e.cells ++ Y.set m u := fun Y m u => by
        rw [List.set_append_right _ _ (by simp [Tm.cells])]
        rfl
      simp only [List.flatMap_cons, List.set_cons_succ]
      rw [show (i + 1) * 3 = i * 3 + 3 by omega, hl, show i * 3 + 3 + 1 = (i * 3 + 1) + 3 by omega, hl, show i * 3 + 3 + 2 = (i * 3 + 2) + 3 by omega, hl, h1]
theorem OwT.set {w : World} {lo g a : Nat} {L : List Tm} (h : OwT w lo (some ⟨g, 0, none⟩) a L) (i : Nat) (x : Tm) (hi : i < L.length) :
    OwT (((w.setCell ⟨g, i * 3, none⟩ (.int .i64 x.a)).setCell ⟨g, i * 3 + 1, none⟩ (.int .i64 x.f)).setCell ⟨g, i * 3 + 2, none⟩ (.int .i64 x.n)) lo (some ⟨g, 0, none⟩) a (L.set i x) := by
  have hl := rows_length 3 Tm.cells (fun _ => rfl) L
  have h1 := (own_set1 (i * 3) (.int .i64 x.a) (by rw [hl]; omega) (show w.ownsRow _ _ _ _ _ _ from h)).1
  have h2 := (own_set1 (i * 3 + 1) (.int .i64 x.f) (by rw [List.length_set, hl]; omega) h1).1
  have h3 := (own_set1 (i * 3 + 2) (.int .i64 x.n) (by rw [List.length_set, List.length_set, hl]; omega) h2).1
  rw [rows_set3 L i x hi] at h3
  show World.ownsRow _ _ _ _ _ _ _
  rw [List.length_set]
  exact h3

/-- A heap in memory. -/
structure Hp (w : World) (lo p : Nat) (A : Option Addr) (a : Nat) (L : List Tm) : Prop where
  box : Bkk w p 62 #[.slice A L.length a, .func (.func 51) #[] #[]]
  row : OwT w lo A a L
  lop : lo ≤ p
theorem Hp.below {w w' : World} {lo p : Nat} {A : Option Addr} {a : Nat} {L : List Tm} (h : Hp w lo p A a L) (hb : Below w.heap.size w w') : Hp w' lo p A a L := ⟨h.box.below hb, h.row.below hb, h.lop⟩
theorem Hp.g {w : World} {lo p : Nat} {A : Option Addr} {a : Nat} {L : List Tm} (h : Hp w lo p A a L) (h0 : 0 < L.length) : ∃ g, A = some ⟨g, 0, none⟩ ∧ lo ≤ g ∧ g < w.heap.size ∧ g ≠ p := by
  obtain ⟨g, rfl, h1, h2⟩ := own_some (show w.ownsRow _ _ _ _ _ _ from h.row) h0
  refine ⟨g, rfl, h1, h2, fun e => ?_⟩
  subst e
  exact h.row.apart h.box (by decide) rfl
theorem Hp.cells {w : World} {lo p g a : Nat} {L : List Tm} (h : Hp w lo p (some ⟨g, 0, none⟩) a L) (i : Nat) (hi : i < L.length) : ∀ j u, (at' L i).cells[j]? = some u → w.cell? ⟨g, i * 3 + j, none⟩ = some u := by
  intro j u hu
  obtain ⟨b, o, hA, hc⟩ := h.row.rd i hi
  injection hA with hA
  injection hA with h1 h2 h3
  subst h1 h2
  rw [at_eq L i hi] at hu
  have := hc j u hu
  rwa [Nat.zero_add] at this
theorem Hp.swap {w : World} {lo p g a : Nat} {L : List Tm} (h : Hp w lo p (some ⟨g, 0, none⟩) a L) (i j : Nat) (hi : i < L.length) (hj : j < L.length) (hg : g ≠ p) (x y : Tm) (hx : x = at' L i) (hy : y = at' L j) :
    Hp ((((((w.setCell ⟨g, i * 3, none⟩ (.int .i64 y.a)).setCell ⟨g, i * 3 + 1, none⟩ (.int .i64 y.f)).setCell ⟨g, i * 3 + 2, none⟩ (.int .i64 y.n)).setCell ⟨g, j * 3, none⟩ (.int .i64 x.a)).setCell ⟨g, j * 3 + 1, none⟩ (.int .i64 x.f)).setCell ⟨g, j * 3 + 2, none⟩ (.int .i64 x.n)) lo p (some ⟨g, 0, none⟩) a (swp L i j) := by
  subst hx hy
  refine ⟨?_, ?_, h.lop⟩
  · rw [swp_len]
    exact (((((h.box.far (Ne.symm hg) _ _).far (Ne.symm hg) _ _).far (Ne.symm hg) _ _).far (Ne.symm hg) _ _).far (Ne.symm hg) _ _).far (Ne.symm hg) _ _
  · exact (h.row.set i (at' L j) hi).set j (at' L i) (by simpa using hj)
theorem sets6 {B : Nat} {w w' : World} (h : Below B w w') {g : Nat} (hg : B ≤ g) (o o2 o3 o4 o5 o6 : Nat) (u u2 u3 u4 u5 u6 : Value) :
    Below B w ((((((w'.setCell ⟨g, o, none⟩ u).setCell ⟨g, o2, none⟩ u2).setCell ⟨g, o3, none⟩ u3).setCell ⟨g, o4, none⟩ u4).setCell ⟨g, o5, none⟩ u5).setCell ⟨g, o6, none⟩ u6) :=
  (((((h.setCell (p := ⟨g, o, none⟩) hg u).setCell (p := ⟨g, o2, none⟩) hg u2).setCell (p := ⟨g, o3, none⟩) hg u3).setCell (p := ⟨g, o4, none⟩) hg u4).setCell (p := ⟨g, o5, none⟩) hg u5).setCell (p := ⟨g, o6, none⟩) hg u6

theorem sets6g (w : World) (g o o2 o3 o4 o5 o6 : Nat) (u u2 u3 u4 u5 u6 : Value) :
    w.grownBy ((((((w.setCell ⟨g, o, none⟩ u).setCell ⟨g, o2, none⟩ u2).setCell ⟨g, o3, none⟩ u3).setCell ⟨g, o4, none⟩ u4).setCell ⟨g, o5, none⟩ u5).setCell ⟨g, o6, none⟩ u6).drew (some g) :=
  grownBy_trans (grownBy_trans (grownBy_trans (grownBy_trans (grownBy_trans (grownBy_trans (grownBy_set w g o u) (grownBy_set _ g o2 u2)) (grownBy_set _ g o3 u3)) (grownBy_set _ g o4 u4)) (grownBy_set _ g o5 u5)) (grownBy_set _ g o6 u6)) (Below.grownBy (Below.refl _ _).drew _)

theorem half_nat (m : Nat) : ((m : Int)).tdiv 2 = ((m / 2 : Nat) : Int) := by
  rw [Int.tdiv_eq_ediv_of_nonneg (by omega)]
  omega
theorem wrap_nat (c : Nat) (h : c < 4611686018427387904) : IntKind.i64.wrap (c : Int) = (c : Int) := IntWalk.i64_in _ (by omega)
theorem parentOf (m : Nat) (w : World) (hm : m < 4611686018427387904) :
    Calls Try.prog 55 #[.int .i64 ((m : Int) + 1)] w fun e w' => e = .returned (.int .i64 ((m / 2 : Nat) : Int)) ∧ w' = w := by
  have h1 := half_nat m
  have h2 : IntKind.i64.wrap (m : Int) = (m : Int) := IntWalk.i64_in _ (by omega)
  have h3 : IntKind.i64.wrap ((m / 2 : Nat) : Int) = ((m / 2 : Nat) : Int) := wrap_nat (m / 2) (by omega)
  go_enter Try.func55, Try.ntmps55
  go_wp2
  go_ret
  exact ⟨ret_int (by first | exact h1 | simp_all), rfl⟩

set_option maxRecDepth 100000 in
set_option maxHeartbeats 2000000 in
theorem precedes (lo p : Nat) (A : Option Addr) (a : Nat) (L : List Tm) (i j : Nat) (w : World) (hL : L.length ≤ maxLen) (h : Hp w lo p A a L) (hi : i < L.length) (hj : j < L.length) :
    Calls Try.prog 54 #[.pointer (some ⟨p, 0, none⟩), .int .i64 (i : Int), .int .i64 (j : Int)] w fun e w' => e = .returned (.bool (lessT (at' L i) (at' L j))) ∧ Below w.heap.size w w' := by
  unfold maxLen at hL
  obtain ⟨g, rfl, _, lg, _⟩ := h.g (by omega)
  have hic := h.cells i hi
  have hjc := h.cells j hj
  have q0 : w.cell? ⟨p, 0, none⟩ = some (.slice (some ⟨g, 0, none⟩) L.length a) := h.box.cell 0
  have q1 : w.cell? ⟨p, 1, none⟩ = some (.func (.func 51) #[] #[]) := h.box.cell 1
  generalize at' L i = x at hic ⊢
  generalize at' L j = y at hjc ⊢
  have hi0 : w.cell? ⟨g, i * 3, none⟩ = some (.int .i64 x.a) := hic 0 _ rfl
  have hi1 : w.cell? ⟨g, i * 3 + 1, none⟩ = some (.int .i64 x.f) := hic 1 _ rfl
  have hi2 : w.cell? ⟨g, i * 3 + 2, none⟩ = some (.int .i64 x.n) := hic 2 _ rfl
  have hj0 : w.cell? ⟨g, j * 3, none⟩ = some (.int .i64 y.a) := hjc 0 _ rfl
  have hj1 : w.cell? ⟨g, j * 3 + 1, none⟩ = some (.int .i64 y.f) := hjc 1 _ rfl
  have hj2 : w.cell? ⟨g, j * 3 + 2, none⟩ = some (.int .i64 y.n) := hjc 2 _ rfl
  clear hic hjc h
  have i0 : (0 : Int) ≤ (i : Int) := by omega
  have i1 : (i : Int) < (L.length : Int) := by omega
  have j0 : (0 : Int) ≤ (j : Int) := by omega
  have j1 : (j : Int) < (L.length : Int) := by omega
  go_enter Try.func54, Try.ntmps54
  go_wp2_with (fail)
  refine wp_region_still_tail 18 (by kernel_rfl) (by kernel_rfl) ?_
  change wpStill _ _ (World.drew _) (fun a' => wpList _ _ _ _ a' (World.drew _)) _ _
  simp only [List.take_succ_cons, List.take_zero, List.drop_succ_cons, List.drop_zero]
  repeat still_step
  refine wpStill_nil ?_
  go_wp2_with (fail)
  refine (compareTimed x y _).mono ?_
  rintro e w1 ⟨rfl, h1⟩
  have HC := Lib.hid (cmpT_less x y)
  generalize cmpT x y = c at HC ⊢
  go_wp2
  go_light
  go_ret
  exact ⟨ret_bool HC.out, Below.and (Below.refl _ _).drew h1⟩

set_option maxRecDepth 100000 in
set_option maxHeartbeats 8000000 in
theorem swapH (lo p : Nat) (A : Option Addr) (a : Nat) (L : List Tm) (i j : Nat) (w : World) (hL : L.length ≤ maxLen) (h : Hp w lo p A a L) (hi : i < L.length) (hj : j < L.length) :
    Calls Try.prog 56 #[.pointer (some ⟨p, 0, none⟩), .int .i64 (i : Int), .int .i64 (j : Int)] w fun e w' => e = .returned (.tuple #[]) ∧ Hp w' lo p A a (swp L i j) ∧ Below lo w w' ∧ w.grownBy w' (Value.slice A L.length a).ownBlock := by
  unfold maxLen at hL
  obtain ⟨g, rfl, hg, lg, hgp⟩ := h.g (by omega)
  have q0 : w.cell? ⟨p, 0, none⟩ = some (.slice (some ⟨g, 0, none⟩) L.length a) := h.box.cell 0
  have lp := h.box.lt
  have fz : ∀ o, w.frozen? ⟨g, o, none⟩ = false := fun o => (show w.ownsRow _ _ _ _ _ _ from h.row).frozenAt o
  have i0 : (0 : Int) ≤ (i : Int) := by omega
  have i1 : (i : Int) < (L.length : Int) := by omega
  have j0 : (0 : Int) ≤ (j : Int) := by omega
  have j1 : (j : Int) < (L.length : Int) := by omega
  by_cases hij : i = j
  · subst hij
    have HH := Lib.hid (h.swap i i hi hi hgp (at' L i) (at' L i) rfl rfl)
    have HB := Lib.hid (fun (u u2 u3 u4 u5 u6 : Value) => sets6 (Below.refl lo w) hg (i * 3) (i * 3 + 1) (i * 3 + 2) (i * 3) (i * 3 + 1) (i * 3 + 2) u u2 u3 u4 u5 u6)
    have HG : Hid (∀ u u2 u3 u4 u5 u6 : Value, w.grownBy _ (Value.slice (some ⟨g, 0, none⟩) L.length a).ownBlock) := fun (u u2 u3 u4 u5 u6 : Value) => sets6g w g (i * 3) (i * 3 + 1) (i * 3 + 2) (i * 3) (i * 3 + 1) (i * 3 + 2) u u2 u3 u4 u5 u6
    have hic := h.cells i hi
    generalize at' L i = x at hic HH ⊢
    have hi0 : w.cell? ⟨g, i * 3, none⟩ = some (.int .i64 x.a) := hic 0 _ rfl
    have hi1 : w.cell? ⟨g, i * 3 + 1, none⟩ = some (.int .i64 x.f) := hic 1 _ rfl
    have hi2 : w.cell? ⟨g, i * 3 + 2, none⟩ = some (.int .i64 x.n) := hic 2 _ rfl
    clear hic h
    go_enter Try.func56, Try.ntmps56
    go_wp2_with (fail)
    go_region
    go_end0
    exact ⟨rfl, HH.out.below ((Below.refl _ _).drew), (HB.out _ _ _ _ _ _).drew, HG.out _ _ _ _ _ _⟩
  · have HH := Lib.hid (h.swap i j hi hj hgp (at' L i) (at' L j) rfl rfl)
    have HB := Lib.hid (fun (u u2 u3 u4 u5 u6 : Value) => sets6 (Below.refl lo w) hg (i * 3) (i * 3 + 1) (i * 3 + 2) (j * 3) (j * 3 + 1) (j * 3 + 2) u u2 u3 u4 u5 u6)
    have HG : Hid (∀ u u2 u3 u4 u5 u6 : Value, w.grownBy _ (Value.slice (some ⟨g, 0, none⟩) L.length a).ownBlock) := fun (u u2 u3 u4 u5 u6 : Value) => sets6g w g (i * 3) (i * 3 + 1) (i * 3 + 2) (j * 3) (j * 3 + 1) (j * 3 + 2) u u2 u3 u4 u5 u6
    have hic := h.cells i hi
    have hjc := h.cells j hj
    generalize at' L i = x at hic HH ⊢
    generalize at' L j = y at hjc HH ⊢
    have hi0 : w.cell? ⟨g, i * 3, none⟩ = some (.int .i64 x.a) := hic 0 _ rfl
    have hi1 : w.cell? ⟨g, i * 3 + 1, none⟩ = some (.int .i64 x.f) := hic 1 _ rfl
    have hi2 : w.cell? ⟨g, i * 3 + 2, none⟩ = some (.int .i64 x.n) := hic 2 _ rfl
    have hj0 : w.cell? ⟨g, j * 3, none⟩ = some (.int .i64 y.a) := hjc 0 _ rfl
    have hj1 : w.cell? ⟨g, j * 3 + 1, none⟩ = some (.int .i64 y.f) := hjc 1 _ rfl
    have hj2 : w.cell? ⟨g, j * 3 + 2, none⟩ = some (.int .i64 y.n) := hjc 2 _ rfl
    clear hic hjc h
    have n00 : ¬ i * 3 = j * 3 := by omega
    have m00 : ¬ j * 3 = i * 3 := by omega
    have n01 : ¬ i * 3 = j * 3 + 1 := by omega
    have m01 : ¬ j * 3 = i * 3 + 1 := by omega
    have n02 : ¬ i * 3 = j * 3 + 2 := by omega
    have m02 : ¬ j * 3 = i * 3 + 2 := by omega
    have n10 : ¬ i * 3 + 1 = j * 3 := by omega
    have m10 : ¬ j * 3 + 1 = i * 3 := by omega
    have n11 : ¬ i * 3 + 1 = j * 3 + 1 := by omega
    have m11 : ¬ j * 3 + 1 = i * 3 + 1 := by omega
    have n12 : ¬ i * 3 + 1 = j * 3 + 2 := by omega
    have m12 : ¬ j * 3 + 1 = i * 3 + 2 := by omega
    have n20 : ¬ i * 3 + 2 = j * 3 := by omega
    have m20 : ¬ j * 3 + 2 = i * 3 := by omega
    have n21 : ¬ i * 3 + 2 = j * 3 + 1 := by omega
    have m21 : ¬ j * 3 + 2 = i * 3 + 1 := by omega
    have n22 : ¬ i * 3 + 2 = j * 3 + 2 := by omega
    have m22 : ¬ j * 3 + 2 = i * 3 + 2 := by omega
    go_enter Try.func56, Try.ntmps56
    go_wp2_with (fail)
    go_region
    go_end0
    exact ⟨rfl, HH.out.below ((Below.refl _ _).drew), (HB.out _ _ _ _ _ _).drew, HG.out _ _ _ _ _ _⟩

end Go.Proofs.Ytgnemgnhjallhaa
