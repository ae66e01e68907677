/- What came in, made the program's own. -/
import Derived.Test.YthidcmffnpnjjaaDoorZT
import Derived.Test.YthidcmffnpnjjaaDoorMem2
namespace Go.Proofs.YthidcmffnpnjjaaDoor
open Go.ChangeShapes Go.WideShapes Go.ChangeAt Go.RowKit
set_option linter.unusedVariables false

theorem info3 : (Tryd.prog.info? 3).map (fun i => (i.zero, i.size, i.bytes)) = some (some (.int .i64 0), 1, 8) := by kernel_rfl
theorem info75 : (Tryd.prog.info? 48).map (fun i => (i.zero, i.size, i.bytes)) = some (some (.agg #[.int .i64 0, .int .i64 0, .int .i64 0, .int .i64 0, .int .i64 0]), 5, 40) := by kernel_rfl

set_option maxRecDepth 100000 in
theorem toIntS (A : Option Addr) (c : Nat) (l : List Int) (w : World) (hl : l.length ≤ 1048576) (h : InI w A l) :
    Calls Tryd.prog 14 #[.slice A l.length c] w fun e w' => ∃ g, e = .returned (.slice (some ⟨g, 0, none⟩) l.length l.length) ∧ g = w.heap.size ∧ w'.ownsRow w.heap.size 3 1 (.slice (some ⟨g, 0, none⟩) l.length l.length) l.length (ints l) ∧ Below w.heap.size w w' := by
  obtain ⟨i0, hi, hz0, hz1, hz2⟩ := info_parts info3
  obtain ⟨w1, hmk, hown, hg1⟩ := run_make_full (P := Tryd.prog) w w.heap.size 23 3 i0 (.int .i64 0) 1 Tryd.underlying23 hi hz0 hz1 .i64 .i64 l.length (by rw [hz2]; omega) (by unfold maxLen; omega) (Nat.le_refl _)
  have B1 := Below.of_none hg1
  have hx : l.length = ((madeCells (Value.int .i64 0).cells (l.length * 1)).toList).length := by have := hown.1; omega
  generalize (madeCells (Value.int .i64 0).cells (l.length * 1)).toList = xs at hown hx
  have HI := Lib.hid h
  have HX := Lib.hid hx
  have HO := Lib.hid hown
  have HB := Lib.hid B1
  clear h hx hown hg1 B1 hi hz0 hz1 hz2
  go_enter Tryd.func14, Tryd.ntmps14
  go_wp2
  go_loopw [4] (fun i wr => ∃ j : Nat, j ≤ l.length ∧ i = .int .i64 j ∧ Hid (wr.ownsRow w.heap.size 3 1 (.slice (some ⟨w.heap.size, 0, none⟩) l.length l.length) l.length (ints (l.take j) ++ xs.drop j)) ∧ Hid (w1.grownBy wr (some w.heap.size))) (fun i _ => l.length - (intOf i).toNat)
  case atStart => exact ⟨0, Nat.zero_le _, rfl, by simpa [Hid, ints] using HO.out, World.grownBy.refl _ _⟩
  case round =>
    obtain ⟨j, hj, rfl, ho, hg⟩ := hrel
    by_cases hlt : j < l.length
    · obtain ⟨b, off, rfl, hc⟩ := HI.out j hlt
      have hblt := World.block_lt_of_cell? w _ hc
      have hc1 : wr.cell? ⟨b, off + j, none⟩ = some (.int .i64 l[j]) := hg.out.cell (cell_kept HB.out hc) (by simp at hblt ⊢; omega)
      have hst := ho.out.stored j (.int .i64 l[j])
      rw [set_next l xs j hlt HX.out] at hst
      have S1 := Lib.hid hst.1
      have S2 := Lib.hid (grownBy_trans hg.out hst.2)
      have hf := ho.out.frozenAt j
      obtain ⟨u, hu⟩ : ∃ u, wr.cell? ⟨w.heap.size, j, none⟩ = some u := ⟨_, (ho.out.cellAt j (by omega)).trans (List.getElem?_eq_getElem (by have := HX.out; simp; omega))⟩
      clear hst hc hblt
      generalize l[j] = v at hc1 S1 S2
      have i0 : (0 : Int) ≤ (j : Int) := by omega
      have i1 : (j : Int) < (l.length : Int) := by omega
      go_wp2
      go_roundw
      case rel => exact ⟨j + 1, by omega, by go_num, S1.out, S2.out⟩
      case measure => simp [intOf]; omega
    · have hz : j = l.length := by omega
      have HZ := Lib.hid hz
      clear hz
      go_wp2
      go_ret
      have := ho.out
      rw [HZ.out, List.take_length, List.drop_of_length_le (by have := HX.out; omega), List.append_nil] at this
      exact ⟨_, rfl, rfl, this, Below.trans HB.out (Below.of_grown hg.out HB.out.size (by rintro k hk; cases hk; omega))⟩

theorem toEnt (e : Fig) (w : World) :
    Calls Tryd.prog 26 #[e.val] w fun r w' => r = .returned e.val ∧ Below w.heap.size w w' := by
  obtain ⟨c, x, y, l, g⟩ := e
  go_enter Tryd.func26, Tryd.ntmps26
  go_wp2
  exact bodyPost_ret (v := .agg #[.int .i64 c, .int .i64 x, .int .i64 y, .int .i64 l, .int .i64 g]) (by simp [results, Tryd.results26, go_sem]) rfl ⟨rfl, (((Below.refl _ _).alloc (Nat.le_refl _) _).alloc (by simp) _).alloc (by simp; omega) _⟩

set_option maxRecDepth 100000 in
theorem toEntS (A : Option Addr) (c : Nat) (l : List Fig) (w : World) (hl : l.length ≤ 1048576) (h : InF w A l) :
    Calls Tryd.prog 13 #[.slice A l.length c] w fun e w' => ∃ g, e = .returned (.slice (some ⟨g, 0, none⟩) l.length l.length) ∧ g = w.heap.size ∧ w'.ownsRow w.heap.size 48 5 (.slice (some ⟨g, 0, none⟩) l.length l.length) l.length (figs l) ∧ Below w.heap.size w w' := by
  obtain ⟨i0, hi, hz0, hz1, hz2⟩ := info_parts info75
  obtain ⟨w1, hmk, hown, hg1⟩ := run_make_full (P := Tryd.prog) w w.heap.size 28 48 i0 _ 5 Tryd.underlying28 hi hz0 hz1 .i64 .i64 l.length (by rw [hz2]; omega) (by unfold maxLen; omega) (Nat.le_refl _)
  have B1 := Below.of_none hg1
  have hx : l.length * 5 = ((madeCells (Value.agg #[.int .i64 0, .int .i64 0, .int .i64 0, .int .i64 0, .int .i64 0]).cells (l.length * 5)).toList).length := by have := hown.1; omega
  generalize (madeCells (Value.agg #[.int .i64 0, .int .i64 0, .int .i64 0, .int .i64 0, .int .i64 0]).cells (l.length * 5)).toList = xs at hown hx
  have HI := Lib.hid h
  have HX := Lib.hid hx
  have HO := Lib.hid hown
  have HB := Lib.hid B1
  clear h hx hown hg1 B1 hi hz0 hz1 hz2
  go_enter Tryd.func13, Tryd.ntmps13
  go_wp2
  go_loopw [4] (fun i wr => ∃ j : Nat, j ≤ l.length ∧ i = .int .i64 j ∧ Hid (wr.ownsRow w.heap.size 48 5 (.slice (some ⟨w.heap.size, 0, none⟩) l.length l.length) l.length (figs (l.take j) ++ xs.drop (j * 5))) ∧ Hid (w1.grownBy wr (some w.heap.size))) (fun i _ => l.length - (intOf i).toNat)
  case atStart => exact ⟨0, Nat.zero_le _, rfl, by simpa [Hid, figs] using HO.out, World.grownBy.refl _ _⟩
  case round =>
    obtain ⟨j, hj, rfl, ho, hg⟩ := hrel
    by_cases hlt : j < l.length
    · obtain ⟨b, off, rfl, c0, c1, c2, c3, c4⟩ := HI.out j hlt
      have hblt := World.block_lt_of_cell? w _ c0
      have keep : ∀ {o : Nat} {u : Value}, w.cell? ⟨b, o, none⟩ = some u → wr.cell? ⟨b, o, none⟩ = some u := fun hc => hg.out.cell (cell_kept HB.out hc) (by simp at hblt ⊢; omega)
      replace c0 := keep c0; replace c1 := keep c1; replace c2 := keep c2; replace c3 := keep c3; replace c4 := keep c4
      clear keep hblt
      have i0 : (0 : Int) ≤ (j : Int) := by omega
      have i1 : (j : Int) < (l.length : Int) := by omega
      go_wp2_with (fail)
      refine (toEnt l[j] wr).mono ?_
      rintro r w2 ⟨rfl, h2⟩
      have ho2 := own_below ho.out h2
      have hf := fun p => ho2.frozenAt p
      have hc : ∀ p, p < 5 → ∃ u, w2.cell? ⟨w.heap.size, j * 5 + p, none⟩ = some u := fun p hp => ⟨_, (ho2.cellAt (j * 5 + p) (by omega)).trans (List.getElem?_eq_getElem (by have := HX.out; simp [figs_length]; omega))⟩
      obtain ⟨v0, hv0⟩ := hc 0 (by omega)
      obtain ⟨v1, hv1⟩ := hc 1 (by omega)
      obtain ⟨v2, hv2⟩ := hc 2 (by omega)
      obtain ⟨v3, hv3⟩ := hc 3 (by omega)
      obtain ⟨v4, hv4⟩ := hc 4 (by omega)
      rw [Nat.add_zero] at hv0
      obtain ⟨s1, s2⟩ := store5 j hlt HX.out ho2
      have S1 := Lib.hid s1
      have S2 := Lib.hid (grownBy_trans hg.out (grownBy_trans (Below.grownBy h2 _) s2))
      clear s1 s2 hc h2 ho2 c0 c1 c2 c3 c4
      go_wp2
      go_roundw
      case rel => exact ⟨j + 1, by omega, by go_num, S1.out, S2.out⟩
      case measure => simp [intOf]; omega
    · have hz : j = l.length := by omega
      have HZ := Lib.hid hz
      clear hz
      go_wp2
      go_ret
      have := ho.out
      rw [HZ.out, List.take_length, List.drop_of_length_le (by have := HX.out; omega), List.append_nil] at this
      exact ⟨_, rfl, rfl, this, Below.trans HB.out (Below.of_grown hg.out HB.out.size (by rintro k hk; cases hk; omega))⟩

/-- A game that came in, in the program's own rows. -/
def OwnGame (w : World) (E : List Fig) (F L : List Int) (e : Ending) (w' : World) : Prop :=
  ∃ A a B b C c, e = .returned (gameV A E.length a B F.length b C L.length c) ∧ GameAt w' w.heap.size w'.heap.size A a B b C c E F L ∧ Below w.heap.size w w'

set_option maxRecDepth 100000 in
theorem toGame (A : Option Addr) (a : Nat) (B : Option Addr) (b : Nat) (C : Option Addr) (c : Nat) (E : List Fig) (F L : List Int) (w : World) (hE : E.length ≤ 1048576) (hF : F.length ≤ 1048576) (hL : L.length ≤ 1048576)
    (r1 : InF w A E) (r2 : InI w B F) (r3 : InI w C L) :
    Calls Tryd.prog 6 #[gameV A E.length a B F.length b C L.length c] w (OwnGame w E F L) := by
  have H1 := Lib.hid r1
  have H2 := Lib.hid r2
  have H3 := Lib.hid r3
  clear r1 r2 r3
  go_enter Tryd.func6, Tryd.ntmps6
  go_wp2_with (fail)
  have b0 := ((Three.new (u0 := .slice A E.length a) (u1 := .slice B F.length b) (u2 := .slice C L.length c) (t := 25) w).alloc (.cells #[.slice none 0 0, .slice none 0 0, .slice none 0 0] 30)).alloc (.cells #[.slice none 0 0, .slice none 0 0, .slice none 0 0] 30)
  have b1 := (Three.new (u0 := .slice none 0 0) (u1 := .slice none 0 0) (u2 := .slice none 0 0) (t := 30) (w.alloc (.cells #[.slice A E.length a, .slice B F.length b, .slice C L.length c] 25))).alloc (.cells #[.slice none 0 0, .slice none 0 0, .slice none 0 0] 30)
  have b2 := Three.new (u0 := .slice none 0 0) (u1 := .slice none 0 0) (u2 := .slice none 0 0) (t := 30) ((w.alloc (.cells #[.slice A E.length a, .slice B F.length b, .slice C L.length c] 25)).alloc (.cells #[.slice none 0 0, .slice none 0 0, .slice none 0 0] 30))
  have z0 : Below w.heap.size w (((w.alloc (.cells #[.slice A E.length a, .slice B F.length b, .slice C L.length c] 25)).alloc (.cells #[.slice none 0 0, .slice none 0 0, .slice none 0 0] 30)).alloc (.cells #[.slice none 0 0, .slice none 0 0, .slice none 0 0] 30)) :=
    (((Below.refl _ _).alloc (Nat.le_refl _) _).alloc (by simp) _).alloc (by simp; omega) _
  have hz : (((w.alloc (.cells #[.slice A E.length a, .slice B F.length b, .slice C L.length c] 25)).alloc (.cells #[.slice none 0 0, .slice none 0 0, .slice none 0 0] 30)).alloc (.cells #[.slice none 0 0, .slice none 0 0, .slice none 0 0] 30)).heap.size = w.heap.size + 3 := by simp
  have i1 : (w.alloc (.cells #[.slice A E.length a, .slice B F.length b, .slice C L.length c] 25)).heap.size = w.heap.size + 1 := by simp
  have i2 : ((w.alloc (.cells #[.slice A E.length a, .slice B F.length b, .slice C L.length c] 25)).alloc (.cells #[.slice none 0 0, .slice none 0 0, .slice none 0 0] 30)).heap.size = w.heap.size + 1 + 1 := by simp
  rw [i1] at b1
  rw [i2] at b2
  have HZ := Lib.hid hz
  clear hz i1 i2
  -- the figures
  refine (toEntS A a E _ hE (H1.out.below z0)).mono ?_
  rintro e w1 ⟨g1, rfl, hg1, o1, h1⟩
  have hs1 := h1.size
  rw [HZ.out] at hg1 o1 h1 hs1
  have b0 := Three.below b0 h1 (by omega)
  have b1 := Three.below b1 h1 (by omega)
  have b2 := Three.below b2 h1 (by omega)
  have z1 := Below.trans z0 (h1.mono (by omega))
  obtain ⟨p0, p1, p2⟩ := b0.cells
  obtain ⟨q0, q1, q2⟩ := b2.cells
  have f0 := b2.frozen 0
  have B0 := Lib.hid b0; have B1 := Lib.hid b1; have B2 := Lib.hid b2; have Z1 := Lib.hid z1; have O1 := Lib.hid o1; have HG1 := Lib.hid hg1
  clear z0 z1 b0 b1 b2 h1 o1 hg1
  go_wp2_with (fail)
  have z1 := Below.setCell Z1.out (p := ⟨w.heap.size + 1 + 1, 0, none⟩) (by simp; omega) (.slice (some ⟨g1, 0, none⟩) E.length E.length)
  have o1 := O1.out.kept (grownBy_set w1 (w.heap.size + 1 + 1) 0 (.slice (some ⟨g1, 0, none⟩) E.length E.length)) (.inr (by have := HG1.out; simp [Value.ownBlock]; omega))
  have b0 := B0.out.far (g' := w.heap.size + 1 + 1) (j := 0) (by omega) (.slice (some ⟨g1, 0, none⟩) E.length E.length)
  have b1 := B1.out.far (g' := w.heap.size + 1 + 1) (j := 0) (by omega) (.slice (some ⟨g1, 0, none⟩) E.length E.length)
  have b2 := B2.out.set0 (.slice (some ⟨g1, 0, none⟩) E.length E.length)
  have y1 : w1.heap.size = (w1.setCell ⟨w.heap.size + 1 + 1, 0, none⟩ (.slice (some ⟨g1, 0, none⟩) E.length E.length)).heap.size := by simp
  have Y1 := Lib.hid y1
  have hlt1 := (O1.out.lt g1 rfl).2
  clear y1 B0 B1 B2 Z1 O1 p0 p1 p2 q0 q1 q2 f0
  -- the floor
  refine (toIntS B b F _ hF (H2.out.below z1)).mono ?_
  rintro e w2 ⟨g2, rfl, hg2, o2, h2⟩
  have hs2 := h2.size
  rw [← Y1.out] at hg2 o2 h2 hs2
  have b0 := Three.below b0 h2 (by omega)
  have b1 := Three.below b1 h2 (by omega)
  have b2 := Three.below b2 h2 (by omega)
  have z2 := Below.trans z1 (h2.mono (by omega))
  have o1 := own_same o1 fun k hk => h2.block k (by have := HG1.out; simp [Value.ownBlock] at hk; omega)
  obtain ⟨p0, p1, p2⟩ := b0.cells
  obtain ⟨q0, q1, q2⟩ := b2.cells
  have f1 := b2.frozen 1
  have B0 := Lib.hid b0; have B1 := Lib.hid b1; have B2 := Lib.hid b2; have Z2 := Lib.hid z2; have O1 := Lib.hid o1; have O2 := Lib.hid o2; have HG2 := Lib.hid hg2
  clear z1 z2 b0 b1 b2 h2 o1 o2 hg2
  go_wp2_with (fail)
  have z2 := Below.setCell Z2.out (p := ⟨w.heap.size + 1 + 1, 1, none⟩) (by simp; omega) (.slice (some ⟨g2, 0, none⟩) F.length F.length)
  have o1 := O1.out.kept (grownBy_set w2 (w.heap.size + 1 + 1) 1 (.slice (some ⟨g2, 0, none⟩) F.length F.length)) (.inr (by have := HG1.out; simp [Value.ownBlock]; omega))
  have o2 := O2.out.kept (grownBy_set w2 (w.heap.size + 1 + 1) 1 (.slice (some ⟨g2, 0, none⟩) F.length F.length)) (.inr (by have := HG2.out; simp [Value.ownBlock]; omega))
  have b0 := B0.out.far (g' := w.heap.size + 1 + 1) (j := 1) (by omega) (.slice (some ⟨g2, 0, none⟩) F.length F.length)
  have b1 := B1.out.far (g' := w.heap.size + 1 + 1) (j := 1) (by omega) (.slice (some ⟨g2, 0, none⟩) F.length F.length)
  have b2 := B2.out.set1 (.slice (some ⟨g2, 0, none⟩) F.length F.length)
  have y2 : w2.heap.size = (w2.setCell ⟨w.heap.size + 1 + 1, 1, none⟩ (.slice (some ⟨g2, 0, none⟩) F.length F.length)).heap.size := by simp
  have Y2 := Lib.hid y2
  have hlt2 := (O2.out.lt g2 rfl).2
  clear y2 B0 B1 B2 Z2 O1 O2 p0 p1 p2 q0 q1 q2 f1
  -- the last numbers
  refine (toIntS C c L _ hL (H3.out.below z2)).mono ?_
  rintro e w3 ⟨g3, rfl, hg3, o3, h3⟩
  have hs3 := h3.size
  rw [← Y2.out] at hg3 o3 h3 hs3
  have b0 := Three.below b0 h3 (by omega)
  have b1 := Three.below b1 h3 (by omega)
  have b2 := Three.below b2 h3 (by omega)
  have z3 := Below.trans z2 (h3.mono (by omega))
  have o1 := own_same o1 fun k hk => h3.block k (by have := HG1.out; simp [Value.ownBlock] at hk; omega)
  have o2 := own_same o2 fun k hk => h3.block k (by simp [Value.ownBlock] at hk; omega)
  obtain ⟨p0, p1, p2⟩ := b0.cells
  obtain ⟨q0, q1, q2⟩ := b2.cells
  obtain ⟨r0, r1, r2⟩ := b1.cells
  have f2 := b2.frozen 2
  have e0 := b1.frozen 0
  have e1 := b1.frozen 1
  have e2 := b1.frozen 2
  have B1 := Lib.hid b1; have B2 := Lib.hid b2; have Z3 := Lib.hid z3; have O1 := Lib.hid o1; have O2 := Lib.hid o2; have O3 := Lib.hid o3; have HG3 := Lib.hid hg3
  clear z2 z3 b0 b1 b2 h3 o1 o2 o3 hg3
  go_wp2
  go_light
  refine bodyPost_ret (v := gameV (some ⟨g1, 0, none⟩) E.length E.length (some ⟨g2, 0, none⟩) F.length F.length (some ⟨g3, 0, none⟩) L.length L.length) (by simp [results, Tryd.results6, go_sem, r0, r1, r2]) rfl ?_
  have G := grownBy_trans (row := some (w.heap.size + 1)) (grownBy_set3 (w3.setCell ⟨w.heap.size + 1 + 1, 2, none⟩ (.slice (some ⟨g3, 0, none⟩) L.length L.length)) (w.heap.size + 1) (.slice (some ⟨g1, 0, none⟩) E.length E.length) (.slice (some ⟨g2, 0, none⟩) F.length F.length) (.slice (some ⟨g3, 0, none⟩) L.length L.length)) (World.grownBy.refl _ _)
  have G2 := grownBy_set w3 (w.heap.size + 1 + 1) 2 (.slice (some ⟨g3, 0, none⟩) L.length L.length)
  have k1 := HG1.out
  have k2 := HG2.out
  have k3 := HG3.out
  have hs4 := G.size
  have hs5 := G2.size
  have hlt3 := (O3.out.lt g3 rfl).2
  refine ⟨some ⟨g1, 0, none⟩, E.length, some ⟨g2, 0, none⟩, F.length, some ⟨g3, 0, none⟩, L.length, rfl, ⟨?_, ?_, ?_, ?_, ?_, ?_, ?_⟩, ?_⟩
  · exact own_base ((O1.out.kept G2 (.inr (by simp [Value.ownBlock]; omega))).kept G (.inr (by simp [Value.ownBlock]; omega))) (by omega)
  · exact own_base ((O2.out.kept G2 (.inr (by simp [Value.ownBlock]; omega))).kept G (.inr (by simp [Value.ownBlock]; omega))) (by omega)
  · exact own_base ((O3.out.kept G2 (.inr (by simp [Value.ownBlock]; omega))).kept G (.inr (by simp [Value.ownBlock]; omega))) (by omega)
  · intro g hg; simp [Value.ownBlock] at hg ⊢; omega
  · intro g hg; simp [Value.ownBlock] at hg; omega
  · intro g hg; simp [Value.ownBlock] at hg; omega
  · intro g hg; simp [Value.ownBlock] at hg; omega
  · exact Below.trans Z3.out (Below.trans (Below.of_grown G2 (by omega) (by rintro k hk; cases hk; omega)) (Below.of_grown G (by omega) (by rintro k hk; cases hk; omega)))
end Go.Proofs.YthidcmffnpnjjaaDoor
