/- The model's new game. -/
import Derived.Test.YtephmhgjhjheaaaTg
import Derived.RegionTactic
import Derived.Deep.DeepCutAuto
namespace Go.Proofs.Ytephmhgjhjheaaa
open Go.ChangeShapes Go.WideShapes Go.ChangeAt Go.RowKit
set_option linter.unusedVariables false

def NewMid (w : World) (p : Value) (wx : World) : Prop :=
  ∃ G g4 gl : Nat, p = .pointer (some ⟨G, 0, none⟩) ∧ wx.heap[G]? = some (.cells #[.slice none 0 0, .slice (some ⟨g4, 0, none⟩) 16 16, .slice (some ⟨gl, 0, none⟩) 4 4] 32) ∧ wx.heap[w.heap.size]? = some (.cells #[.slice none 0 0, .slice none 0 0, .slice none 0 0] 32) ∧
    wx.ownsRow (w.heap.size + 1) 3 1 (.slice (some ⟨g4, 0, none⟩) 16 16) 16 (ints (floorAt 0)) ∧ wx.ownsRow (w.heap.size + 1) 3 1 (.slice (some ⟨gl, 0, none⟩) 4 4) 4 (ints [0, 0, 0, 0]) ∧ g4 ≠ gl ∧ w.heap.size < G ∧ Below w.heap.size w wx

theorem grownBy_drew {w w' : World} {row : Option Nat} (h : w.grownBy w' row) : w.grownBy w'.drew row := ⟨h.os, h.tape, h.output, h.size, h.block⟩

theorem own_ne_block {w : World} {base g G : Nat} {e t : TypeId} {size n c : Nat} {xs : List Value} {cs : Array Value} (h : w.ownsRow base e size (.slice (some ⟨g, 0, none⟩) n c) n xs) (hG : w.heap[G]? = some (.cells cs t)) (hne : e ≠ t) : G ≠ g := by
  rintro rfl
  rcases h.2 with ⟨h', _⟩ | ⟨g', cap', cur, h', _, hg, _⟩
  · simp at h'
  · simp only [Value.slice.injEq, Option.some.injEq, Addr.mk.injEq, and_true, true_and] at h'
    obtain ⟨rfl, rfl⟩ := h'
    rw [hG] at hg
    simp only [Option.some.injEq, Obj.cells.injEq] at hg
    exact hne hg.2.1.symm

set_option maxRecDepth 100000 in
theorem l2New (w : World) :
    Calls Try.prog 98 #[] w (NewAt w) := by
  have m16 : ∀ w : World, (Instr.makeSlice 30 (.int .i64 16) (.int .i64 16)).run Try.prog w = .ok (.slice (some ⟨w.heap.size, 0, none⟩) 16 16) (w.alloc (.cells zeros16 3)) := make16
  have m4 := make4
  go_enter Try.func98, Try.ntmps98
  go_upto_region 1 with fail
  go_cut [1] (fun p wx => NewMid w p wx)
  case first =>
    go_region
    all_goals go_wp2_with fail
    all_goals go_meet
    all_goals
      apply Exists.intro
      apply Exists.intro
      apply Exists.intro
      refine ⟨rfl, ?_, ?_, ?_, ?_, ?_, ?_, ?_⟩
      · exact (by first | exact (four_at _ _ _ _ _).2.1 | exact (four_at _ _ _ _ _).2.2.1 | exact (four_at _ _ _ _ _).2.2.2)
      · exact (four_at _ _ _ _ _).1
      · exact own_of_block (cur := zeros16) (by first | exact (four_at _ _ _ _ _).2.1 | exact (four_at _ _ _ _ _).2.2.1 | exact (four_at _ _ _ _ _).2.2.2) (by omega) (by unfold maxLen; omega) rfl rfl
      · exact own_of_block (cur := #[.int .i64 0, .int .i64 0, .int .i64 0, .int .i64 0]) (by first | exact (four_at _ _ _ _ _).2.1 | exact (four_at _ _ _ _ _).2.2.1 | exact (four_at _ _ _ _ _).2.2.2) (by omega) (by unfold maxLen; omega) rfl rfl
      · omega
      · omega
      · exact below_four _ _ _ _ _
  case rest =>
    obtain ⟨G, g4, gl, rfl, hG, hR, ho, hl, hne, hlt, hb⟩ := hcut
    have hlg : gl ≥ w.heap.size + 1 ∧ gl < wc.heap.size := hl.lt gl rfl
    have hGne : G ≠ g4 := own_ne_block ho hG (by decide)
    have hGlt : G < wc.heap.size := by
      rcases Nat.lt_or_ge G wc.heap.size with h | h
      · exact h
      · rw [Array.getElem?_eq_none h] at hG; cases hG
    have HG := Lib.hid hG
    have HR := Lib.hid hR
    have HO := Lib.hid ho
    have HL := Lib.hid hl
    have HB := Lib.hid hb
    have HN := Lib.hid hne
    have cG : ∀ j, wc.cell? ⟨G, j, none⟩ = (#[Value.slice none 0 0, Value.slice (some ⟨g4, 0, none⟩) 16 16, Value.slice (some ⟨gl, 0, none⟩) 4 4] : Array Value)[j]? := fun j => cell_of_row wc G j _ 32 (0, 0) HG.out
    clear hG hR ho hl hb hne
    go_wp2_with (fail)
    go_loopw [2] (fun i wr => ∃ k : Nat, k ≤ 20 ∧ i = .int .i64 k ∧ Hid (wr.ownsRow (w.heap.size + 1) 3 1 (.slice (some ⟨g4, 0, none⟩) 16 16) 16 (ints (floorAt k))) ∧ Hid (wc.grownBy wr (some g4))) (fun i _ => 20 - (intOf i).toNat)
    case atStart => exact ⟨0, Nat.zero_le _, rfl, HO.out, World.grownBy.refl _ _⟩
    case round =>
      obtain ⟨k, hk, rfl, ho, hg⟩ := hrel
      have cG' : ∀ j, wr.cell? ⟨G, j, none⟩ = (#[Value.slice none 0 0, Value.slice (some ⟨g4, 0, none⟩) 16 16, Value.slice (some ⟨gl, 0, none⟩) 4 4] : Array Value)[j]? := fun j =>
        (World.cell?_of_block (w := wc) (a := ⟨G, j, none⟩) (hg.out.block G hGlt (by simpa using hGne))).trans (cG j)
      by_cases hlt2 : k < 20
      · have hb := floorAt_bd k hlt2
        rw [show 5 * k = k * 5 from Nat.mul_comm _ _] at hb
        have hc : wr.cell? ⟨g4, k * 5 % 16, none⟩ = some (.int .i64 ((floorAt k).getD (k * 5 % 16) 0)) := by
          rw [ho.out.cellAt _ (by omega), List.getElem?_map, List.getElem?_eq_getElem (by rw [floorAt_length]; omega)]
          simp [List.getD_eq_getElem?_getD, List.getElem?_eq_getElem (show k * 5 % 16 < (floorAt k).length by rw [floorAt_length]; omega)]
        have hf := ho.out.frozenAt (k * 5 % 16)
        have hst := ho.out.stored (k * 5 % 16) (.int .i64 ((floorAt k).getD (k * 5 % 16) 0 + 1))
        rw [show (ints (floorAt k)).set (k * 5 % 16) (.int .i64 ((floorAt k).getD (k * 5 % 16) 0 + 1)) = ints (floorAt (k + 1)) from by rw [floorAt, ints, ints, List.map_set, Nat.mul_comm]] at hst
        have S1 := Lib.hid hst.1
        have S2 := Lib.hid (grownBy_trans hg.out hst.2)
        clear hst
        obtain ⟨v, hv⟩ : ∃ v, v = (floorAt k).getD (k * 5 % 16) 0 := ⟨_, rfl⟩
        rw [← hv] at hc hb S1 S2
        have HV := Lib.hid hv
        clear hv
        obtain ⟨hb1, hb2⟩ := hb
        have i0 : (0 : Int) ≤ (k : Int) := by omega
        have i1 : (0 : Int) ≤ (k : Int) * 5 % 16 := by omega
        have i2 : (k : Int) * 5 % 16 < 16 := by omega
        have g1 := cG' 1
        simp at g1
        clear cG cG'
        go_wp2_with (fail)
        go_region
        go_wp2
        go_roundw
        case rel => exact ⟨k + 1, by omega, by go_num, S1.out, grownBy_drew S2.out⟩
        case measure => simp [intOf]; omega
      · have hz : k = 20 := by omega
        subst hz
        have hR : wr.heap[w.heap.size]? = some (.cells #[.slice none 0 0, .slice none 0 0, .slice none 0 0] 32) :=
          (hg.out.block w.heap.size (by omega) (by have := (HO.out.lt g4 rfl).1; simp; omega)).trans HR.out
        have cR : ∀ j, wr.cell? ⟨w.heap.size, j, none⟩ = (#[Value.slice none 0 0, Value.slice none 0 0, Value.slice none 0 0] : Array Value)[j]? := fun j => cell_of_row wr w.heap.size j _ 32 (0, 0) hR
        have fR : ∀ j, wr.frozen? ⟨w.heap.size, j, none⟩ = false := fun j => frozen_of_row wr w.heap.size j _ 32 hR
        have g0 := cG' 0; have g1 := cG' 1; have g2 := cG' 2
        have r0 := cR 0; have r1 := cR 1; have r2 := cR 2
        have f0 := fR 0; have f1 := fR 1; have f2 := fR 2
        simp at g0 g1 g2 r0 r1 r2
        have HRR := Lib.hid hR
        clear cG cG' cR fR hR
        go_wp2
        go_light
        have G := grownBy_set3 wr w.heap.size (.slice none 0 0) (.slice (some ⟨g4, 0, none⟩) 16 16) (.slice (some ⟨gl, 0, none⟩) 4 4)
        have hg4 := HO.out.lt g4 rfl
        refine bodyPost_ret (v := gameV none 0 0 (some ⟨g4, 0, none⟩) 16 16 (some ⟨gl, 0, none⟩) 4 4) (by simp [results, Try.results98, go_sem, r0, r1, r2]) rfl ?_
        have hs := hg.out.size
        have hs2 := G.size
        refine ⟨some ⟨g4, 0, none⟩, 16, some ⟨gl, 0, none⟩, 4, rfl, ⟨World.ownsRow_nil _ _ _ _, ?_, ?_, ?_, ?_, ?_, ?_⟩, ?_⟩
        · exact (own_base ho.out (by omega)).kept G (.inr (by simp [Value.ownBlock]; omega))
        · exact (own_base (HL.out.kept hg.out (.inr (by simp [Value.ownBlock]; exact fun e => HN.out e.symm))) (by omega)).kept G (.inr (by simp [Value.ownBlock]; omega))
        · intro g hg; simp [Value.ownBlock] at hg ⊢; have := HN.out; omega
        · intro g hg; simp [Value.ownBlock] at hg
        · intro g hg; simp [Value.ownBlock] at hg; omega
        · intro g hg; simp [Value.ownBlock] at hg; omega
        · exact Below.trans HB.out (Below.trans (Below.of_grown hg.out (by omega) (by rintro k hk; cases hk; omega)) (Below.of_grown G (by omega) (by rintro k hk; cases hk; omega)))

theorem res_block {w w1 : World} {cs : Array Value} {t : TypeId} (hb : Below (w.alloc (.cells cs t)).heap.size (w.alloc (.cells cs t)) w1) : w1.heap[w.heap.size]? = some (.cells cs t) :=
  (hb.block w.heap.size (by simp)).trans (heap_alloc_new w _)

set_option maxRecDepth 100000 in
theorem specGameNew (w : World) :
    Calls Try.prog 33 #[] w (NewAt w) := by
  go_enter Try.func33, Try.ntmps33
  go_wp2_with (fail)
  refine (l2New _).mono ?_
  rintro e w1 ⟨B, b, C, c, rfl, hg, hb⟩
  have hR := res_block hb
  have cR : ∀ j, w1.cell? ⟨w.heap.size, j, none⟩ = (#[Value.slice none 0 0, Value.slice none 0 0, Value.slice none 0 0] : Array Value)[j]? := fun j => cell_of_row w1 w.heap.size j _ 32 (0, 0) hR
  have fR : ∀ j, w1.frozen? ⟨w.heap.size, j, none⟩ = false := fun j => frozen_of_row w1 w.heap.size j _ 32 hR
  have r0 := cR 0; have r1 := cR 1; have r2 := cR 2
  have f0 := fR 0; have f1 := fR 1; have f2 := fR 2
  simp at r0 r1 r2
  have HG := Lib.hid hg
  have HB := Lib.hid hb
  have HR := Lib.hid hR
  clear hg hb cR fR hR
  go_wp2
  go_light
  have G := grownBy_set3 w1 w.heap.size (.slice none 0 0) (.slice B 16 b) (.slice C 4 c)
  refine bodyPost_ret (v := gameV none 0 0 B 16 b C 4 c) (by simp [results, Try.results33, go_sem, r0, r1, r2]) rfl ?_
  have hs := HB.out.size
  have hs2 := G.size
  simp at hs
  refine ⟨B, b, C, c, rfl, ?_, ?_⟩
  · have h1 := HG.out.keeps (Keeps.of_grown (lo := w.heap.size) (hi := w.heap.size + 1) G (by rintro k hk; cases hk; omega)) (.inr (by simp))
    exact ⟨own_base h1.ents (by simp), own_base h1.floor (by simp), own_base h1.last (by simp), h1.two, fun g hg => Nat.lt_of_lt_of_le (h1.entsHi g hg) hs2, fun g hg => Nat.lt_of_lt_of_le (h1.floorHi g hg) hs2, fun g hg => Nat.lt_of_lt_of_le (h1.lastHi g hg) hs2⟩
  · exact Below.trans ((Below.refl _ _).alloc (Nat.le_refl _) _) (Below.trans (HB.out.mono (by simp)) (Below.of_grown G (by omega) (by rintro k hk; cases hk; omega)))
end Go.Proofs.Ytephmhgjhjheaaa
