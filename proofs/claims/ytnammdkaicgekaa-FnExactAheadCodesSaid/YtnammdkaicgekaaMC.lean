/- Tc, Td, Te, Tf, Tg, Th, Tj, Tk, Tl, Tm, Tn, Ti, To -/
import Derived.Test.YtnammdkaicgekaaMB
import Derived.Test.YtnammdkaicgekaaMA
import Derived.RegionTactic
import Derived.Deep.DeepCutAuto
import Derived.Deep.Slices
import Derived.Lib.SmallJoins
import Derived.IntWalk
import Derived.Deep.RegionHeld3
/- Contracts of the laws' own helpers over slices of ints. -/
namespace Go.Proofs.Ytnammdkaicgekaa
open Go.ChangeShapes Go.WideShapes Go.ChangeAt Go.RowKit
set_option linter.unusedVariables false

set_option maxRecDepth 100000 in
theorem eqIntS (A B : Option Addr) (c d : Nat) (la lb : List Int) (w : World) (hA : la.length ≤ maxLen) (hB : lb.length ≤ maxLen) (ha : RdI w A la) (hb : RdI w B lb) :
 Calls Try.prog 8 #[.slice A la.length c, .slice B lb.length d] w fun e w' => e = .returned (.bool (decide (la = lb))) ∧ ∃ m, w' = w.drewN m := by
 unfold maxLen at hA hB
 have HA := Lib.hid ha
 have HB := Lib.hid hb
 clear ha hb
 by_cases hl : la.length = lb.length
 · have hl1 : ((la.length : Int) != (lb.length : Int)) = false := by simp [hl]
   have HL := Lib.hid hl
   clear hl
   go_enter Try.func8, Try.ntmps8
   go_wp2
   go_loopw [5] (fun i wr => ∃ k m : Nat, k ≤ la.length ∧ i = .int .i64 k ∧ wr = w.drewN m ∧ Hid (la.take k = lb.take k)) (fun i _ => la.length - (intOf i).toNat)
   case atStart => exact ⟨0, 0, Nat.zero_le _, rfl, rfl, by simp [Hid]⟩
   case round =>
    obtain ⟨k, m, hk, rfl, rfl, ht⟩ := hrel
    by_cases hlt : k < la.length
    · have hltb : k < lb.length := by have := HL.out; omega
      obtain ⟨g, rfl, hg⟩ := HA.out k hlt
      obtain ⟨g', rfl, hg'⟩ := HB.out k hltb
      obtain ⟨x, hx⟩ : ∃ x, x = la[k] := ⟨_, rfl⟩
      obtain ⟨y, hy⟩ : ∃ y, y = lb[k] := ⟨_, rfl⟩
      rw [← hx] at hg
      rw [← hy] at hg'
      have HX := Lib.hid hx
      have HY := Lib.hid hy
      clear hx hy
      have i0 : (0 : Int) ≤ (k : Int) := by omega
      have i1 : (k : Int) < (la.length : Int) := by omega
      have i2 : (k : Int) < (lb.length : Int) := by omega
      rcases hxy : (x != y) with _ | _
      · go_wp2_with (fail)
        go_quiet (fail)
        go_wp2
        go_roundw
        case rel => exact ⟨k + 1, _, by omega, by go_num, rfl, take_step hlt hltb ht.out (by rw [← HX.out, ← HY.out]; simpa using hxy)⟩
        case measure => simp [intOf]; omega
      · go_wp2_with (fail)
        go_quiet (fail)
        go_wp2
        go_ret
        exact ⟨ret_bool (decide_eq_false (ne_of_at hlt hltb (by rw [← HX.out, ← HY.out]; simpa using hxy))).symm, m + nq, World.drewN_drewN ..⟩
    · have hz : k = la.length := by omega
      have HZ := Lib.hid hz
      clear hz
      go_wp2
      go_ret
      have h1 := ht.out
      rw [HZ.out, List.take_length, HL.out, List.take_length] at h1
      exact ⟨ret_bool (decide_eq_true h1).symm, m, rfl⟩
 · have hl1 : ((la.length : Int) != (lb.length : Int)) = true := by simp; omega
   have HL := Lib.hid hl
   clear hl
   go_enter Try.func8, Try.ntmps8
   go_wp2
   go_ret
   exact ⟨ret_bool (decide_eq_false (fun e => HL.out (by rw [e]))).symm, 0, rfl⟩

set_option maxRecDepth 100000 in
theorem markIntS (base : Nat) (A : Option Addr) (c n : Nat) (xs : List Value) (k : Int) (w : World) (h0 : 0 ≤ k) (h1 : k + n ≤ 4611686018427387904) (hn : n ≤ maxLen) (hown : w.ownsRow base 3 1 (.slice A n c) n xs) :
 Calls Try.prog 11 #[.slice A n c, .int .i64 k] w fun e w' => e = .returned (.int .i64 (k + n)) ∧ w'.ownsRow base 3 1 (.slice A n c) n (ints (marks k n)) ∧ w.grownBy w' (Value.slice A n c).ownBlock := by
 unfold maxLen at hn
 have HO := Lib.hid hown
 have hxl : n = xs.length := by have := hown.1; omega
 have HX := Lib.hid hxl
 clear hown hxl
 go_enter Try.func11, Try.ntmps11
 go_wp2
 go_loopw [1, 5] (fun kk i wr => ∃ j : Nat, j ≤ n ∧ i = .int .i64 j ∧ kk = .int .i64 (k + j) ∧ Hid (wr.ownsRow base 3 1 (.slice A n c) n (ints (marks k j) ++ xs.drop j)) ∧ Hid (w.grownBy wr (Value.slice A n c).ownBlock)) (fun _ i _ => n - (intOf i).toNat)
 case atStart => exact ⟨0, Nat.zero_le _, rfl, by simp, by simpa [Hid, marks] using HO.out, World.grownBy.refl _ _⟩
 case round =>
  obtain ⟨j, hj, rfl, rfl, ho, hg⟩ := hrel
  by_cases hlt : j < n
  · obtain ⟨g, rfl, hb, _⟩ := own_some ho.out (by omega)
    have hf := ho.out.frozenAt j
    have hc : wr.cell? ⟨g, j, none⟩ = (ints (marks k j) ++ xs.drop j)[j]? := ho.out.cellAt j (by omega)
    have hst := ho.out.stored j (.int .i64 (k + (j : Int)))
    rw [set_marks k j xs (by have := HX.out; omega)] at hst
    obtain ⟨hs1, hs2⟩ := hst
    have H1 := Lib.hid hs1
    have H2 := Lib.hid (grownBy_trans hg.out hs2)
    clear hs1 hs2 hb
    obtain ⟨u, hu⟩ : ∃ u, (ints (marks k j) ++ xs.drop j)[j]? = some u := ⟨_, List.getElem?_eq_getElem (by have := HX.out; simp; omega)⟩
    rw [hu] at hc
    clear hu
    have i0 : (0 : Int) ≤ (j : Int) := by omega
    have i1 : (j : Int) < (n : Int) := by omega
    go_wp2
    go_roundw
    case rel => exact ⟨j + 1, by omega, by go_num, by go_num, H1.out, H2.out⟩
    case measure => simp [intOf]; omega
  · have hz : j = n := by omega
    have HZ := Lib.hid hz
    clear hz
    go_wp2
    go_ret
    have := ho.out
    rw [HZ.out] at this ⊢
    rw [List.drop_of_length_le (by have := HX.out; omega), List.append_nil] at this
    exact ⟨rfl, this, hg.out⟩

set_option maxRecDepth 100000 in
theorem heldIntS (A : Option Addr) (c n : Nat) (k : Int) (w : World) (h0 : 0 ≤ k) (h1 : k + n ≤ 4611686018427387904) (hn : n ≤ maxLen) (hr : RdI w A (marks k n)) :
 Calls Try.prog 12 #[.slice A n c, .int .i64 k] w fun e w' => e = .returned (.int .i64 (k + n)) ∧ w' = w := by
 unfold maxLen at hn
 have HR := Lib.hid hr
 clear hr
 go_enter Try.func12, Try.ntmps12
 go_wp2
 go_loop [1, 5] (fun kk i => ∃ j : Nat, j ≤ n ∧ i = .int .i64 j ∧ kk = .int .i64 (k + j)) (fun _ i => n - (intOf i).toNat)
 case atStart => exact ⟨0, Nat.zero_le _, rfl, by simp⟩
 case round =>
  obtain ⟨j, hj, rfl, rfl⟩ := hrel
  by_cases hlt : j < n
  · obtain ⟨g, rfl, hc⟩ := HR.out j (by simpa using hlt)
    rw [marks_at] at hc
    have i0 : (0 : Int) ≤ (j : Int) := by omega
    have i1 : (j : Int) < (n : Int) := by omega
    have e0 : ((k + (j : Int)) != (k + (j : Int))) = false := by simp
    go_wp2
    go_round
    case rel => exact ⟨j + 1, by omega, by go_num, by go_num⟩
    case measure => simp [intOf]; omega
  · have hz : j = n := by omega
    have HZ := Lib.hid hz
    clear hz
    go_wp2
    go_ret
    rw [HZ.out]
    exact ⟨rfl, rfl⟩
end Go.Proofs.Ytnammdkaicgekaa

/- Contracts of the laws' own helpers over games. -/
namespace Go.Proofs.Ytnammdkaicgekaa
open Go.ChangeShapes Go.WideShapes Go.ChangeAt Go.RowKit
set_option linter.unusedVariables false

abbrev gameV (A : Option Addr) (n a : Nat) (B : Option Addr) (m b : Nat) (C : Option Addr) (l c : Nat) : Value := .agg #[.slice A n a, .slice B m b, .slice C l c]

theorem below_alloc2 (w : World) (o o' : Obj) : Below w.heap.size w ((w.alloc o).alloc o') := ((Below.refl _ _).alloc (Nat.le_refl _) _).alloc (by simp) _

/-- A game whose rows lie in the blocks from lo on, below hi. -/
structure GameAt (w : World) (lo hi : Nat) (A : Option Addr) (a : Nat) (B : Option Addr) (b : Nat) (C : Option Addr) (c : Nat) (E : List Fig) (F L : List Int) : Prop where
 ents : w.ownsRow lo 67 5 (.slice A E.length a) E.length (figs E)
 floor : w.ownsRow lo 3 1 (.slice B F.length b) F.length (ints F)
 last : w.ownsRow lo 3 1 (.slice C L.length c) L.length (ints L)
 two : ∀ g, (Value.slice B F.length b).ownBlock = some g → (Value.slice C L.length c).ownBlock ≠ some g
 entsHi : ∀ g, (Value.slice A E.length a).ownBlock = some g → g < hi
 floorHi : ∀ g, (Value.slice B F.length b).ownBlock = some g → g < hi
 lastHi : ∀ g, (Value.slice C L.length c).ownBlock = some g → g < hi

section
variable {w w' : World} {lo hi : Nat} {A : Option Addr} {a : Nat} {B : Option Addr} {b : Nat} {C : Option Addr} {c : Nat} {E : List Fig} {F L : List Int}

theorem GameAt.same (h : GameAt w lo hi A a B b C c E F L) (hk : ∀ k, lo ≤ k → k < hi → w'.heap[k]? = w.heap[k]?) : GameAt w' lo hi A a B b C c E F L :=
 ⟨own_same h.ents fun k e => hk k (h.ents.lt k e).1 (h.entsHi k e), own_same h.floor fun k e => hk k (h.floor.lt k e).1 (h.floorHi k e), own_same h.last fun k e => hk k (h.last.lt k e).1 (h.lastHi k e), h.two, h.entsHi, h.floorHi, h.lastHi⟩

theorem GameAt.below (h : GameAt w lo hi A a B b C c E F L) (hb : Below w.heap.size w w') : GameAt w' lo hi A a B b C c E F L :=
 ⟨own_below h.ents hb, own_below h.floor hb, own_below h.last hb, h.two, h.entsHi, h.floorHi, h.lastHi⟩

theorem GameAt.keeps {lo' hi' : Nat} (h : GameAt w lo hi A a B b C c E F L) (hk : Keeps lo' hi' w w') (ho : hi ≤ lo' ∨ hi' ≤ lo) : GameAt w' lo hi A a B b C c E F L :=
 ⟨own_same h.ents fun k e => hk.block k (h.ents.lt k e).2 (by have := (h.ents.lt k e).1; have := h.entsHi k e; omega), own_same h.floor fun k e => hk.block k (h.floor.lt k e).2 (by have := (h.floor.lt k e).1; have := h.floorHi k e; omega),
  own_same h.last fun k e => hk.block k (h.last.lt k e).2 (by have := (h.last.lt k e).1; have := h.lastHi k e; omega), h.two, h.entsHi, h.floorHi, h.lastHi⟩
end

end Go.Proofs.Ytnammdkaicgekaa

/- A new game: the program's and the model's. -/
namespace Go.Proofs.Ytnammdkaicgekaa
open Go.ChangeShapes Go.WideShapes Go.ChangeAt Go.RowKit
set_option linter.unusedVariables false

def floorAt : Nat → List Int
 | 0 => List.replicate 16 0
 | k + 1 => (floorAt k).set (5 * k % 16) ((floorAt k).getD (5 * k % 16) 0 + 1)

theorem floorAt_length (k : Nat) : (floorAt k).length = 16 := by
 induction k with
 | zero => rfl
 | succ k ih => simp [floorAt, ih]

theorem floorAt_bd : ∀ k, k < 20 → 0 ≤ (floorAt k).getD (5 * k % 16) 0 ∧ (floorAt k).getD (5 * k % 16) 0 ≤ 20 := by decide

theorem make16 (w : World) : (Instr.makeSlice 26 (.int .i64 16) (.int .i64 16)).run Try.prog w = .ok (.slice (some ⟨w.heap.size, 0, none⟩) 16 16) (w.alloc (.cells (List.replicate 16 (.int .i64 0)).toArray 3)) := by kernel_rfl
theorem make4 (w : World) : (Instr.makeSlice 26 (.int .i64 4) (.int .i64 4)).run Try.prog w = .ok (.slice (some ⟨w.heap.size, 0, none⟩) 4 4) (w.alloc (.cells #[.int .i64 0, .int .i64 0, .int .i64 0, .int .i64 0] 3)) := by kernel_rfl

def zeros16 : Array Value := (List.replicate 16 (.int .i64 0)).toArray

/-- A game that is new: no figures, gold F on the floor. -/
def NewAt (w : World) (e : Ending) (w' : World) : Prop :=
 ∃ B b C c, e = .returned (gameV none 0 0 B 16 b C 4 c) ∧ GameAt w' w.heap.size w'.heap.size none 0 B b C c [] (floorAt 20) [0, 0, 0, 0] ∧ Below w.heap.size w w'

set_option maxRecDepth 100000 in
theorem gameNew (w : World) :
 Calls Try.prog 40 #[] w (NewAt w) := by
 have m16 : ∀ w : World, (Instr.makeSlice 26 (.int .i64 16) (.int .i64 16)).run Try.prog w = .ok (.slice (some ⟨w.heap.size, 0, none⟩) 16 16) (w.alloc (.cells zeros16 3)) := make16
 have m4 := make4
 go_enter Try.func40, Try.ntmps40
 go_wp2
 go_loopw [4] (fun i wr => ∃ k : Nat, k ≤ 20 ∧ i = .int .i64 k ∧ Hid (wr.ownsRow (w.heap.size + 1) 3 1 (.slice (some ⟨w.heap.size + 1, 0, none⟩) 16 16) 16 (ints (floorAt k))) ∧
  Hid (((w.alloc (.cells #[.slice none 0 0, .slice none 0 0, .slice none 0 0] 41)).alloc (.cells zeros16 3)).grownBy wr (some (w.heap.size + 1)))) (fun i _ => 20 - (intOf i).toNat)
 case atStart =>
  refine ⟨0, Nat.zero_le _, rfl, ?_, World.grownBy.refl _ _⟩
  have := World.ownsRow_lit (base := w.heap.size + 1) (e := 3) (size := 1) (w.alloc (.cells #[.slice none 0 0, .slice none 0 0, .slice none 0 0] 41)) zeros16 16 (by simp) (by unfold maxLen; omega) rfl
  simpa [Hid, zeros16, floorAt, ints] using this
 case round =>
  obtain ⟨k, hk, rfl, ho, hg⟩ := hrel
  by_cases hlt : k < 20
  · have hb := floorAt_bd k hlt
    have hc : wr.cell? ⟨w.heap.size + 1, 5 * k % 16, none⟩ = some (.int .i64 ((floorAt k).getD (5 * k % 16) 0)) := by
     rw [ho.out.cellAt _ (by omega), List.getElem?_map, List.getElem?_eq_getElem (by rw [floorAt_length]; omega)]
     simp [List.getD_eq_getElem?_getD, List.getElem?_eq_getElem (show 5 * k % 16 < (floorAt k).length by rw [floorAt_length]; omega)]
    have hf := ho.out.frozenAt (5 * k % 16)
    have hst := ho.out.stored (5 * k % 16) (.int .i64 ((floorAt k).getD (5 * k % 16) 0 + 1))
    rw [show (ints (floorAt k)).set (5 * k % 16) (.int .i64 ((floorAt k).getD (5 * k % 16) 0 + 1)) = ints (floorAt (k + 1)) from by rw [floorAt, ints, ints, List.map_set]] at hst
    have S1 := Lib.hid hst.1
    have S2 := Lib.hid (grownBy_trans hg.out hst.2)
    clear hst
    obtain ⟨v, hv⟩ : ∃ v, v = (floorAt k).getD (5 * k % 16) 0 := ⟨_, rfl⟩
    rw [← hv] at hc hb S1 S2
    have HV := Lib.hid hv
    clear hv
    obtain ⟨hb1, hb2⟩ := hb
    have i0 : (0 : Int) ≤ (k : Int) := by omega
    have i1 : (0 : Int) ≤ 5 * (k : Int) % 16 := by omega
    have i2 : 5 * (k : Int) % 16 < 16 := by omega
    go_wp2
    go_roundw
    case rel => exact ⟨k + 1, by omega, by go_num, S1.out, S2.out⟩
    case measure => simp [intOf]; omega
  · have hz : k = 20 := by omega
    subst hz
    have hlt0 : w.heap.size < ((w.alloc (.cells #[.slice none 0 0, .slice none 0 0, .slice none 0 0] 41)).alloc (.cells zeros16 3)).heap.size := by simp; omega
    have hsz : w.heap.size + 1 < wr.heap.size := by have := hg.out.size; simp at this; omega
    have hblk : wr.heap[w.heap.size]? = some (.cells #[.slice none 0 0, .slice none 0 0, .slice none 0 0] 41) := by
     rw [hg.out.block w.heap.size hlt0 (by simp), Below.heap_alloc _ _ _ (by simp)]
     exact heap_alloc_new w _
    have q0 : ∀ j, (wr.alloc (.cells #[.int .i64 0, .int .i64 0, .int .i64 0, .int .i64 0] 3)).cell? ⟨w.heap.size, j, none⟩ = (#[Value.slice none 0 0, Value.slice none 0 0, Value.slice none 0 0] : Array Value)[j]? := fun j => by
     rw [World.cell?_alloc_lt _ _ _ (by simp; omega)]
     exact cell_of_row wr w.heap.size j _ 41 (0, 0) hblk
    have qf : ∀ j, (wr.alloc (.cells #[.int .i64 0, .int .i64 0, .int .i64 0, .int .i64 0] 3)).frozen? ⟨w.heap.size, j, none⟩ = false := fun j => by
     rw [World.frozen?_alloc_old _ _ _ (by simp; omega)]
     exact frozen_of_row wr w.heap.size j _ 41 hblk
    have c0 := q0 0
    have c1 := q0 1
    have c2 := q0 2
    have f0 := qf 0
    have f1 := qf 1
    have f2 := qf 2
    simp at c0 c1 c2
    have HB := Lib.hid hblk
    clear q0 qf hlt0 hblk
    go_wp2
    go_light
    refine bodyPost_ret (v := gameV none 0 0 (some ⟨w.heap.size + 1, 0, none⟩) 16 16 (some ⟨wr.heap.size, 0, none⟩) 4 4) (by simp [results, Try.results40, go_sem, c0, c1, c2]) rfl ?_
    have hne : wr.heap.size ≠ w.heap.size := by omega
    have G := grownBy_set3 (wr.alloc (.cells #[.int .i64 0, .int .i64 0, .int .i64 0, .int .i64 0] 3)) w.heap.size (.slice none 0 0) (.slice (some ⟨w.heap.size + 1, 0, none⟩) 16 16) (.slice (some ⟨wr.heap.size, 0, none⟩) 4 4)
    have hown4 := World.ownsRow_lit (base := w.heap.size) (e := 3) (size := 1) wr #[.int .i64 0, .int .i64 0, .int .i64 0, .int .i64 0] 4 (by omega) (by unfold maxLen; omega) rfl
    refine ⟨some ⟨w.heap.size + 1, 0, none⟩, 16, some ⟨wr.heap.size, 0, none⟩, 4, rfl, ⟨World.ownsRow_nil _ _ _ _, ?_, ?_, ?_, ?_, ?_, ?_⟩, ?_⟩
    · exact (own_base (ho.out.alloc _) (by omega)).kept G (.inr (by simp [Value.ownBlock]))
    · exact hown4.kept G (.inr (by simp [Value.ownBlock]; omega))
    · intro g hg; simp [Value.ownBlock] at hg ⊢; omega
    · intro g hg; simp [Value.ownBlock] at hg
    · intro g hg; simp [Value.ownBlock] at hg; subst hg; have := G.size; simp at this ⊢; omega
    · intro g hg; simp [Value.ownBlock] at hg; subst hg; have := G.size; simp at this ⊢
    · refine Below.trans (((Below.refl _ _).alloc (Nat.le_refl _) _).alloc (by simp) _) (Below.trans (Below.of_grown hg.out (by simp; omega) (by rintro k hk; cases hk; omega)) ?_)
      exact ((Below.refl _ _).alloc (by omega) _).trans (Below.of_grown G (by simp; omega) (by rintro k hk; cases hk; omega))
end Go.Proofs.Ytnammdkaicgekaa

/- The model's new game. -/
namespace Go.Proofs.Ytnammdkaicgekaa
open Go.ChangeShapes Go.WideShapes Go.ChangeAt Go.RowKit
set_option linter.unusedVariables false

def NewMid (w : World) (p : Value) (wx : World) : Prop :=
 ∃ G g4 gl : Nat, p = .pointer (some ⟨G, 0, none⟩) ∧ wx.heap[G]? = some (.cells #[.slice none 0 0, .slice (some ⟨g4, 0, none⟩) 16 16, .slice (some ⟨gl, 0, none⟩) 4 4] 41) ∧ wx.heap[w.heap.size]? = some (.cells #[.slice none 0 0, .slice none 0 0, .slice none 0 0] 41) ∧
  wx.ownsRow (w.heap.size + 1) 3 1 (.slice (some ⟨g4, 0, none⟩) 16 16) 16 (ints (floorAt 0)) ∧ wx.ownsRow (w.heap.size + 1) 3 1 (.slice (some ⟨gl, 0, none⟩) 4 4) 4 (ints [0, 0, 0, 0]) ∧ g4 ≠ gl ∧ w.heap.size < G ∧ Below w.heap.size w wx

theorem grownBy_drew {w w' : World} {row : Option Nat} (h : w.grownBy w' row) : w.grownBy w'.drew row := ⟨h.os, h.tape, h.output, h.size, h.block⟩

theorem own_ne_block {w : World} {base g G : Nat} {e t : TypeId} {size n c : Nat} {xs : List Value} {cs : Array Value} (h : w.ownsRow base e size (.slice (some ⟨g, 0, none⟩) n c) n xs) (hG : w.heap[G]? = some (.cells cs t)) (hne : e ≠ t) : G ≠ g := by
 rintro rfl
 rcases h.2 with ⟨h', _⟩ | ⟨g', cap', cur, h', _, hg, _⟩
 · simp at h'
 · simp only [Value.slice.injEq, Option.some.injEq, Addr.mk.injEq, and_true, true_and] at h'
   obtain ⟨rfl, rfl⟩ := h'
   rw [hG] at hg
   simp only [Option.some.injEq, Obj.cells.injEq] at hg
   exact hne hg.2.1.symm

set_option maxRecDepth 100000 in
theorem l2New (w : World) :
 Calls Try.prog 25 #[] w (NewAt w) := by
 have m16 : ∀ w : World, (Instr.makeSlice 26 (.int .i64 16) (.int .i64 16)).run Try.prog w = .ok (.slice (some ⟨w.heap.size, 0, none⟩) 16 16) (w.alloc (.cells zeros16 3)) := make16
 have m4 := make4
 go_enter Try.func25, Try.ntmps25
 go_upto_region 1 with fail
 go_cut [1] (fun p wx => NewMid w p wx)
 case first =>
  go_region
  all_goals go_wp2_with fail
  all_goals go_meet
  all_goals
   apply Exists.intro
   apply Exists.intro
   apply Exists.intro
   refine ⟨rfl, ?_, ?_, ?_, ?_, ?_, ?_, ?_⟩
   · exact (by first | exact (four_at _ _ _ _ _).2.1 | exact (four_at _ _ _ _ _).2.2.1 | exact (four_at _ _ _ _ _).2.2.2)
   · exact (four_at _ _ _ _ _).1
   · exact own_of_block (cur := zeros16) (by first | exact (four_at _ _ _ _ _).2.1 | exact (four_at _ _ _ _ _).2.2.1 | exact (four_at _ _ _ _ _).2.2.2) (by omega) (by unfold maxLen; omega) rfl rfl
   · exact own_of_block (cur := #[.int .i64 0, .int .i64 0, .int .i64 0, .int .i64 0]) (by first | exact (four_at _ _ _ _ _).2.1 | exact (four_at _ _ _ _ _).2.2.1 | exact (four_at _ _ _ _ _).2.2.2) (by omega) (by unfold maxLen; omega) rfl rfl
   · omega
   · omega
   · exact below_four _ _ _ _ _
 case rest =>
  obtain ⟨G, g4, gl, rfl, hG, hR, ho, hl, hne, hlt, hb⟩ := hcut
  have hlg : gl ≥ w.heap.size + 1 ∧ gl < wc.heap.size := hl.lt gl rfl
  have hGne : G ≠ g4 := own_ne_block ho hG (by decide)
  have hGlt : G < wc.heap.size := by
   rcases Nat.lt_or_ge G wc.heap.size with h | h
   · exact h
   · rw [Array.getElem?_eq_none h] at hG; cases hG
  have HG := Lib.hid hG
  have HR := Lib.hid hR
  have HO := Lib.hid ho
  have HL := Lib.hid hl
  have HB := Lib.hid hb
  have HN := Lib.hid hne
  have cG : ∀ j, wc.cell? ⟨G, j, none⟩ = (#[Value.slice none 0 0, Value.slice (some ⟨g4, 0, none⟩) 16 16, Value.slice (some ⟨gl, 0, none⟩) 4 4] : Array Value)[j]? := fun j => cell_of_row wc G j _ 41 (0, 0) HG.out
  clear hG hR ho hl hb hne
  go_wp2_with (fail)
  go_loopw [2] (fun i wr => ∃ k : Nat, k ≤ 20 ∧ i = .int .i64 k ∧ Hid (wr.ownsRow (w.heap.size + 1) 3 1 (.slice (some ⟨g4, 0, none⟩) 16 16) 16 (ints (floorAt k))) ∧ Hid (wc.grownBy wr (some g4))) (fun i _ => 20 - (intOf i).toNat)
  case atStart => exact ⟨0, Nat.zero_le _, rfl, HO.out, World.grownBy.refl _ _⟩
  case round =>
   obtain ⟨k, hk, rfl, ho, hg⟩ := hrel
   have cG' : ∀ j, wr.cell? ⟨G, j, none⟩ = (#[Value.slice none 0 0, Value.slice (some ⟨g4, 0, none⟩) 16 16, Value.slice (some ⟨gl, 0, none⟩) 4 4] : Array Value)[j]? := fun j =>
    (World.cell?_of_block (w := wc) (a := ⟨G, j, none⟩) (hg.out.block G hGlt (by simpa using hGne))).trans (cG j)
   by_cases hlt2 : k < 20
   · have hb := floorAt_bd k hlt2
     rw [show 5 * k = k * 5 from Nat.mul_comm _ _] at hb
     have hc : wr.cell? ⟨g4, k * 5 % 16, none⟩ = some (.int .i64 ((floorAt k).getD (k * 5 % 16) 0)) := by
      rw [ho.out.cellAt _ (by omega), List.getElem?_map, List.getElem?_eq_getElem (by rw [floorAt_length]; omega)]
      simp [List.getD_eq_getElem?_getD, List.getElem?_eq_getElem (show k * 5 % 16 < (floorAt k).length by rw [floorAt_length]; omega)]
     have hf := ho.out.frozenAt (k * 5 % 16)
     have hst := ho.out.stored (k * 5 % 16) (.int .i64 ((floorAt k).getD (k * 5 % 16) 0 + 1))
     rw [show (ints (floorAt k)).set (k * 5 % 16) (.int .i64 ((floorAt k).getD (k * 5 % 16) 0 + 1)) = ints (floorAt (k + 1)) from by rw [floorAt, ints, ints, List.map_set, Nat.mul_comm]] at hst
     have S1 := Lib.hid hst.1
     have S2 := Lib.hid (grownBy_trans hg.out hst.2)
     clear hst
     obtain ⟨v, hv⟩ : ∃ v, v = (floorAt k).getD (k * 5 % 16) 0 := ⟨_, rfl⟩
     rw [← hv] at hc hb S1 S2
     have HV := Lib.hid hv
     clear hv
     obtain ⟨hb1, hb2⟩ := hb
     have i0 : (0 : Int) ≤ (k : Int) := by omega
     have i1 : (0 : Int) ≤ (k : Int) * 5 % 16 := by omega
     have i2 : (k : Int) * 5 % 16 < 16 := by omega
     have g1 := cG' 1
     simp at g1
     clear cG cG'
     go_wp2_with (fail)
     go_region
     go_wp2
     go_roundw
     case rel => exact ⟨k + 1, by omega, by go_num, S1.out, grownBy_drew S2.out⟩
     case measure => simp [intOf]; omega
   · have hz : k = 20 := by omega
     subst hz
     have hR : wr.heap[w.heap.size]? = some (.cells #[.slice none 0 0, .slice none 0 0, .slice none 0 0] 41) :=
      (hg.out.block w.heap.size (by omega) (by have := (HO.out.lt g4 rfl).1; simp; omega)).trans HR.out
     have cR : ∀ j, wr.cell? ⟨w.heap.size, j, none⟩ = (#[Value.slice none 0 0, Value.slice none 0 0, Value.slice none 0 0] : Array Value)[j]? := fun j => cell_of_row wr w.heap.size j _ 41 (0, 0) hR
     have fR : ∀ j, wr.frozen? ⟨w.heap.size, j, none⟩ = false := fun j => frozen_of_row wr w.heap.size j _ 41 hR
     have g0 := cG' 0; have g1 := cG' 1; have g2 := cG' 2
     have r0 := cR 0; have r1 := cR 1; have r2 := cR 2
     have f0 := fR 0; have f1 := fR 1; have f2 := fR 2
     simp at g0 g1 g2 r0 r1 r2
     have HRR := Lib.hid hR
     clear cG cG' cR fR hR
     go_wp2
     go_light
     have G := grownBy_set3 wr w.heap.size (.slice none 0 0) (.slice (some ⟨g4, 0, none⟩) 16 16) (.slice (some ⟨gl, 0, none⟩) 4 4)
     have hg4 := HO.out.lt g4 rfl
     refine bodyPost_ret (v := gameV none 0 0 (some ⟨g4, 0, none⟩) 16 16 (some ⟨gl, 0, none⟩) 4 4) (by simp [results, Try.results25, go_sem, r0, r1, r2]) rfl ?_
     have hs := hg.out.size
     have hs2 := G.size
     refine ⟨some ⟨g4, 0, none⟩, 16, some ⟨gl, 0, none⟩, 4, rfl, ⟨World.ownsRow_nil _ _ _ _, ?_, ?_, ?_, ?_, ?_, ?_⟩, ?_⟩
     · exact (own_base ho.out (by omega)).kept G (.inr (by simp [Value.ownBlock]; omega))
     · exact (own_base (HL.out.kept hg.out (.inr (by simp [Value.ownBlock]; exact fun e => HN.out e.symm))) (by omega)).kept G (.inr (by simp [Value.ownBlock]; omega))
     · intro g hg; simp [Value.ownBlock] at hg ⊢; have := HN.out; omega
     · intro g hg; simp [Value.ownBlock] at hg
     · intro g hg; simp [Value.ownBlock] at hg; omega
     · intro g hg; simp [Value.ownBlock] at hg; omega
     · exact Below.trans HB.out (Below.trans (Below.of_grown hg.out (by omega) (by rintro k hk; cases hk; omega)) (Below.of_grown G (by omega) (by rintro k hk; cases hk; omega)))

end Go.Proofs.Ytnammdkaicgekaa

/- The size of what came in; a game that came in, opened. -/
namespace Go.Proofs.Ytnammdkaicgekaa
open Go.ChangeShapes Go.WideShapes Go.ChangeAt Go.RowKit
set_option linter.unusedVariables false

section
variable {H : Type} {enc : TypeId × Value → H} {w : World} {base : Nat} {spare : Nat → Bool} {held : Bool}

theorem addr_of {a : Addr} {u : Value} (h : w.cell? a = some u) : a = ⟨a.block, a.off, none⟩ := by
 obtain ⟨b, o, s⟩ := a
 unfold World.cell? at h
 split at h
 · cases s with
   | none => rfl
   | some _ => simp at h
 · cases h

theorem add_eq (b o n : Nat) : (⟨b, o, none⟩ : Addr).add n = ⟨b, o + n, none⟩ := by
 unfold Addr.add
 split
 · next h => subst h; rfl
 · rfl

/-- The cells of a struct whose fields are all ints. -/
theorem ints_of_cells {P : Program} {t : TypeId} {fs : Array Field} {fuel : Nat} {cl : List Value} {x : DataW H × List MemPlace} (hs : P.underlying t = some (.struct fs)) (hone : Go.Deep.oneCellFields P fs = true) (hcl : cl.length = fs.size)
 (hall : fs.toList.map (fun f => P.underlying f.type) = List.replicate fs.size (some (.int .i64))) (h : DataW.trod enc P w base spare held fuel t cl = some x) : ∃ l : List Int, cl = l.map (Value.int .i64) := by
 have hint : ∀ (i : Nat) (f : Field), fs[i]? = some f → P.underlying f.type = some (.int .i64) := by
  intro i f hf
  have h1 : (fs.toList.map (fun f => P.underlying f.type))[i]? = some (P.underlying f.type) := by
   rw [List.getElem?_map]
   simp [hf]
  rw [hall, List.getElem?_replicate] at h1
  split at h1
  · exact (Option.some.inj h1).symm
  · cases h1
 obtain ⟨xs, n, _, _, _, hlen, hg⟩ := DataW.trod_struct hs h
 have key : ∀ (i : Nat) (hi : i < cl.length), ∃ m : Int, cl[i] = .int .i64 m := by
  intro i hi
  have hfi : fs[i]? = some (fs[i]'(by omega)) := Array.getElem?_eq_getElem (by omega)
  obtain ⟨ho, hk⟩ := Go.Deep.hone_of hone i _ hfi
  have h1 := hg i _ hfi
  rw [ho, hk] at h1
  have h2 : (cl.drop i).take 1 = [cl[i]] := by
   rw [List.drop_eq_getElem_cons hi]
   rfl
  rw [h2, show xs[i]? = some (xs[i]'(by omega)) from List.getElem?_eq_getElem (by omega)] at h1
  obtain ⟨m, hm, _, _⟩ := DataW.trod_int (hint i _ hfi) h1
  exact ⟨m, by simpa using hm⟩
 refine ⟨cl.map intOf, ?_⟩
 rw [List.map_map]
 apply List.ext_getElem
 · simp
 · intro i h1 h2
   obtain ⟨m, hm⟩ := key i h1
   simp [hm, intOf]

theorem pick_list {α : Type} {Q : Nat → α → Prop} (n : Nat) (h : ∀ i, i < n → ∃ x, Q i x) : ∃ l : List α, l.length = n ∧ ∀ (i : Nat) (hi : i < l.length), Q i (l[i]'hi) := by
 induction n with
 | zero => exact ⟨[], rfl, fun i hi => absurd hi (by simp)⟩
 | succ k ih =>
  obtain ⟨l, hl, hat⟩ := ih fun i hi => h i (by omega)
  obtain ⟨x, hx⟩ := h k (by omega)
  refine ⟨l ++ [x], by simp [hl], fun i hi => ?_⟩
  rcases Nat.lt_or_ge i l.length with h1 | h1
  · rw [List.getElem_append_left h1]
    exact hat i h1
  · have hik : i = k := by simp at hi; omega
    subst hik
    rw [List.getElem_append_right h1]
    simpa using hx

end
end Go.Proofs.Ytnammdkaicgekaa

/- Whether a game is ok: the program's own check. -/
namespace Go.Proofs.Ytnammdkaicgekaa
open Go.ChangeShapes Go.WideShapes Go.ChangeAt Go.RowKit
set_option linter.unusedVariables false

def onB (x y : Int) : Bool := inB x 0 3 && inB y 0 3
def entB (e : Fig) : Bool := inB e.c 1 4 && (onB e.x e.y && (inB e.l 0 3 && inB e.g 0 20))
def entsB : Int → List Fig → Bool
 | _, [] => true
 | p, e :: t => decide (p < e.c) && (entB e && entsB e.c t)
def allB (l : List Int) (hi : Int) : Bool := l.all fun n => inB n 0 hi
def goldE (E : List Fig) : Int := (E.map fun e => e.g).sum

theorem onBoard (x y : Int) (w : World) :
 Calls Try.prog 60 #[.int .i64 x, .int .i64 y] w fun e w' => e = .returned (.bool (onB x y)) ∧ w = w' := by
 rcases h1 : inB x 0 3 with _ | _
 all_goals rcases h2 : inB y 0 3 with _ | _
 all_goals go_enter Try.func60, Try.ntmps60
 all_goals go_wp2_with (first | (go_at_call 30; refine (implIn _ _ _ _).mono ?_; rintro e w' ⟨rfl, rfl⟩; first | rw [h1] | rw [h2]))
 all_goals go_ret
 all_goals unfold onB
 all_goals rw [h1, h2]
 all_goals exact ⟨rfl, rfl⟩

set_option maxRecDepth 100000 in
theorem entsOk (A : Option Addr) (c : Nat) (E : List Fig) (w : World) (hE : E.length ≤ maxLen) (hr : RdF w A E) :
 Calls Try.prog 51 #[.slice A E.length c] w fun e w' => e = .returned (.bool (entsB 0 E)) ∧ Below w.heap.size w w' := by
 unfold maxLen at hE
 have HA := Lib.hid hr
 clear hr
 go_enter Try.func51, Try.ntmps51
 go_wp2
 go_loopw [3, 8] (fun pv i wr => ∃ (k : Nat) (p : Int), k ≤ E.length ∧ i = .int .i64 k ∧ pv = .int .i64 p ∧ 0 ≤ p ∧ Hid (entsB 0 E = entsB p (E.drop k)) ∧ Hid (Below w.heap.size w wr)) (fun _ i _ => E.length - (intOf i).toNat)
 case atStart => exact ⟨0, 0, Nat.zero_le _, rfl, rfl, by omega, by simp [Hid], Below.refl _ _⟩
 case round =>
  obtain ⟨k, p, hk, rfl, rfl, hp, he, hb⟩ := hrel
  by_cases hlt : k < E.length
  · obtain ⟨g, rfl, a0, a1, a2, a3, a4⟩ := RdF.below HA.out hb.out k hlt
    have HD := Lib.hid (List.drop_eq_getElem_cons hlt)
    generalize E[k] = f at a0 a1 a2 a3 a4 HD
    have i0 : (0 : Int) ≤ (k : Int) := by omega
    have i1 : (k : Int) < (E.length : Int) := by omega
    have BB := Lib.hid (Below.trans hb.out ((Below.refl wr.heap.size wr).alloc (Nat.le_refl _) (.cells #[.int .i64 f.c, .int .i64 f.x, .int .i64 f.y, .int .i64 f.l, .int .i64 f.g] 67) |>.mono hb.out.size))
    by_cases h1 : f.c ≤ p
    · go_wp2
      go_light
      go_ret
      exact ⟨ret_bool (by rw [he.out, HD.out, entsB, decide_eq_false (by omega)]; rfl), BB.out⟩
    by_cases h2 : 4 < f.c
    · go_wp2
      go_light
      go_ret
      exact ⟨ret_bool (by rw [he.out, HD.out, entsB, entB, inB, decide_eq_false (show ¬ f.c ≤ 4 by omega)]; simp), BB.out⟩
    have hc : inB f.c 1 4 = true := by simp [inB]; omega
    have HC := Lib.hid hc
    clear hc
    rcases h3 : onB f.x f.y with _ | _
    · go_wp2_with (first | (go_at_call 60; refine (onBoard _ _ _).mono ?_; rintro e w' ⟨rfl, rfl⟩; rw [h3]))
      go_light
      go_ret
      exact ⟨ret_bool (by rw [he.out, HD.out, entsB, entB, h3]; simp), BB.out⟩
    rcases h4 : inB f.l 0 3 with _ | _
    · go_wp2_with (first | (go_at_call 60; refine (onBoard _ _ _).mono ?_; rintro e w' ⟨rfl, rfl⟩; rw [h3]) | (go_at_call 30; refine (implIn _ _ _ _).mono ?_; rintro e w' ⟨rfl, rfl⟩; first | rw [h4]))
      go_light
      go_ret
      exact ⟨ret_bool (by rw [he.out, HD.out, entsB, entB, h4]; simp), BB.out⟩
    rcases h5 : inB f.g 0 20 with _ | _
    · go_wp2_with (first | (go_at_call 60; refine (onBoard _ _ _).mono ?_; rintro e w' ⟨rfl, rfl⟩; rw [h3]) | (go_at_call 30; refine (implIn _ _ _ _).mono ?_; rintro e w' ⟨rfl, rfl⟩; first | rw [h4] | rw [h5]))
      go_light
      go_ret
      exact ⟨ret_bool (by rw [he.out, HD.out, entsB, entB, h5]; simp), BB.out⟩
    have HF := Lib.hid (show entsB p (E.drop k) = entsB f.c (E.drop (k + 1)) by rw [HD.out, entsB, entB, HC.out, h3, h4, h5, decide_eq_true (show p < f.c by omega)]; rfl)
    go_wp2_with (first | (go_at_call 60; refine (onBoard _ _ _).mono ?_; rintro e w' ⟨rfl, rfl⟩; rw [h3]) | (go_at_call 30; refine (implIn _ _ _ _).mono ?_; rintro e w' ⟨rfl, rfl⟩; first | rw [h4] | rw [h5]))
    go_roundw
    case rel => exact ⟨k + 1, f.c, by omega, by go_num, rfl, by omega, he.out.trans HF.out, BB.out⟩
    case measure => simp [intOf]; omega
  · have hz : k = E.length := by omega
    have HZ := Lib.hid hz
    clear hz
    go_wp2
    go_ret
    exact ⟨ret_bool (by rw [he.out, HZ.out, List.drop_length]; rfl), hb.out⟩

set_option maxRecDepth 100000 in
theorem allWithin (A : Option Addr) (c : Nat) (l : List Int) (hi : Int) (w : World) (hl : l.length ≤ maxLen) (hr : RdI w A l) :
 Calls Try.prog 52 #[.slice A l.length c, .int .i64 hi] w fun e w' => e = .returned (.bool (allB l hi)) ∧ w = w' := by
 unfold maxLen at hl
 have HA := Lib.hid hr
 clear hr
 go_enter Try.func52, Try.ntmps52
 go_wp2
 go_loop [9] (fun i => ∃ k : Nat, k ≤ l.length ∧ i = .int .i64 k ∧ Hid (allB l hi = allB (l.drop k) hi)) (fun i => l.length - (intOf i).toNat)
 case atStart => exact ⟨0, Nat.zero_le _, rfl, by simp [Hid]⟩
 case round =>
  obtain ⟨k, hk, rfl, he⟩ := hrel
  by_cases hlt : k < l.length
  · obtain ⟨g, rfl, a0⟩ := HA.out k hlt
    have HD := Lib.hid (List.drop_eq_getElem_cons hlt)
    generalize l[k] = v at a0 HD
    have i0 : (0 : Int) ≤ (k : Int) := by omega
    have i1 : (k : Int) < (l.length : Int) := by omega
    rcases h1 : inB v 0 hi with _ | _
    · go_wp2_with (go_at_call 30; refine (implIn _ _ _ _).mono ?_; rintro e w' ⟨rfl, rfl⟩; rw [h1])
      go_light
      go_ret
      exact ⟨ret_bool (by rw [he.out, HD.out, allB, List.all_cons, h1]; rfl), rfl⟩
    · have HF := Lib.hid (show allB (l.drop k) hi = allB (l.drop (k + 1)) hi by rw [HD.out, allB, List.all_cons, h1, Bool.true_and]; rfl)
      go_wp2_with (go_at_call 30; refine (implIn _ _ _ _).mono ?_; rintro e w' ⟨rfl, rfl⟩; rw [h1])
      go_round
      case rel => exact ⟨k + 1, by omega, by go_num, he.out.trans HF.out⟩
      case measure => simp [intOf]; omega
  · have hz : k = l.length := by omega
    have HZ := Lib.hid hz
    clear hz
    go_wp2
    go_ret
    exact ⟨ret_bool (by rw [he.out, HZ.out, List.drop_length]; rfl), rfl⟩

theorem sum_step (l : List Int) (k : Nat) (h : k < l.length) : (l.take (k + 1)).sum = (l.take k).sum + l[k] := by
 rw [List.take_succ_eq_append_getElem h, List.sum_append]
 simp

theorem gold_step (E : List Fig) (k : Nat) (h : k < E.length) : goldE (E.take (k + 1)) = goldE (E.take k) + E[k].g := by
 unfold goldE
 rw [List.take_succ_eq_append_getElem h, List.map_append, List.sum_append]
 simp

set_option maxRecDepth 100000 in
theorem goldOf (A : Option Addr) (a : Nat) (B : Option Addr) (b : Nat) (C : Option Addr) (n c : Nat) (E : List Fig) (F : List Int) (w : World) (hE : E.length ≤ 1048576) (hF : F.length ≤ 1048576)
 (gE : ∀ (i : Nat) (h : i < E.length), 0 ≤ (E[i]'h).g ∧ (E[i]'h).g ≤ 20) (gF : ∀ (i : Nat) (h : i < F.length), 0 ≤ F[i]'h ∧ F[i]'h ≤ 20) (rE : RdF w A E) (rF : RdI w B F) :
 Calls Try.prog 53 #[gameV A E.length a B F.length b C n c] w fun e w' => e = .returned (.int .i64 (F.sum + goldE E)) ∧ Below w.heap.size w w' := by
 have z0 : Below w.heap.size w (w.alloc (.cells #[.slice A E.length a, .slice B F.length b, .slice C n c] 41)) := (Below.refl _ _).alloc (Nat.le_refl _) _
 have HE := Lib.hid (RdF.below rE z0)
 have HF := Lib.hid (RdI.below rF z0)
 have GE := Lib.hid gE
 have GF := Lib.hid gF
 have b0 := Three.new (u0 := .slice A E.length a) (u1 := .slice B F.length b) (u2 := .slice C n c) (t := 41) w
 have K0 := Lib.hid b0
 have Z0 := Lib.hid z0
 clear rE rF gE gF z0 b0
 go_enter Try.func53, Try.ntmps53
 go_wp2
 go_loop [3, 11] (fun sv i => ∃ (k : Nat) (s : Int), k ≤ F.length ∧ i = .int .i64 k ∧ sv = .int .i64 s ∧ 0 ≤ s ∧ s ≤ 20 * k ∧ Hid (s = (F.take k).sum)) (fun _ i => F.length - (intOf i).toNat)
 case atStart => exact ⟨0, 0, Nat.zero_le _, rfl, rfl, by omega, by omega, by simp [Hid]⟩
 case round =>
  obtain ⟨k, s, hk, rfl, rfl, hs0, hs1, he⟩ := hrel
  by_cases hlt : k < F.length
  · obtain ⟨g, rfl, a0⟩ := HF.out k hlt
    obtain ⟨v0, v1⟩ := GF.out k hlt
    have HS := Lib.hid (sum_step F k hlt)
    generalize F[k] = v at a0 v0 v1 HS
    have i0 : (0 : Int) ≤ (k : Int) := by omega
    have i1 : (k : Int) < (F.length : Int) := by omega
    go_wp2
    go_round
    case rel => exact ⟨k + 1, s + v, by omega, by go_num, rfl, by omega, by omega, by rw [Hid, HS.out, ← he.out]⟩
    case measure => simp [intOf]; omega
  · have hz : k = F.length := by omega
    have hs : s = F.sum := by have := he.out; rw [hz, List.take_length] at this; exact this
    have HSS := Lib.hid hs
    clear hz hs
    go_wp2
    go_loopw [3, 22] (fun sv i wr => ∃ (j : Nat) (t : Int), j ≤ E.length ∧ i = .int .i64 j ∧ sv = .int .i64 t ∧ 0 ≤ t ∧ t ≤ 20 * k + 20 * j ∧ Hid (t = s + goldE (E.take j)) ∧ Hid (Below (w.heap.size + 1) (w.alloc (.cells #[.slice A E.length a, .slice B F.length b, .slice C n c] 41)) wr)) (fun _ i _ => E.length - (intOf i).toNat)
    case atStart => exact ⟨0, s, Nat.zero_le _, rfl, rfl, by omega, by omega, by simp [Hid, goldE], Below.refl _ _⟩
    case round =>
     obtain ⟨j, t, hj, rfl, rfl, ht0, ht1, hte, hb⟩ := hrel
     by_cases hlt2 : j < E.length
     · obtain ⟨g, rfl, a0, a1, a2, a3, a4⟩ := RdF.below HE.out (hb.out.mono (by simp)) j hlt2
       obtain ⟨v0, v1⟩ := GE.out j hlt2
       have HS := Lib.hid (gold_step E j hlt2)
       generalize E[j] = f at a0 a1 a2 a3 a4 v0 v1 HS
       have i0 : (0 : Int) ≤ (j : Int) := by omega
       have i1 : (j : Int) < (E.length : Int) := by omega
       have BB := Lib.hid (Below.trans hb.out ((Below.refl wr.heap.size wr).alloc (Nat.le_refl _) (.cells #[.int .i64 f.c, .int .i64 f.x, .int .i64 f.y, .int .i64 f.l, .int .i64 f.g] 67) |>.mono (by have := hb.out.size; simp at this; omega)))
       go_wp2
       go_roundw
       case rel => exact ⟨j + 1, t + f.g, by omega, by go_num, rfl, by omega, by omega, by rw [Hid, HS.out, hte.out]; omega, BB.out⟩
       case measure => simp [intOf]; omega
     · have hz2 : j = E.length := by omega
       have HZ2 := Lib.hid hz2
       clear hz2
       go_wp2
       go_light
       go_ret
       exact ⟨ret_int (by rw [hte.out, HZ2.out, List.take_length, HSS.out]), Below.trans Z0.out (hb.out.mono (by omega))⟩
end Go.Proofs.Ytnammdkaicgekaa

/- Whether a game is ok: the program's GameOk. -/
namespace Go.Proofs.Ytnammdkaicgekaa
open Go.ChangeShapes Go.WideShapes Go.ChangeAt Go.RowKit
set_option linter.unusedVariables false

def gokB (E : List Fig) (F L : List Int) : Bool :=
 decide (F.length = 16) && (decide (L.length = 4) && (entsB 0 E && (allB F 20 && (allB L 30 && decide (F.sum + goldE E = 20)))))

theorem entsB_gold : ∀ (E : List Fig) (p : Int), entsB p E = true → ∀ (i : Nat) (h : i < E.length), 0 ≤ (E[i]'h).g ∧ (E[i]'h).g ≤ 20 := by
 intro E
 induction E with
 | nil => intro p _ i h; simp at h
 | cons e t ih =>
  intro p hp i h
  simp only [entsB, entB, inB, Bool.and_eq_true, decide_eq_true_eq] at hp
  rcases i with _ | i
  · simp only [List.getElem_cons_zero]; omega
  · simp only [List.getElem_cons_succ]; exact ih e.c hp.2.2 i (by simpa using h)

theorem allB_at {l : List Int} {hi : Int} (h : allB l hi = true) (i : Nat) (hl : i < l.length) : 0 ≤ l[i]'hl ∧ l[i]'hl ≤ hi := by
 unfold allB at h
 rw [List.all_eq_true] at h
 have := h _ (List.getElem_mem hl)
 simpa [inB] using this

/-- Numbers that read so, wherever their row begins. -/
def RdJ (w : World) (A : Option Addr) (l : List Int) : Prop := ∀ i (h : i < l.length), ∃ g o : Nat, A = some ⟨g, o, none⟩ ∧ w.cell? ⟨g, o + i, none⟩ = some (.int .i64 (l[i]'h))
theorem RdI.j {w : World} {A : Option Addr} {l : List Int} (h : RdI w A l) : RdJ w A l := by
 intro i hi
 obtain ⟨g, hA, hc⟩ := h i hi
 exact ⟨g, 0, hA, by simpa using hc⟩
theorem RdJ.below {w w' : World} {A : Option Addr} {l : List Int} (h : RdJ w A l) (hb : Below w.heap.size w w') : RdJ w' A l := by
 intro i hi
 obtain ⟨g, o, rfl, h0⟩ := h i hi
 exact ⟨g, o, rfl, cell_kept hb h0⟩

set_option maxRecDepth 100000 in
theorem gameOkJ (A : Option Addr) (a : Nat) (B : Option Addr) (b : Nat) (C : Option Addr) (c : Nat) (E : List Fig) (F L : List Int) (w : World) (hE : E.length ≤ 1048576) (hF : F.length ≤ 1048576) (hL : L.length ≤ 1048576)
 (rE : RdF w A E) (rF : RdI w B F) (rL : L.length = 4 → RdI w C L) :
 Calls Try.prog 47 #[gameV A E.length a B F.length b C L.length c] w fun e w' => e = .returned (.bool (gokB E F L)) ∧ Below w.heap.size w w' := by
 have z0 : Below w.heap.size w (w.alloc (.cells #[.slice A E.length a, .slice B F.length b, .slice C L.length c] 41)) := (Below.refl _ _).alloc (Nat.le_refl _) _
 have HE := Lib.hid (RdF.below rE z0)
 have HF := Lib.hid (RdI.below rF z0)
 have HL := Lib.hid (fun h => RdI.below (rL h) z0)
 have K0 := Lib.hid (Three.new (u0 := .slice A E.length a) (u1 := .slice B F.length b) (u2 := .slice C L.length c) (t := 41) w)
 have Z0 := Lib.hid z0
 clear rE rF rL z0
 by_cases h1 : ¬ F.length = 16
 · have b1 : ((F.length : Int) != 16) = true := by simp; omega
   have H1 := Lib.hid h1
   clear h1
   go_enter Try.func47, Try.ntmps47
   go_wp2_with (fail)
   go_light
   go_ret
   exact ⟨ret_bool (by rw [gokB, decide_eq_false H1.out]; rfl), Z0.out⟩
 have b1 : ((F.length : Int) != 16) = false := by simp; omega
 have H1 := Lib.hid (show F.length = 16 by omega)
 clear h1
 by_cases h2 : ¬ L.length = 4
 · have b2 : ((L.length : Int) != 4) = true := by simp; omega
   have H2 := Lib.hid h2
   clear h2
   go_enter Try.func47, Try.ntmps47
   go_wp2_with (fail)
   go_light
   go_ret
   exact ⟨ret_bool (by rw [gokB, decide_eq_false H2.out]; simp), Z0.out⟩
 have b2 : ((L.length : Int) != 4) = false := by simp; omega
 have H2 := Lib.hid (show L.length = 4 by omega)
 clear h2
 rcases h3 : entsB 0 E with _ | _
 · go_enter Try.func47, Try.ntmps47
   go_wp2_with (go_at_call 51; refine (entsOk A a E _ (by unfold maxLen; omega) HE.out).mono ?_; rintro e w1 ⟨rfl, hb1⟩; rw [h3])
   go_light
   go_ret
   exact ⟨ret_bool (by rw [gokB, h3]; simp), Below.and Z0.out hb1⟩
 have GE := Lib.hid (entsB_gold E 0 h3)
 go_enter Try.func47, Try.ntmps47
 go_wp2_with (fail)
 refine (entsOk A a E _ (by unfold maxLen; omega) HE.out).mono ?_
 rintro e w1 ⟨rfl, hb1⟩
 rw [h3]
 obtain ⟨q0, q1, q2⟩ := (Three.below K0.out hb1 (by simp)).cells
 have HB1 := Lib.hid hb1
 clear hb1
 rcases h4 : allB F 20 with _ | _
 · go_wp2_with (go_at_call 52; refine (allWithin B b F 20 _ (by unfold maxLen; omega) (RdI.below HF.out HB1.out)).mono ?_; rintro e w2 ⟨rfl, rfl⟩; rw [h4])
   go_light
   go_ret
   exact ⟨ret_bool (by rw [gokB, h4]; simp), Below.and Z0.out HB1.out⟩
 have GF := Lib.hid (fun i hi => allB_at h4 i hi)
 go_wp2_with (fail)
 refine (allWithin B b F 20 _ (by unfold maxLen; omega) (RdI.below HF.out HB1.out)).mono ?_
 rintro e w2 ⟨rfl, rfl⟩
 rw [h4]
 rcases h5 : allB L 30 with _ | _
 · go_wp2_with (go_at_call 52; refine (allWithin C c L 30 _ (by unfold maxLen; omega) (RdI.below (HL.out H2.out) HB1.out)).mono ?_; rintro e w2 ⟨rfl, rfl⟩; rw [h5])
   go_light
   go_ret
   exact ⟨ret_bool (by rw [gokB, h5]; simp), Below.and Z0.out HB1.out⟩
 go_wp2_with (fail)
 refine (allWithin C c L 30 _ (by unfold maxLen; omega) (RdI.below (HL.out H2.out) HB1.out)).mono ?_
 rintro e w2 ⟨rfl, rfl⟩
 rw [h5]
 go_wp2_with (fail)
 refine (goldOf A a B b C L.length c E F _ hE hF GE.out GF.out (RdF.below HE.out HB1.out) (RdI.below HF.out HB1.out)).mono ?_
 rintro e w3 ⟨rfl, hb3⟩
 have HV := Lib.hid (show gokB E F L = decide (F.sum + goldE E = 20) by rw [gokB, h3, h4, h5, decide_eq_true H1.out, decide_eq_true H2.out]; simp)
 clear h3 h4 h5
 generalize F.sum + goldE E = v at HV
 go_wp2
 go_light
 go_ret
 exact ⟨ret_bool (by rw [HV.out]; rfl), Below.and (Below.and Z0.out HB1.out) hb3⟩

theorem gameOk (A : Option Addr) (a : Nat) (B : Option Addr) (b : Nat) (C : Option Addr) (c : Nat) (E : List Fig) (F L : List Int) (w : World) (hE : E.length ≤ 1048576) (hF : F.length ≤ 1048576) (hL : L.length ≤ 1048576)
 (rE : RdF w A E) (rF : RdI w B F) (rL : RdI w C L) :
 Calls Try.prog 47 #[gameV A E.length a B F.length b C L.length c] w fun e w' => e = .returned (.bool (gokB E F L)) ∧ Below w.heap.size w w' :=
 gameOkJ A a B b C c E F L w hE hF hL rE rF (fun _ => rL)
end Go.Proofs.Ytnammdkaicgekaa

/- Whether a game is ok: the model's check. -/
namespace Go.Proofs.Ytnammdkaicgekaa
open Go.ChangeShapes Go.WideShapes Go.ChangeAt Go.RowKit
set_option linter.unusedVariables false

theorem takeD {P : Program} {ops : Array Oper} {Q : Exit → Act → World → Prop} {md : Region.Mode} {S : World → Prop} (i : Nat) (d : Tmp) {oi : Oper} {v : Value} {fuel : Nat} {listed : Array Bool} {a : Act} {w : World} (hi : ops[i]? = some oi) (hd : oi.dst = some d)
 (hs : Region.noSelect ops = true) (hf : Region.free md ops listed i = true) (hr : (Region.ready md ops listed).contains i = true)
 (hQ : ∀ c a w, Q (.panic c) (a.put (some d) v) w → Q (.panic c) a w) (hy : YieldsIf P ops S oi v a) (hS : S w)
 (h : wpAnyH P md ops Q S fuel (listed.setIfInBounds i true) (a.put (some d) v) w) : wpAnyH P md ops Q S (fuel + 1) listed a w :=
 wpAnyH_take hi hs hf hr (by rw [hd]; exact hQ) hy hS (by rw [hd]; exact h)
theorem tkD {P : Program} {ops : Array Oper} {Q : Exit → Act → World → Prop} {md : Region.Mode} {S : World → Prop} (i : Nat) (d : Tmp) {oi : Oper} {v : Value} {fuel : Nat} {listed : Array Bool} {a : Act} {w : World} (hi : ops[i]? = some oi) (hd : oi.dst = some d)
 (hy : YieldsIf P ops S oi v a) (hS : S w) (h : wpAnyH P md ops Q S fuel (listed.setIfInBounds i true) (a.put (some d) v) w)
 (hs : Region.noSelect ops = true := by kernel_rfl) (hf : Region.free md ops listed i = true := by kernel_rfl) (hr : (Region.ready md ops listed).contains i = true := by kernel_rfl)
 (hQ : ∀ c a w, Q (.panic c) (a.put (some d) v) w → Q (.panic c) a w := by exact fun _ _ _ h => h) : wpAnyH P md ops Q S (fuel + 1) listed a w :=
 takeD i d hi hd hs hf hr hQ hy hS h
theorem tkI {P : Program} {ops : Array Oper} {Q : Exit → Act → World → Prop} {md : Region.Mode} {S : World → Prop} (i : Nat) (d : Tmp) {oi : Oper} {v : Value} {fuel : Nat} {listed : Array Bool} {a : Act} {w : World} (hi : ops[i]? = some oi) (hd : oi.dst = some d)
 (hy : ∀ w, S w → (execOp a.eval oi).run P w = .ok (.value v) w) (h : wpAnyH P md ops Q S fuel (listed.setIfInBounds i true) (a.put (some d) v) w)
 (hg : Region.wanted oi (yielded ops a.tmps) = true := by rfl) (hS : S w := by assumption)
 (hs : Region.noSelect ops = true := by kernel_rfl) (hf : Region.free md ops listed i = true := by kernel_rfl) (hr : (Region.ready md ops listed).contains i = true := by kernel_rfl)
 (hQ : ∀ c a w, Q (.panic c) (a.put (some d) v) w → Q (.panic c) a w := by exact fun _ _ _ h => h) : wpAnyH P md ops Q S (fuel + 1) listed a w :=
 takeD i d hi hd hs hf hr hQ (Or.inl ⟨hg, hy⟩) hS h


end Go.Proofs.Ytnammdkaicgekaa

/- The exact law of a new game, walked. -/
namespace Go.Proofs.Ytnammdkaicgekaa
open Go.ChangeShapes Go.WideShapes Go.ChangeAt Go.RowKit
set_option linter.unusedVariables false

/-- A game's cells hold marks, in order, from 1 on. -/
structure Marked (w : World) (A B C : Option Addr) (n m l : Nat) : Prop where
 ents : RdM w A (n * 5) 1
 floor : RdM w B m (1 + 5 * (n : Int))
 last : RdM w C l (1 + 5 * (n : Int) + (m : Int))

theorem Marked.below {w w' : World} {A B C : Option Addr} {n m l : Nat} (h : Marked w A B C n m l) (hb : Below w.heap.size w w') : Marked w' A B C n m l := ⟨h.ents.below hb, h.floor.below hb, h.last.below hb⟩

end Go.Proofs.Ytnammdkaicgekaa
