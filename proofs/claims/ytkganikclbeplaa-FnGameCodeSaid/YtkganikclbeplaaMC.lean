/- Tc, Td, Te, Tf, Tg, Th, Tj, Tk, Tl, Tm, Tn, Ti, To -/
import Derived.Test.YtkganikclbeplaaMB
import Derived.Test.YtkganikclbeplaaMA
import Derived.RegionTactic
import Derived.Deep.DeepCutAuto
import Derived.Deep.Slices
import Derived.Lib.SmallJoins
import Derived.IntWalk
import Derived.Deep.RegionHeld3
/- Contracts of the laws' own helpers over games. -/
namespace Go.Proofs.Ytkganikclbeplaa
open Go.ChangeShapes Go.WideShapes Go.ChangeAt Go.RowKit
set_option linter.unusedVariables false

abbrev gameV (A : Option Addr) (n a : Nat) (B : Option Addr) (m b : Nat) (C : Option Addr) (l c : Nat) : Value := .agg #[.slice A n a, .slice B m b, .slice C l c]

theorem below_alloc2 (w : World) (o o' : Obj) : Below w.heap.size w ((w.alloc o).alloc o') := ((Below.refl _ _).alloc (Nat.le_refl _) _).alloc (by simp) _

/-- A game whose rows lie in the blocks from lo on, below hi. -/
structure GameAt (w : World) (lo hi : Nat) (A : Option Addr) (a : Nat) (B : Option Addr) (b : Nat) (C : Option Addr) (c : Nat) (E : List Fig) (F L : List Int) : Prop where
 ents : w.ownsRow lo 57 5 (.slice A E.length a) E.length (figs E)
 floor : w.ownsRow lo 3 1 (.slice B F.length b) F.length (ints F)
 last : w.ownsRow lo 3 1 (.slice C L.length c) L.length (ints L)
 two : ∀ g, (Value.slice B F.length b).ownBlock = some g → (Value.slice C L.length c).ownBlock ≠ some g
 entsHi : ∀ g, (Value.slice A E.length a).ownBlock = some g → g < hi
 floorHi : ∀ g, (Value.slice B F.length b).ownBlock = some g → g < hi
 lastHi : ∀ g, (Value.slice C L.length c).ownBlock = some g → g < hi

section
variable {w w' : World} {lo hi : Nat} {A : Option Addr} {a : Nat} {B : Option Addr} {b : Nat} {C : Option Addr} {c : Nat} {E : List Fig} {F L : List Int}

theorem GameAt.same (h : GameAt w lo hi A a B b C c E F L) (hk : ∀ k, lo ≤ k → k < hi → w'.heap[k]? = w.heap[k]?) : GameAt w' lo hi A a B b C c E F L :=
 ⟨own_same h.ents fun k e => hk k (h.ents.lt k e).1 (h.entsHi k e), own_same h.floor fun k e => hk k (h.floor.lt k e).1 (h.floorHi k e), own_same h.last fun k e => hk k (h.last.lt k e).1 (h.lastHi k e), h.two, h.entsHi, h.floorHi, h.lastHi⟩

theorem GameAt.below (h : GameAt w lo hi A a B b C c E F L) (hb : Below w.heap.size w w') : GameAt w' lo hi A a B b C c E F L :=
 ⟨own_below h.ents hb, own_below h.floor hb, own_below h.last hb, h.two, h.entsHi, h.floorHi, h.lastHi⟩

theorem GameAt.keeps {lo' hi' : Nat} (h : GameAt w lo hi A a B b C c E F L) (hk : Keeps lo' hi' w w') (ho : hi ≤ lo' ∨ hi' ≤ lo) : GameAt w' lo hi A a B b C c E F L :=
 ⟨own_same h.ents fun k e => hk.block k (h.ents.lt k e).2 (by have := (h.ents.lt k e).1; have := h.entsHi k e; omega), own_same h.floor fun k e => hk.block k (h.floor.lt k e).2 (by have := (h.floor.lt k e).1; have := h.floorHi k e; omega),
  own_same h.last fun k e => hk.block k (h.last.lt k e).2 (by have := (h.last.lt k e).1; have := h.lastHi k e; omega), h.two, h.entsHi, h.floorHi, h.lastHi⟩
end

end Go.Proofs.Ytkganikclbeplaa

/- A new game: the program's and the model's. -/
namespace Go.Proofs.Ytkganikclbeplaa
open Go.ChangeShapes Go.WideShapes Go.ChangeAt Go.RowKit
set_option linter.unusedVariables false

def floorAt : Nat → List Int
 | 0 => List.replicate 16 0
 | k + 1 => (floorAt k).set (5 * k % 16) ((floorAt k).getD (5 * k % 16) 0 + 1)

theorem floorAt_length (k : Nat) : (floorAt k).length = 16 := by
 induction k with
 | zero => rfl
 | succ k ih => simp [floorAt, ih]

theorem floorAt_bd : ∀ k, k < 20 → 0 ≤ (floorAt k).getD (5 * k % 16) 0 ∧ (floorAt k).getD (5 * k % 16) 0 ≤ 20 := by decide

theorem make16 (w : World) : (Instr.makeSlice 23 (.int .i64 16) (.int .i64 16)).run Try.prog w = .ok (.slice (some ⟨w.heap.size, 0, none⟩) 16 16) (w.alloc (.cells (List.replicate 16 (.int .i64 0)).toArray 3)) := by kernel_rfl
theorem make4 (w : World) : (Instr.makeSlice 23 (.int .i64 4) (.int .i64 4)).run Try.prog w = .ok (.slice (some ⟨w.heap.size, 0, none⟩) 4 4) (w.alloc (.cells #[.int .i64 0, .int .i64 0, .int .i64 0, .int .i64 0] 3)) := by kernel_rfl

def zeros16 : Array Value := (List.replicate 16 (.int .i64 0)).toArray

/-- A game that is new: no figures, gold F on the floor. -/
def NewAt (w : World) (e : Ending) (w' : World) : Prop :=
 ∃ B b C c, e = .returned (gameV none 0 0 B 16 b C 4 c) ∧ GameAt w' w.heap.size w'.heap.size none 0 B b C c [] (floorAt 20) [0, 0, 0, 0] ∧ Below w.heap.size w w'

end Go.Proofs.Ytkganikclbeplaa

/- The model's new game. -/
namespace Go.Proofs.Ytkganikclbeplaa
open Go.ChangeShapes Go.WideShapes Go.ChangeAt Go.RowKit
set_option linter.unusedVariables false

def NewMid (w : World) (p : Value) (wx : World) : Prop :=
 ∃ G g4 gl : Nat, p = .pointer (some ⟨G, 0, none⟩) ∧ wx.heap[G]? = some (.cells #[.slice none 0 0, .slice (some ⟨g4, 0, none⟩) 16 16, .slice (some ⟨gl, 0, none⟩) 4 4] 30) ∧ wx.heap[w.heap.size]? = some (.cells #[.slice none 0 0, .slice none 0 0, .slice none 0 0] 30) ∧
  wx.ownsRow (w.heap.size + 1) 3 1 (.slice (some ⟨g4, 0, none⟩) 16 16) 16 (ints (floorAt 0)) ∧ wx.ownsRow (w.heap.size + 1) 3 1 (.slice (some ⟨gl, 0, none⟩) 4 4) 4 (ints [0, 0, 0, 0]) ∧ g4 ≠ gl ∧ w.heap.size < G ∧ Below w.heap.size w wx

theorem grownBy_drew {w w' : World} {row : Option Nat} (h : w.grownBy w' row) : w.grownBy w'.drew row := ⟨h.os, h.tape, h.output, h.size, h.block⟩

theorem own_ne_block {w : World} {base g G : Nat} {e t : TypeId} {size n c : Nat} {xs : List Value} {cs : Array Value} (h : w.ownsRow base e size (.slice (some ⟨g, 0, none⟩) n c) n xs) (hG : w.heap[G]? = some (.cells cs t)) (hne : e ≠ t) : G ≠ g := by
 rintro rfl
 rcases h.2 with ⟨h', _⟩ | ⟨g', cap', cur, h', _, hg, _⟩
 · simp at h'
 · simp only [Value.slice.injEq, Option.some.injEq, Addr.mk.injEq, and_true, true_and] at h'
   obtain ⟨rfl, rfl⟩ := h'
   rw [hG] at hg
   simp only [Option.some.injEq, Obj.cells.injEq] at hg
   exact hne hg.2.1.symm

set_option maxRecDepth 100000 in
theorem l2New (w : World) :
 Calls Try.prog 74 #[] w (NewAt w) := by
 have m16 : ∀ w : World, (Instr.makeSlice 23 (.int .i64 16) (.int .i64 16)).run Try.prog w = .ok (.slice (some ⟨w.heap.size, 0, none⟩) 16 16) (w.alloc (.cells zeros16 3)) := make16
 have m4 := make4
 go_enter Try.func74, Try.ntmps74
 go_upto_region 1 with fail
 go_cut [1] (fun p wx => NewMid w p wx)
 case first =>
  go_region
  all_goals go_wp2_with fail
  all_goals go_meet
  all_goals
   apply Exists.intro
   apply Exists.intro
   apply Exists.intro
   refine ⟨rfl, ?_, ?_, ?_, ?_, ?_, ?_, ?_⟩
   · exact (by first | exact (four_at _ _ _ _ _).2.1 | exact (four_at _ _ _ _ _).2.2.1 | exact (four_at _ _ _ _ _).2.2.2)
   · exact (four_at _ _ _ _ _).1
   · exact own_of_block (cur := zeros16) (by first | exact (four_at _ _ _ _ _).2.1 | exact (four_at _ _ _ _ _).2.2.1 | exact (four_at _ _ _ _ _).2.2.2) (by omega) (by unfold maxLen; omega) rfl rfl
   · exact own_of_block (cur := #[.int .i64 0, .int .i64 0, .int .i64 0, .int .i64 0]) (by first | exact (four_at _ _ _ _ _).2.1 | exact (four_at _ _ _ _ _).2.2.1 | exact (four_at _ _ _ _ _).2.2.2) (by omega) (by unfold maxLen; omega) rfl rfl
   · omega
   · omega
   · exact below_four _ _ _ _ _
 case rest =>
  obtain ⟨G, g4, gl, rfl, hG, hR, ho, hl, hne, hlt, hb⟩ := hcut
  have hlg : gl ≥ w.heap.size + 1 ∧ gl < wc.heap.size := hl.lt gl rfl
  have hGne : G ≠ g4 := own_ne_block ho hG (by decide)
  have hGlt : G < wc.heap.size := by
   rcases Nat.lt_or_ge G wc.heap.size with h | h
   · exact h
   · rw [Array.getElem?_eq_none h] at hG; cases hG
  have HG := Lib.hid hG
  have HR := Lib.hid hR
  have HO := Lib.hid ho
  have HL := Lib.hid hl
  have HB := Lib.hid hb
  have HN := Lib.hid hne
  have cG : ∀ j, wc.cell? ⟨G, j, none⟩ = (#[Value.slice none 0 0, Value.slice (some ⟨g4, 0, none⟩) 16 16, Value.slice (some ⟨gl, 0, none⟩) 4 4] : Array Value)[j]? := fun j => cell_of_row wc G j _ 30 (0, 0) HG.out
  clear hG hR ho hl hb hne
  go_wp2_with (fail)
  go_loopw [2] (fun i wr => ∃ k : Nat, k ≤ 20 ∧ i = .int .i64 k ∧ Hid (wr.ownsRow (w.heap.size + 1) 3 1 (.slice (some ⟨g4, 0, none⟩) 16 16) 16 (ints (floorAt k))) ∧ Hid (wc.grownBy wr (some g4))) (fun i _ => 20 - (intOf i).toNat)
  case atStart => exact ⟨0, Nat.zero_le _, rfl, HO.out, World.grownBy.refl _ _⟩
  case round =>
   obtain ⟨k, hk, rfl, ho, hg⟩ := hrel
   have cG' : ∀ j, wr.cell? ⟨G, j, none⟩ = (#[Value.slice none 0 0, Value.slice (some ⟨g4, 0, none⟩) 16 16, Value.slice (some ⟨gl, 0, none⟩) 4 4] : Array Value)[j]? := fun j =>
    (World.cell?_of_block (w := wc) (a := ⟨G, j, none⟩) (hg.out.block G hGlt (by simpa using hGne))).trans (cG j)
   by_cases hlt2 : k < 20
   · have hb := floorAt_bd k hlt2
     rw [show 5 * k = k * 5 from Nat.mul_comm _ _] at hb
     have hc : wr.cell? ⟨g4, k * 5 % 16, none⟩ = some (.int .i64 ((floorAt k).getD (k * 5 % 16) 0)) := by
      rw [ho.out.cellAt _ (by omega), List.getElem?_map, List.getElem?_eq_getElem (by rw [floorAt_length]; omega)]
      simp [List.getD_eq_getElem?_getD, List.getElem?_eq_getElem (show k * 5 % 16 < (floorAt k).length by rw [floorAt_length]; omega)]
     have hf := ho.out.frozenAt (k * 5 % 16)
     have hst := ho.out.stored (k * 5 % 16) (.int .i64 ((floorAt k).getD (k * 5 % 16) 0 + 1))
     rw [show (ints (floorAt k)).set (k * 5 % 16) (.int .i64 ((floorAt k).getD (k * 5 % 16) 0 + 1)) = ints (floorAt (k + 1)) from by rw [floorAt, ints, ints, List.map_set, Nat.mul_comm]] at hst
     have S1 := Lib.hid hst.1
     have S2 := Lib.hid (grownBy_trans hg.out hst.2)
     clear hst
     obtain ⟨v, hv⟩ : ∃ v, v = (floorAt k).getD (k * 5 % 16) 0 := ⟨_, rfl⟩
     rw [← hv] at hc hb S1 S2
     have HV := Lib.hid hv
     clear hv
     obtain ⟨hb1, hb2⟩ := hb
     have i0 : (0 : Int) ≤ (k : Int) := by omega
     have i1 : (0 : Int) ≤ (k : Int) * 5 % 16 := by omega
     have i2 : (k : Int) * 5 % 16 < 16 := by omega
     have g1 := cG' 1
     simp at g1
     clear cG cG'
     go_wp2_with (fail)
     go_region
     go_wp2
     go_roundw
     case rel => exact ⟨k + 1, by omega, by go_num, S1.out, grownBy_drew S2.out⟩
     case measure => simp [intOf]; omega
   · have hz : k = 20 := by omega
     subst hz
     have hR : wr.heap[w.heap.size]? = some (.cells #[.slice none 0 0, .slice none 0 0, .slice none 0 0] 30) :=
      (hg.out.block w.heap.size (by omega) (by have := (HO.out.lt g4 rfl).1; simp; omega)).trans HR.out
     have cR : ∀ j, wr.cell? ⟨w.heap.size, j, none⟩ = (#[Value.slice none 0 0, Value.slice none 0 0, Value.slice none 0 0] : Array Value)[j]? := fun j => cell_of_row wr w.heap.size j _ 30 (0, 0) hR
     have fR : ∀ j, wr.frozen? ⟨w.heap.size, j, none⟩ = false := fun j => frozen_of_row wr w.heap.size j _ 30 hR
     have g0 := cG' 0; have g1 := cG' 1; have g2 := cG' 2
     have r0 := cR 0; have r1 := cR 1; have r2 := cR 2
     have f0 := fR 0; have f1 := fR 1; have f2 := fR 2
     simp at g0 g1 g2 r0 r1 r2
     have HRR := Lib.hid hR
     clear cG cG' cR fR hR
     go_wp2
     go_light
     have G := grownBy_set3 wr w.heap.size (.slice none 0 0) (.slice (some ⟨g4, 0, none⟩) 16 16) (.slice (some ⟨gl, 0, none⟩) 4 4)
     have hg4 := HO.out.lt g4 rfl
     refine bodyPost_ret (v := gameV none 0 0 (some ⟨g4, 0, none⟩) 16 16 (some ⟨gl, 0, none⟩) 4 4) (by simp [results, Try.results74, go_sem, r0, r1, r2]) rfl ?_
     have hs := hg.out.size
     have hs2 := G.size
     refine ⟨some ⟨g4, 0, none⟩, 16, some ⟨gl, 0, none⟩, 4, rfl, ⟨World.ownsRow_nil _ _ _ _, ?_, ?_, ?_, ?_, ?_, ?_⟩, ?_⟩
     · exact (own_base ho.out (by omega)).kept G (.inr (by simp [Value.ownBlock]; omega))
     · exact (own_base (HL.out.kept hg.out (.inr (by simp [Value.ownBlock]; exact fun e => HN.out e.symm))) (by omega)).kept G (.inr (by simp [Value.ownBlock]; omega))
     · intro g hg; simp [Value.ownBlock] at hg ⊢; have := HN.out; omega
     · intro g hg; simp [Value.ownBlock] at hg
     · intro g hg; simp [Value.ownBlock] at hg; omega
     · intro g hg; simp [Value.ownBlock] at hg; omega
     · exact Below.trans HB.out (Below.trans (Below.of_grown hg.out (by omega) (by rintro k hk; cases hk; omega)) (Below.of_grown G (by omega) (by rintro k hk; cases hk; omega)))

end Go.Proofs.Ytkganikclbeplaa

/- The size of what came in; a game that came in, opened. -/
namespace Go.Proofs.Ytkganikclbeplaa
open Go.ChangeShapes Go.WideShapes Go.ChangeAt Go.RowKit
set_option linter.unusedVariables false

section
variable {H : Type} {enc : TypeId × Value → H} {w : World} {base : Nat} {spare : Nat → Bool} {held : Bool}

theorem addr_of {a : Addr} {u : Value} (h : w.cell? a = some u) : a = ⟨a.block, a.off, none⟩ := by
 obtain ⟨b, o, s⟩ := a
 unfold World.cell? at h
 split at h
 · cases s with
   | none => rfl
   | some _ => simp at h
 · cases h

theorem add_eq (b o n : Nat) : (⟨b, o, none⟩ : Addr).add n = ⟨b, o + n, none⟩ := by
 unfold Addr.add
 split
 · next h => subst h; rfl
 · rfl

end
end Go.Proofs.Ytkganikclbeplaa

/- Whether a game is ok: the program's own check. -/
namespace Go.Proofs.Ytkganikclbeplaa
open Go.ChangeShapes Go.WideShapes Go.ChangeAt Go.RowKit
set_option linter.unusedVariables false

def onB (x y : Int) : Bool := inB x 0 3 && inB y 0 3
def entB (e : Fig) : Bool := inB e.c 1 4 && (onB e.x e.y && (inB e.l 0 3 && inB e.g 0 20))
def entsB : Int → List Fig → Bool
 | _, [] => true
 | p, e :: t => decide (p < e.c) && (entB e && entsB e.c t)
def allB (l : List Int) (hi : Int) : Bool := l.all fun n => inB n 0 hi
def goldE (E : List Fig) : Int := (E.map fun e => e.g).sum

theorem onBoard (x y : Int) (w : World) :
 Calls Try.prog 47 #[.int .i64 x, .int .i64 y] w fun e w' => e = .returned (.bool (onB x y)) ∧ w = w' := by
 rcases h1 : inB x 0 3 with _ | _
 all_goals rcases h2 : inB y 0 3 with _ | _
 all_goals go_enter Try.func47, Try.ntmps47
 all_goals go_wp2_with (first | (go_at_call 48; refine (implIn _ _ _ _).mono ?_; rintro e w' ⟨rfl, rfl⟩; first | rw [h1] | rw [h2]))
 all_goals go_ret
 all_goals unfold onB
 all_goals rw [h1, h2]
 all_goals exact ⟨rfl, rfl⟩

set_option maxRecDepth 100000 in
theorem entsOk (A : Option Addr) (c : Nat) (E : List Fig) (w : World) (hE : E.length ≤ maxLen) (hr : RdF w A E) :
 Calls Try.prog 25 #[.slice A E.length c] w fun e w' => e = .returned (.bool (entsB 0 E)) ∧ Below w.heap.size w w' := by
 unfold maxLen at hE
 have HA := Lib.hid hr
 clear hr
 go_enter Try.func25, Try.ntmps25
 go_wp2
 go_loopw [3, 8] (fun pv i wr => ∃ (k : Nat) (p : Int), k ≤ E.length ∧ i = .int .i64 k ∧ pv = .int .i64 p ∧ 0 ≤ p ∧ Hid (entsB 0 E = entsB p (E.drop k)) ∧ Hid (Below w.heap.size w wr)) (fun _ i _ => E.length - (intOf i).toNat)
 case atStart => exact ⟨0, 0, Nat.zero_le _, rfl, rfl, by omega, by simp [Hid], Below.refl _ _⟩
 case round =>
  obtain ⟨k, p, hk, rfl, rfl, hp, he, hb⟩ := hrel
  by_cases hlt : k < E.length
  · obtain ⟨g, rfl, a0, a1, a2, a3, a4⟩ := RdF.below HA.out hb.out k hlt
    have HD := Lib.hid (List.drop_eq_getElem_cons hlt)
    generalize E[k] = f at a0 a1 a2 a3 a4 HD
    have i0 : (0 : Int) ≤ (k : Int) := by omega
    have i1 : (k : Int) < (E.length : Int) := by omega
    have BB := Lib.hid (Below.trans hb.out ((Below.refl wr.heap.size wr).alloc (Nat.le_refl _) (.cells #[.int .i64 f.c, .int .i64 f.x, .int .i64 f.y, .int .i64 f.l, .int .i64 f.g] 57) |>.mono hb.out.size))
    by_cases h1 : f.c ≤ p
    · go_wp2
      go_light
      go_ret
      exact ⟨ret_bool (by rw [he.out, HD.out, entsB, decide_eq_false (by omega)]; rfl), BB.out⟩
    by_cases h2 : 4 < f.c
    · go_wp2
      go_light
      go_ret
      exact ⟨ret_bool (by rw [he.out, HD.out, entsB, entB, inB, decide_eq_false (show ¬ f.c ≤ 4 by omega)]; simp), BB.out⟩
    have hc : inB f.c 1 4 = true := by simp [inB]; omega
    have HC := Lib.hid hc
    clear hc
    rcases h3 : onB f.x f.y with _ | _
    · go_wp2_with (first | (go_at_call 47; refine (onBoard _ _ _).mono ?_; rintro e w' ⟨rfl, rfl⟩; rw [h3]))
      go_light
      go_ret
      exact ⟨ret_bool (by rw [he.out, HD.out, entsB, entB, h3]; simp), BB.out⟩
    rcases h4 : inB f.l 0 3 with _ | _
    · go_wp2_with (first | (go_at_call 47; refine (onBoard _ _ _).mono ?_; rintro e w' ⟨rfl, rfl⟩; rw [h3]) | (go_at_call 48; refine (implIn _ _ _ _).mono ?_; rintro e w' ⟨rfl, rfl⟩; first | rw [h4]))
      go_light
      go_ret
      exact ⟨ret_bool (by rw [he.out, HD.out, entsB, entB, h4]; simp), BB.out⟩
    rcases h5 : inB f.g 0 20 with _ | _
    · go_wp2_with (first | (go_at_call 47; refine (onBoard _ _ _).mono ?_; rintro e w' ⟨rfl, rfl⟩; rw [h3]) | (go_at_call 48; refine (implIn _ _ _ _).mono ?_; rintro e w' ⟨rfl, rfl⟩; first | rw [h4] | rw [h5]))
      go_light
      go_ret
      exact ⟨ret_bool (by rw [he.out, HD.out, entsB, entB, h5]; simp), BB.out⟩
    have HF := Lib.hid (show entsB p (E.drop k) = entsB f.c (E.drop (k + 1)) by rw [HD.out, entsB, entB, HC.out, h3, h4, h5, decide_eq_true (show p < f.c by omega)]; rfl)
    go_wp2_with (first | (go_at_call 47; refine (onBoard _ _ _).mono ?_; rintro e w' ⟨rfl, rfl⟩; rw [h3]) | (go_at_call 48; refine (implIn _ _ _ _).mono ?_; rintro e w' ⟨rfl, rfl⟩; first | rw [h4] | rw [h5]))
    go_roundw
    case rel => exact ⟨k + 1, f.c, by omega, by go_num, rfl, by omega, he.out.trans HF.out, BB.out⟩
    case measure => simp [intOf]; omega
  · have hz : k = E.length := by omega
    have HZ := Lib.hid hz
    clear hz
    go_wp2
    go_ret
    exact ⟨ret_bool (by rw [he.out, HZ.out, List.drop_length]; rfl), hb.out⟩

set_option maxRecDepth 100000 in
theorem allWithin (A : Option Addr) (c : Nat) (l : List Int) (hi : Int) (w : World) (hl : l.length ≤ maxLen) (hr : RdI w A l) :
 Calls Try.prog 26 #[.slice A l.length c, .int .i64 hi] w fun e w' => e = .returned (.bool (allB l hi)) ∧ w = w' := by
 unfold maxLen at hl
 have HA := Lib.hid hr
 clear hr
 go_enter Try.func26, Try.ntmps26
 go_wp2
 go_loop [9] (fun i => ∃ k : Nat, k ≤ l.length ∧ i = .int .i64 k ∧ Hid (allB l hi = allB (l.drop k) hi)) (fun i => l.length - (intOf i).toNat)
 case atStart => exact ⟨0, Nat.zero_le _, rfl, by simp [Hid]⟩
 case round =>
  obtain ⟨k, hk, rfl, he⟩ := hrel
  by_cases hlt : k < l.length
  · obtain ⟨g, rfl, a0⟩ := HA.out k hlt
    have HD := Lib.hid (List.drop_eq_getElem_cons hlt)
    generalize l[k] = v at a0 HD
    have i0 : (0 : Int) ≤ (k : Int) := by omega
    have i1 : (k : Int) < (l.length : Int) := by omega
    rcases h1 : inB v 0 hi with _ | _
    · go_wp2_with (go_at_call 48; refine (implIn _ _ _ _).mono ?_; rintro e w' ⟨rfl, rfl⟩; rw [h1])
      go_light
      go_ret
      exact ⟨ret_bool (by rw [he.out, HD.out, allB, List.all_cons, h1]; rfl), rfl⟩
    · have HF := Lib.hid (show allB (l.drop k) hi = allB (l.drop (k + 1)) hi by rw [HD.out, allB, List.all_cons, h1, Bool.true_and]; rfl)
      go_wp2_with (go_at_call 48; refine (implIn _ _ _ _).mono ?_; rintro e w' ⟨rfl, rfl⟩; rw [h1])
      go_round
      case rel => exact ⟨k + 1, by omega, by go_num, he.out.trans HF.out⟩
      case measure => simp [intOf]; omega
  · have hz : k = l.length := by omega
    have HZ := Lib.hid hz
    clear hz
    go_wp2
    go_ret
    exact ⟨ret_bool (by rw [he.out, HZ.out, List.drop_length]; rfl), rfl⟩

theorem sum_step (l : List Int) (k : Nat) (h : k < l.length) : (l.take (k + 1)).sum = (l.take k).sum + l[k] := by
 rw [List.take_succ_eq_append_getElem h, List.sum_append]
 simp

theorem gold_step (E : List Fig) (k : Nat) (h : k < E.length) : goldE (E.take (k + 1)) = goldE (E.take k) + E[k].g := by
 unfold goldE
 rw [List.take_succ_eq_append_getElem h, List.map_append, List.sum_append]
 simp

theorem gold_bd : ∀ (E : List Fig), (∀ (i : Nat) (h : i < E.length), 0 ≤ (E[i]'h).g ∧ (E[i]'h).g ≤ 20) → 0 ≤ goldE E ∧ goldE E ≤ 20 * (E.length : Int) := by
 intro E
 induction E with
 | nil => intro _; simp [goldE]
 | cons e t ih =>
  intro h
  have h0 := h 0 (by simp)
  simp only [List.getElem_cons_zero] at h0
  have h1 := ih (fun i hi => by have := h (i + 1) (by simp; omega); simpa using this)
  have e1 : goldE (e :: t) = e.g + goldE t := by simp [goldE]
  rw [e1, List.length_cons]
  omega
theorem sum_bd : ∀ (F : List Int), (∀ (i : Nat) (h : i < F.length), 0 ≤ F[i]'h ∧ F[i]'h ≤ 20) → 0 ≤ F.sum ∧ F.sum ≤ 20 * (F.length : Int) := by
 intro F
 induction F with
 | nil => intro _; simp
 | cons e t ih =>
  intro h
  have h0 := h 0 (by simp)
  simp only [List.getElem_cons_zero] at h0
  have h1 := ih (fun i hi => by have := h (i + 1) (by simp; omega); simpa using this)
  rw [List.sum_cons, List.length_cons]
  omega
theorem allWithinB (A : Option Addr) (c : Nat) (l : List Int) (hi : Int) (w : World) (hl : l.length ≤ maxLen) (hr : RdI w A l) :
 Calls Try.prog 26 #[.slice A l.length c, .int .i64 hi] w fun e w' => e = .returned (.bool (allB l hi)) ∧ Below w.heap.size w w' :=
 (allWithin A c l hi w hl hr).mono (fun _ _ h => ⟨h.1, h.2 ▸ Below.refl _ _⟩)

set_option maxRecDepth 100000 in
theorem goldOfFloor (B : Option Addr) (b : Nat) (F : List Int) (w : World) (hF : F.length ≤ 1048576) (gF : ∀ (i : Nat) (h : i < F.length), 0 ≤ F[i]'h ∧ F[i]'h ≤ 20) (rF : RdI w B F) :
 Calls Try.prog 28 #[.slice B F.length b] w fun e w' => e = .returned (.int .i64 F.sum) ∧ Below w.heap.size w w' := by
 have HF := Lib.hid rF
 have GF := Lib.hid gF
 clear rF gF
 go_enter Try.func28, Try.ntmps28
 go_wp2
 go_loop [3, 8] (fun sv i => ∃ (k : Nat) (s : Int), k ≤ F.length ∧ i = .int .i64 k ∧ sv = .int .i64 s ∧ 0 ≤ s ∧ s ≤ 20 * k ∧ Hid (s = (F.take k).sum)) (fun _ i => F.length - (intOf i).toNat)
 case atStart => exact ⟨0, 0, Nat.zero_le _, rfl, rfl, by omega, by omega, by simp [Hid]⟩
 case round =>
  obtain ⟨k, s, hk, rfl, rfl, hs0, hs1, he⟩ := hrel
  by_cases hlt : k < F.length
  · obtain ⟨g, rfl, a0⟩ := HF.out k hlt
    obtain ⟨v0, v1⟩ := GF.out k hlt
    have HS := Lib.hid (sum_step F k hlt)
    generalize F[k] = v at a0 v0 v1 HS
    have i0 : (0 : Int) ≤ (k : Int) := by omega
    have i1 : (k : Int) < (F.length : Int) := by omega
    go_wp2
    go_round
    case rel => exact ⟨k + 1, s + v, by omega, by go_num, rfl, by omega, by omega, by rw [Hid, HS.out, ← he.out]⟩
    case measure => simp [intOf]; omega
  · have hz : k = F.length := by omega
    have HS : Hid (s = F.sum) := by have := he.out; rw [hz, List.take_length] at this; exact this
    clear hz
    go_wp2
    go_ret
    exact ⟨ret_int (by rw [HS.out]), Below.refl _ _⟩

set_option maxRecDepth 100000 in
theorem goldOfEnts (A : Option Addr) (a : Nat) (E : List Fig) (w : World) (hE : E.length ≤ 1048576) (gE : ∀ (i : Nat) (h : i < E.length), 0 ≤ (E[i]'h).g ∧ (E[i]'h).g ≤ 20) (rE : RdF w A E) :
 Calls Try.prog 27 #[.slice A E.length a] w fun e w' => e = .returned (.int .i64 (goldE E)) ∧ Below w.heap.size w w' := by
 have HE := Lib.hid rE
 have GE := Lib.hid gE
 clear rE gE
 go_enter Try.func27, Try.ntmps27
 go_wp2
 go_loopw [3, 8] (fun sv i wr => ∃ (j : Nat) (t : Int), j ≤ E.length ∧ i = .int .i64 j ∧ sv = .int .i64 t ∧ 0 ≤ t ∧ t ≤ 20 * j ∧ Hid (t = goldE (E.take j)) ∧ Hid (Below w.heap.size w wr)) (fun _ i _ => E.length - (intOf i).toNat)
 case atStart => exact ⟨0, 0, Nat.zero_le _, rfl, rfl, by omega, by omega, by simp [Hid, goldE], Below.refl _ _⟩
 case round =>
  obtain ⟨j, t, hj, rfl, rfl, ht0, ht1, hte, hb⟩ := hrel
  by_cases hlt2 : j < E.length
  · obtain ⟨g, rfl, a0, a1, a2, a3, a4⟩ := RdF.below HE.out hb.out j hlt2
    obtain ⟨v0, v1⟩ := GE.out j hlt2
    have HS := Lib.hid (gold_step E j hlt2)
    generalize E[j] = f at a0 a1 a2 a3 a4 v0 v1 HS
    have i0 : (0 : Int) ≤ (j : Int) := by omega
    have i1 : (j : Int) < (E.length : Int) := by omega
    have BB := Lib.hid (Below.trans hb.out ((Below.refl wr.heap.size wr).alloc (Nat.le_refl _) (.cells #[.int .i64 f.c, .int .i64 f.x, .int .i64 f.y, .int .i64 f.l, .int .i64 f.g] 57) |>.mono hb.out.size))
    go_wp2
    go_roundw
    case rel => exact ⟨j + 1, t + f.g, by omega, by go_num, rfl, by omega, by omega, by rw [Hid, HS.out, hte.out], BB.out⟩
    case measure => simp [intOf]; omega
  · have hz2 : j = E.length := by omega
    have HZ2 := Lib.hid hz2
    clear hz2
    go_wp2
    go_ret
    exact ⟨ret_int (by rw [hte.out, HZ2.out, List.take_length]), hb.out⟩
end Go.Proofs.Ytkganikclbeplaa

/- Whether a game is ok: the program's GameOk. -/
namespace Go.Proofs.Ytkganikclbeplaa
open Go.ChangeShapes Go.WideShapes Go.ChangeAt Go.RowKit
set_option linter.unusedVariables false

def gokB (E : List Fig) (F L : List Int) : Bool :=
 decide (F.length = 16) && (decide (L.length = 4) && (entsB 0 E && (allB F 20 && (allB L 30 && decide (F.sum + goldE E = 20)))))

theorem takeD {P : Program} {ops : Array Oper} {Q : Exit → Act → World → Prop} {md : Region.Mode} {S : World → Prop} (i : Nat) (d : Tmp) {oi : Oper} {v : Value} {fuel : Nat} {listed : Array Bool} {a : Act} {w : World} (hi : ops[i]? = some oi) (hd : oi.dst = some d)
 (hs : Region.noSelect ops = true) (hf : Region.free md ops listed i = true) (hr : (Region.ready md ops listed).contains i = true)
 (hQ : ∀ c a w, Q (.panic c) (a.put (some d) v) w → Q (.panic c) a w) (hy : YieldsIf P ops S oi v a) (hS : S w)
 (h : wpAnyH P md ops Q S fuel (listed.setIfInBounds i true) (a.put (some d) v) w) : wpAnyH P md ops Q S (fuel + 1) listed a w :=
 wpAnyH_take hi hs hf hr (by rw [hd]; exact hQ) hy hS (by rw [hd]; exact h)
theorem tkD {P : Program} {ops : Array Oper} {Q : Exit → Act → World → Prop} {md : Region.Mode} {S : World → Prop} (i : Nat) (d : Tmp) {oi : Oper} {v : Value} {fuel : Nat} {listed : Array Bool} {a : Act} {w : World} (hi : ops[i]? = some oi) (hd : oi.dst = some d)
 (hy : YieldsIf P ops S oi v a) (hS : S w) (h : wpAnyH P md ops Q S fuel (listed.setIfInBounds i true) (a.put (some d) v) w)
 (hs : Region.noSelect ops = true := by kernel_rfl) (hf : Region.free md ops listed i = true := by kernel_rfl) (hr : (Region.ready md ops listed).contains i = true := by kernel_rfl)
 (hQ : ∀ c a w, Q (.panic c) (a.put (some d) v) w → Q (.panic c) a w := by exact fun _ _ _ h => h) : wpAnyH P md ops Q S (fuel + 1) listed a w :=
 takeD i d hi hd hs hf hr hQ hy hS h
theorem tkI {P : Program} {ops : Array Oper} {Q : Exit → Act → World → Prop} {md : Region.Mode} {S : World → Prop} (i : Nat) (d : Tmp) {oi : Oper} {v : Value} {fuel : Nat} {listed : Array Bool} {a : Act} {w : World} (hi : ops[i]? = some oi) (hd : oi.dst = some d)
 (hy : ∀ w, S w → (execOp a.eval oi).run P w = .ok (.value v) w) (h : wpAnyH P md ops Q S fuel (listed.setIfInBounds i true) (a.put (some d) v) w)
 (hg : Region.wanted oi (yielded ops a.tmps) = true := by rfl) (hS : S w := by assumption)
 (hs : Region.noSelect ops = true := by kernel_rfl) (hf : Region.free md ops listed i = true := by kernel_rfl) (hr : (Region.ready md ops listed).contains i = true := by kernel_rfl)
 (hQ : ∀ c a w, Q (.panic c) (a.put (some d) v) w → Q (.panic c) a w := by exact fun _ _ _ h => h) : wpAnyH P md ops Q S (fuel + 1) listed a w :=
 takeD i d hi hd hs hf hr hQ (Or.inl ⟨hg, hy⟩) hS h


theorem entsB_gold : ∀ (E : List Fig) (p : Int), entsB p E = true → ∀ (i : Nat) (h : i < E.length), 0 ≤ (E[i]'h).g ∧ (E[i]'h).g ≤ 20 := by
 intro E
 induction E with
 | nil => intro p _ i h; simp at h
 | cons e t ih =>
  intro p hp i h
  simp only [entsB, entB, inB, Bool.and_eq_true, decide_eq_true_eq] at hp
  rcases i with _ | i
  · simp only [List.getElem_cons_zero]; omega
  · simp only [List.getElem_cons_succ]; exact ih e.c hp.2.2 i (by simpa using h)

theorem allB_at {l : List Int} {hi : Int} (h : allB l hi = true) (i : Nat) (hl : i < l.length) : 0 ≤ l[i]'hl ∧ l[i]'hl ≤ hi := by
 unfold allB at h
 rw [List.all_eq_true] at h
 have := h _ (List.getElem_mem hl)
 simpa [inB] using this

/-- Numbers that read so, wherever their row begins. -/
def RdJ (w : World) (A : Option Addr) (l : List Int) : Prop := ∀ i (h : i < l.length), ∃ g o : Nat, A = some ⟨g, o, none⟩ ∧ w.cell? ⟨g, o + i, none⟩ = some (.int .i64 (l[i]'h))
theorem RdI.j {w : World} {A : Option Addr} {l : List Int} (h : RdI w A l) : RdJ w A l := by
 intro i hi
 obtain ⟨g, hA, hc⟩ := h i hi
 exact ⟨g, 0, hA, by simpa using hc⟩
theorem RdJ.below {w w' : World} {A : Option Addr} {l : List Int} (h : RdJ w A l) (hb : Below w.heap.size w w') : RdJ w' A l := by
 intro i hi
 obtain ⟨g, o, rfl, h0⟩ := h i hi
 exact ⟨g, o, rfl, cell_kept hb h0⟩

set_option maxRecDepth 100000 in
set_option maxHeartbeats 4000000 in
theorem gameOkJ (A : Option Addr) (a : Nat) (B : Option Addr) (b : Nat) (C : Option Addr) (c : Nat) (E : List Fig) (F L : List Int) (w : World) (hE : E.length ≤ 1048576) (hF : F.length ≤ 1048576) (hL : L.length ≤ 1048576)
 (rE : RdF w A E) (rF : RdI w B F) (rL : L.length = 4 → RdI w C L) :
 Calls Try.prog 11 #[gameV A E.length a B F.length b C L.length c] w fun e w' => e = .returned (.bool (gokB E F L)) ∧ Below w.heap.size w w' := by
 have z0 : Below w.heap.size w (w.alloc (.cells #[.slice A E.length a, .slice B F.length b, .slice C L.length c] 30)) := (Below.refl _ _).alloc (Nat.le_refl _) _
 have HE := Lib.hid (RdF.below rE z0)
 have HF := Lib.hid (RdI.below rF z0)
 have HL := Lib.hid (fun h => RdI.below (rL h) z0)
 have K0 := Lib.hid (Three.new (u0 := .slice A E.length a) (u1 := .slice B F.length b) (u2 := .slice C L.length c) (t := 30) w)
 have Z0 := Lib.hid z0
 clear rE rF rL z0
 by_cases h1 : ¬ F.length = 16
 · have b1 : ((F.length : Int) != 16) = true := by simp; omega
   have H1 := Lib.hid h1
   clear h1
   go_enter Try.func11, Try.ntmps11
   go_wp2_with (fail)
   go_light
   go_ret
   exact ⟨ret_bool (by rw [gokB, decide_eq_false H1.out]; rfl), Z0.out⟩
 have b1 : ((F.length : Int) != 16) = false := by simp; omega
 have H1 := Lib.hid (show F.length = 16 by omega)
 clear h1
 by_cases h2 : ¬ L.length = 4
 · have b2 : ((L.length : Int) != 4) = true := by simp; omega
   have H2 := Lib.hid h2
   clear h2
   go_enter Try.func11, Try.ntmps11
   go_wp2_with (fail)
   go_light
   go_ret
   exact ⟨ret_bool (by rw [gokB, decide_eq_false H2.out]; simp), Z0.out⟩
 have b2 : ((L.length : Int) != 4) = false := by simp; omega
 have H2 := Lib.hid (show L.length = 4 by omega)
 clear h2
 rcases h3 : entsB 0 E with _ | _
 · go_enter Try.func11, Try.ntmps11
   go_wp2_with (go_at_call 25; refine (entsOk A a E _ (by unfold maxLen; omega) HE.out).mono ?_; rintro e w1 ⟨rfl, hb1⟩; rw [h3])
   go_light
   go_ret
   exact ⟨ret_bool (by rw [gokB, h3]; simp), Below.and Z0.out hb1⟩
 have GE := Lib.hid (entsB_gold E 0 h3)
 go_enter Try.func11, Try.ntmps11
 go_wp2_with (fail)
 refine (entsOk A a E _ (by unfold maxLen; omega) HE.out).mono ?_
 rintro e wz ⟨rfl, hb1⟩
 rw [h3]
 obtain ⟨q0, q1, q2⟩ := (Three.below K0.out hb1 (by simp)).cells
 have HB1 := Lib.hid hb1
 clear hb1
 have hsz : w.heap.size < wz.heap.size := by have := HB1.out.size; simp at this; omega
 rcases h4 : allB F 20 with _ | _
 · go_wp2_with (fail)
   refine wp_region_held_drew (S := fun w1 => Below wz.heap.size wz w1) (by kernel_rfl) ((Below.refl _ _).drew) (fun ha => ?_)
   refine tkI 0 19 (v := ?_) rfl rfl ?_ ?_
   rotate_left
   · intro w1 hSw; obtain ⟨hcS, hfS⟩ := bcell hSw; go_simp; (try with_reducible rfl)
   (try simp only [Act.put, pu1, pu2, pu3])
   refine tkI 1 20 (v := ?_) rfl rfl ?_ ?_
   rotate_left
   · intro w1 hSw; obtain ⟨hcS, hfS⟩ := bcell hSw; go_simp; (try with_reducible rfl)
   (try simp only [Act.put, pu1, pu2, pu3])
   refine wpAnyH_ready (rs := [2]) (by kernel_rfl) (by simp) ?_
   refine AllReadyH.cons rfl (fun K hK => ?_) AllReadyH.nil
   go_simp
   refine (allWithinB B b F 20 _ (by unfold maxLen; omega) (RdI.below HF.out (Below.and HB1.out ha))).mono ?_
   rintro e w2 ⟨rfl, hb⟩
   rw [h4]
   refine hK.out _ _ (Below.and ha hb) (fun ha2 => ?_)
   clear hK K
   (try simp only [Act.put, pu1, pu2, pu3])
   refine tkI 3 22 (v := ?_) rfl rfl ?_ ?_
   rotate_left
   · intro w1 hSw; obtain ⟨hcS, hfS⟩ := bcell hSw; go_simp; (try with_reducible rfl)
   (try simp only [Act.put, pu1, pu2, pu3])
   refine tkD 4 23 (v := undef) rfl rfl (Or.inr ⟨by rfl, rfl⟩) (by assumption) ?_
   (try simp only [Act.put, pu1, pu2, pu3])
   refine tkD 5 24 (v := undef) rfl rfl (Or.inr ⟨by rfl, rfl⟩) (by assumption) ?_
   (try simp only [Act.put, pu1, pu2, pu3])
   refine tkD 6 25 (v := undef) rfl rfl (Or.inr ⟨by rfl, rfl⟩) (by assumption) ?_
   (try simp only [Act.put, pu1, pu2, pu3])
   refine tkI 7 26 (v := ?_) rfl rfl ?_ ?_
   rotate_left
   · intro w1 hSw; obtain ⟨hcS, hfS⟩ := bcell hSw; go_simp; (try with_reducible rfl)
   (try simp only [Act.put, pu1, pu2, pu3])
   refine tkI 8 27 (v := ?_) rfl rfl ?_ ?_
   rotate_left
   · intro w1 hSw; obtain ⟨hcS, hfS⟩ := bcell hSw; go_simp; (try with_reducible rfl)
   (try simp only [Act.put, pu1, pu2, pu3])
   refine tkD 9 28 (v := undef) rfl rfl (Or.inr ⟨by rfl, rfl⟩) (by assumption) ?_
   (try simp only [Act.put, pu1, pu2, pu3])
   refine tkD 10 29 (v := undef) rfl rfl (Or.inr ⟨by rfl, rfl⟩) (by assumption) ?_
   (try simp only [Act.put, pu1, pu2, pu3])
   refine tkD 11 30 (v := undef) rfl rfl (Or.inr ⟨by rfl, rfl⟩) (by assumption) ?_
   (try simp only [Act.put, pu1, pu2, pu3])
   refine tkD 12 31 (v := undef) rfl rfl (Or.inr ⟨by rfl, rfl⟩) (by assumption) ?_
   (try simp only [Act.put, pu1, pu2, pu3])
   refine tkD 13 32 (v := undef) rfl rfl (Or.inr ⟨by rfl, rfl⟩) (by assumption) ?_
   (try simp only [Act.put, pu1, pu2, pu3])
   refine tkD 14 33 (v := undef) rfl rfl (Or.inr ⟨by rfl, rfl⟩) (by assumption) ?_
   (try simp only [Act.put, pu1, pu2, pu3])
   refine tkD 15 34 (v := undef) rfl rfl (Or.inr ⟨by rfl, rfl⟩) (by assumption) ?_
   (try simp only [Act.put, pu1, pu2, pu3])
   refine tkD 16 35 (v := undef) rfl rfl (Or.inr ⟨by rfl, rfl⟩) (by assumption) ?_
   (try simp only [Act.put, pu1, pu2, pu3])
   refine tkI 17 36 (v := ?_) rfl rfl ?_ ?_
   rotate_left
   · intro w1 hSw; obtain ⟨hcS, hfS⟩ := bcell hSw; go_simp; (try with_reducible rfl)
   (try simp only [Act.put, pu1, pu2, pu3])
   refine tkI 18 2 (v := ?_) rfl rfl ?_ ?_
   rotate_left
   · intro w1 hSw; obtain ⟨hcS, hfS⟩ := bcell hSw; go_simp; (try with_reducible rfl)
   (try simp only [Act.put, pu1, pu2, pu3])
   refine wpAnyH_done (by kernel_rfl) ?_ _
   go_wp2
   go_light
   go_ret
   exact ⟨ret_bool (by rw [gokB, h4]; simp), Below.and (Below.and Z0.out HB1.out) ha2⟩
 have GF := Lib.hid (fun i hi => allB_at h4 i hi)
 rcases h5 : allB L 30 with _ | _
 · go_wp2_with (fail)
   refine wp_region_held_drew (S := fun w1 => Below wz.heap.size wz w1) (by kernel_rfl) ((Below.refl _ _).drew) (fun hb2 => ?_)
   refine tkI 0 19 (v := ?_) rfl rfl ?_ ?_
   rotate_left
   · intro w1 hSw; obtain ⟨hcS, hfS⟩ := bcell hSw; go_simp; (try with_reducible rfl)
   (try simp only [Act.put, pu1, pu2, pu3])
   refine tkI 1 20 (v := ?_) rfl rfl ?_ ?_
   rotate_left
   · intro w1 hSw; obtain ⟨hcS, hfS⟩ := bcell hSw; go_simp; (try with_reducible rfl)
   (try simp only [Act.put, pu1, pu2, pu3])
   refine wpAnyH_ready (rs := [2]) (by kernel_rfl) (by simp) ?_
   refine AllReadyH.cons rfl (fun K hK => ?_) AllReadyH.nil
   go_simp
   refine (allWithinB B b F 20 _ (by unfold maxLen; omega) (RdI.below HF.out (Below.and HB1.out hb2))).mono ?_
   rintro e w2 ⟨rfl, hb⟩
   rw [h4]
   refine hK.out _ _ (Below.and hb2 hb) (fun hb22 => ?_)
   clear hK K
   (try simp only [Act.put, pu1, pu2, pu3])
   refine tkI 3 22 (v := ?_) rfl rfl ?_ ?_
   rotate_left
   · intro w1 hSw; obtain ⟨hcS, hfS⟩ := bcell hSw; go_simp; (try with_reducible rfl)
   (try simp only [Act.put, pu1, pu2, pu3])
   refine tkI 4 23 (v := ?_) rfl rfl ?_ ?_
   rotate_left
   · intro w1 hSw; obtain ⟨hcS, hfS⟩ := bcell hSw; go_simp; (try with_reducible rfl)
   (try simp only [Act.put, pu1, pu2, pu3])
   refine tkI 5 24 (v := ?_) rfl rfl ?_ ?_
   rotate_left
   · intro w1 hSw; obtain ⟨hcS, hfS⟩ := bcell hSw; go_simp; (try with_reducible rfl)
   (try simp only [Act.put, pu1, pu2, pu3])
   refine wpAnyH_ready (rs := [6]) (by kernel_rfl) (by simp) ?_
   refine AllReadyH.cons rfl (fun K hK => ?_) AllReadyH.nil
   go_simp
   refine (allWithinB C c L 30 _ (by unfold maxLen; omega) (RdI.below (HL.out H2.out) (Below.and HB1.out hb22))).mono ?_
   rintro e w2 ⟨rfl, hb⟩
   rw [h5]
   refine hK.out _ _ (Below.and hb22 hb) (fun hb23 => ?_)
   clear hK K
   (try simp only [Act.put, pu1, pu2, pu3])
   refine tkI 7 26 (v := ?_) rfl rfl ?_ ?_
   rotate_left
   · intro w1 hSw; obtain ⟨hcS, hfS⟩ := bcell hSw; go_simp; (try with_reducible rfl)
   (try simp only [Act.put, pu1, pu2, pu3])
   refine tkI 8 27 (v := ?_) rfl rfl ?_ ?_
   rotate_left
   · intro w1 hSw; obtain ⟨hcS, hfS⟩ := bcell hSw; go_simp; (try with_reducible rfl)
   (try simp only [Act.put, pu1, pu2, pu3])
   refine tkD 9 28 (v := undef) rfl rfl (Or.inr ⟨by rfl, rfl⟩) (by assumption) ?_
   (try simp only [Act.put, pu1, pu2, pu3])
   refine tkD 10 29 (v := undef) rfl rfl (Or.inr ⟨by rfl, rfl⟩) (by assumption) ?_
   (try simp only [Act.put, pu1, pu2, pu3])
   refine tkD 11 30 (v := undef) rfl rfl (Or.inr ⟨by rfl, rfl⟩) (by assumption) ?_
   (try simp only [Act.put, pu1, pu2, pu3])
   refine tkD 12 31 (v := undef) rfl rfl (Or.inr ⟨by rfl, rfl⟩) (by assumption) ?_
   (try simp only [Act.put, pu1, pu2, pu3])
   refine tkD 13 32 (v := undef) rfl rfl (Or.inr ⟨by rfl, rfl⟩) (by assumption) ?_
   (try simp only [Act.put, pu1, pu2, pu3])
   refine tkD 14 33 (v := undef) rfl rfl (Or.inr ⟨by rfl, rfl⟩) (by assumption) ?_
   (try simp only [Act.put, pu1, pu2, pu3])
   refine tkD 15 34 (v := undef) rfl rfl (Or.inr ⟨by rfl, rfl⟩) (by assumption) ?_
   (try simp only [Act.put, pu1, pu2, pu3])
   refine tkD 16 35 (v := undef) rfl rfl (Or.inr ⟨by rfl, rfl⟩) (by assumption) ?_
   (try simp only [Act.put, pu1, pu2, pu3])
   refine tkI 17 36 (v := ?_) rfl rfl ?_ ?_
   rotate_left
   · intro w1 hSw; obtain ⟨hcS, hfS⟩ := bcell hSw; go_simp; (try with_reducible rfl)
   (try simp only [Act.put, pu1, pu2, pu3])
   refine tkI 18 2 (v := ?_) rfl rfl ?_ ?_
   rotate_left
   · intro w1 hSw; obtain ⟨hcS, hfS⟩ := bcell hSw; go_simp; (try with_reducible rfl)
   (try simp only [Act.put, pu1, pu2, pu3])
   refine wpAnyH_done (by kernel_rfl) ?_ _
   go_wp2
   go_light
   go_ret
   exact ⟨ret_bool (by rw [gokB, h5]; simp), Below.and (Below.and Z0.out HB1.out) hb23⟩
 have HV := Lib.hid (show gokB E F L = decide (F.sum + goldE E = 20) by rw [gokB, h3, h4, h5, decide_eq_true H1.out, decide_eq_true H2.out]; simp)
 obtain ⟨ge0, ge1⟩ := gold_bd E GE.out
 obtain ⟨fs0, fs1⟩ := sum_bd F GF.out
 obtain ⟨ge, hge⟩ : ∃ x, goldE E = x := ⟨_, rfl⟩
 obtain ⟨fs, hfs⟩ : ∃ x, F.sum = x := ⟨_, rfl⟩
 rw [hge] at ge0 ge1 HV
 rw [hfs] at fs0 fs1 HV
 have ge2 : ge ≤ 20971520 := by omega
 have fs2 : fs ≤ 20971520 := by omega
 clear ge1 fs1
 have hwr : IntKind.i64.wrap (ge + fs) = ge + fs := IntWalk.i64_in _ (by omega)
 go_wp2_with (fail)
 refine wp_region_held_drew (S := fun w1 => Below wz.heap.size wz w1) (by kernel_rfl) ((Below.refl _ _).drew) (fun hc => ?_)
 refine tkI 0 19 (v := ?_) rfl rfl ?_ ?_
 rotate_left
 · intro w1 hSw; obtain ⟨hcS, hfS⟩ := bcell hSw; go_simp; (try with_reducible rfl)
 (try simp only [Act.put, pu1, pu2, pu3])
 refine tkI 1 20 (v := ?_) rfl rfl ?_ ?_
 rotate_left
 · intro w1 hSw; obtain ⟨hcS, hfS⟩ := bcell hSw; go_simp; (try with_reducible rfl)
 (try simp only [Act.put, pu1, pu2, pu3])
 refine wpAnyH_ready (rs := [2]) (by kernel_rfl) (by simp) ?_
 refine AllReadyH.cons rfl (fun K hK => ?_) AllReadyH.nil
 go_simp
 refine (allWithinB B b F 20 _ (by unfold maxLen; omega) (RdI.below HF.out (Below.and HB1.out hc))).mono ?_
 rintro e w2 ⟨rfl, hb⟩
 rw [h4]
 refine hK.out _ _ (Below.and hc hb) (fun hc2 => ?_)
 clear hK K
 (try simp only [Act.put, pu1, pu2, pu3])
 refine tkI 3 22 (v := ?_) rfl rfl ?_ ?_
 rotate_left
 · intro w1 hSw; obtain ⟨hcS, hfS⟩ := bcell hSw; go_simp; (try with_reducible rfl)
 (try simp only [Act.put, pu1, pu2, pu3])
 refine tkI 4 23 (v := ?_) rfl rfl ?_ ?_
 rotate_left
 · intro w1 hSw; obtain ⟨hcS, hfS⟩ := bcell hSw; go_simp; (try with_reducible rfl)
 (try simp only [Act.put, pu1, pu2, pu3])
 refine tkI 5 24 (v := ?_) rfl rfl ?_ ?_
 rotate_left
 · intro w1 hSw; obtain ⟨hcS, hfS⟩ := bcell hSw; go_simp; (try with_reducible rfl)
 (try simp only [Act.put, pu1, pu2, pu3])
 refine wpAnyH_ready (rs := [6]) (by kernel_rfl) (by simp) ?_
 refine AllReadyH.cons rfl (fun K hK => ?_) AllReadyH.nil
 go_simp
 refine (allWithinB C c L 30 _ (by unfold maxLen; omega) (RdI.below (HL.out H2.out) (Below.and HB1.out hc2))).mono ?_
 rintro e w2 ⟨rfl, hb⟩
 rw [h5]
 refine hK.out _ _ (Below.and hc2 hb) (fun hc3 => ?_)
 clear hK K
 (try simp only [Act.put, pu1, pu2, pu3])
 refine tkI 7 26 (v := ?_) rfl rfl ?_ ?_
 rotate_left
 · intro w1 hSw; obtain ⟨hcS, hfS⟩ := bcell hSw; go_simp; (try with_reducible rfl)
 (try simp only [Act.put, pu1, pu2, pu3])
 refine tkI 8 27 (v := ?_) rfl rfl ?_ ?_
 rotate_left
 · intro w1 hSw; obtain ⟨hcS, hfS⟩ := bcell hSw; go_simp; (try with_reducible rfl)
 (try simp only [Act.put, pu1, pu2, pu3])
 refine tkI 9 28 (v := ?_) rfl rfl ?_ ?_
 rotate_left
 · intro w1 hSw; obtain ⟨hcS, hfS⟩ := bcell hSw; go_simp; (try with_reducible rfl)
 (try simp only [Act.put, pu1, pu2, pu3])
 refine tkI 10 29 (v := ?_) rfl rfl ?_ ?_
 rotate_left
 · intro w1 hSw; obtain ⟨hcS, hfS⟩ := bcell hSw; go_simp; (try with_reducible rfl)
 (try simp only [Act.put, pu1, pu2, pu3])
 refine tkI 12 31 (v := ?_) rfl rfl ?_ ?_
 rotate_left
 · intro w1 hSw; obtain ⟨hcS, hfS⟩ := bcell hSw; go_simp; (try with_reducible rfl)
 (try simp only [Act.put, pu1, pu2, pu3])
 refine tkI 13 32 (v := ?_) rfl rfl ?_ ?_
 rotate_left
 · intro w1 hSw; obtain ⟨hcS, hfS⟩ := bcell hSw; go_simp; (try with_reducible rfl)
 (try simp only [Act.put, pu1, pu2, pu3])
 refine wpAnyH_ready (rs := [11]) (by kernel_rfl) (by simp) ?_
 refine AllReadyH.cons rfl (fun K hK => ?_) AllReadyH.nil
 go_simp
 refine (goldOfEnts A a E _ hE GE.out (RdF.below HE.out (Below.and HB1.out hc3))).mono ?_
 rintro e w2 ⟨rfl, hb⟩
 rw [hge]
 refine hK.out _ _ (Below.and hc3 hb) (fun hc4 => ?_)
 clear hK K
 (try simp only [Act.put, pu1, pu2, pu3])
 refine wpAnyH_ready (rs := [14]) (by kernel_rfl) (by simp) ?_
 refine AllReadyH.cons rfl (fun K hK => ?_) AllReadyH.nil
 go_simp
 refine (goldOfFloor B b F _ hF GF.out (RdI.below HF.out (Below.and HB1.out hc4))).mono ?_
 rintro e w2 ⟨rfl, hb⟩
 rw [hfs]
 refine hK.out _ _ (Below.and hc4 hb) (fun hc5 => ?_)
 clear hK K
 (try simp only [Act.put, pu1, pu2, pu3])
 refine tkI 15 34 (v := ?_) rfl rfl ?_ ?_
 rotate_left
 · intro w1 hSw; obtain ⟨hcS, hfS⟩ := bcell hSw; go_simp; (try with_reducible rfl)
 (try simp only [Act.put, pu1, pu2, pu3])
 refine tkI 16 35 (v := ?_) rfl rfl ?_ ?_
 rotate_left
 · intro w1 hSw; obtain ⟨hcS, hfS⟩ := bcell hSw; go_simp; (try with_reducible rfl)
 (try simp only [Act.put, pu1, pu2, pu3])
 refine tkI 17 36 (v := ?_) rfl rfl ?_ ?_
 rotate_left
 · intro w1 hSw; obtain ⟨hcS, hfS⟩ := bcell hSw; go_simp; (try with_reducible rfl)
 (try simp only [Act.put, pu1, pu2, pu3])
 refine tkI 18 2 (v := ?_) rfl rfl ?_ ?_
 rotate_left
 · intro w1 hSw; obtain ⟨hcS, hfS⟩ := bcell hSw; go_simp; (try with_reducible rfl)
 (try simp only [Act.put, pu1, pu2, pu3])
 refine wpAnyH_done (by kernel_rfl) ?_ _
 go_wp2
 go_light
 go_ret
 exact ⟨ret_bool (by rw [HV.out, Int.add_comm]; rfl), Below.and (Below.and Z0.out HB1.out) hc5⟩

theorem gameOk (A : Option Addr) (a : Nat) (B : Option Addr) (b : Nat) (C : Option Addr) (c : Nat) (E : List Fig) (F L : List Int) (w : World) (hE : E.length ≤ 1048576) (hF : F.length ≤ 1048576) (hL : L.length ≤ 1048576)
 (rE : RdF w A E) (rF : RdI w B F) (rL : RdI w C L) :
 Calls Try.prog 11 #[gameV A E.length a B F.length b C L.length c] w fun e w' => e = .returned (.bool (gokB E F L)) ∧ Below w.heap.size w w' :=
 gameOkJ A a B b C c E F L w hE hF hL rE rF (fun _ => rL)
end Go.Proofs.Ytkganikclbeplaa

/- Whether a game is ok: the model's check. -/
namespace Go.Proofs.Ytkganikclbeplaa
open Go.ChangeShapes Go.WideShapes Go.ChangeAt Go.RowKit
set_option linter.unusedVariables false

set_option maxRecDepth 100000 in
theorem l2EntOk (f : Fig) (w : World) :
 Calls Try.prog 44 #[f.val] w fun e w' => e = .returned (.bool (entB f)) ∧ Below w.heap.size w w' := by
 obtain ⟨c, x, y, l, g⟩ := f
 go_enter Try.func44, Try.ntmps44
 go_wp2
 all_goals go_light
 all_goals go_ret
 all_goals refine ⟨ret_bool ?_, (Below.refl _ _).alloc (Nat.le_refl _) _⟩
 all_goals simp only [entB, onB, inB]
 all_goals first | (simp_all; done) | (rw [Bool.eq_iff_iff]; simp_all; omega) | (simp_all; omega)

theorem entB_bd {f : Fig} (h : entB f = true) : 1 ≤ f.c ∧ 0 ≤ f.g ∧ f.g ≤ 20 := by
 simp only [entB, onB, inB, Bool.and_eq_true, decide_eq_true_eq] at h
 omega

set_option maxRecDepth 100000 in
set_option maxHeartbeats 4000000 in
theorem l2OkJ (A : Option Addr) (a : Nat) (B : Option Addr) (b : Nat) (C : Option Addr) (c : Nat) (E : List Fig) (F L : List Int) (w : World) (hE : E.length ≤ 1048576) (hF : F.length ≤ 1048576) (hL : L.length ≤ 1048576)
 (rE : RdF w A E) (rF : RdI w B F) (rL : RdJ w C L) :
 Calls Try.prog 22 #[gameV A E.length a B F.length b C L.length c] w fun e w' => e = .returned (.bool (gokB E F L)) ∧ Below w.heap.size w w' := by
 have z0 : Below w.heap.size w (w.alloc (.cells #[.slice A E.length a, .slice B F.length b, .slice C L.length c] 30)) := (Below.refl _ _).alloc (Nat.le_refl _) _
 have HE := Lib.hid (RdF.below rE z0)
 have HF := Lib.hid (RdI.below rF z0)
 have HL := Lib.hid (RdJ.below rL z0)
 have K0 := Lib.hid (Three.new (u0 := .slice A E.length a) (u1 := .slice B F.length b) (u2 := .slice C L.length c) (t := 30) w)
 have Z0 := Lib.hid z0
 clear rE rF rL z0
 go_enter Try.func22, Try.ntmps22
 go_wp2
 go_loopw [3, 4] (fun sv i wr => ∃ (k : Nat) (p s : Int), k ≤ E.length ∧ i = .int .i64 k ∧ sv = .int .i64 s ∧ 0 ≤ s ∧ s ≤ 20 * k ∧ 0 ≤ p ∧ Hid (s = goldE (E.take k)) ∧ Hid (entsB 0 E = entsB p (E.drop k)) ∧ Hid (k = 0 → p = 0) ∧ Hid (∀ (h : k - 1 < E.length), 0 < k → p = (E[k - 1]'h).c) ∧
  Hid (Below (w.alloc (.cells #[.slice A E.length a, .slice B F.length b, .slice C L.length c] 30)).heap.size (w.alloc (.cells #[.slice A E.length a, .slice B F.length b, .slice C L.length c] 30)) wr)) (fun _ i _ => E.length - (intOf i).toNat)
 case atStart => exact ⟨0, 0, 0, Nat.zero_le _, rfl, rfl, by omega, by omega, by omega, by simp [Hid, goldE], by simp [Hid], fun _ => rfl, fun _ h => by omega, Below.refl _ _⟩
 case round =>
  obtain ⟨k, p, s, hk, rfl, rfl, hs0, hs1, hp, hse, hee, hk0, hkp, hb⟩ := hrel
  obtain ⟨q0, q1, q2⟩ := (Three.below K0.out hb.out (by simp)).cells
  by_cases hlt : k < E.length
  · obtain ⟨g, rfl, a0, a1, a2, a3, a4⟩ := RdF.below HE.out hb.out k hlt
    have HD := Lib.hid (List.drop_eq_getElem_cons hlt)
    have HG := Lib.hid (gold_step E k hlt)
    have HP : Hid (∀ (h : k + 1 - 1 < E.length), 0 < k + 1 → (E[k]'hlt).c = (E[k + 1 - 1]'h).c) := fun h _ => rfl
    obtain ⟨f, hf⟩ : ∃ f, f = E[k] := ⟨_, rfl⟩
    rw [← hf] at a0 a1 a2 a3 a4 HD HG HP
    have i0 : (0 : Int) ≤ (k : Int) := by omega
    have i1 : (k : Int) < (E.length : Int) := by omega
    have HFF := Lib.hid hf
    clear hf
    have KS := Lib.hid (show ∀ w1, Below wr.heap.size wr w1 → (fun w1 => Below wr.heap.size wr w1 ∧ w1.cell? ⟨w.heap.size, 0, none⟩ = some (.slice (some ⟨g, 0, none⟩) E.length a) ∧ w1.cell? ⟨g, k * 5, none⟩ = some (.int .i64 f.c) ∧ w1.cell? ⟨g, k * 5 + 1, none⟩ = some (.int .i64 f.x) ∧ w1.cell? ⟨g, k * 5 + 2, none⟩ = some (.int .i64 f.y) ∧ w1.cell? ⟨g, k * 5 + 3, none⟩ = some (.int .i64 f.l) ∧ w1.cell? ⟨g, k * 5 + 4, none⟩ = some (.int .i64 f.g)) w1 from fun w1 h => ⟨h, cell_kept h q0, cell_kept h a0, cell_kept h a1, cell_kept h a2, cell_kept h a3, cell_kept h a4⟩)
    rcases h1 : entB f with _ | _
    ·
     go_wp2_with (fail)
     refine wp_region_held_drew (S := fun w1 => Below wr.heap.size wr w1 ∧ w1.cell? ⟨w.heap.size, 0, none⟩ = some (.slice (some ⟨g, 0, none⟩) E.length a) ∧ w1.cell? ⟨g, k * 5, none⟩ = some (.int .i64 f.c) ∧ w1.cell? ⟨g, k * 5 + 1, none⟩ = some (.int .i64 f.x) ∧ w1.cell? ⟨g, k * 5 + 2, none⟩ = some (.int .i64 f.y) ∧ w1.cell? ⟨g, k * 5 + 3, none⟩ = some (.int .i64 f.l) ∧ w1.cell? ⟨g, k * 5 + 4, none⟩ = some (.int .i64 f.g)) (by kernel_rfl) (KS.out _ (Below.refl _ _).drew) (fun hHeld => ?_)
     refine tkI 0 14 (v := ?_) rfl rfl ?_ ?_
     rotate_left
     · intro w1 hSw; (try dsimp only at hSw); go_split_ands; go_simp; (try with_reducible rfl)
     (try simp only [Act.put, pu1, pu2, pu3])
     refine tkI 1 15 (v := ?_) rfl rfl ?_ ?_
     rotate_left
     · intro w1 hSw; (try dsimp only at hSw); go_split_ands; go_simp; (try with_reducible rfl)
     (try simp only [Act.put, pu1, pu2, pu3])
     refine tkI 2 16 (v := ?_) rfl rfl ?_ ?_
     rotate_left
     · intro w1 hSw; (try dsimp only at hSw); go_split_ands; go_simp; (try with_reducible rfl)
     (try simp only [Act.put, pu1, pu2, pu3])
     refine tkI 3 17 (v := ?_) rfl rfl ?_ ?_
     rotate_left
     · intro w1 hSw; (try dsimp only at hSw); go_split_ands; go_simp; (try with_reducible rfl)
     (try simp only [Act.put, pu1, pu2, pu3])
     refine tkI 4 18 (v := ?_) rfl rfl ?_ ?_
     rotate_left
     · intro w1 hSw; (try dsimp only at hSw); go_split_ands; go_simp; (try with_reducible rfl)
     (try simp only [Act.put, pu1, pu2, pu3])
     refine wpAnyH_ready (rs := [5]) (by kernel_rfl) (by simp) ?_
     refine AllReadyH.cons rfl (fun K hK => ?_) AllReadyH.nil
     go_simp
     refine (l2EntOk f _).mono ?_
     rintro e w' ⟨rfl, hb5⟩
     rw [h1]
     refine hK.out _ _ (KS.out _ (Below.back hb5 hHeld)) (fun hHeld2 => ?_)
     clear hK K
     (try simp only [Act.put, pu1, pu2, pu3])
     refine tkI 6 20 (v := ?_) rfl rfl ?_ ?_
     rotate_left
     · intro w1 hSw; (try dsimp only at hSw); go_split_ands; go_simp; (try with_reducible rfl)
     (try simp only [Act.put, pu1, pu2, pu3])
     refine tkI 7 21 (v := ?_) rfl rfl ?_ ?_
     rotate_left
     · intro w1 hSw; (try dsimp only at hSw); go_split_ands; go_simp; (try with_reducible rfl)
     (try simp only [Act.put, pu1, pu2, pu3])
     refine tkD 8 22 (v := undef) rfl rfl (Or.inr ⟨by rfl, rfl⟩) (by assumption) ?_
     (try simp only [Act.put, pu1, pu2, pu3])
     refine tkD 9 23 (v := undef) rfl rfl (Or.inr ⟨by rfl, rfl⟩) (by assumption) ?_
     (try simp only [Act.put, pu1, pu2, pu3])
     refine tkD 10 24 (v := undef) rfl rfl (Or.inr ⟨by rfl, rfl⟩) (by assumption) ?_
     (try simp only [Act.put, pu1, pu2, pu3])
     refine tkD 11 25 (v := undef) rfl rfl (Or.inr ⟨by rfl, rfl⟩) (by assumption) ?_
     (try simp only [Act.put, pu1, pu2, pu3])
     refine tkD 12 26 (v := undef) rfl rfl (Or.inr ⟨by rfl, rfl⟩) (by assumption) ?_
     (try simp only [Act.put, pu1, pu2, pu3])
     refine tkD 13 27 (v := undef) rfl rfl (Or.inr ⟨by rfl, rfl⟩) (by assumption) ?_
     (try simp only [Act.put, pu1, pu2, pu3])
     refine tkD 14 28 (v := undef) rfl rfl (Or.inr ⟨by rfl, rfl⟩) (by assumption) ?_
     (try simp only [Act.put, pu1, pu2, pu3])
     refine tkD 15 29 (v := undef) rfl rfl (Or.inr ⟨by rfl, rfl⟩) (by assumption) ?_
     (try simp only [Act.put, pu1, pu2, pu3])
     refine tkD 16 30 (v := undef) rfl rfl (Or.inr ⟨by rfl, rfl⟩) (by assumption) ?_
     (try simp only [Act.put, pu1, pu2, pu3])
     refine tkD 17 31 (v := undef) rfl rfl (Or.inr ⟨by rfl, rfl⟩) (by assumption) ?_
     (try simp only [Act.put, pu1, pu2, pu3])
     refine tkD 18 32 (v := undef) rfl rfl (Or.inr ⟨by rfl, rfl⟩) (by assumption) ?_
     (try simp only [Act.put, pu1, pu2, pu3])
     refine tkD 19 33 (v := undef) rfl rfl (Or.inr ⟨by rfl, rfl⟩) (by assumption) ?_
     (try simp only [Act.put, pu1, pu2, pu3])
     refine tkD 20 34 (v := undef) rfl rfl (Or.inr ⟨by rfl, rfl⟩) (by assumption) ?_
     (try simp only [Act.put, pu1, pu2, pu3])
     refine tkD 21 35 (v := undef) rfl rfl (Or.inr ⟨by rfl, rfl⟩) (by assumption) ?_
     (try simp only [Act.put, pu1, pu2, pu3])
     refine tkD 22 36 (v := undef) rfl rfl (Or.inr ⟨by rfl, rfl⟩) (by assumption) ?_
     (try simp only [Act.put, pu1, pu2, pu3])
     refine tkD 23 37 (v := undef) rfl rfl (Or.inr ⟨by rfl, rfl⟩) (by assumption) ?_
     (try simp only [Act.put, pu1, pu2, pu3])
     refine tkD 24 38 (v := undef) rfl rfl (Or.inr ⟨by rfl, rfl⟩) (by assumption) ?_
     (try simp only [Act.put, pu1, pu2, pu3])
     refine tkD 25 39 (v := undef) rfl rfl (Or.inr ⟨by rfl, rfl⟩) (by assumption) ?_
     (try simp only [Act.put, pu1, pu2, pu3])
     refine tkI 26 40 (v := ?_) rfl rfl ?_ ?_
     rotate_left
     · intro w1 hSw; (try dsimp only at hSw); go_split_ands; go_simp; (try with_reducible rfl)
     (try simp only [Act.put, pu1, pu2, pu3])
     refine wpAnyH_done (by kernel_rfl) ?_ _
     have g1 := hHeld2.1
     clear hHeld hHeld2
     go_wp2
     go_light
     go_ret
     exact ⟨ret_bool (by rw [gokB, hee.out, HD.out, entsB, h1]; simp), below_box (Below.and hb.out g1)⟩
    have HBD := entB_bd h1
    obtain ⟨d1, d2, d3⟩ := HBD
    rcases Nat.eq_zero_or_pos k with hkz | hkz
    · have hp0 := hk0.out hkz
      have HN := Lib.hid (show entsB p (E.drop k) = entsB f.c (E.drop (k + 1)) by rw [HD.out, entsB, h1, hp0, decide_eq_true (show (0 : Int) < f.c by omega)]; rfl)
      have hd : decide (0 < k) = false := by simp; omega
      have hkle : k ≤ 0 := by omega
      clear hkz hp0
      go_wp2_with (fail)
      refine wp_region_held_drew (S := fun w1 => Below wr.heap.size wr w1 ∧ w1.cell? ⟨w.heap.size, 0, none⟩ = some (.slice (some ⟨g, 0, none⟩) E.length a) ∧ w1.cell? ⟨g, k * 5, none⟩ = some (.int .i64 f.c) ∧ w1.cell? ⟨g, k * 5 + 1, none⟩ = some (.int .i64 f.x) ∧ w1.cell? ⟨g, k * 5 + 2, none⟩ = some (.int .i64 f.y) ∧ w1.cell? ⟨g, k * 5 + 3, none⟩ = some (.int .i64 f.l) ∧ w1.cell? ⟨g, k * 5 + 4, none⟩ = some (.int .i64 f.g)) (by kernel_rfl) (KS.out _ (Below.refl _ _).drew) (fun hHeld => ?_)
      refine tkI 0 14 (v := ?_) rfl rfl ?_ ?_
      rotate_left
      · intro w1 hSw; (try dsimp only at hSw); go_split_ands; go_simp; (try with_reducible rfl)
      (try simp only [Act.put, pu1, pu2, pu3])
      refine tkI 1 15 (v := ?_) rfl rfl ?_ ?_
      rotate_left
      · intro w1 hSw; (try dsimp only at hSw); go_split_ands; go_simp; (try with_reducible rfl)
      (try simp only [Act.put, pu1, pu2, pu3])
      refine tkI 2 16 (v := ?_) rfl rfl ?_ ?_
      rotate_left
      · intro w1 hSw; (try dsimp only at hSw); go_split_ands; go_simp; (try with_reducible rfl)
      (try simp only [Act.put, pu1, pu2, pu3])
      refine tkI 3 17 (v := ?_) rfl rfl ?_ ?_
      rotate_left
      · intro w1 hSw; (try dsimp only at hSw); go_split_ands; go_simp; (try with_reducible rfl)
      (try simp only [Act.put, pu1, pu2, pu3])
      refine tkI 4 18 (v := ?_) rfl rfl ?_ ?_
      rotate_left
      · intro w1 hSw; (try dsimp only at hSw); go_split_ands; go_simp; (try with_reducible rfl)
      (try simp only [Act.put, pu1, pu2, pu3])
      refine wpAnyH_ready (rs := [5]) (by kernel_rfl) (by simp) ?_
      refine AllReadyH.cons rfl (fun K hK => ?_) AllReadyH.nil
      go_simp
      refine (l2EntOk f _).mono ?_
      rintro e w' ⟨rfl, hb5⟩
      rw [h1]
      refine hK.out _ _ (KS.out _ (Below.back hb5 hHeld)) (fun hHeld2 => ?_)
      clear hK K
      (try simp only [Act.put, pu1, pu2, pu3])
      refine tkI 6 20 (v := ?_) rfl rfl ?_ ?_
      rotate_left
      · intro w1 hSw; (try dsimp only at hSw); go_split_ands; go_simp; (try with_reducible rfl)
      (try simp only [Act.put, pu1, pu2, pu3])
      refine tkI 7 21 (v := ?_) rfl rfl ?_ ?_
      rotate_left
      · intro w1 hSw; (try dsimp only at hSw); go_split_ands; go_simp; (try with_reducible rfl)
      (try simp only [Act.put, pu1, pu2, pu3])
      refine tkI 8 22 (v := ?_) rfl rfl ?_ ?_
      rotate_left
      · intro w1 hSw; (try dsimp only at hSw); go_split_ands; go_simp; (try with_reducible rfl)
      (try simp only [Act.put, pu1, pu2, pu3])
      refine tkI 9 23 (v := ?_) rfl rfl ?_ ?_
      rotate_left
      · intro w1 hSw; (try dsimp only at hSw); go_split_ands; go_simp; (try with_reducible rfl)
      (try simp only [Act.put, pu1, pu2, pu3])
      refine tkI 10 24 (v := ?_) rfl rfl ?_ ?_
      rotate_left
      · intro w1 hSw; (try dsimp only at hSw); go_split_ands; go_simp; (try with_reducible rfl)
      (try simp only [Act.put, pu1, pu2, pu3])
      refine tkD 11 25 (v := undef) rfl rfl (Or.inr ⟨by rfl, rfl⟩) (by assumption) ?_
      (try simp only [Act.put, pu1, pu2, pu3])
      refine tkD 12 26 (v := undef) rfl rfl (Or.inr ⟨by rfl, rfl⟩) (by assumption) ?_
      (try simp only [Act.put, pu1, pu2, pu3])
      refine tkD 13 27 (v := undef) rfl rfl (Or.inr ⟨by rfl, rfl⟩) (by assumption) ?_
      (try simp only [Act.put, pu1, pu2, pu3])
      refine tkD 14 28 (v := undef) rfl rfl (Or.inr ⟨by rfl, rfl⟩) (by assumption) ?_
      (try simp only [Act.put, pu1, pu2, pu3])
      refine tkD 15 29 (v := undef) rfl rfl (Or.inr ⟨by rfl, rfl⟩) (by assumption) ?_
      (try simp only [Act.put, pu1, pu2, pu3])
      refine tkD 16 30 (v := undef) rfl rfl (Or.inr ⟨by rfl, rfl⟩) (by assumption) ?_
      (try simp only [Act.put, pu1, pu2, pu3])
      refine tkD 17 31 (v := undef) rfl rfl (Or.inr ⟨by rfl, rfl⟩) (by assumption) ?_
      (try simp only [Act.put, pu1, pu2, pu3])
      refine tkD 18 32 (v := undef) rfl rfl (Or.inr ⟨by rfl, rfl⟩) (by assumption) ?_
      (try simp only [Act.put, pu1, pu2, pu3])
      refine tkD 19 33 (v := undef) rfl rfl (Or.inr ⟨by rfl, rfl⟩) (by assumption) ?_
      (try simp only [Act.put, pu1, pu2, pu3])
      refine tkD 20 34 (v := undef) rfl rfl (Or.inr ⟨by rfl, rfl⟩) (by assumption) ?_
      (try simp only [Act.put, pu1, pu2, pu3])
      refine tkD 21 35 (v := undef) rfl rfl (Or.inr ⟨by rfl, rfl⟩) (by assumption) ?_
      (try simp only [Act.put, pu1, pu2, pu3])
      refine tkD 22 36 (v := undef) rfl rfl (Or.inr ⟨by rfl, rfl⟩) (by assumption) ?_
      (try simp only [Act.put, pu1, pu2, pu3])
      refine tkD 23 37 (v := undef) rfl rfl (Or.inr ⟨by rfl, rfl⟩) (by assumption) ?_
      (try simp only [Act.put, pu1, pu2, pu3])
      refine tkD 24 38 (v := undef) rfl rfl (Or.inr ⟨by rfl, rfl⟩) (by assumption) ?_
      (try simp only [Act.put, pu1, pu2, pu3])
      refine tkI 25 39 (v := ?_) rfl rfl ?_ ?_
      rotate_left
      · intro w1 hSw; (try dsimp only at hSw); go_split_ands; go_simp; (try with_reducible rfl)
      (try simp only [Act.put, pu1, pu2, pu3])
      refine tkI 26 40 (v := ?_) rfl rfl ?_ ?_
      rotate_left
      · intro w1 hSw; (try dsimp only at hSw); go_split_ands; go_simp; (try with_reducible rfl)
      (try simp only [Act.put, pu1, pu2, pu3])
      refine wpAnyH_done (by kernel_rfl) ?_ _
      have g1 := hHeld2.1
      obtain ⟨r0, r1, r2⟩ := (Three.below K0.out (Below.and hb.out g1) (by simp)).cells
      have c4 := cell_kept g1 a4
      clear hHeld hHeld2
      go_wp2
      go_roundw
      case rel => exact ⟨k + 1, f.c, s + f.g, by omega, by go_num, rfl, by omega, by omega, by omega, by rw [Hid, HG.out, ← hse.out], hee.out.trans HN.out, fun h => by omega, HP.out, Below.and hb.out g1⟩
      case measure => simp [intOf]; omega
    · have hpv := hkp.out (by omega) hkz
      obtain ⟨gg, hgg, b0, _⟩ := RdF.below HE.out hb.out (k - 1) (by omega)
      cases hgg
      rw [← hpv] at b0
      clear hpv
      have hd : decide (0 < k) = true := by simp; omega
      have j0 : (0 : Int) ≤ (k : Int) - 1 := by omega
      have j2 : (1 : Int) ≤ (k : Int) := by omega
      have j1 : (k : Int) - 1 < (E.length : Int) := by omega
      clear KS
      have KS := Lib.hid (show ∀ w1, Below wr.heap.size wr w1 → (fun w1 => Below wr.heap.size wr w1 ∧ w1.cell? ⟨w.heap.size, 0, none⟩ = some (.slice (some ⟨g, 0, none⟩) E.length a) ∧ w1.cell? ⟨g, k * 5, none⟩ = some (.int .i64 f.c) ∧ w1.cell? ⟨g, k * 5 + 1, none⟩ = some (.int .i64 f.x) ∧ w1.cell? ⟨g, k * 5 + 2, none⟩ = some (.int .i64 f.y) ∧ w1.cell? ⟨g, k * 5 + 3, none⟩ = some (.int .i64 f.l) ∧ w1.cell? ⟨g, k * 5 + 4, none⟩ = some (.int .i64 f.g) ∧ w1.cell? ⟨g, (k - 1) * 5, none⟩ = some (.int .i64 p)) w1 from fun w1 h => ⟨h, cell_kept h q0, cell_kept h a0, cell_kept h a1, cell_kept h a2, cell_kept h a3, cell_kept h a4, cell_kept h b0⟩)
      by_cases hle : f.c ≤ p
      ·
       have hw : IntKind.i64.wrap ((k : Int) - 1) = (k : Int) - 1 := IntWalk.i64_in _ (by omega)
       have ht : ((k : Int) - 1).toNat = k - 1 := by omega
       go_wp2_with (fail)
       refine wp_region_held_drew (S := fun w1 => Below wr.heap.size wr w1 ∧ w1.cell? ⟨w.heap.size, 0, none⟩ = some (.slice (some ⟨g, 0, none⟩) E.length a) ∧ w1.cell? ⟨g, k * 5, none⟩ = some (.int .i64 f.c) ∧ w1.cell? ⟨g, k * 5 + 1, none⟩ = some (.int .i64 f.x) ∧ w1.cell? ⟨g, k * 5 + 2, none⟩ = some (.int .i64 f.y) ∧ w1.cell? ⟨g, k * 5 + 3, none⟩ = some (.int .i64 f.l) ∧ w1.cell? ⟨g, k * 5 + 4, none⟩ = some (.int .i64 f.g) ∧ w1.cell? ⟨g, (k - 1) * 5, none⟩ = some (.int .i64 p)) (by kernel_rfl) (KS.out _ (Below.refl _ _).drew) (fun hHeld => ?_)
       refine tkI 0 14 (v := ?_) rfl rfl ?_ ?_
       rotate_left
       · intro w1 hSw; (try dsimp only at hSw); go_split_ands; go_simp; (try with_reducible rfl)
       (try simp only [Act.put, pu1, pu2, pu3])
       refine tkI 1 15 (v := ?_) rfl rfl ?_ ?_
       rotate_left
       · intro w1 hSw; (try dsimp only at hSw); go_split_ands; go_simp; (try with_reducible rfl)
       (try simp only [Act.put, pu1, pu2, pu3])
       refine tkI 2 16 (v := ?_) rfl rfl ?_ ?_
       rotate_left
       · intro w1 hSw; (try dsimp only at hSw); go_split_ands; go_simp; (try with_reducible rfl)
       (try simp only [Act.put, pu1, pu2, pu3])
       refine tkI 3 17 (v := ?_) rfl rfl ?_ ?_
       rotate_left
       · intro w1 hSw; (try dsimp only at hSw); go_split_ands; go_simp; (try with_reducible rfl)
       (try simp only [Act.put, pu1, pu2, pu3])
       refine tkI 4 18 (v := ?_) rfl rfl ?_ ?_
       rotate_left
       · intro w1 hSw; (try dsimp only at hSw); go_split_ands; go_simp; (try with_reducible rfl)
       (try simp only [Act.put, pu1, pu2, pu3])
       refine wpAnyH_ready (rs := [5]) (by kernel_rfl) (by simp) ?_
       refine AllReadyH.cons rfl (fun K hK => ?_) AllReadyH.nil
       go_simp
       refine (l2EntOk f _).mono ?_
       rintro e w' ⟨rfl, hb5⟩
       rw [h1]
       refine hK.out _ _ (KS.out _ (Below.back hb5 hHeld)) (fun hHeld2 => ?_)
       clear hK K
       (try simp only [Act.put, pu1, pu2, pu3])
       refine tkI 6 20 (v := ?_) rfl rfl ?_ ?_
       rotate_left
       · intro w1 hSw; (try dsimp only at hSw); go_split_ands; go_simp; (try with_reducible rfl)
       (try simp only [Act.put, pu1, pu2, pu3])
       refine tkI 7 21 (v := ?_) rfl rfl ?_ ?_
       rotate_left
       · intro w1 hSw; (try dsimp only at hSw); go_split_ands; go_simp; (try with_reducible rfl)
       (try simp only [Act.put, pu1, pu2, pu3])
       refine tkI 8 22 (v := ?_) rfl rfl ?_ ?_
       rotate_left
       · intro w1 hSw; (try dsimp only at hSw); go_split_ands; go_simp; (try with_reducible rfl)
       (try simp only [Act.put, pu1, pu2, pu3])
       refine tkI 9 23 (v := ?_) rfl rfl ?_ ?_
       rotate_left
       · intro w1 hSw; (try dsimp only at hSw); go_split_ands; go_simp; (try with_reducible rfl)
       (try simp only [Act.put, pu1, pu2, pu3])
       refine tkI 10 24 (v := ?_) rfl rfl ?_ ?_
       rotate_left
       · intro w1 hSw; (try dsimp only at hSw); go_split_ands; go_simp; (try with_reducible rfl)
       (try simp only [Act.put, pu1, pu2, pu3])
       refine tkI 11 25 (v := ?_) rfl rfl ?_ ?_
       rotate_left
       · intro w1 hSw; (try dsimp only at hSw); go_split_ands; go_simp; (try with_reducible rfl)
       (try simp only [Act.put, pu1, pu2, pu3])
       refine tkI 12 26 (v := ?_) rfl rfl ?_ ?_
       rotate_left
       · intro w1 hSw; (try dsimp only at hSw); go_split_ands; go_simp; (try with_reducible rfl)
       (try simp only [Act.put, pu1, pu2, pu3])
       refine tkI 13 27 (v := ?_) rfl rfl ?_ ?_
       rotate_left
       · intro w1 hSw; (try dsimp only at hSw); go_split_ands; go_simp; (try with_reducible rfl)
       (try simp only [Act.put, pu1, pu2, pu3])
       refine tkI 14 28 (v := ?_) rfl rfl ?_ ?_
       rotate_left
       · intro w1 hSw; (try dsimp only at hSw); go_split_ands; go_simp; (try with_reducible rfl)
       (try simp only [Act.put, pu1, pu2, pu3])
       refine tkI 15 29 (v := ?_) rfl rfl ?_ ?_
       rotate_left
       · intro w1 hSw; (try dsimp only at hSw); go_split_ands; go_simp; (try with_reducible rfl)
       (try simp only [Act.put, pu1, pu2, pu3])
       refine tkI 16 30 (v := ?_) rfl rfl ?_ ?_
       rotate_left
       · intro w1 hSw; (try dsimp only at hSw); go_split_ands; go_simp; (try with_reducible rfl)
       (try simp only [Act.put, pu1, pu2, pu3])
       refine tkI 17 31 (v := ?_) rfl rfl ?_ ?_
       rotate_left
       · intro w1 hSw; (try dsimp only at hSw); go_split_ands; go_simp; (try with_reducible rfl)
       (try simp only [Act.put, pu1, pu2, pu3])
       refine tkI 18 32 (v := ?_) rfl rfl ?_ ?_
       rotate_left
       · intro w1 hSw; (try dsimp only at hSw); go_split_ands; go_simp; (try with_reducible rfl)
       (try simp only [Act.put, pu1, pu2, pu3])
       refine tkI 19 33 (v := ?_) rfl rfl ?_ ?_
       rotate_left
       · intro w1 hSw; (try dsimp only at hSw); go_split_ands; go_simp; (try with_reducible rfl)
       (try simp only [Act.put, pu1, pu2, pu3])
       refine tkI 20 34 (v := ?_) rfl rfl ?_ ?_
       rotate_left
       · intro w1 hSw; (try dsimp only at hSw); go_split_ands; go_simp; (try with_reducible rfl)
       (try simp only [Act.put, pu1, pu2, pu3])
       refine tkI 21 35 (v := ?_) rfl rfl ?_ ?_
       rotate_left
       · intro w1 hSw; (try dsimp only at hSw); go_split_ands; go_simp; (try with_reducible rfl)
       (try simp only [Act.put, pu1, pu2, pu3])
       refine tkI 22 36 (v := ?_) rfl rfl ?_ ?_
       rotate_left
       · intro w1 hSw; (try dsimp only at hSw); go_split_ands; go_simp; (try with_reducible rfl)
       (try simp only [Act.put, pu1, pu2, pu3])
       refine tkI 23 37 (v := ?_) rfl rfl ?_ ?_
       rotate_left
       · intro w1 hSw; (try dsimp only at hSw); go_split_ands; go_simp; (try with_reducible rfl)
       (try simp only [Act.put, pu1, pu2, pu3])
       refine tkI 24 38 (v := ?_) rfl rfl ?_ ?_
       rotate_left
       · intro w1 hSw; (try dsimp only at hSw); go_split_ands; go_simp; (try with_reducible rfl)
       (try simp only [Act.put, pu1, pu2, pu3])
       refine tkI 25 39 (v := ?_) rfl rfl ?_ ?_
       rotate_left
       · intro w1 hSw; (try dsimp only at hSw); go_split_ands; go_simp; (try with_reducible rfl)
       (try simp only [Act.put, pu1, pu2, pu3])
       refine tkI 26 40 (v := ?_) rfl rfl ?_ ?_
       rotate_left
       · intro w1 hSw; (try dsimp only at hSw); go_split_ands; go_simp; (try with_reducible rfl)
       (try simp only [Act.put, pu1, pu2, pu3])
       refine wpAnyH_done (by kernel_rfl) ?_ _
       have g1 := hHeld2.1
       clear hw ht
       clear hHeld hHeld2
       go_wp2
       go_light
       go_ret
       exact ⟨ret_bool (by rw [gokB, hee.out, HD.out, entsB, decide_eq_false (show ¬ p < f.c by omega)]; simp), below_box (Below.and hb.out g1)⟩
      · have HN := Lib.hid (show entsB p (E.drop k) = entsB f.c (E.drop (k + 1)) by rw [HD.out, entsB, h1, decide_eq_true (show p < f.c by omega)]; rfl)
        have hw : IntKind.i64.wrap ((k : Int) - 1) = (k : Int) - 1 := IntWalk.i64_in _ (by omega)
        have ht : ((k : Int) - 1).toNat = k - 1 := by omega
        go_wp2_with (fail)
        refine wp_region_held_drew (S := fun w1 => Below wr.heap.size wr w1 ∧ w1.cell? ⟨w.heap.size, 0, none⟩ = some (.slice (some ⟨g, 0, none⟩) E.length a) ∧ w1.cell? ⟨g, k * 5, none⟩ = some (.int .i64 f.c) ∧ w1.cell? ⟨g, k * 5 + 1, none⟩ = some (.int .i64 f.x) ∧ w1.cell? ⟨g, k * 5 + 2, none⟩ = some (.int .i64 f.y) ∧ w1.cell? ⟨g, k * 5 + 3, none⟩ = some (.int .i64 f.l) ∧ w1.cell? ⟨g, k * 5 + 4, none⟩ = some (.int .i64 f.g) ∧ w1.cell? ⟨g, (k - 1) * 5, none⟩ = some (.int .i64 p)) (by kernel_rfl) (KS.out _ (Below.refl _ _).drew) (fun hHeld => ?_)
        refine tkI 0 14 (v := ?_) rfl rfl ?_ ?_
        rotate_left
        · intro w1 hSw; (try dsimp only at hSw); go_split_ands; go_simp; (try with_reducible rfl)
        (try simp only [Act.put, pu1, pu2, pu3])
        refine tkI 1 15 (v := ?_) rfl rfl ?_ ?_
        rotate_left
        · intro w1 hSw; (try dsimp only at hSw); go_split_ands; go_simp; (try with_reducible rfl)
        (try simp only [Act.put, pu1, pu2, pu3])
        refine tkI 2 16 (v := ?_) rfl rfl ?_ ?_
        rotate_left
        · intro w1 hSw; (try dsimp only at hSw); go_split_ands; go_simp; (try with_reducible rfl)
        (try simp only [Act.put, pu1, pu2, pu3])
        refine tkI 3 17 (v := ?_) rfl rfl ?_ ?_
        rotate_left
        · intro w1 hSw; (try dsimp only at hSw); go_split_ands; go_simp; (try with_reducible rfl)
        (try simp only [Act.put, pu1, pu2, pu3])
        refine tkI 4 18 (v := ?_) rfl rfl ?_ ?_
        rotate_left
        · intro w1 hSw; (try dsimp only at hSw); go_split_ands; go_simp; (try with_reducible rfl)
        (try simp only [Act.put, pu1, pu2, pu3])
        refine wpAnyH_ready (rs := [5]) (by kernel_rfl) (by simp) ?_
        refine AllReadyH.cons rfl (fun K hK => ?_) AllReadyH.nil
        go_simp
        refine (l2EntOk f _).mono ?_
        rintro e w' ⟨rfl, hb5⟩
        rw [h1]
        refine hK.out _ _ (KS.out _ (Below.back hb5 hHeld)) (fun hHeld2 => ?_)
        clear hK K
        (try simp only [Act.put, pu1, pu2, pu3])
        refine tkI 6 20 (v := ?_) rfl rfl ?_ ?_
        rotate_left
        · intro w1 hSw; (try dsimp only at hSw); go_split_ands; go_simp; (try with_reducible rfl)
        (try simp only [Act.put, pu1, pu2, pu3])
        refine tkI 7 21 (v := ?_) rfl rfl ?_ ?_
        rotate_left
        · intro w1 hSw; (try dsimp only at hSw); go_split_ands; go_simp; (try with_reducible rfl)
        (try simp only [Act.put, pu1, pu2, pu3])
        refine tkI 8 22 (v := ?_) rfl rfl ?_ ?_
        rotate_left
        · intro w1 hSw; (try dsimp only at hSw); go_split_ands; go_simp; (try with_reducible rfl)
        (try simp only [Act.put, pu1, pu2, pu3])
        refine tkI 9 23 (v := ?_) rfl rfl ?_ ?_
        rotate_left
        · intro w1 hSw; (try dsimp only at hSw); go_split_ands; go_simp; (try with_reducible rfl)
        (try simp only [Act.put, pu1, pu2, pu3])
        refine tkI 10 24 (v := ?_) rfl rfl ?_ ?_
        rotate_left
        · intro w1 hSw; (try dsimp only at hSw); go_split_ands; go_simp; (try with_reducible rfl)
        (try simp only [Act.put, pu1, pu2, pu3])
        refine tkI 11 25 (v := ?_) rfl rfl ?_ ?_
        rotate_left
        · intro w1 hSw; (try dsimp only at hSw); go_split_ands; go_simp; (try with_reducible rfl)
        (try simp only [Act.put, pu1, pu2, pu3])
        refine tkI 12 26 (v := ?_) rfl rfl ?_ ?_
        rotate_left
        · intro w1 hSw; (try dsimp only at hSw); go_split_ands; go_simp; (try with_reducible rfl)
        (try simp only [Act.put, pu1, pu2, pu3])
        refine tkI 13 27 (v := ?_) rfl rfl ?_ ?_
        rotate_left
        · intro w1 hSw; (try dsimp only at hSw); go_split_ands; go_simp; (try with_reducible rfl)
        (try simp only [Act.put, pu1, pu2, pu3])
        refine tkI 14 28 (v := ?_) rfl rfl ?_ ?_
        rotate_left
        · intro w1 hSw; (try dsimp only at hSw); go_split_ands; go_simp; (try with_reducible rfl)
        (try simp only [Act.put, pu1, pu2, pu3])
        refine tkI 15 29 (v := ?_) rfl rfl ?_ ?_
        rotate_left
        · intro w1 hSw; (try dsimp only at hSw); go_split_ands; go_simp; (try with_reducible rfl)
        (try simp only [Act.put, pu1, pu2, pu3])
        refine tkI 16 30 (v := ?_) rfl rfl ?_ ?_
        rotate_left
        · intro w1 hSw; (try dsimp only at hSw); go_split_ands; go_simp; (try with_reducible rfl)
        (try simp only [Act.put, pu1, pu2, pu3])
        refine tkI 17 31 (v := ?_) rfl rfl ?_ ?_
        rotate_left
        · intro w1 hSw; (try dsimp only at hSw); go_split_ands; go_simp; (try with_reducible rfl)
        (try simp only [Act.put, pu1, pu2, pu3])
        refine tkI 18 32 (v := ?_) rfl rfl ?_ ?_
        rotate_left
        · intro w1 hSw; (try dsimp only at hSw); go_split_ands; go_simp; (try with_reducible rfl)
        (try simp only [Act.put, pu1, pu2, pu3])
        refine tkI 19 33 (v := ?_) rfl rfl ?_ ?_
        rotate_left
        · intro w1 hSw; (try dsimp only at hSw); go_split_ands; go_simp; (try with_reducible rfl)
        (try simp only [Act.put, pu1, pu2, pu3])
        refine tkI 20 34 (v := ?_) rfl rfl ?_ ?_
        rotate_left
        · intro w1 hSw; (try dsimp only at hSw); go_split_ands; go_simp; (try with_reducible rfl)
        (try simp only [Act.put, pu1, pu2, pu3])
        refine tkI 21 35 (v := ?_) rfl rfl ?_ ?_
        rotate_left
        · intro w1 hSw; (try dsimp only at hSw); go_split_ands; go_simp; (try with_reducible rfl)
        (try simp only [Act.put, pu1, pu2, pu3])
        refine tkI 22 36 (v := ?_) rfl rfl ?_ ?_
        rotate_left
        · intro w1 hSw; (try dsimp only at hSw); go_split_ands; go_simp; (try with_reducible rfl)
        (try simp only [Act.put, pu1, pu2, pu3])
        refine tkI 23 37 (v := ?_) rfl rfl ?_ ?_
        rotate_left
        · intro w1 hSw; (try dsimp only at hSw); go_split_ands; go_simp; (try with_reducible rfl)
        (try simp only [Act.put, pu1, pu2, pu3])
        refine tkI 24 38 (v := ?_) rfl rfl ?_ ?_
        rotate_left
        · intro w1 hSw; (try dsimp only at hSw); go_split_ands; go_simp; (try with_reducible rfl)
        (try simp only [Act.put, pu1, pu2, pu3])
        refine tkI 25 39 (v := ?_) rfl rfl ?_ ?_
        rotate_left
        · intro w1 hSw; (try dsimp only at hSw); go_split_ands; go_simp; (try with_reducible rfl)
        (try simp only [Act.put, pu1, pu2, pu3])
        refine tkI 26 40 (v := ?_) rfl rfl ?_ ?_
        rotate_left
        · intro w1 hSw; (try dsimp only at hSw); go_split_ands; go_simp; (try with_reducible rfl)
        (try simp only [Act.put, pu1, pu2, pu3])
        refine wpAnyH_done (by kernel_rfl) ?_ _
        have g1 := hHeld2.1
        clear hw ht
        obtain ⟨r0, r1, r2⟩ := (Three.below K0.out (Below.and hb.out g1) (by simp)).cells
        have c4 := cell_kept g1 a4
        clear hHeld hHeld2
        go_wp2
        go_roundw
        case rel => exact ⟨k + 1, f.c, s + f.g, by omega, by go_num, rfl, by omega, by omega, by omega, by rw [Hid, HG.out, ← hse.out], hee.out.trans HN.out, fun h => by omega, HP.out, Below.and hb.out g1⟩
        case measure => simp [intOf]; omega
  · have hz : k = E.length := by omega
    have HEt := Lib.hid (show entsB 0 E = true by rw [hee.out, hz, List.drop_length]; rfl)
    have HGs := Lib.hid (show s = goldE E by have := hse.out; rw [hz, List.take_length] at this; exact this)
    have HF2 := Lib.hid (RdI.below HF.out hb.out)
    have HL2 := Lib.hid (RdJ.below HL.out hb.out)
    clear hz
    go_wp2
    go_loop [3, 5] (fun sv i => ∃ (j : Nat) (t : Int), j ≤ F.length ∧ i = .int .i64 j ∧ sv = .int .i64 t ∧ 0 ≤ t ∧ t ≤ 20 * k + 20 * j ∧ Hid (t = s + (F.take j).sum) ∧ Hid (allB F 20 = allB (F.drop j) 20)) (fun _ i => F.length - (intOf i).toNat)
    case atStart => exact ⟨0, s, Nat.zero_le _, rfl, rfl, by omega, by omega, by simp [Hid], by simp [Hid]⟩
    case round =>
     obtain ⟨j, t, hj, rfl, rfl, ht0, ht1, hte, hae⟩ := hrel
     by_cases hlt2 : j < F.length
     · obtain ⟨g, rfl, a0⟩ := HF2.out j hlt2
       have HD := Lib.hid (List.drop_eq_getElem_cons hlt2)
       have HS := Lib.hid (sum_step F j hlt2)
       generalize F[j] = v at a0 HD HS
       have i0 : (0 : Int) ≤ (j : Int) := by omega
       have i1 : (j : Int) < (F.length : Int) := by omega
       rcases h2 : inB v 0 20 with _ | _
       · go_wp2_with (go_at_call 45; refine (specIn _ _ _ _).mono ?_; rintro e w' ⟨rfl, rfl⟩; rw [h2])
         go_light
         go_ret
         exact ⟨ret_bool (by rw [gokB, hae.out, HD.out, allB, List.all_cons, h2]; simp), below_box hb.out⟩
       · have hv : 0 ≤ v ∧ v ≤ 20 := by simpa [inB] using h2
         obtain ⟨hv0, hv1⟩ := hv
         have HN := Lib.hid (show allB (F.drop j) 20 = allB (F.drop (j + 1)) 20 by rw [HD.out, allB, List.all_cons, h2, Bool.true_and]; rfl)
         go_wp2_with (go_at_call 45; refine (specIn _ _ _ _).mono ?_; rintro e w' ⟨rfl, rfl⟩; rw [h2])
         go_round
         case rel => exact ⟨j + 1, t + v, by omega, by go_num, rfl, by omega, by omega, by rw [Hid, HS.out, hte.out]; omega, hae.out.trans HN.out⟩
         case measure => simp [intOf]; omega
     · have hz : j = F.length := by omega
       have HAF := Lib.hid (show allB F 20 = true by rw [hae.out, hz, List.drop_length]; rfl)
       have HTS := Lib.hid (show t = s + F.sum by have := hte.out; rw [hz, List.take_length] at this; exact this)
       clear hz
       go_wp2
       go_loop [6] (fun i => ∃ (m : Nat), m ≤ L.length ∧ i = .int .i64 m ∧ Hid (allB L 30 = allB (L.drop m) 30)) (fun i => L.length - (intOf i).toNat)
       case atStart => exact ⟨0, Nat.zero_le _, rfl, by simp [Hid]⟩
       case round =>
        obtain ⟨m, hm, rfl, hle⟩ := hrel
        by_cases hlt3 : m < L.length
        · obtain ⟨g, o, rfl, a0⟩ := HL2.out m hlt3
          have HD := Lib.hid (List.drop_eq_getElem_cons hlt3)
          generalize L[m] = v at a0 HD
          have i0 : (0 : Int) ≤ (m : Int) := by omega
          have i1 : (m : Int) < (L.length : Int) := by omega
          rcases h2 : inB v 0 30 with _ | _
          · go_wp2_with (go_at_call 45; refine (specIn _ _ _ _).mono ?_; rintro e w' ⟨rfl, rfl⟩; rw [h2])
            go_light
            go_ret
            exact ⟨ret_bool (by rw [gokB, hle.out, HD.out]; simp [allB, h2]), below_box hb.out⟩
          · have HN := Lib.hid (show allB (L.drop m) 30 = allB (L.drop (m + 1)) 30 by rw [HD.out, allB, List.all_cons, h2, Bool.true_and]; rfl)
            go_wp2_with (go_at_call 45; refine (specIn _ _ _ _).mono ?_; rintro e w' ⟨rfl, rfl⟩; rw [h2])
            go_round
            case rel => exact ⟨m + 1, by omega, by go_num, hle.out.trans HN.out⟩
            case measure => simp [intOf]; omega
        · have hz : m = L.length := by omega
          have HAL := Lib.hid (show allB L 30 = true by rw [hle.out, hz, List.drop_length]; rfl)
          have HV := Lib.hid (show gokB E F L = (((F.length : Int) == 16) && (((L.length : Int) == 4) && (t == 20))) by
           rw [gokB, HEt.out, HAF.out, HAL.out, HTS.out, HGs.out, Int.add_comm]
           rw [Bool.eq_iff_iff]
           simp
           omega)
          clear hz
          rcases e1 : ((F.length : Int) == 16) with _ | _
          all_goals rcases e2 : ((L.length : Int) == 4) with _ | _
          all_goals go_wp2
          all_goals go_light
          all_goals go_ret
          all_goals exact ⟨ret_bool (by rw [HV.out, e1, e2]; rfl), below_box hb.out⟩

theorem l2Ok (A : Option Addr) (a : Nat) (B : Option Addr) (b : Nat) (C : Option Addr) (c : Nat) (E : List Fig) (F L : List Int) (w : World) (hE : E.length ≤ 1048576) (hF : F.length ≤ 1048576) (hL : L.length ≤ 1048576)
 (rE : RdF w A E) (rF : RdI w B F) (rL : RdI w C L) :
 Calls Try.prog 22 #[gameV A E.length a B F.length b C L.length c] w fun e w' => e = .returned (.bool (gokB E F L)) ∧ Below w.heap.size w w' :=
 l2OkJ A a B b C c E F L w hE hF hL rE rF rL.j

set_option maxRecDepth 100000 in
theorem specGameOkJ (A : Option Addr) (a : Nat) (B : Option Addr) (b : Nat) (C : Option Addr) (c : Nat) (E : List Fig) (F L : List Int) (w : World) (hE : E.length ≤ 1048576) (hF : F.length ≤ 1048576) (hL : L.length ≤ 1048576)
 (rE : RdF w A E) (rF : RdI w B F) (rL : RdJ w C L) :
 Calls Try.prog 9 #[gameV A E.length a B F.length b C L.length c] w fun e w' => e = .returned (.bool (gokB E F L)) ∧ Below w.heap.size w w' := by
 have z0 : Below w.heap.size w (w.alloc (.cells #[.slice A E.length a, .slice B F.length b, .slice C L.length c] 30)) := (Below.refl _ _).alloc (Nat.le_refl _) _
 have H1 := Lib.hid (RdF.below rE z0)
 have H2 := Lib.hid (RdI.below rF z0)
 have H3 := Lib.hid (RdJ.below rL z0)
 clear rE rF rL
 go_enter Try.func9, Try.ntmps9
 go_wp2_with (fail)
 refine (l2OkJ A a B b C c E F L _ hE hF hL H1.out H2.out H3.out).mono ?_
 rintro e w1 ⟨rfl, hb⟩
 go_wp2
 go_light
 go_ret
 exact ⟨rfl, Below.and z0 hb⟩
end Go.Proofs.Ytkganikclbeplaa

/- The exact law of a new game, walked. -/
namespace Go.Proofs.Ytkganikclbeplaa
open Go.ChangeShapes Go.WideShapes Go.ChangeAt Go.RowKit
set_option linter.unusedVariables false

/-- A game's cells hold marks, in order, from 1 on. -/
structure Marked (w : World) (A B C : Option Addr) (n m l : Nat) : Prop where
 ents : RdM w A (n * 5) 1
 floor : RdM w B m (1 + 5 * (n : Int))
 last : RdM w C l (1 + 5 * (n : Int) + (m : Int))

theorem Marked.below {w w' : World} {A B C : Option Addr} {n m l : Nat} (h : Marked w A B C n m l) (hb : Below w.heap.size w w') : Marked w' A B C n m l := ⟨h.ents.below hb, h.floor.below hb, h.last.below hb⟩

end Go.Proofs.Ytkganikclbeplaa
