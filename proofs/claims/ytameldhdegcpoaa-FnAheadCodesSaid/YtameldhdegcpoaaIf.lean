import Derived.Test.YtameldhdegcpoaaIe
import Derived.RangeFuncNested
import Derived.RangeFuncBound
import Derived.RangeFuncCalls
import Derived.RangeFuncLeaves
import Derived.Shelf.Abstract
import Derived.Shelf.RegionOpen
import Derived.WalkKit
import Derived.OwnWalkIn
import Derived.TacticsInMore
import Derived.LoopNIn
import Derived.LoopIn
namespace Go.Proofs.Ytameldhdegcpoaa
open Go.ChangeShapes Go.WideShapes Go.ChangeAt Go.RowKit
set_option linter.unusedVariables false
set_option linter.unusedSimpArgs false
open Go.Shelf
attribute [local go_sem] Oper.semAt_some
def KpC (pf : Nat) (W W' : World) : Prop := ∀ (k : Nat) (xs : Array Value) (t : TypeId), W.heap[k]? = some (.cells xs t) → k ≠ pf → W'.heap[k]? = some (.cells xs t)
theorem KpC.refl (pf : Nat) (W : World) : KpC pf W W := fun _ _ _ h _ => h
theorem KpC.trans {pf : Nat} {a b c : World} (h : KpC pf a b) (k : KpC pf b c) : KpC pf a c := fun i xs t h1 h2 => k i xs t (h i xs t h1 h2) h2
theorem KpC.grown {pf : Nat} {a b : World} (h : a.grownBy b (some pf)) : KpC pf a b := fun i xs t h1 h2 => (h.block i (heap_ltI h1) (fun e => h2 (by injection e))).trans h1
theorem KpC.put {pf : Nat} (W : World) (l : Nat) (o o' : Obj) (hl : W.heap[l]? = some o) (ho : o.isCells = false) : KpC pf W (W.putObj l o') := fun i xs t h1 h2 => by
 have hne : i ≠ l := fun e => by
  subst e
  rw [h1] at hl
  injection hl with hl
  rw [← hl] at ho
  cases ho
 exact (World.putObj_heap_other hne).trans h1
def downs (n : Nat) : Nat → List (Fin n)
 | 0 => []
 | k + 1 => downs n k ++ (if h : n - 1 - k < n then [⟨n - 1 - k, h⟩] else [])
theorem downs_succ {n k : Nat} (i : Nat) (hi : i < n) (hk : k = n - (i + 1)) : downs n (n - i) = downs n k ++ [⟨i, hi⟩] := by
 have e : n - i = k + 1 := by omega
 rw [e]
 show downs n k ++ _ = _
 rw [dif_pos (show n - 1 - k < n by omega)]
 have e2 : n - 1 - k = i := by omega
 simp only [e2]
theorem downs_len {n : Nat} : ∀ k, k ≤ n → (downs n k).length = k
 | 0, _ => rfl
 | k + 1, h => by
  show (downs n k ++ _).length = _
  rw [dif_pos (show n - 1 - k < n by omega), List.length_append, downs_len k (by omega)]
  rfl
theorem rowFn {w W : World} {lo : Nat} {V : Option Addr} {v : Nat} {us : List Value} (h : w.ownsRow lo 1 1 (.slice V us.length v) us.length us) (hW : ∀ (k : Nat) (xs : Array Value), w.heap[k]? = some (.cells xs 1) → W.heap[k]? = some (.cells xs 1)) (i : Nat) (hi : i < us.length) : ∃ g, V = some ⟨g, 0, none⟩ ∧ W.cell? ⟨g, i, none⟩ = some us[i] ∧ us.length ≤ v := by
 rcases h.2 with ⟨_, h2⟩ | ⟨g, cap, cur, h1, h2, h3, h4, h5, h6, h7⟩
 · omega
 · injection h1 with e1 e2 e3
   subst e1 e3
   refine ⟨g, rfl, ?_, h4⟩
   rw [cell_of_row W g i _ 1 (0, 0) (hW g cur h3)]
   have hc : i < cur.size := by omega
   rw [Array.getElem?_eq_getElem hc]
   congr 1
   have e := congrArg (fun l : List Value => l[i]?) h7
   simp only [Nat.mul_one] at e
   rw [List.getElem?_take_of_lt hi, List.getElem?_eq_getElem (by simpa using hc), List.getElem?_eq_getElem hi] at e
   simpa using e
theorem backIn (n : Nat) (V : Option Addr) (m v : Nat) (w : World) :
 CallsIn Fence.wide n Try.prog 85 #[.slice V m v] w fun e w' => e = .returned (.func (.func 105) #[] #[.pointer (some ⟨w.heap.size, 0, none⟩)]) ∧ w' = w.alloc (.cells #[.slice V m v] 60) := by
 refine callsIn_of_wp Try.func85 rfl trivial ?_ rfl
 simp only [Try.ntmps85, List.size_toArray, List.length_cons, List.length_nil, Nat.reduceAdd, Nat.reduceSub, Array.replicate_succ, Array.replicate_zero, List.push_toArray, List.append_toArray, List.nil_append, List.cons_append]
 gi_wp2
 go_ret
 exact ⟨rfl, rfl⟩
set_option maxRecDepth 100000 in
set_option maxHeartbeats 2000000 in
theorem backStops (n : Nat) (hn : 1 ≤ n) (pf Bs lo : Nat) (V : Option Addr) (v : Nat) (us : List Value) (w : World) (hlen : us.length ≤ 1000) (hB : Bkk w Bs 60 #[.slice V us.length v]) (hu : w.ownsRow lo 1 1 (.slice V us.length v) us.length us) (hp : ∃ xs, w.heap[pf]? = some (.cells xs 62)) :
 SeqStopsK Fence.wide n Try.prog 105 #[.pointer (some ⟨Bs, 0, none⟩)] (fun x : Fin us.length => #[Value.int .i64 (x.1 : Int), us[x.1]]) (KpC pf) (fun xs => xs = downs us.length us.length) (fun _ => True) us.length w := fun l J Jx W hW hJ hJx hY h0 => by
 have HL := Lib.hid hlen
 have np : ∀ (k : Nat) (xs : Array Value) (t : TypeId), w.heap[k]? = some (.cells xs t) → t ≠ 62 → k ≠ pf := fun k xs t h1 h2 e => by
  subst e
  obtain ⟨ys, hy⟩ := hp
  rw [h1] at hy
  simp only [Option.some.injEq, Obj.cells.injEq] at hy
  exact h2 hy.2.1
 have BW : ∀ wr, KpC pf W wr → wr.cell? ⟨Bs, 0, none⟩ = some (.slice V us.length v) := fun wr hk => by
  have h1 := hk _ _ _ ((hW.block Bs (heap_ltI hB)).trans hB) (np _ _ _ hB (by decide))
  exact cell_of_row wr Bs 0 _ 60 (0, 0) h1
 have RW : ∀ wr, KpC pf W wr → ∀ i (hi : i < us.length), ∃ g, V = some ⟨g, 0, none⟩ ∧ wr.cell? ⟨g, i, none⟩ = some us[i] ∧ us.length ≤ v := fun wr hk i hi =>
  rowFn hu (fun k xs hx => hk _ _ _ ((hW.block k (heap_ltI hx)).trans hx) (np _ _ _ hx (by decide))) i hi
 have BW := Lib.hid BW
 have RW := Lib.hid RW
 clear np hB hu hp hW
 refine callsIn_of_wp Try.func105 rfl trivial ?_ rfl
 simp only [Try.ntmps105, List.size_toArray, List.length_cons, List.length_nil, Nat.reduceAdd, Nat.reduceSub, Array.replicate_succ, Array.replicate_zero, List.push_toArray, List.append_toArray, List.nil_append, List.cons_append]
 have c0 := BW.out W (KpC.refl pf W)
 have ew : IntKind.i64.wrap ((us.length : Int) - 1) = (us.length : Int) - 1 := IntWalk.i64_in _ (by omega)
 clear hlen
 gi_wp2
 gi_loopw [3] (fun p wr => ∃ j : Nat, j ≤ us.length ∧ p = .int .i64 ((j : Int) - 1) ∧ J (downs us.length (us.length - j)) wr ∧ KpC pf W wr)
  (fun p _ => (intOf p + 1).toNat)
 case atStart => exact ⟨us.length, Nat.le_refl _, rfl, by rw [Nat.sub_self]; exact h0, KpC.refl _ _⟩
 case round =>
  clear c0 ew
  obtain ⟨j, hj, rfl, hJs, hk⟩ := hrel
  rcases j with _ | i
  · rw [show ((0 : Nat) : Int) - 1 = -1 from rfl]
    gi_wp2
    go_end0
    exact ⟨⟨_, rfl⟩, .inl ⟨_, rfl, hJs⟩⟩
  · rw [show ((i + 1 : Nat) : Int) - 1 = (i : Int) by omega]
    obtain ⟨g, rfl, ci, hv⟩ := RW.out wr hk i (by omega)
    have c0 := BW.out wr hk
    obtain ⟨fn, tmps, assign, body, hy, hR⟩ := hY _ ⟨i, by omega⟩ wr hJs (by rw [downs_len _ (by omega)]; omega)
    dsimp only at hy
    generalize us[i] = u at ci hy
    have i0 : (0 : Int) ≤ (i : Int) := by omega
    have i1 : (i : Int) < (us.length : Int) := by omega
    have hl := HL.out
    have ew : IntKind.i64.wrap ((i : Int) - 1) = (i : Int) - 1 := IntWalk.i64_in _ (by omega)
    gi_wp2
    refine hR.mono ?_
    rintro e W3 (⟨rfl, hJ3, hk3⟩ | ⟨rfl, hJx3⟩)
    · gi_wp2
      go_roundw
      case rel => exact ⟨i, by omega, rfl, by rw [downs_succ i (by omega) rfl]; exact hJ3, hk.trans hk3⟩
      case measure => (simp [intOf]; try omega)
    · gi_wp2
      refine bodyPost_ret (results_none rfl _ _ _) rfl ?_
      exact ⟨⟨_, rfl⟩, .inr ⟨_, trivial, hJx3⟩⟩
def LastZ (us : List Value) (pre : List (Fin us.length)) : Prop := (pre = [] ∧ us = []) ∨ ∃ i : Fin us.length, pre.getLast? = some i ∧ i.1 = 0
theorem lastZ_all (us : List Value) : LastZ us (downs us.length us.length) := by
 by_cases h : us = []
 · refine .inl ⟨?_, h⟩
   have : us.length = 0 := by rw [h]; rfl
   exact List.eq_nil_of_length_eq_zero (by rw [downs_len _ (Nat.le_refl _)]; exact this)
 · have h1 : 0 < us.length := List.length_pos_iff.2 h
   have h2 := downs_succ (n := us.length) (k := us.length - 1) 0 h1 rfl
   rw [Nat.sub_zero] at h2
   refine .inr ⟨⟨0, h1⟩, ?_, rfl⟩
   rw [h2, List.getLast?_append]
   rfl
def BackI (w : World) (pf : Nat) (V : Option Addr) (v : Nat) (us : List Value) (A0 : Option Addr) (a0 : Nat) (B0 : Option Addr) (b0 : Nat) (C0 : Option Addr) (c0 n0 m0 l0 : Nat) (pre : List (Fin us.length)) (W : World) : Prop :=
 w.grownBy W (some pf) ∧ ∃ u0 u1 u2 u3, Five W pf 62 u0 u1 u2 u3 (.slice V us.length v) ∧ (LastZ us pre → u0 = .slice A0 n0 a0 ∧ u1 = .slice B0 m0 b0 ∧ u2 = .slice C0 l0 c0)
theorem backI_own {w : World} {pf : Nat} {V : Option Addr} {v : Nat} {us : List Value} {A0 : Option Addr} {a0 : Nat} {B0 : Option Addr} {b0 : Nat} {C0 : Option Addr} {c0 n0 m0 l0 : Nat} {D : Nat} (hD : w.heap.size ≤ D) : OwnFrom D (BackI w pf V v us A0 a0 B0 b0 C0 c0 n0 m0 l0) := fun s W W' row hs hg hr => by
 obtain ⟨h1, u0, u1, u2, u3, h2, h3⟩ := hs
 refine ⟨⟨hg.os.trans h1.os, hg.tape.trans h1.tape, hg.output.trans h1.output, Nat.le_trans h1.size hg.size, fun k hk hne => ?_⟩, u0, u1, u2, u3, h2.grown hg (fun e => ?_), h3⟩
 · exact (hg.block k (Nat.lt_of_lt_of_le hk h1.size) (fun e => by have := (hr k e.symm).1; omega)).trans (h1.block k hk hne)
 · obtain ⟨_, o, ho, hc⟩ := hr pf e.symm
   have h4 := h2.symm.trans ho
   injection h4 with h4
   rw [← h4] at hc
   cases hc
set_option maxRecDepth 100000 in
set_option maxHeartbeats 4000000 in
theorem goBackRun {w : World} {pf lo : Nat} {v0 v1 v2 v3 : Value} {V : Option Addr} {v : Nat} {us : List Value} {A0 : Option Addr} {a0 : Nat} {B0 : Option Addr} {b0 : Nat} {C0 : Option Addr} {c0 n0 m0 l0 : Nat} (h5 : Five w pf 62 v0 v1 v2 v3 (.slice V us.length v)) (hu : w.ownsRow lo 1 1 (.slice V us.length v) us.length us) (hU : ULog w pf A0 a0 B0 b0 C0 c0 n0 m0 l0 us) (hZ : us = [] → v0 = .slice A0 n0 a0 ∧ v1 = .slice B0 m0 b0 ∧ v2 = .slice C0 l0 c0) (hlen : us.length ≤ 1000) :
 Calls Try.prog 55 #[.pointer (some ⟨pf, 0, none⟩)] w fun e w' => (∃ v, e = .returned v) ∧ (∃ v3 v4, Five w' pf 62 (.slice A0 n0 a0) (.slice B0 m0 b0) (.slice C0 l0 c0) v3 v4) ∧ w.grownBy w' (some pf) := by
 refine (callsIn_wide (n := 10)).1 ?_
 refine callsIn_of_wp_marks Try.func55 rfl trivial ?_ rfl
 simp only [Try.ntmps55, List.size_toArray, List.length_cons, List.length_nil, Nat.reduceAdd, Nat.reduceSub, Array.replicate_succ, Array.replicate_zero, List.push_toArray, List.append_toArray, List.nil_append, List.cons_append]
 have T5 := Lib.hid h5
 have lp := h5.lt
 obtain ⟨x0, x1, x2, x3, x4⟩ := h5.cells
 have h1 : 1 ≤ 10 := by decide
 gi_wp2_with (refine ⟨trivial, ?_⟩; gi_at_call 85; refine (backIn _ _ _ _ _).mono ?_; rintro e w' ⟨rfl, rfl⟩)
 have hb : Below w.heap.size w (w.alloc (.cells #[(.slice V us.length v)] 60)) := (Below.refl _ w).alloc (Nat.le_refl _) _
 refine wpIn_rangeFunc_ownF (Kp := KpC pf) rfl h1 (gf := 105) (lb := #[.pointer (some ⟨w.heap.size, 0, none⟩)]) rfl trivial (enters_of Try.func105 (by kernel_rfl) rfl)
  (backStops 9 (by decide) pf w.heap.size lo V v us _ hlen (Bkk.new w) (own_below hu hb) ⟨_, h5.alloc _⟩) (fun h k => KpC.trans h k) (fun W l o o' _ hl ho _ => KpC.put W l o o' hl ho) (Below.refl _ _) (fun _ => rfl)
  (BackI w pf V v us A0 a0 B0 b0 C0 c0 n0 m0 l0)
  (fun _ _ _ => False)
  (backI_own (by simp))
  (fun _ _ _ _ _ hs _ _ => hs)
  ⟨World.grownBy_alloc w _ (some pf), v0, v1, v2, v3, h5.alloc _, fun h => by
   rcases h with ⟨_, h⟩ | ⟨i, h, _⟩
   · exact hZ h
   · cases h⟩
  (fun x => { tmps := #[.pointer (some ⟨pf, 0, none⟩), undef, undef, us[x.1], .pointer (some ⟨pf, 0, none⟩), .pointer (some ⟨pf, 0, none⟩), .pointer (some ⟨pf, 4, none⟩), (.slice V us.length v), .func (.func 105) #[] #[.pointer (some ⟨w.heap.size, 0, none⟩)], .int .i64 (x.1 : Int), us[x.1], undef, undef, undef, undef, undef], defers := [] }) ?assign ?body ?done ?stop
 case assign =>
  intro l x W K hK
  gi_wp2
  exact hK
 case body =>
  rintro l pre x W ⟨hg, u0, u1, u2, u3, F5, _⟩ _
  obtain ⟨A, a, B, b, C, c, n, m, q0, ⟨g, d, f, Q, k, q, e0, T1, T2, T3⟩, hx⟩ := hU x.1 x.2
  have np : ∀ (j : Nat) (xs : Array Value) (t : TypeId), w.heap[j]? = some (.cells xs t) → t ≠ 62 → some j ≠ some pf := fun j xs t h1 h2 e => by
   injection e with e
   subst e
   have h3 := h1.symm.trans T5.out
   simp only [Option.some.injEq, Obj.cells.injEq] at h3
   exact h2 h3.2.1
  have P1 := T1.grown hg (np _ _ _ T1 (by decide))
  have P2 : Bkk W d _ _ := (hg.block d T2.lt (np _ _ _ T2 (by decide))).trans T2
  have P3 : Bkk W f _ _ := (hg.block f T3.lt (np _ _ _ T3 (by decide))).trans T3
  rw [e0]
  have PP := Lib.hid (And.intro P1 (And.intro P2 (And.intro P3 F5)))
  clear P1 P2 P3 F5 T1 T2 T3 x0 x1 x2 x3 x4 h5 hu np hb lp
  gi_wp2_with ((refine ⟨trivial, ?_⟩; gi_at_call 104; refine (CallsIn.inRound l (callsIn_wide.2 (undoRun PP.out.1 PP.out.2.1 PP.out.2.2.1 PP.out.2.2.2))).mono ?_; rintro e W1 ⟨⟨vv, rfl⟩, F6, hg1, hko⟩))
  exact ⟨hko, KpC.grown hg1, grownBy_trans hg hg1, _, _, _, _, F6, fun h => by
   rcases h with ⟨h, _⟩ | ⟨i, h, hi⟩
   · simp at h
   · rw [List.getLast?_append] at h
     simp only [List.getLast?_singleton, Option.some_or, Option.some.injEq] at h
     subst h
     obtain ⟨rfl, rfl, rfl, rfl, rfl, rfl, rfl, rfl, rfl⟩ := hx hi
     exact ⟨rfl, rfl, rfl⟩⟩
 case done =>
  rintro D ys W hD rfl ⟨hg, u0, u1, u2, u3, F5, hl⟩ hK
  obtain ⟨rfl, rfl, rfl⟩ := hl (lastZ_all us)
  clear x0 x1 x2 x3 x4
  obtain ⟨x0, x1, x2, x3, x4⟩ := F5.cells
  have xf := F5.frozen
  gi_wp2
  have hK' := (KeepsOthers.setCell W ⟨pf, 4, none⟩ (.slice none 0 0)).same D _ hK rfl
  refine ⟨by simp, .inl ⟨_, _, rfl, run_takeDeferred hK', ?_⟩⟩
  have hDp : D ≠ pf := by simp at hD; omega
  refine ⟨_, results_none rfl _ _ _, ⟨_, rfl⟩, ⟨_, _, (F5.set4 (.slice none 0 0)).grown (grownBy_putObj' _ D _) (by simpa using fun e => hDp e.symm)⟩, ?_⟩
  have g1 := grownBy_trans hg (grownBy_cellI W pf 4 (.slice none 0 0))
  have g2 := grownBy_putObj' (W.setCell ⟨pf, 4, none⟩ (.slice none 0 0)) D (.deferred none)
  exact ⟨g2.os.trans g1.os, g2.tape.trans g1.tape, g2.output.trans g1.output, Nat.le_trans g1.size g2.size, fun k hk hne => (g2.block k (Nat.lt_of_lt_of_le hk g1.size) (fun e => by injection e with e; simp at hD; omega)).trans (g1.block k hk hne)⟩
 case stop =>
  rintro D c pre W _ _ h _
  exact h.elim
end Go.Proofs.Ytameldhdegcpoaa
