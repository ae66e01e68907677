/- The rolls of a shuffle, one by one. -/
import Derived.Test.YtkhneligclhgaaaFb
import Derived.RangeFuncNested
import Derived.RangeFuncBound
import Derived.RangeFuncCalls
import Derived.RangeFuncLeaves
import Derived.Shelf.Abstract
import Derived.Shelf.RegionOpen
import Derived.WalkKit
import Derived.OwnWalkIn
import Derived.TacticsInMore
import Derived.LoopNIn
import Derived.LoopIn
import Derived.Test.YtkhneligclhgaaaBk
namespace Go.Proofs.Ytkhneligclhgaaa
open Go.ChangeShapes Go.WideShapes Go.ChangeAt Go.RowKit
set_option linter.unusedVariables false
set_option linter.unusedSimpArgs false

open Go.Shelf
attribute [local go_sem] Oper.semAt_some
/-- Two places of a list of m. -/
abbrev PrM (m : Nat) := { x : Nat × Nat // x.1 < m ∧ x.2 < m }
theorem rollsC (m n : Nat) (w : World) :
    Calls Try.prog 41 #[.int .i64 (m : Int), .int .i64 (n : Int)] w fun e w' => e = .returned (.func (.func 44) #[] #[.pointer (some ⟨w.heap.size + 1, 0, none⟩), .pointer (some ⟨w.heap.size, 0, none⟩)]) ∧ w' = (w.alloc (.cells #[.int .i64 (m : Int)] 3)).alloc (.cells #[.int .i64 (n : Int)] 3) := by
  go_enter Try.func41, Try.ntmps41
  go_wp2
  go_ret
  exact ⟨by simp, rfl⟩

set_option maxRecDepth 100000 in
set_option maxHeartbeats 2000000 in
theorem rollStops (n : Nat) (hn : 1 ≤ n) (Bm Bs m s : Nat) (w : World) (hm : m ≤ 20) (hs : s ≤ 2147483647) (h1 : Bkk w Bm 3 #[.int .i64 (m : Int)]) (h2 : Bkk w Bs 3 #[.int .i64 (s : Int)]) :
    SeqStopsK Fence.wide n Try.prog 44 #[.pointer (some ⟨Bs, 0, none⟩), .pointer (some ⟨Bm, 0, none⟩)] (fun x : PrM m => #[Value.int .i64 (x.1.1 : Int), .int .i64 (x.1.2 : Int)]) (fun _ _ => True) (fun xs => xs.map Subtype.val = dAll m s) (fun _ => True) (m - 1) w := fun l J Jx W hW hJ hJx hY h0 => by
  have c0 : W.cell? ⟨Bs, 0, none⟩ = some (.int .i64 (s : Int)) := (h2.below hW).cell 0
  have c1 : W.cell? ⟨Bm, 0, none⟩ = some (.int .i64 (m : Int)) := (h1.below hW).cell 0
  have HS := Lib.hid hs
  clear h1 h2 hW hs hJ hJx
  refine callsIn_of_wp Try.func44 rfl trivial ?_ rfl
  simp only [Try.ntmps44, List.size_toArray, List.length_cons, List.length_nil, Nat.reduceAdd, Nat.reduceSub, Array.replicate_succ, Array.replicate_zero, List.push_toArray, List.append_toArray, List.nil_append, List.cons_append]
  have ew : IntKind.i64.wrap ((m : Int) - 1) = (m : Int) - 1 := IntWalk.i64_in _ (by omega)
  gi_wp2
  gi_loopw [4, 5] (fun q p wr => ∃ (j : Nat) (xs : List (PrM m)), j ≤ m - 1 ∧ p = .int .i64 ((m : Int) - 1 - (j : Int)) ∧ q = .int .i64 ((dIt s j : Nat) : Int) ∧ xs.map Subtype.val = dUps m s j ∧ J xs wr)
    (fun _ p _ => (intOf p).toNat)
  case atStart => exact ⟨0, [], Nat.zero_le _, by simp, rfl, rfl, h0⟩
  case round =>
    clear c0 c1 ew
    obtain ⟨j, xs, hj, rfl, rfl, hxs, hJs⟩ := hrel
    by_cases hlt : j < m - 1
    · obtain ⟨a, ha⟩ : ∃ a : Nat, a = m - 1 - j := ⟨_, rfl⟩
      have hx : (m - 1 - j) < m ∧ dTo m s j < m := ⟨by omega, dTo_lt (by omega)⟩
      have hlen : xs.length = j := by have := congrArg List.length hxs; rwa [List.length_map, dUps_len] at this
      obtain ⟨fn, tmps, assign, body, hy, hR⟩ := hY xs ⟨(m - 1 - j, dTo m s j), hx⟩ wr hJs (by omega)
      have HXS := Lib.hid (show (xs ++ [(⟨(m - 1 - j, dTo m s j), hx⟩ : PrM m)]).map Subtype.val = dUps m s (j + 1) by rw [List.map_append, hxs]; rfl)
      have ez : (m : Int) - 1 - (j : Int) = (a : Int) := by omega
      have HZ := Lib.hid (show (m : Int) - 1 - ((j + 1 : Nat) : Int) = (a : Int) - 1 by omega)
      have HRL := Lib.hid (show dRl ((dIt s j : Nat) : Int) ((a : Int) + 1) = (((dTo m s j : Nat) : Int), ((dIt s (j + 1) : Nat) : Int)) by
        have h3 := dRl_nat (dIt_lt HS.out j) (show 1 ≤ a + 1 by omega) (show a + 1 ≤ 20 by omega)
        have h4 : m - j = a + 1 := by omega
        unfold dTo
        rw [h4]
        exact h3)
      rw [ez]
      dsimp only at hy
      obtain ⟨x, hxx⟩ : ∃ x : PrM m, x = ⟨(m - 1 - j, dTo m s j), hx⟩ := ⟨_, rfl⟩
      rw [← hxx] at hR HXS
      clear hxx
      rw [← ha] at hy
      generalize dTo m s j = to at hy HRL
      obtain ⟨sn, hsn⟩ : ∃ sn, dIt s (j + 1) = sn := ⟨_, rfl⟩
      rw [hsn] at HRL
      have HSN := Lib.hid hsn
      clear hsn
      generalize dIt s j = sj at HRL
      have ew : IntKind.i64.wrap ((a : Int) - 1) = (a : Int) - 1 := IntWalk.i64_in _ (by omega)
      have ew2 : IntKind.i64.wrap ((a : Int) + 1) = (a : Int) + 1 := IntWalk.i64_in _ (by omega)
      have i1 : (0 : Int) < (a : Int) := by omega
      clear hx ha ez hxs
      gi_wp2_with (refine ⟨trivial, ?_⟩; gi_at_call 17; refine (callsIn_wide.2 (implRoll _ _ _)).mono ?_; rintro e w' ⟨rfl, rfl⟩; rw [HRL.out])
      refine hR.mono ?_
      rintro e W3 (⟨rfl, hJ3, -⟩ | ⟨rfl, hJx3⟩)
      · gi_wp2
        go_roundw
        case rel => exact ⟨j + 1, _, by omega, by rw [HZ.out], by rw [HSN.out], HXS.out, hJ3⟩
        case measure => (simp [intOf]; try omega)
      · gi_wp2
        refine bodyPost_ret (results_none rfl _ _ _) rfl ?_
        exact ⟨⟨_, rfl⟩, .inr ⟨_, trivial, hJx3⟩⟩
    · have i1 : ¬ ((0 : Int) < (m : Int) - 1 - (j : Int)) := by omega
      obtain ⟨z, hz⟩ : ∃ z, (m : Int) - 1 - (j : Int) = z := ⟨_, rfl⟩
      rw [hz] at i1 ⊢
      have HXS := Lib.hid (show xs.map Subtype.val = dAll m s by rw [hxs, show j = m - 1 by omega]; rfl)
      clear hxs hz
      gi_wp2
      go_end0
      exact ⟨⟨_, rfl⟩, .inl ⟨_, HXS.out, hJs⟩⟩

end Go.Proofs.Ytkhneligclhgaaa
