/- A new world: both ways. -/
import Derived.Test.YtfelhnchnaggmaaWb
import Derived.Test.YtfelhnchnaggmaaRd
import Derived.Test.YtfelhnchnaggmaaRf
import Derived.Test.YtfelhnchnaggmaaMN
namespace Go.Proofs.Ytfelhnchnaggmaa
open Go.ChangeShapes Go.WideShapes Go.ChangeAt Go.RowKit
set_option linter.unusedVariables false
set_option linter.unusedSimpArgs false

/-- The first k new keepers. -/
def newK (k : Nat) : List RpP := (List.range k).map fun i : Nat => nilR (i : Int) true 1
@[simp] theorem newK_len (k : Nat) : (newK k).length = k := by simp [newK]
theorem newK_succ (k : Nat) : newK (k + 1) = newK k ++ [nilR (k : Int) true 1] := by simp [newK, List.range_succ]
def newL (bad : Int) : List RpP := if inB bad 0 3 = true then newK 4 else []
def newB (bad : Int) : Int := if inB bad 0 3 = true then bad else 0
theorem newCells (k : Nat) : (newK (k + 1)).flatMap RpP.cells = (newK k).flatMap RpP.cells ++ [.int .i64 (k : Int), .int .i64 0, .bool true, .int .i64 1, .slice none 0 0, .slice none 0 0, .slice none 0 0] := by
  rw [newK_succ, List.flatMap_append]; rfl
theorem newOne (k : Nat) : ∀ u ∈ ([.int .i64 (k : Int), .int .i64 0, .bool true, .int .i64 1, .slice none 0 0, .slice none 0 0, .slice none 0 0] : List Value), u.oneCell' = true := by
  intro u hu
  simp at hu
  rcases hu with rfl | rfl | rfl | rfl | rfl <;> rfl
theorem implRepNewK {k : Nat} (hk : k < 4) (w : World) :
    Calls Try.prog 23 #[.int .i64 (k : Int)] w fun e w' => e = .returned (.agg #[.int .i64 (k : Int), .int .i64 0, .bool true, .int .i64 1, .slice none 0 0, .slice none 0 0, .slice none 0 0]) ∧ Below w.heap.size w w' := by
  have hin : inB (k : Int) 0 3 = true := by simp [inB]; omega
  exact implNew (a := (k : Int)) (l := true) (n := 1) (by unfold newM; rw [if_pos hin]) hin (by unfold newN; rw [if_pos hin]) w

set_option maxRecDepth 100000 in
set_option maxHeartbeats 4000000 in
theorem implWorldNew (bad : Int) (w : World) :
    Calls Try.prog 8 #[.int .i64 bad] w fun e w' => ∃ (A : Option Addr) (c : Nat), e = .returned (.agg #[.int .i64 (newB bad), .slice A (newL bad).length c, .slice none 0 0]) ∧ w'.ownsRow w.heap.size 47 7 (.slice A (newL bad).length c) (newL bad).length ((newL bad).flatMap RpP.cells) ∧ Below w.heap.size w w' := by
  have BW : Hid (Below w.heap.size w (w.alloc (.cells #[.int .i64 0, .slice none 0 0, .slice none 0 0] 27))) := (Below.refl _ _).alloc (Nat.le_refl _) _
  have K2 : Hid (Blk (w.alloc (.cells #[.int .i64 0, .slice none 0 0, .slice none 0 0] 27)) w.heap.size 27 #[.int .i64 0, .slice none 0 0, .slice none 0 0]) := Blk.new w
  rcases ha : inB bad 0 3 with _ | _
  · have e1 : newL bad = [] := by unfold newL; rw [ha]; rfl
    have e2 : newB bad = 0 := by unfold newB; rw [ha]; rfl
    rw [e1, e2]
    clear e1 e2
    go_enter Try.func8, Try.ntmps8
    go_wp2_with (go_at_call 22; refine (isKeeper _ _).mono ?_; rintro e w' ⟨rfl, rfl⟩; rw [ha])
    go_light
    refine bodyPost_ret (v := .agg #[.int .i64 0, .slice none 0 0, .slice none 0 0]) (by simp [results, Try.results8, go_sem]) rfl ⟨none, 0, rfl, World.ownsRow_nil _ _ _ _, ?_⟩
    first
    | exact BW.out
    | (iterate 3 (refine Below.setCell ?_ (by first | (simp; done) | (simp; omega)) _)
       exact BW.out)
  have e1 : newL bad = newK 4 := by unfold newL; rw [ha]; rfl
  have e2 : newB bad = bad := by unfold newB; rw [ha]; rfl
  rw [e1, e2]
  clear e1 e2
  obtain ⟨i0, hi, hz0, hz1, hz2⟩ := info_parts infoRep
  have I1 := Lib.hid hi
  have I2 := Lib.hid hz0
  have I3 := Lib.hid hz1
  have I4 := Lib.hid hz2
  have S0 : Hid ((w.alloc (.cells #[.int .i64 0, .slice none 0 0, .slice none 0 0] 27)).ownsRow (w.heap.size + 1) 47 7 (.slice none 0 0) 0 ((newK 0).flatMap RpP.cells)) := World.ownsRow_nil _ _ _ _
  clear hi hz0 hz1 hz2
  go_enter Try.func8, Try.ntmps8
  go_wp2_with (go_at_call 22; refine (isKeeper _ _).mono ?_; rintro e w' ⟨rfl, rfl⟩; rw [ha])
  clear ha
  go_loopw [3, 9] (fun vv i wr => ∃ k : Nat, k ≤ 4 ∧ i = .int .i64 (k : Int) ∧ Hid (wr.ownsRow (w.heap.size + 1) 47 7 vv k ((newK k).flatMap RpP.cells)) ∧ Hid (Blk wr w.heap.size 27 #[.int .i64 0, .slice none 0 0, .slice none 0 0]) ∧ Hid (Below w.heap.size w wr)) (fun _ i _ => 4 - (intOf i).toNat)
  case atStart => exact ⟨0, by omega, rfl, S0, K2, BW⟩
  case round =>
    clear S0 K2 BW
    obtain ⟨k, hk, rfl, OO, K2, BW⟩ := hrel
    obtain ⟨B, d, hv, hm⟩ := own_form OO.out
    subst hv
    have lk := K2.out.lt
    by_cases hlt : k < 4
    · have i1 : (k : Int) < 4 := by omega
      go_wp2_with (fail)
      refine (implRepNewK hlt _).mono ?_
      rintro e w1 ⟨rfl, hb⟩
      have OO := Lib.hid (own_below OO.out hb)
      have K2 := Lib.hid (K2.out.below hb)
      have BW := Lib.hid (Below.and BW.out hb)
      clear hb lk
      go_wp2_with (at_builtin; refine wpList_append_own _ rfl _ _ 24 rfl (w.heap.size + 1) 47 i0 (.agg #[.int .i64 0, .int .i64 0, .bool false, .int .i64 0, .slice none 0 0, .slice none 0 0, .slice none 0 0]) 7 104 Try.underlying24 I1.out I2.out I3.out I4.out rfl (by decide) _ _ _ rfl (OO.out.alloc _) ⟨w1.heap.size, 0, none⟩ 1 1 [.int .i64 (k : Int), .int .i64 0, .bool true, .int .i64 1, .slice none 0 0, .slice none 0 0, .slice none 0 0] rfl rfl ?c1 ?c2 ?c3 ?c4 ?c5 ?_)
      case c1 => exact row_cells w1 47 #[.int .i64 (k : Int), .int .i64 0, .bool true, .int .i64 1, .slice none 0 0, .slice none 0 0, .slice none 0 0] _ rfl
      case c2 => exact newOne k
      case c3 => unfold maxLen; omega
      case c4 => omega
      case c5 => have := K2.out.lt; simp; omega
      intro v' w3 ho3 hg3 _
      have BN := Lib.hid (Below.trans (BW.out.alloc BW.out.size (.cells #[.int .i64 (k : Int), .int .i64 0, .bool true, .int .i64 1, .slice none 0 0, .slice none 0 0, .slice none 0 0] 47)) (Below.of_grown hg3 (by have := BW.out.size; simp; omega) fun q hq => by have := (own_block_ge OO.out q hq).1; omega))
      have HO : Hid (w3.ownsRow (w.heap.size + 1) 47 7 v' (k + 1) ((newK (k + 1)).flatMap RpP.cells)) := by
        have h := ho3
        show w3.ownsRow _ _ _ _ _ _
        rw [newCells]
        exact h
      have K3 := Lib.hid (Blk.gr (K2.out.alloc (.cells #[.int .i64 (k : Int), .int .i64 0, .bool true, .int .i64 1, .slice none 0 0, .slice none 0 0, .slice none 0 0] 47)) hg3 (fun e => by have := (own_block_ge OO.out _ e).1; omega))
      clear ho3 hg3
      go_wp2
      go_roundw
      case rel => exact ⟨k + 1, by omega, by go_num, HO, K3, BN⟩
      case measure => simp [intOf]; omega
    · obtain rfl : k = 4 := by omega
      have O4 : Hid (wr.ownsRow (w.heap.size + 1) 47 7 (.slice B 4 d) 4 ((newK 4).flatMap RpP.cells)) := OO
      clear OO
      have z0 : wr.cell? ⟨w.heap.size, 0, none⟩ = some (.int .i64 0) := K2.out.cell 0
      have z1 : wr.cell? ⟨w.heap.size, 1, none⟩ = some (.slice none 0 0) := K2.out.cell 1
      have z2 : wr.cell? ⟨w.heap.size, 2, none⟩ = some (.slice none 0 0) := K2.out.cell 2
      have zf := K2.out.frozen
      go_wp2
      refine bodyPost_ret (v := .agg #[.int .i64 bad, .slice B 4 d, .slice none 0 0]) (by simp [results, Try.results8, go_sem, z0, z1, z2]) rfl ⟨B, d, rfl, ?_, ?_⟩
      · show World.ownsRow _ _ _ _ (.slice B 4 d) 4 _
        refine own_base (base := w.heap.size + 1) ?_ (by omega)
        iterate 3 (refine own_set ?_ (by omega) _ _)
        exact O4.out
      · iterate 3 (refine Below.setCell ?_ (by first | (simp; done) | (simp; omega)) _)
        exact BW.out

theorem l5NewX (k : Nat) (w : World) :
    Calls Try.prog 49 #[.int .i64 (k : Int)] w fun e w' => e = .returned (.agg #[.int .i64 (k : Int), .int .i64 0, .bool true, .int .i64 1, .slice none 0 0, .slice none 0 0, .slice none 0 0]) ∧ Below w.heap.size w w' := l5New (k : Int) w

set_option maxRecDepth 100000 in
set_option maxHeartbeats 4000000 in
theorem l6New (bad : Int) (w : World) :
    Calls Try.prog 27 #[.int .i64 bad] w fun e w' => ∃ (A : Option Addr) (c : Nat), e = .returned (.agg #[.int .i64 bad, .slice A 4 c, .slice none 0 0]) ∧ w'.ownsRow w.heap.size 47 7 (.slice A 4 c) 4 ((newK 4).flatMap RpP.cells) ∧ Below w.heap.size w w' := by
  have BW : Hid (Below w.heap.size w ((w.alloc (.cells #[.int .i64 0, .slice none 0 0, .slice none 0 0] 27)).alloc (.cells #[.int .i64 bad, .slice none 0 0, .slice none 0 0] 27))) := below_alloc2 _ _ _
  have K2 : Hid (Blk ((w.alloc (.cells #[.int .i64 0, .slice none 0 0, .slice none 0 0] 27)).alloc (.cells #[.int .i64 bad, .slice none 0 0, .slice none 0 0] 27)) w.heap.size 27 #[.int .i64 0, .slice none 0 0, .slice none 0 0]) := (Blk.new w).alloc _
  have K3 : Hid (Blk ((w.alloc (.cells #[.int .i64 0, .slice none 0 0, .slice none 0 0] 27)).alloc (.cells #[.int .i64 bad, .slice none 0 0, .slice none 0 0] 27)) (w.heap.size + 1) 27 #[.int .i64 bad, .slice none 0 0, .slice none 0 0]) := by have := Blk.new (t := 27) (cs := #[.int .i64 bad, .slice none 0 0, .slice none 0 0]) (w.alloc (.cells #[.int .i64 0, .slice none 0 0, .slice none 0 0] 27)); simpa [Hid] using this
  obtain ⟨i0, hi, hz0, hz1, hz2⟩ := info_parts infoRep
  have I1 := Lib.hid hi
  have I2 := Lib.hid hz0
  have I3 := Lib.hid hz1
  have I4 := Lib.hid hz2
  have S0 : Hid (((w.alloc (.cells #[.int .i64 0, .slice none 0 0, .slice none 0 0] 27)).alloc (.cells #[.int .i64 bad, .slice none 0 0, .slice none 0 0] 27)).ownsRow (w.heap.size + 1 + 1) 47 7 (.slice none 0 0) 0 ((newK 0).flatMap RpP.cells)) := World.ownsRow_nil _ _ _ _
  clear hi hz0 hz1 hz2
  go_enter Try.func27, Try.ntmps27
  go_wp2
  go_loopw [4] (fun i wr => ∃ (k : Nat) (B : Option Addr) (d : Nat), k ≤ 4 ∧ i = .int .i64 (k : Int) ∧ Hid (wr.ownsRow (w.heap.size + 1 + 1) 47 7 (.slice B k d) k ((newK k).flatMap RpP.cells)) ∧ Hid (Blk wr w.heap.size 27 #[.int .i64 0, .slice none 0 0, .slice none 0 0]) ∧ Hid (Blk wr (w.heap.size + 1) 27 #[.int .i64 bad, .slice B k d, .slice none 0 0]) ∧ Hid (Below w.heap.size w wr)) (fun i _ => 4 - (intOf i).toNat)
  case atStart => exact ⟨0, none, 0, by omega, rfl, S0, K2, K3, BW⟩
  case round =>
    clear S0 K2 K3 BW
    obtain ⟨k, B, d, hk, rfl, OO, K2, K3, BW⟩ := hrel
    have lk := K3.out.lt
    by_cases hlt : k < 4
    · have i1 : (k : Int) < 4 := by omega
      go_wp2_with (fail)
      refine wp_region_held_drew (S := fun _ => True) (by kernel_rfl) trivial (fun hHeld => ?_)
      refine takeD 0 11 (v := ?_) rfl rfl (by kernel_rfl) (by kernel_rfl) (by kernel_rfl) (fun _ _ _ h => h) (Or.inl ⟨by rfl, ?_⟩) (by assumption) ?_
      rotate_left
      · intro w1 hSw; go_simp; (try with_reducible rfl)
      (try simp only [Act.put, List.setIfInBounds_toArray, List.set_cons_zero, List.set_cons_succ])
      refine takeD 2 13 (v := ?_) rfl rfl (by kernel_rfl) (by kernel_rfl) (by kernel_rfl) (fun _ _ _ h => h) (Or.inl ⟨by rfl, ?_⟩) (by assumption) ?_
      rotate_left
      · intro w1 hSw; go_simp; (try with_reducible rfl)
      (try simp only [Act.put, List.setIfInBounds_toArray, List.set_cons_zero, List.set_cons_succ])
      refine wpAnyH_ready (rs := [1, 3]) (by kernel_rfl) (by simp) ?_
      refine AllReadyH.cons rfl (fun K hK => ?_) (AllReadyH.cons rfl (fun K hK => ?_) AllReadyH.nil)
      · have x1 := (K3.out.cell 1).trans (show _ = some (.slice B k d) from rfl)
        go_simp
        refine hK.out _ _ trivial (fun _ => ?_)
        clear x1
        clear hK K
        (try simp only [Act.put, List.setIfInBounds_toArray, List.set_cons_zero, List.set_cons_succ])
        refine wpAnyH_ready (rs := [3]) (by kernel_rfl) (by simp) ?_
        refine AllReadyH.cons rfl (fun K hK => ?_) AllReadyH.nil
        · go_simp
          refine (l5NewX k _).mono ?_
          rintro e Wd ⟨rfl, hb0⟩
          have hb := Below.and ((Below.refl wr.heap.size wr).drew) hb0
          have OO := Lib.hid (own_below OO.out hb)
          have K2 := Lib.hid (K2.out.below hb)
          have K3 := Lib.hid (K3.out.below hb)
          have BW := Lib.hid (Below.and BW.out hb)
          clear hb hb0
          refine hK.out _ _ trivial (fun _ => ?_)
          clear hK K
          (try simp only [Act.put, List.setIfInBounds_toArray, List.set_cons_zero, List.set_cons_succ])
          refine wpAnyH_ready (rs := [4]) (by kernel_rfl) (by simp) ?_
          refine AllReadyH.cons rfl (fun K hK => ?_) AllReadyH.nil
          · go_simp
            have OO : Hid ((Wd.alloc (.cells #[.int .i64 (k : Int), .int .i64 0, .bool true, .int .i64 1, .slice none 0 0, .slice none 0 0, .slice none 0 0] 47)).ownsRow (w.heap.size + 1 + 1) 47 7 (.slice B k d) k ((newK k).flatMap RpP.cells)) := OO.out.alloc _
            have K2 := Lib.hid (K2.out.alloc (.cells #[.int .i64 (k : Int), .int .i64 0, .bool true, .int .i64 1, .slice none 0 0, .slice none 0 0, .slice none 0 0] 47))
            have K3 := Lib.hid (K3.out.alloc (.cells #[.int .i64 (k : Int), .int .i64 0, .bool true, .int .i64 1, .slice none 0 0, .slice none 0 0, .slice none 0 0] 47))
            have BW := Lib.hid (BW.out.alloc BW.out.size (.cells #[.int .i64 (k : Int), .int .i64 0, .bool true, .int .i64 1, .slice none 0 0, .slice none 0 0, .slice none 0 0] 47))
            refine hK.out _ _ trivial (fun _ => ?_)
            clear hK K
            (try simp only [Act.put, List.setIfInBounds_toArray, List.set_cons_zero, List.set_cons_succ])
            refine wpAnyH_ready (rs := [5]) (by kernel_rfl) (by simp) ?_
            refine AllReadyH.cons rfl (fun K hK => ?_) AllReadyH.nil
            refine step_append_own (by rfl) _ _ 24 (by rfl) (w.heap.size + 1 + 1) 47 i0 (.agg #[.int .i64 0, .int .i64 0, .bool false, .int .i64 0, .slice none 0 0, .slice none 0 0, .slice none 0 0]) 7 104 Try.underlying24 I1.out I2.out I3.out I4.out (by rfl) (by omega) (.slice B k d) k ((newK k).flatMap RpP.cells) (by rfl) OO.out ⟨Wd.heap.size, 0, none⟩ 1 1 [.int .i64 (k : Int), .int .i64 0, .bool true, .int .i64 1, .slice none 0 0, .slice none 0 0, .slice none 0 0] (by rfl) (by rfl) (row_cells Wd 47 #[.int .i64 (k : Int), .int .i64 0, .bool true, .int .i64 1, .slice none 0 0, .slice none 0 0, .slice none 0 0] _ rfl) (newOne k) (by unfold maxLen; omega) (by omega) (by have := K3.out.lt; omega) ?_
            intro v' We ho hg _
            obtain ⟨B', a', hv', hm'⟩ := own_form ho
            subst hv'
            have hge : ∀ q, (Value.slice B k d).ownBlock = some q → w.heap.size + 1 + 1 ≤ q := fun q hq => (own_block_ge OO.out q hq).1
            have K2 := Lib.hid (Blk.gr K2.out hg (fun e => by have := hge _ e; omega))
            have K3 := Lib.hid (Blk.gr K3.out hg (fun e => by have := hge _ e; omega))
            have BW := Lib.hid (Below.trans BW.out (Below.of_grown hg BW.out.size fun q hq => by have := hge q hq; omega))
            have HO : Hid (We.ownsRow (w.heap.size + 1 + 1) 47 7 (.slice B' (k + 1) a') (k + 1) ((newK (k + 1)).flatMap RpP.cells)) := by
              show World.ownsRow _ _ _ _ _ _ _
              rw [newCells]
              exact ho
            clear ho hg hge OO
            refine hK.out _ _ trivial (fun _ => ?_)
            clear hK K
            (try simp only [Act.put, List.setIfInBounds_toArray, List.set_cons_zero, List.set_cons_succ])
            refine takeD 6 17 (v := ?_) rfl rfl (by kernel_rfl) (by kernel_rfl) (by kernel_rfl) (fun _ _ _ h => h) (Or.inl ⟨by rfl, ?_⟩) (by assumption) ?_
            rotate_left
            · intro w1 hSw; go_simp; (try with_reducible rfl)
            (try simp only [Act.put, List.setIfInBounds_toArray, List.set_cons_zero, List.set_cons_succ])
            have y1 := (K3.out.cell 1).trans (show _ = some (.slice B k d) from rfl)
            have yf := K3.out.frozen
            refine wpAnyH_ready (rs := [7]) (by kernel_rfl) (by simp) ?_
            refine AllReadyH.cons rfl (fun K hK => ?_) AllReadyH.nil
            go_simp
            refine hK.out _ _ trivial (fun _ => ?_)
            clear hK K
            (try simp only [Act.put, List.setIfInBounds_toArray, List.set_cons_zero, List.set_cons_succ])
            refine wpAnyH_done (by kernel_rfl) ?_ _
            have lk2 := K2.out.lt
            have K2 := Lib.hid (K2.out.far (show w.heap.size ≠ w.heap.size + 1 by omega) 1 (.slice B' (k + 1) a'))
            have K3 := Lib.hid (K3.out.set 1 (.slice B' (k + 1) a'))
            have BW := Lib.hid (BW.out.setCell (show w.heap.size ≤ w.heap.size + 1 by omega) (p := ⟨w.heap.size + 1, 1, none⟩) (.slice B' (k + 1) a'))
            have HO := Lib.hid (own_set HO.out (b := w.heap.size + 1) (by omega) 1 (.slice B' (k + 1) a'))
            clear y1 yf
            go_wp2
            go_roundw
            case rel => exact ⟨k + 1, B', a', by omega, by go_num, HO, K2, K3, BW⟩
            case measure => simp [intOf]; omega
      · go_simp
        refine (l5NewX k _).mono ?_
        rintro e Wd ⟨rfl, hb0⟩
        have hb := Below.and ((Below.refl wr.heap.size wr).drew) hb0
        have OO := Lib.hid (own_below OO.out hb)
        have K2 := Lib.hid (K2.out.below hb)
        have K3 := Lib.hid (K3.out.below hb)
        have BW := Lib.hid (Below.and BW.out hb)
        clear hb hb0
        refine hK.out _ _ trivial (fun _ => ?_)
        clear hK K
        (try simp only [Act.put, List.setIfInBounds_toArray, List.set_cons_zero, List.set_cons_succ])
        refine wpAnyH_ready (rs := [1, 4]) (by kernel_rfl) (by simp) ?_
        refine AllReadyH.cons rfl (fun K hK => ?_) (AllReadyH.cons rfl (fun K hK => ?_) AllReadyH.nil)
        · have x1 := (K3.out.cell 1).trans (show _ = some (.slice B k d) from rfl)
          go_simp
          refine hK.out _ _ trivial (fun _ => ?_)
          clear x1
          clear hK K
          (try simp only [Act.put, List.setIfInBounds_toArray, List.set_cons_zero, List.set_cons_succ])
          refine wpAnyH_ready (rs := [4]) (by kernel_rfl) (by simp) ?_
          refine AllReadyH.cons rfl (fun K hK => ?_) AllReadyH.nil
          · go_simp
            have OO : Hid ((Wd.alloc (.cells #[.int .i64 (k : Int), .int .i64 0, .bool true, .int .i64 1, .slice none 0 0, .slice none 0 0, .slice none 0 0] 47)).ownsRow (w.heap.size + 1 + 1) 47 7 (.slice B k d) k ((newK k).flatMap RpP.cells)) := OO.out.alloc _
            have K2 := Lib.hid (K2.out.alloc (.cells #[.int .i64 (k : Int), .int .i64 0, .bool true, .int .i64 1, .slice none 0 0, .slice none 0 0, .slice none 0 0] 47))
            have K3 := Lib.hid (K3.out.alloc (.cells #[.int .i64 (k : Int), .int .i64 0, .bool true, .int .i64 1, .slice none 0 0, .slice none 0 0, .slice none 0 0] 47))
            have BW := Lib.hid (BW.out.alloc BW.out.size (.cells #[.int .i64 (k : Int), .int .i64 0, .bool true, .int .i64 1, .slice none 0 0, .slice none 0 0, .slice none 0 0] 47))
            refine hK.out _ _ trivial (fun _ => ?_)
            clear hK K
            (try simp only [Act.put, List.setIfInBounds_toArray, List.set_cons_zero, List.set_cons_succ])
            refine wpAnyH_ready (rs := [5]) (by kernel_rfl) (by simp) ?_
            refine AllReadyH.cons rfl (fun K hK => ?_) AllReadyH.nil
            refine step_append_own (by rfl) _ _ 24 (by rfl) (w.heap.size + 1 + 1) 47 i0 (.agg #[.int .i64 0, .int .i64 0, .bool false, .int .i64 0, .slice none 0 0, .slice none 0 0, .slice none 0 0]) 7 104 Try.underlying24 I1.out I2.out I3.out I4.out (by rfl) (by omega) (.slice B k d) k ((newK k).flatMap RpP.cells) (by rfl) OO.out ⟨Wd.heap.size, 0, none⟩ 1 1 [.int .i64 (k : Int), .int .i64 0, .bool true, .int .i64 1, .slice none 0 0, .slice none 0 0, .slice none 0 0] (by rfl) (by rfl) (row_cells Wd 47 #[.int .i64 (k : Int), .int .i64 0, .bool true, .int .i64 1, .slice none 0 0, .slice none 0 0, .slice none 0 0] _ rfl) (newOne k) (by unfold maxLen; omega) (by omega) (by have := K3.out.lt; omega) ?_
            intro v' We ho hg _
            obtain ⟨B', a', hv', hm'⟩ := own_form ho
            subst hv'
            have hge : ∀ q, (Value.slice B k d).ownBlock = some q → w.heap.size + 1 + 1 ≤ q := fun q hq => (own_block_ge OO.out q hq).1
            have K2 := Lib.hid (Blk.gr K2.out hg (fun e => by have := hge _ e; omega))
            have K3 := Lib.hid (Blk.gr K3.out hg (fun e => by have := hge _ e; omega))
            have BW := Lib.hid (Below.trans BW.out (Below.of_grown hg BW.out.size fun q hq => by have := hge q hq; omega))
            have HO : Hid (We.ownsRow (w.heap.size + 1 + 1) 47 7 (.slice B' (k + 1) a') (k + 1) ((newK (k + 1)).flatMap RpP.cells)) := by
              show World.ownsRow _ _ _ _ _ _ _
              rw [newCells]
              exact ho
            clear ho hg hge OO
            refine hK.out _ _ trivial (fun _ => ?_)
            clear hK K
            (try simp only [Act.put, List.setIfInBounds_toArray, List.set_cons_zero, List.set_cons_succ])
            refine takeD 6 17 (v := ?_) rfl rfl (by kernel_rfl) (by kernel_rfl) (by kernel_rfl) (fun _ _ _ h => h) (Or.inl ⟨by rfl, ?_⟩) (by assumption) ?_
            rotate_left
            · intro w1 hSw; go_simp; (try with_reducible rfl)
            (try simp only [Act.put, List.setIfInBounds_toArray, List.set_cons_zero, List.set_cons_succ])
            have y1 := (K3.out.cell 1).trans (show _ = some (.slice B k d) from rfl)
            have yf := K3.out.frozen
            refine wpAnyH_ready (rs := [7]) (by kernel_rfl) (by simp) ?_
            refine AllReadyH.cons rfl (fun K hK => ?_) AllReadyH.nil
            go_simp
            refine hK.out _ _ trivial (fun _ => ?_)
            clear hK K
            (try simp only [Act.put, List.setIfInBounds_toArray, List.set_cons_zero, List.set_cons_succ])
            refine wpAnyH_done (by kernel_rfl) ?_ _
            have lk2 := K2.out.lt
            have K2 := Lib.hid (K2.out.far (show w.heap.size ≠ w.heap.size + 1 by omega) 1 (.slice B' (k + 1) a'))
            have K3 := Lib.hid (K3.out.set 1 (.slice B' (k + 1) a'))
            have BW := Lib.hid (BW.out.setCell (show w.heap.size ≤ w.heap.size + 1 by omega) (p := ⟨w.heap.size + 1, 1, none⟩) (.slice B' (k + 1) a'))
            have HO := Lib.hid (own_set HO.out (b := w.heap.size + 1) (by omega) 1 (.slice B' (k + 1) a'))
            clear y1 yf
            go_wp2
            go_roundw
            case rel => exact ⟨k + 1, B', a', by omega, by go_num, HO, K2, K3, BW⟩
            case measure => simp [intOf]; omega
        · go_simp
          have OO : Hid ((Wd.alloc (.cells #[.int .i64 (k : Int), .int .i64 0, .bool true, .int .i64 1, .slice none 0 0, .slice none 0 0, .slice none 0 0] 47)).ownsRow (w.heap.size + 1 + 1) 47 7 (.slice B k d) k ((newK k).flatMap RpP.cells)) := OO.out.alloc _
          have K2 := Lib.hid (K2.out.alloc (.cells #[.int .i64 (k : Int), .int .i64 0, .bool true, .int .i64 1, .slice none 0 0, .slice none 0 0, .slice none 0 0] 47))
          have K3 := Lib.hid (K3.out.alloc (.cells #[.int .i64 (k : Int), .int .i64 0, .bool true, .int .i64 1, .slice none 0 0, .slice none 0 0, .slice none 0 0] 47))
          have BW := Lib.hid (BW.out.alloc BW.out.size (.cells #[.int .i64 (k : Int), .int .i64 0, .bool true, .int .i64 1, .slice none 0 0, .slice none 0 0, .slice none 0 0] 47))
          refine hK.out _ _ trivial (fun _ => ?_)
          clear hK K
          (try simp only [Act.put, List.setIfInBounds_toArray, List.set_cons_zero, List.set_cons_succ])
          refine wpAnyH_ready (rs := [1]) (by kernel_rfl) (by simp) ?_
          refine AllReadyH.cons rfl (fun K hK => ?_) AllReadyH.nil
          · have x1 := (K3.out.cell 1).trans (show _ = some (.slice B k d) from rfl)
            go_simp
            refine hK.out _ _ trivial (fun _ => ?_)
            clear x1
            clear hK K
            (try simp only [Act.put, List.setIfInBounds_toArray, List.set_cons_zero, List.set_cons_succ])
            refine wpAnyH_ready (rs := [5]) (by kernel_rfl) (by simp) ?_
            refine AllReadyH.cons rfl (fun K hK => ?_) AllReadyH.nil
            refine step_append_own (by rfl) _ _ 24 (by rfl) (w.heap.size + 1 + 1) 47 i0 (.agg #[.int .i64 0, .int .i64 0, .bool false, .int .i64 0, .slice none 0 0, .slice none 0 0, .slice none 0 0]) 7 104 Try.underlying24 I1.out I2.out I3.out I4.out (by rfl) (by omega) (.slice B k d) k ((newK k).flatMap RpP.cells) (by rfl) OO.out ⟨Wd.heap.size, 0, none⟩ 1 1 [.int .i64 (k : Int), .int .i64 0, .bool true, .int .i64 1, .slice none 0 0, .slice none 0 0, .slice none 0 0] (by rfl) (by rfl) (row_cells Wd 47 #[.int .i64 (k : Int), .int .i64 0, .bool true, .int .i64 1, .slice none 0 0, .slice none 0 0, .slice none 0 0] _ rfl) (newOne k) (by unfold maxLen; omega) (by omega) (by have := K3.out.lt; omega) ?_
            intro v' We ho hg _
            obtain ⟨B', a', hv', hm'⟩ := own_form ho
            subst hv'
            have hge : ∀ q, (Value.slice B k d).ownBlock = some q → w.heap.size + 1 + 1 ≤ q := fun q hq => (own_block_ge OO.out q hq).1
            have K2 := Lib.hid (Blk.gr K2.out hg (fun e => by have := hge _ e; omega))
            have K3 := Lib.hid (Blk.gr K3.out hg (fun e => by have := hge _ e; omega))
            have BW := Lib.hid (Below.trans BW.out (Below.of_grown hg BW.out.size fun q hq => by have := hge q hq; omega))
            have HO : Hid (We.ownsRow (w.heap.size + 1 + 1) 47 7 (.slice B' (k + 1) a') (k + 1) ((newK (k + 1)).flatMap RpP.cells)) := by
              show World.ownsRow _ _ _ _ _ _ _
              rw [newCells]
              exact ho
            clear ho hg hge OO
            refine hK.out _ _ trivial (fun _ => ?_)
            clear hK K
            (try simp only [Act.put, List.setIfInBounds_toArray, List.set_cons_zero, List.set_cons_succ])
            refine takeD 6 17 (v := ?_) rfl rfl (by kernel_rfl) (by kernel_rfl) (by kernel_rfl) (fun _ _ _ h => h) (Or.inl ⟨by rfl, ?_⟩) (by assumption) ?_
            rotate_left
            · intro w1 hSw; go_simp; (try with_reducible rfl)
            (try simp only [Act.put, List.setIfInBounds_toArray, List.set_cons_zero, List.set_cons_succ])
            have y1 := (K3.out.cell 1).trans (show _ = some (.slice B k d) from rfl)
            have yf := K3.out.frozen
            refine wpAnyH_ready (rs := [7]) (by kernel_rfl) (by simp) ?_
            refine AllReadyH.cons rfl (fun K hK => ?_) AllReadyH.nil
            go_simp
            refine hK.out _ _ trivial (fun _ => ?_)
            clear hK K
            (try simp only [Act.put, List.setIfInBounds_toArray, List.set_cons_zero, List.set_cons_succ])
            refine wpAnyH_done (by kernel_rfl) ?_ _
            have lk2 := K2.out.lt
            have K2 := Lib.hid (K2.out.far (show w.heap.size ≠ w.heap.size + 1 by omega) 1 (.slice B' (k + 1) a'))
            have K3 := Lib.hid (K3.out.set 1 (.slice B' (k + 1) a'))
            have BW := Lib.hid (BW.out.setCell (show w.heap.size ≤ w.heap.size + 1 by omega) (p := ⟨w.heap.size + 1, 1, none⟩) (.slice B' (k + 1) a'))
            have HO := Lib.hid (own_set HO.out (b := w.heap.size + 1) (by omega) 1 (.slice B' (k + 1) a'))
            clear y1 yf
            go_wp2
            go_roundw
            case rel => exact ⟨k + 1, B', a', by omega, by go_num, HO, K2, K3, BW⟩
            case measure => simp [intOf]; omega
    · obtain rfl : k = 4 := by omega
      have O4 : Hid (wr.ownsRow (w.heap.size + 1 + 1) 47 7 (.slice B 4 d) 4 ((newK 4).flatMap RpP.cells)) := OO
      have K4 : Hid (Blk wr (w.heap.size + 1) 27 #[.int .i64 bad, .slice B 4 d, .slice none 0 0]) := K3
      clear OO K3
      have z0 : wr.cell? ⟨w.heap.size, 0, none⟩ = some (.int .i64 0) := K2.out.cell 0
      have z1 : wr.cell? ⟨w.heap.size, 1, none⟩ = some (.slice none 0 0) := K2.out.cell 1
      have z2 : wr.cell? ⟨w.heap.size, 2, none⟩ = some (.slice none 0 0) := K2.out.cell 2
      have y0 : wr.cell? ⟨w.heap.size + 1, 0, none⟩ = some (.int .i64 bad) := K4.out.cell 0
      have y1 : wr.cell? ⟨w.heap.size + 1, 1, none⟩ = some (.slice B 4 d) := K4.out.cell 1
      have y2 : wr.cell? ⟨w.heap.size + 1, 2, none⟩ = some (.slice none 0 0) := K4.out.cell 2
      have zf := K2.out.frozen
      go_wp2
      refine bodyPost_ret (v := .agg #[.int .i64 bad, .slice B 4 d, .slice none 0 0]) (by simp [results, Try.results27, go_sem, z0, z1, z2, y0, y1, y2]) rfl ⟨B, d, rfl, ?_, ?_⟩
      · refine own_base (base := w.heap.size + 1 + 1) ?_ (by omega)
        iterate 3 (refine own_set ?_ (by omega) _ _)
        exact O4.out
      · iterate 3 (refine Below.setCell ?_ (by first | (simp; done) | (simp; omega)) _)
        exact BW.out

set_option maxRecDepth 100000 in
set_option maxHeartbeats 2000000 in
theorem specWorldNew (bad : Int) (w : World) :
    Calls Try.prog 10 #[.int .i64 bad] w fun e w' => ∃ (A : Option Addr) (c : Nat), e = .returned (.agg #[.int .i64 (newB bad), .slice A (newL bad).length c, .slice none 0 0]) ∧ w'.ownsRow w.heap.size 47 7 (.slice A (newL bad).length c) (newL bad).length ((newL bad).flatMap RpP.cells) ∧ Below w.heap.size w w' := by
  have BW : Hid (Below w.heap.size w (w.alloc (.cells #[.int .i64 0, .slice none 0 0, .slice none 0 0] 27))) := (Below.refl _ _).alloc (Nat.le_refl _) _
  have K2 : Hid (Blk (w.alloc (.cells #[.int .i64 0, .slice none 0 0, .slice none 0 0] 27)) w.heap.size 27 #[.int .i64 0, .slice none 0 0, .slice none 0 0]) := Blk.new w
  rcases ha : inB bad 0 3 with _ | _
  · have e1 : newL bad = [] := by unfold newL; rw [ha]; rfl
    have e2 : newB bad = 0 := by unfold newB; rw [ha]; rfl
    rw [e1, e2]
    clear e1 e2
    go_enter Try.func10, Try.ntmps10
    go_wp2_with (go_at_call 26; refine (specIn _ _ _ _).mono ?_; rintro e w' ⟨rfl, rfl⟩; rw [ha])
    go_light
    refine bodyPost_ret (v := .agg #[.int .i64 0, .slice none 0 0, .slice none 0 0]) (by simp [results, Try.results10, go_sem]) rfl ⟨none, 0, rfl, World.ownsRow_nil _ _ _ _, ?_⟩
    first
    | exact BW.out
    | (iterate 3 (refine Below.setCell ?_ (by first | (simp; done) | (simp; omega)) _)
       exact BW.out)
  have e1 : newL bad = newK 4 := by unfold newL; rw [ha]; rfl
  have e2 : newB bad = bad := by unfold newB; rw [ha]; rfl
  rw [e1, e2]
  clear e1 e2
  go_enter Try.func10, Try.ntmps10
  go_wp2_with (go_at_call 26; refine (specIn _ _ _ _).mono ?_; rintro e w' ⟨rfl, rfl⟩; rw [ha])
  refine (l6New bad _).mono ?_
  rintro e w1 ⟨B, d, rfl, ho, hb⟩
  have OO := Lib.hid (own_base (base' := w.heap.size + 1) ho (by simp))
  have K2 := Lib.hid (K2.out.below hb)
  have BW := Lib.hid (Below.and BW.out hb)
  clear hb ho ha
  have lk := K2.out.lt
  have z0 : w1.cell? ⟨w.heap.size, 0, none⟩ = some (.int .i64 0) := K2.out.cell 0
  have z1 : w1.cell? ⟨w.heap.size, 1, none⟩ = some (.slice none 0 0) := K2.out.cell 1
  have z2 : w1.cell? ⟨w.heap.size, 2, none⟩ = some (.slice none 0 0) := K2.out.cell 2
  have zf := K2.out.frozen
  go_wp2
  refine bodyPost_ret (v := .agg #[.int .i64 bad, .slice B 4 d, .slice none 0 0]) (by simp [results, Try.results10, go_sem, z0, z1, z2]) rfl ⟨B, d, rfl, ?_, ?_⟩
  · show World.ownsRow _ _ _ _ (.slice B 4 d) 4 _
    refine own_base (base := w.heap.size + 1) ?_ (by omega)
    iterate 3 (refine own_set ?_ (by omega) _ _)
    exact OO.out
  · iterate 3 (refine Below.setCell ?_ (by first | (simp; done) | (simp; omega)) _)
    exact BW.out

end Go.Proofs.Ytfelhnchnaggmaa
