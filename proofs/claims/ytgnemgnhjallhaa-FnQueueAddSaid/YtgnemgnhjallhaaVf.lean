/- A heap in memory: one more. -/
import Derived.Test.YtgnemgnhjallhaaVe
namespace Go.Proofs.Ytgnemgnhjallhaa
open Go.ChangeShapes Go.WideShapes Go.ChangeAt Go.RowKit
set_option linter.unusedVariables false
set_option linter.unusedSimpArgs false

theorem tm_one (L : List Tm) : ∀ u ∈ L.flatMap Tm.cells, u.oneCell' = true := by
  intro u hu
  simp only [List.mem_flatMap, Tm.cells] at hu
  obtain ⟨a, _, hu⟩ := hu
  simp at hu
  rcases hu with rfl | rfl | rfl <;> rfl
theorem tm_row (w : World) (t : TypeId) (x : Tm) : Rd 3 Tm.cells (w.alloc (.cells (tmCs x) t)) (some ⟨w.heap.size, 0, none⟩) [x] := by
  intro i h
  have hi : i = 0 := by simpa using h
  subst hi
  refine ⟨w.heap.size, 0, rfl, fun j u hu => ?_⟩
  have hb := cell_of_row _ _ j _ t (0, 0) (heap_alloc_new w (.cells (tmCs x) t))
  rw [show 0 + 0 * 3 + j = j by omega, hb]
  simpa [Tm.cells] using hu
theorem OwT.push {w' : World} {lo : Nat} {L : List Tm} {v' : Value} {r : Tm} (ho : w'.ownsRow lo 25 3 v' (L.length + 1) (L.flatMap Tm.cells ++ [r].flatMap Tm.cells)) :
    ∃ A' a', v' = .slice A' (L ++ [r]).length a' ∧ OwT w' lo A' a' (L ++ [r]) := by
  obtain ⟨A', a', rfl⟩ := own_formH ho
  have hl : L.length + 1 = (L ++ [r]).length := by simp
  rw [← List.flatMap_append, hl] at ho
  exact ⟨A', a', by rw [hl], ho⟩
theorem Bkk.grownV {w w' : World} {g : Nat} {t : TypeId} {cs : Array Value} {row : Option Nat} (h : Bkk w g t cs) (hb : w.grownBy w' row) (hg : some g ≠ row) : Bkk w' g t cs := (hb.block g h.lt hg).trans h

set_option maxRecDepth 100000 in
set_option maxHeartbeats 4000000 in
theorem addH (lo p : Nat) (A : Option Addr) (a : Nat) (L : List Tm) (x : Tm) (w : World) (hL : L.length ≤ 1048576) (h : Hp w lo p A a L) :
    Calls Try.prog 42 #[.pointer (some ⟨p, 0, none⟩), x.val] w fun e w' => e = .returned (.tuple #[]) ∧ (∃ A' a', Hp w' lo p A' a' (addT L x)) ∧ Below lo w w' := by
  obtain ⟨I, hi, hz0, hz1, hz2⟩ := parts_ofH infoTimed
  have I1 := Lib.hid hi
  have I2 := Lib.hid hz0
  have I3 := Lib.hid hz1
  have I4 := Lib.hid hz2
  clear hi hz0 hz1 hz2
  have HLO := Lib.hid (show lo ≤ w.heap.size from Nat.le_trans h.lop (Nat.le_of_lt h.box.lt))
  have HLP := Lib.hid h.lop
  have HXP := Lib.hid (show w.heap.size ≠ p from fun e => by have := h.box.lt; omega)
  have HNX := Lib.hid (show (Value.slice A L.length a).ownBlock ≠ some w.heap.size from fun e => by have := (own_block_ge (show World.ownsRow _ _ _ _ _ _ _ from h.row) _ e).2; omega)
  have hb : Below w.heap.size w (w.alloc (.cells (tmCs x) 25)) := (Below.refl _ _).alloc (Nat.le_refl _) _
  have HH := Lib.hid (h.below hb)
  have KX : Hid (Bkk (w.alloc (.cells (tmCs x) 25)) w.heap.size 25 (tmCs x)) := Bkk.new _
  have Z : Hid (Below lo w (w.alloc (.cells (tmCs x) 25))) := (Below.refl lo w).trans (hb.mono HLO.out)
  obtain ⟨n, hn⟩ : ∃ n, L.length = n := ⟨_, rfl⟩
  have HN := Lib.hid hn
  have hnL : n ≤ 1048576 := by omega
  obtain ⟨R, hR⟩ : ∃ R, addT L x = R := ⟨_, rfl⟩
  have HR := Lib.hid hR
  rw [hR]
  clear h hb hn hR
  go_enter Try.func42, Try.ntmps42
  go_upto_region 1 with (fail)
  obtain ⟨xb, hxb⟩ : ∃ X, X = w.heap.size := ⟨_, rfl⟩
  obtain ⟨W, hW⟩ : ∃ X, X = (w.alloc (.cells (tmCs x) 25)) := ⟨_, rfl⟩
  rw [← hW] at HH KX Z ⊢
  rw [← hxb] at KX HXP HNX ⊢
  clear hW hxb
  go_cut [] from 5 (fun wc => ∃ A' a' L2, L2 = L ++ [x] ∧ Hp wc lo p A' a' L2 ∧ Below lo w wc)
  case first =>
    have q0 : W.cell? ⟨p, 0, none⟩ = some (.slice A L.length a) := HH.out.box.cell 0
    have lp := HH.out.box.lt
    have lx := KX.out.lt
    refine wp_region_held_drew (S := fun WS => WS.cell? ⟨xb, 0, none⟩ = some (.int .i64 x.a) ∧ WS.cell? ⟨xb, 1, none⟩ = some (.int .i64 x.f) ∧ WS.cell? ⟨xb, 2, none⟩ = some (.int .i64 x.n)) (by kernel_rfl) ⟨KX.out.cell 0, KX.out.cell 1, KX.out.cell 2⟩ (fun hS0 => ?_)
    replace HH := Lib.hid (HH.out.below (Below.refl _ _).drew)
    replace KX := Lib.hid (KX.out.below (Below.refl _ _).drew)
    replace Z := Lib.hid (Z.out.drew)
    obtain ⟨w1, hw1⟩ : ∃ X, X = W.drew := ⟨_, rfl⟩
    rw [← hw1] at HH KX Z hS0 ⊢
    clear hw1 q0 lp lx
    have q0 : w1.cell? ⟨p, 0, none⟩ = some (.slice A L.length a) := HH.out.box.cell 0
    refine takeD 0 5 (v := ?_) rfl rfl (by kernel_rfl) (by kernel_rfl) (by kernel_rfl) (fun _ _ _ h => h) (Or.inl ⟨by rfl, ?_⟩) (by assumption) ?_
    rotate_left
    · intro wS hSw; obtain ⟨s0, s1, s2⟩ := hSw; go_simp; (try with_reducible rfl)
    (try simp only [Act.put, List.setIfInBounds_toArray, List.set_cons_zero, List.set_cons_succ])
    refine takeD 1 6 (v := ?_) rfl rfl (by kernel_rfl) (by kernel_rfl) (by kernel_rfl) (fun _ _ _ h => h) (Or.inl ⟨by rfl, ?_⟩) (by assumption) ?_
    rotate_left
    · intro wS hSw; obtain ⟨s0, s1, s2⟩ := hSw; go_simp; (try with_reducible rfl)
    (try simp only [Act.put, List.setIfInBounds_toArray, List.set_cons_zero, List.set_cons_succ])
    refine takeD 2 7 (v := ?_) rfl rfl (by kernel_rfl) (by kernel_rfl) (by kernel_rfl) (fun _ _ _ h => h) (Or.inl ⟨by rfl, ?_⟩) (by assumption) ?_
    rotate_left
    · intro wS hSw; obtain ⟨s0, s1, s2⟩ := hSw; go_simp; (try with_reducible rfl)
    (try simp only [Act.put, List.setIfInBounds_toArray, List.set_cons_zero, List.set_cons_succ])
    refine takeD 3 8 (v := ?_) rfl rfl (by kernel_rfl) (by kernel_rfl) (by kernel_rfl) (fun _ _ _ h => h) (Or.inl ⟨by rfl, ?_⟩) (by assumption) ?_
    rotate_left
    · intro wS hSw; obtain ⟨s0, s1, s2⟩ := hSw; go_simp; (try with_reducible rfl)
    (try simp only [Act.put, List.setIfInBounds_toArray, List.set_cons_zero, List.set_cons_succ])
    refine takeD 5 10 (v := ?_) rfl rfl (by kernel_rfl) (by kernel_rfl) (by kernel_rfl) (fun _ _ _ h => h) (Or.inl ⟨by rfl, ?_⟩) (by assumption) ?_
    rotate_left
    · intro wS hSw; obtain ⟨s0, s1, s2⟩ := hSw; go_simp; (try with_reducible rfl)
    (try simp only [Act.put, List.setIfInBounds_toArray, List.set_cons_zero, List.set_cons_succ])
    refine wpAnyH_ready (rs := [4, 6]) (by kernel_rfl) (by simp) ?_
    refine AllReadyH.cons rfl (fun KK hK => ?_) (AllReadyH.cons rfl (fun KK hK => ?_) AllReadyH.nil)
    · go_simp
      refine hK.out _ _ ⟨KX.out.cell 0, KX.out.cell 1, KX.out.cell 2⟩ (fun hS9 => ?_)
      clear hK KK
      (try simp only [Act.put, List.setIfInBounds_toArray, List.set_cons_zero, List.set_cons_succ])
      refine wpAnyH_ready (rs := [6]) (by kernel_rfl) (by simp) ?_
      refine AllReadyH.cons rfl (fun KK hK => ?_) AllReadyH.nil
      go_simp
      have hb : Below w1.heap.size w1 (w1.alloc (.cells (tmCs x) 25)) := (Below.refl _ _).alloc (Nat.le_refl _) _
      replace HH := Lib.hid (HH.out.below hb)
      replace KX := Lib.hid (KX.out.below hb)
      replace Z := Lib.hid (Z.out.trans (hb.mono (Nat.le_trans HLO.out Z.out.size)))
      have HRW := Lib.hid (tm_row w1 25 x)
      have LB : Hid (lo ≤ (w1.alloc (.cells (tmCs x) 25)).heap.size) := Nat.le_trans HLO.out Z.out.size
      obtain ⟨rb, hrb⟩ : ∃ X, X = w1.heap.size := ⟨_, rfl⟩
      obtain ⟨w2, hw2⟩ : ∃ X, X = w1.alloc (.cells (tmCs x) 25) := ⟨_, rfl⟩
      rw [← hw2] at HH KX Z HRW LB ⊢
      rw [← hrb] at HRW ⊢
      clear hw2 hrb hb
      have q0 : w2.cell? ⟨p, 0, none⟩ = some (.slice A L.length a) := HH.out.box.cell 0
      refine hK.out _ _ ⟨KX.out.cell 0, KX.out.cell 1, KX.out.cell 2⟩ (fun hS8 => ?_)
      clear hK KK
      (try simp only [Act.put, List.setIfInBounds_toArray, List.set_cons_zero, List.set_cons_succ])
      refine wpAnyH_ready (rs := [7]) (by kernel_rfl) (by simp) ?_
      refine AllReadyH.cons rfl (fun KK hK => ?_) AllReadyH.nil
      refine step_app (f := Tm.cells) (k := 3) (fun _ => rfl) (by rfl) _ _ 23 (by rfl) lo 25 I (.agg #[.int .i64 0, .int .i64 0, .int .i64 0]) 24 Try.underlying23 I1.out I2.out I3.out I4.out (by rfl) (by omega) (.slice A L.length a) L.length (L.flatMap Tm.cells) (by rfl) HH.out.row (some ⟨rb, 0, none⟩) 1 1 [x] rfl (by rfl) HRW.out (fun h => by cases h) (tm_one _) (by unfold maxLen; omega) (by omega) LB.out ?_
      intro v' w3 ho hg hp
      have hB3 : Below lo w w3 := Z.out.grown hg LB.out (fun q hq => (own_block_ge (show World.ownsRow _ _ _ _ _ _ _ from HH.out.row) q hq).1)
      have BX := Lib.hid (HH.out.box.grownV hg (fun e => HH.out.row.apart HH.out.box (by decide) e.symm))
      have KX3 := Lib.hid (KX.out.grownV hg (fun e => HNX.out e.symm))
      refine hK.out _ _ ⟨KX3.out.cell 0, KX3.out.cell 1, KX3.out.cell 2⟩ (fun hS7 => ?_)
      clear hK KK
      (try simp only [Act.put, List.setIfInBounds_toArray, List.set_cons_zero, List.set_cons_succ])
      obtain ⟨A', a', rfl, oa⟩ := OwT.push ho
      have hlen : (L ++ [x]).length = n + 1 := by rw [List.length_append, HN.out]; rfl
      obtain ⟨L2, hL2⟩ : ∃ X, X = L ++ [x] := ⟨_, rfl⟩
      rw [← hL2] at oa hlen ⊢
      have HL2 := Lib.hid hL2
      have HLN := Lib.hid hlen
      clear hL2 hlen
      have OA := Lib.hid oa
      have Z3 := Lib.hid hB3
      clear oa hB3 ho hg hp
      refine takeD 8 13 (v := ?_) rfl rfl (by kernel_rfl) (by kernel_rfl) (by kernel_rfl) (fun _ _ _ h => h) (Or.inl ⟨by rfl, ?_⟩) (by assumption) ?_
      rotate_left
      · intro wS hSw; obtain ⟨s0, s1, s2⟩ := hSw; go_simp; (try with_reducible rfl)
      (try simp only [Act.put, List.setIfInBounds_toArray, List.set_cons_zero, List.set_cons_succ])
      refine takeD 9 14 (v := ?_) rfl rfl (by kernel_rfl) (by kernel_rfl) (by kernel_rfl) (fun _ _ _ h => h) (Or.inl ⟨by rfl, ?_⟩) (by assumption) ?_
      rotate_left
      · intro wS hSw; obtain ⟨s0, s1, s2⟩ := hSw; go_simp; (try with_reducible rfl)
      (try simp only [Act.put, List.setIfInBounds_toArray, List.set_cons_zero, List.set_cons_succ])
      refine wpAnyH_ready (rs := [10]) (by kernel_rfl) (by simp) ?_
      refine AllReadyH.cons rfl (fun KK hK => ?_) AllReadyH.nil
      have q3 : w3.cell? ⟨p, 0, none⟩ = some (.slice A L.length a) := BX.out.cell 0
      have f3 := BX.out.frozen
      go_simp
      have BX4 : Hid (Bkk (w3.setCell ⟨p, 0, none⟩ (.slice A' L2.length a')) p 62 #[.slice A' L2.length a', .func (.func 51) #[] #[]]) := BX.out.set 0 (.slice A' L2.length a')
      have OA4 := Lib.hid (OA.out.box BX.out (by decide) 0 (.slice A' L2.length a'))
      have Z4 := Lib.hid (Z3.out.setCell (p := ⟨p, 0, none⟩) HLP.out (.slice A' L2.length a'))
      have KX4 : Hid (Bkk (w3.setCell ⟨p, 0, none⟩ (.slice A' L2.length a')) xb 25 (tmCs x)) := KX3.out.far HXP.out 0 (.slice A' L2.length a')
      refine hK.out _ _ ⟨KX4.out.cell 0, KX4.out.cell 1, KX4.out.cell 2⟩ (fun hS6 => ?_)
      clear hK KK
      (try simp only [Act.put, List.setIfInBounds_toArray, List.set_cons_zero, List.set_cons_succ])
      refine wpAnyH_done (by kernel_rfl) ?_ _
      go_wp2_with (fail)
      go_meet
      case rel => exact ⟨A', a', L2, HL2.out, ⟨BX4.out, OA4.out, HLP.out⟩, Z4.out⟩
    · go_simp
      have hb : Below w1.heap.size w1 (w1.alloc (.cells (tmCs x) 25)) := (Below.refl _ _).alloc (Nat.le_refl _) _
      replace HH := Lib.hid (HH.out.below hb)
      replace KX := Lib.hid (KX.out.below hb)
      replace Z := Lib.hid (Z.out.trans (hb.mono (Nat.le_trans HLO.out Z.out.size)))
      have HRW := Lib.hid (tm_row w1 25 x)
      have LB : Hid (lo ≤ (w1.alloc (.cells (tmCs x) 25)).heap.size) := Nat.le_trans HLO.out Z.out.size
      obtain ⟨rb, hrb⟩ : ∃ X, X = w1.heap.size := ⟨_, rfl⟩
      obtain ⟨w2, hw2⟩ : ∃ X, X = w1.alloc (.cells (tmCs x) 25) := ⟨_, rfl⟩
      rw [← hw2] at HH KX Z HRW LB ⊢
      rw [← hrb] at HRW ⊢
      clear hw2 hrb hb
      have q0 : w2.cell? ⟨p, 0, none⟩ = some (.slice A L.length a) := HH.out.box.cell 0
      refine hK.out _ _ ⟨KX.out.cell 0, KX.out.cell 1, KX.out.cell 2⟩ (fun hS8 => ?_)
      clear hK KK
      (try simp only [Act.put, List.setIfInBounds_toArray, List.set_cons_zero, List.set_cons_succ])
      refine wpAnyH_ready (rs := [4]) (by kernel_rfl) (by simp) ?_
      refine AllReadyH.cons rfl (fun KK hK => ?_) AllReadyH.nil
      go_simp
      refine hK.out _ _ ⟨KX.out.cell 0, KX.out.cell 1, KX.out.cell 2⟩ (fun hS9 => ?_)
      clear hK KK
      (try simp only [Act.put, List.setIfInBounds_toArray, List.set_cons_zero, List.set_cons_succ])
      refine wpAnyH_ready (rs := [7]) (by kernel_rfl) (by simp) ?_
      refine AllReadyH.cons rfl (fun KK hK => ?_) AllReadyH.nil
      refine step_app (f := Tm.cells) (k := 3) (fun _ => rfl) (by rfl) _ _ 23 (by rfl) lo 25 I (.agg #[.int .i64 0, .int .i64 0, .int .i64 0]) 24 Try.underlying23 I1.out I2.out I3.out I4.out (by rfl) (by omega) (.slice A L.length a) L.length (L.flatMap Tm.cells) (by rfl) HH.out.row (some ⟨rb, 0, none⟩) 1 1 [x] rfl (by rfl) HRW.out (fun h => by cases h) (tm_one _) (by unfold maxLen; omega) (by omega) LB.out ?_
      intro v' w3 ho hg hp
      have hB3 : Below lo w w3 := Z.out.grown hg LB.out (fun q hq => (own_block_ge (show World.ownsRow _ _ _ _ _ _ _ from HH.out.row) q hq).1)
      have BX := Lib.hid (HH.out.box.grownV hg (fun e => HH.out.row.apart HH.out.box (by decide) e.symm))
      have KX3 := Lib.hid (KX.out.grownV hg (fun e => HNX.out e.symm))
      refine hK.out _ _ ⟨KX3.out.cell 0, KX3.out.cell 1, KX3.out.cell 2⟩ (fun hS7 => ?_)
      clear hK KK
      (try simp only [Act.put, List.setIfInBounds_toArray, List.set_cons_zero, List.set_cons_succ])
      obtain ⟨A', a', rfl, oa⟩ := OwT.push ho
      have hlen : (L ++ [x]).length = n + 1 := by rw [List.length_append, HN.out]; rfl
      obtain ⟨L2, hL2⟩ : ∃ X, X = L ++ [x] := ⟨_, rfl⟩
      rw [← hL2] at oa hlen ⊢
      have HL2 := Lib.hid hL2
      have HLN := Lib.hid hlen
      clear hL2 hlen
      have OA := Lib.hid oa
      have Z3 := Lib.hid hB3
      clear oa hB3 ho hg hp
      refine takeD 8 13 (v := ?_) rfl rfl (by kernel_rfl) (by kernel_rfl) (by kernel_rfl) (fun _ _ _ h => h) (Or.inl ⟨by rfl, ?_⟩) (by assumption) ?_
      rotate_left
      · intro wS hSw; obtain ⟨s0, s1, s2⟩ := hSw; go_simp; (try with_reducible rfl)
      (try simp only [Act.put, List.setIfInBounds_toArray, List.set_cons_zero, List.set_cons_succ])
      refine takeD 9 14 (v := ?_) rfl rfl (by kernel_rfl) (by kernel_rfl) (by kernel_rfl) (fun _ _ _ h => h) (Or.inl ⟨by rfl, ?_⟩) (by assumption) ?_
      rotate_left
      · intro wS hSw; obtain ⟨s0, s1, s2⟩ := hSw; go_simp; (try with_reducible rfl)
      (try simp only [Act.put, List.setIfInBounds_toArray, List.set_cons_zero, List.set_cons_succ])
      refine wpAnyH_ready (rs := [10]) (by kernel_rfl) (by simp) ?_
      refine AllReadyH.cons rfl (fun KK hK => ?_) AllReadyH.nil
      have q3 : w3.cell? ⟨p, 0, none⟩ = some (.slice A L.length a) := BX.out.cell 0
      have f3 := BX.out.frozen
      go_simp
      have BX4 : Hid (Bkk (w3.setCell ⟨p, 0, none⟩ (.slice A' L2.length a')) p 62 #[.slice A' L2.length a', .func (.func 51) #[] #[]]) := BX.out.set 0 (.slice A' L2.length a')
      have OA4 := Lib.hid (OA.out.box BX.out (by decide) 0 (.slice A' L2.length a'))
      have Z4 := Lib.hid (Z3.out.setCell (p := ⟨p, 0, none⟩) HLP.out (.slice A' L2.length a'))
      have KX4 : Hid (Bkk (w3.setCell ⟨p, 0, none⟩ (.slice A' L2.length a')) xb 25 (tmCs x)) := KX3.out.far HXP.out 0 (.slice A' L2.length a')
      refine hK.out _ _ ⟨KX4.out.cell 0, KX4.out.cell 1, KX4.out.cell 2⟩ (fun hS6 => ?_)
      clear hK KK
      (try simp only [Act.put, List.setIfInBounds_toArray, List.set_cons_zero, List.set_cons_succ])
      refine wpAnyH_done (by kernel_rfl) ?_ _
      go_wp2_with (fail)
      go_meet
      case rel => exact ⟨A', a', L2, HL2.out, ⟨BX4.out, OA4.out, HLP.out⟩, Z4.out⟩
  case rest =>
    obtain ⟨A', a', L2, hL2, HH2, hB⟩ := hcut
    clear HH KX Z HNX HXP I1 I2 I3 I4
    have HL2 := Lib.hid (show L2.length = n + 1 by rw [hL2, List.length_append, HN.out]; rfl)
    have HR2 := Lib.hid (show riseT L2 n = R by rw [hL2, ← HN.out]; exact HR.out)
    have HH := Lib.hid HH2
    have Z := Lib.hid hB
    clear hL2 HH2 hB HN
    have q0 : wc.cell? ⟨p, 0, none⟩ = some (.slice A' (n + 1) a') := by rw [← HL2.out]; exact HH.out.box.cell 0
    have lp := HH.out.box.lt
    have w9 : IntKind.i64.wrap (n : Int) = (n : Int) := wrap_nat n (by omega)
    have n0 : (0 : Int) ≤ (n : Int) := by omega
    go_wp2
    clear q0 lp w9
    go_loopw [4] (fun v wr => ∃ (i : Nat) (L' : List Tm), i ≤ n ∧ v = .int .i64 (i : Int) ∧ Hid (L'.length = n + 1) ∧ Hid (Hp wr lo p A' a' L') ∧ Hid (riseT L' i = R) ∧ Hid (Below lo w wr)) (fun v _ => (intOf v).toNat)
    case atStart => exact ⟨n, L2, Nat.le_refl _, rfl, HL2.out, HH.out, HR2.out, Z.out⟩
    case round =>
      clear HL2 HH HR2 Z HR
      obtain ⟨i, L', hi, rfl, HN, HH, HR, hB⟩ := hrel
      rcases i with _ | m
      · have HE := Lib.hid (show L' = R by rw [← HR.out, rise_end L' 0 (fun h => by omega)])
        have i1 : decide ((0 : Int) < ((0 : Nat) : Int)) = false := rfl
        go_wp2
        go_end0
        exact ⟨rfl, ⟨A', a', HE.out ▸ HH.out⟩, hB.out⟩
      · have i1 : (0 : Int) < (m : Int) + 1 := by omega
        obtain ⟨c, hc⟩ : ∃ c, c = m / 2 := ⟨_, rfl⟩
        have PO := Lib.hid (fun wx => parentOfC m c hc wx (by omega))
        have hcm : c ≤ m := by omega
        obtain ⟨b, hb⟩ : ∃ b, lessT (at' L' (m + 1)) (at' L' c) = b := ⟨_, rfl⟩
        have PR := Lib.hid (fun wx hx => precedesC lo p A' a' L' (m + 1) c ((m : Int) + 1) (c : Int) (by omega) rfl wx (by rw [HN.out]; unfold maxLen; omega) hx (by rw [HN.out]; omega) (by rw [HN.out]; omega) b hb)
        have SW := Lib.hid (fun wx hx => swapC lo p A' a' L' (m + 1) c ((m : Int) + 1) (c : Int) (by omega) rfl wx (by rw [HN.out]; unfold maxLen; omega) hx (by rw [HN.out]; omega) (by rw [HN.out]; omega))
        have HC := Lib.hid (show (m + 1 - 1) / 2 = c by omega)
        have HB2 := Lib.hid hb
        clear hc hb
        go_wp2_with (fail)
        refine (PO.out _).mono ?_
        rintro e w1 ⟨rfl, rfl⟩
        go_wp2_with (fail)
        refine (PR.out _ HH.out).mono ?_
        rintro e w2 ⟨rfl, h2⟩
        have HH := Lib.hid (HH.out.below h2)
        have hB := Lib.hid (hB.out.trans (h2.mono (Nat.le_trans HLO.out hB.out.size)))
        clear h2 PR
        rcases b with _ | _
        · have HE := Lib.hid (show L' = R by rw [← HR.out, rise_end L' (m + 1) (fun h => by rw [HC.out]; exact HB2.out)])
          clear SW PO
          go_wp2
          go_end0
          exact ⟨rfl, ⟨A', a', HE.out ▸ HH.out⟩, hB.out⟩
        · have HE := Lib.hid (show riseT (swp L' (m + 1) c) c = R by
            rw [← HR.out, rise_go L' (m + 1) (by omega) (by rw [HC.out]; exact HB2.out), HC.out])
          have HN2 := Lib.hid (show (swp L' (m + 1) c).length = n + 1 by rw [swp_len]; exact HN.out)
          clear HB2 HC HR HN
          go_wp2_with (fail)
          refine (PO.out _).mono ?_
          rintro e w4 ⟨rfl, rfl⟩
          go_wp2_with (fail)
          refine (SW.out _ HH.out).mono ?_
          rintro e w5 ⟨rfl, h1, h2, _⟩
          have HH := Lib.hid h1
          have hB := Lib.hid (hB.out.trans h2)
          clear h1 h2 SW
          generalize swp L' (m + 1) c = L3 at HE HN2 HH
          go_wp2_with (fail)
          refine (PO.out _).mono ?_
          rintro e w6 ⟨rfl, rfl⟩
          clear PO
          go_wp2
          go_roundw
          case rel => exact ⟨c, L3, by omega, by go_num, HN2.out, HH.out, HE.out, hB.out⟩
          case measure => (simp [intOf]; try omega)
end Go.Proofs.Ytgnemgnhjallhaa
