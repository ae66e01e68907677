/- Of a new keeper: the law. -/
import Derived.Test.YtjpbflehedbijaaRd
import Derived.Test.YtjpbflehedbijaaRf
import Derived.Test.YtjpbflehedbijaaLt
import Derived.Test.YtjpbflehedbijaaMD
namespace Go.Proofs.Ytjpbflehedbijaa
open Go.ChangeShapes Go.WideShapes Go.ChangeAt Go.RowKit
set_option linter.unusedVariables false
set_option linter.unusedSimpArgs false

theorem drawRepNew {w : World} {A : Option Addr} {n c : Nat} (hn : n ≤ 1048576) (hc : n ≤ c) (hb : InB w A n) :
    Calls Try.prog 13 #[.slice A n c] w fun e w' => ∃ v : Int, e = .returned (.int .i64 v) ∧ Below w.heap.size w w' := by
  have HB := Lib.hid hb
  clear hb
  go_enter Try.func13, Try.ntmps13
  go_wp2_with (fail)
  refine (l20Open hn hc HB.out).mono ?_
  rintro e w1 ⟨m, rfl, hr, hbl⟩
  have hlt := hr.lt
  have RD := Lib.hid (hr.below ((Below.refl w1.heap.size w1).alloc (Nat.le_refl _) (.cells #[.int .i64 0, .int .i64 1, .int .i64 2, .int .i64 3, .int .i64 4, .int .i64 (-1)] 3)))
  have BL := Lib.hid (hbl.alloc hbl.size (.cells #[.int .i64 0, .int .i64 1, .int .i64 2, .int .i64 3, .int .i64 4, .int .i64 (-1)] 3))
  have HC := Lib.hid (cells_of_ints [0, 1, 2, 3, 4, -1] (heap_alloc_new w1 (.cells #[.int .i64 0, .int .i64 1, .int .i64 2, .int .i64 3, .int .i64 4, .int .i64 (-1)] 3)))
  clear hr hbl
  go_wp2_with (fail)
  refine (oneR w1.heap.size [0, 1, 2, 3, 4, -1] RD.out (by omega) (by simp) (by simp) (by omega) HC.out).mono ?_
  rintro e w2 ⟨v, rfl, q, q0, q1, hr, hgr⟩
  have BL2 := Lib.hid (BL.out.grown hgr (by simp; omega) (by simp))
  clear hr hgr
  go_wp2
  go_ret
  exact ⟨v, rfl, BL2.out⟩

set_option maxRecDepth 100000 in
set_option maxHeartbeats 2000000 in
theorem wpClaimsNil (w : World) :
    Calls Try.prog 44 #[.slice none 0 0, .slice none 0 0] w fun e w' => e = .returned (.bool true) ∧ w = w' := by
  go_enter Try.func44, Try.ntmps44
  go_wp2
  go_loop [5] (fun i => i = .int .i64 0) (fun _ => 0)
  case atStart => rfl
  case round =>
    obtain rfl := hrel
    go_wp2
    go_light
    go_ret
    exact ⟨rfl, rfl⟩

set_option maxRecDepth 100000 in
set_option maxHeartbeats 2000000 in
theorem wpMsgsNil (w : World) :
    Calls Try.prog 45 #[.slice none 0 0, .slice none 0 0] w fun e w' => e = .returned (.bool true) ∧ w = w' := by
  go_enter Try.func45, Try.ntmps45
  go_wp2
  go_loop [5] (fun i => i = .int .i64 0) (fun _ => 0)
  case atStart => rfl
  case round =>
    obtain rfl := hrel
    go_wp2
    go_light
    go_ret
    exact ⟨rfl, rfl⟩

set_option maxRecDepth 100000 in
set_option maxHeartbeats 4000000 in
theorem wpRepNil (a : Int) (l : Bool) (n : Int) (w : World) :
    Calls Try.prog 15 #[.agg #[.int .i64 a, .int .i64 0, .bool l, .int .i64 n, .slice none 0 0, .slice none 0 0, .slice none 0 0], .agg #[.int .i64 a, .int .i64 0, .bool l, .int .i64 n, .slice none 0 0, .slice none 0 0, .slice none 0 0]] w fun e w' => e = .returned (.bool true) ∧ Below w.heap.size w w' := by
  have BW : Hid (Below w.heap.size w ((w.alloc (.cells #[.int .i64 a, .int .i64 0, .bool l, .int .i64 n, .slice none 0 0, .slice none 0 0, .slice none 0 0] 37)).alloc (.cells #[.int .i64 a, .int .i64 0, .bool l, .int .i64 n, .slice none 0 0, .slice none 0 0, .slice none 0 0] 37))) := below_alloc2 _ _ _
  have e0 : (a == a) = true := by simp
  have e1 : (l == l) = true := by simp
  have e2 : (n == n) = true := by simp
  go_enter Try.func15, Try.ntmps15
  go_wp2_with (first | (go_at_call 44; refine (wpClaimsNil _).mono ?_; rintro e w' ⟨rfl, rfl⟩) | (go_at_call 45; refine (wpMsgsNil _).mono ?_; rintro e w' ⟨rfl, rfl⟩))
  go_light
  go_ret
  exact ⟨rfl, BW.out⟩

theorem rep_new {me : Int} (h : inB me 0 3 = true) : repB (nilR me true 1) = true := by
  unfold repB
  have h1 : tkB (nilR me true 1).tk = true := decide_eq_true ⟨(fun c hc => by cases hc), List.nodup_nil⟩
  have h2 : hdB (nilR me true 1).hd = true := rfl
  have h3 : inB (nilR me true 1).me 0 3 = true := h
  have h4 : inB (nilR me true 1).v 0 6 = true := (by decide : inB 0 0 6 = true)
  have h5 : inB (nilR me true 1).nx 1 6 = true := (by decide : inB 1 1 6 = true)
  have h6 : clsB 0 (nilR me true 1).dn = true := rfl
  rw [h1, h2, h3, h4, h5, h6]
  rfl
theorem implRepListN (r : RpP) (w : World) (hr : r.rd w) (L : List Rq) (hL : listR r = L) :
    Calls Try.prog 18 #[r.val] w fun e w' => ∃ B d, e = .returned (.slice B L.length d) ∧ w'.ownsRow w.heap.size 24 5 (.slice B L.length d) L.length (L.flatMap Rq.cells) ∧ Below w.heap.size w w' := by
  subst hL
  exact implRepList r w hr
theorem list_new (a : Int) (l : Bool) (n : Int) : listR (nilR a l n) = [] := by
  unfold listR
  split <;> rfl

set_option maxRecDepth 100000 in
set_option maxHeartbeats 8000000 in
theorem lawRepNew {w : World} {A : Option Addr} {m c : Nat} (hm : m ≤ maxLen) (hc : m ≤ c) (hb : InB w A m) :
    Calls Try.prog 4 #[.slice A m c] w fun e w' => e = .returned (.bool true) ∧ Below w.heap.size w w' := by
  unfold maxLen at hm
  have HB := Lib.hid hb
  clear hb
  go_enter Try.func4, Try.ntmps4
  by_cases hn : 1048576 < m
  · have e0 : (decide ((1048576 : Int) < (m : Int))) = true := by simp; omega
    go_wp2
    go_light
    go_ret
    exact ⟨rfl, Below.refl _ _⟩
  have e0 : (decide ((1048576 : Int) < (m : Int))) = false := by simp; omega
  go_wp2_with (fail)
  refine (drawRepNew (by omega) hc HB.out).mono ?_
  rintro e w1 ⟨me, rfl, hbl⟩
  have BW := Lib.hid hbl
  clear hbl
  rcases hk : inB me 0 3 with _ | _
  · have H1 := Lib.hid (show newM me = 0 by unfold newM; rw [hk]; rfl)
    have H2 := Lib.hid hk
    have H3 := Lib.hid (show newN me = 0 by unfold newN; rw [hk]; rfl)
    clear hk
    go_wp2_with (fail)
    refine (implNew H1.out H2.out H3.out _).mono ?_
    rintro e w2 ⟨rfl, hb⟩
    have BW := Lib.hid ((Below.and BW.out hb).alloc (Below.and BW.out hb).size (.cells #[.int .i64 0, .int .i64 0, .bool false, .int .i64 0, .slice none 0 0, .slice none 0 0, .slice none 0 0] 37))
    have K3 : Hid (Blk (w2.alloc (.cells #[.int .i64 0, .int .i64 0, .bool false, .int .i64 0, .slice none 0 0, .slice none 0 0, .slice none 0 0] 37)) w2.heap.size 37 #[.int .i64 0, .int .i64 0, .bool false, .int .i64 0, .slice none 0 0, .slice none 0 0, .slice none 0 0]) := Blk.new w2
    have lk : w2.heap.size < (w2.alloc (.cells #[.int .i64 0, .int .i64 0, .bool false, .int .i64 0, .slice none 0 0, .slice none 0 0, .slice none 0 0] 37)).heap.size := by simp
    clear hb
    have x0 : (w2.alloc (.cells #[.int .i64 0, .int .i64 0, .bool false, .int .i64 0, .slice none 0 0, .slice none 0 0, .slice none 0 0] 37)).cell? ⟨w2.heap.size, 0, none⟩ = some (.int .i64 0) := K3.out.cell 0
    have x1 : (w2.alloc (.cells #[.int .i64 0, .int .i64 0, .bool false, .int .i64 0, .slice none 0 0, .slice none 0 0, .slice none 0 0] 37)).cell? ⟨w2.heap.size, 1, none⟩ = some (.int .i64 0) := K3.out.cell 1
    have x2 : (w2.alloc (.cells #[.int .i64 0, .int .i64 0, .bool false, .int .i64 0, .slice none 0 0, .slice none 0 0, .slice none 0 0] 37)).cell? ⟨w2.heap.size, 2, none⟩ = some (.bool false) := K3.out.cell 2
    have x3 : (w2.alloc (.cells #[.int .i64 0, .int .i64 0, .bool false, .int .i64 0, .slice none 0 0, .slice none 0 0, .slice none 0 0] 37)).cell? ⟨w2.heap.size, 3, none⟩ = some (.int .i64 0) := K3.out.cell 3
    have x4 : (w2.alloc (.cells #[.int .i64 0, .int .i64 0, .bool false, .int .i64 0, .slice none 0 0, .slice none 0 0, .slice none 0 0] 37)).cell? ⟨w2.heap.size, 4, none⟩ = some (.slice none 0 0) := K3.out.cell 4
    have x5 : (w2.alloc (.cells #[.int .i64 0, .int .i64 0, .bool false, .int .i64 0, .slice none 0 0, .slice none 0 0, .slice none 0 0] 37)).cell? ⟨w2.heap.size, 5, none⟩ = some (.slice none 0 0) := K3.out.cell 5
    have x6 : (w2.alloc (.cells #[.int .i64 0, .int .i64 0, .bool false, .int .i64 0, .slice none 0 0, .slice none 0 0, .slice none 0 0] 37)).cell? ⟨w2.heap.size, 6, none⟩ = some (.slice none 0 0) := K3.out.cell 6
    go_wp2_with (fail)
    refine wp_region_held_drew (S := fun w1 => Below (w2.alloc (.cells #[.int .i64 0, .int .i64 0, .bool false, .int .i64 0, .slice none 0 0, .slice none 0 0, .slice none 0 0] 37)).heap.size (w2.alloc (.cells #[.int .i64 0, .int .i64 0, .bool false, .int .i64 0, .slice none 0 0, .slice none 0 0, .slice none 0 0] 37)) w1) (by kernel_rfl) ((Below.refl _ _).drew) (fun hHeld => ?_)
    refine takeD 0 12 (v := ?_) rfl rfl (by kernel_rfl) (by kernel_rfl) (by kernel_rfl) (fun _ _ _ h => h) (Or.inl ⟨by rfl, ?_⟩) (by assumption) ?_
    rotate_left
    · intro w1 hSw; obtain ⟨hcS, hfS⟩ := bcell hSw; go_simp; (try with_reducible rfl)
    (try simp only [Act.put, List.setIfInBounds_toArray, List.set_cons_zero, List.set_cons_succ])
    refine takeD 1 13 (v := ?_) rfl rfl (by kernel_rfl) (by kernel_rfl) (by kernel_rfl) (fun _ _ _ h => h) (Or.inl ⟨by rfl, ?_⟩) (by assumption) ?_
    rotate_left
    · intro w1 hSw; obtain ⟨hcS, hfS⟩ := bcell hSw; go_simp; (try with_reducible rfl)
    (try simp only [Act.put, List.setIfInBounds_toArray, List.set_cons_zero, List.set_cons_succ])
    refine wpAnyH_ready (rs := [2]) (by kernel_rfl) (by simp) ?_
    refine AllReadyH.cons rfl (fun K hK => ?_) AllReadyH.nil
    go_simp
    refine (specNew H1.out H2.out H3.out _).mono ?_
    rintro e w3 ⟨rfl, hb⟩
    refine hK.out _ _ (Below.and hHeld hb) (fun hHeld2 => ?_)
    clear hK K
    (try simp only [Act.put, List.setIfInBounds_toArray, List.set_cons_zero, List.set_cons_succ])
    refine wpAnyH_ready (rs := [3]) (by kernel_rfl) (by simp) ?_
    refine AllReadyH.cons rfl (fun K hK => ?_) AllReadyH.nil
    go_simp
    refine (wpRepNil 0 false 0 _).mono ?_
    rintro e w4 ⟨rfl, hb⟩
    refine hK.out _ _ (Below.and hHeld2 hb) (fun hHeld3 => ?_)
    clear hK K
    (try simp only [Act.put, List.setIfInBounds_toArray, List.set_cons_zero, List.set_cons_succ])
    refine takeD 4 16 (v := ?_) rfl rfl (by kernel_rfl) (by kernel_rfl) (by kernel_rfl) (fun _ _ _ h => h) (Or.inl ⟨by rfl, ?_⟩) (by assumption) ?_
    rotate_left
    · intro w1 hSw; obtain ⟨hcS, hfS⟩ := bcell hSw; go_simp; (try with_reducible rfl)
    (try simp only [Act.put, List.setIfInBounds_toArray, List.set_cons_zero, List.set_cons_succ])
    refine takeD 5 17 (v := ?_) rfl rfl (by kernel_rfl) (by kernel_rfl) (by kernel_rfl) (fun _ _ _ h => h) (Or.inl ⟨by rfl, ?_⟩) (by assumption) ?_
    rotate_left
    · intro w1 hSw; obtain ⟨hcS, hfS⟩ := bcell hSw; go_simp; (try with_reducible rfl)
    (try simp only [Act.put, List.setIfInBounds_toArray, List.set_cons_zero, List.set_cons_succ])
    refine takeD 6 18 (v := ?_) rfl rfl (by kernel_rfl) (by kernel_rfl) (by kernel_rfl) (fun _ _ _ h => h) (Or.inl ⟨by rfl, ?_⟩) (by assumption) ?_
    rotate_left
    · intro w1 hSw; obtain ⟨hcS, hfS⟩ := bcell hSw; go_simp; (try with_reducible rfl)
    (try simp only [Act.put, List.setIfInBounds_toArray, List.set_cons_zero, List.set_cons_succ])
    refine takeD 7 19 (v := ?_) rfl rfl (by kernel_rfl) (by kernel_rfl) (by kernel_rfl) (fun _ _ _ h => h) (Or.inl ⟨by rfl, ?_⟩) (by assumption) ?_
    rotate_left
    · intro w1 hSw; obtain ⟨hcS, hfS⟩ := bcell hSw; go_simp; (try with_reducible rfl)
    (try simp only [Act.put, List.setIfInBounds_toArray, List.set_cons_zero, List.set_cons_succ])
    refine takeD 8 20 (v := ?_) rfl rfl (by kernel_rfl) (by kernel_rfl) (by kernel_rfl) (fun _ _ _ h => h) (Or.inl ⟨by rfl, ?_⟩) (by assumption) ?_
    rotate_left
    · intro w1 hSw; obtain ⟨hcS, hfS⟩ := bcell hSw; go_simp; (try with_reducible rfl)
    (try simp only [Act.put, List.setIfInBounds_toArray, List.set_cons_zero, List.set_cons_succ])
    refine takeD 9 21 (v := ?_) rfl rfl (by kernel_rfl) (by kernel_rfl) (by kernel_rfl) (fun _ _ _ h => h) (Or.inl ⟨by rfl, ?_⟩) (by assumption) ?_
    rotate_left
    · intro w1 hSw; obtain ⟨hcS, hfS⟩ := bcell hSw; go_simp; (try with_reducible rfl)
    (try simp only [Act.put, List.setIfInBounds_toArray, List.set_cons_zero, List.set_cons_succ])
    refine wpAnyH_done (by kernel_rfl) ?_ _
    have BW := Lib.hid (Below.and BW.out hHeld3)
    have K3 := Lib.hid (K3.out.below hHeld3)
    clear x0 x1 x2 x3 x4 x5 x6
    clear hHeld3
    have x0 : w4.cell? ⟨w2.heap.size, 0, none⟩ = some (.int .i64 0) := K3.out.cell 0
    have x1 : w4.cell? ⟨w2.heap.size, 1, none⟩ = some (.int .i64 0) := K3.out.cell 1
    have x2 : w4.cell? ⟨w2.heap.size, 2, none⟩ = some (.bool false) := K3.out.cell 2
    have x3 : w4.cell? ⟨w2.heap.size, 3, none⟩ = some (.int .i64 0) := K3.out.cell 3
    have x4 : w4.cell? ⟨w2.heap.size, 4, none⟩ = some (.slice none 0 0) := K3.out.cell 4
    have x5 : w4.cell? ⟨w2.heap.size, 5, none⟩ = some (.slice none 0 0) := K3.out.cell 5
    have x6 : w4.cell? ⟨w2.heap.size, 6, none⟩ = some (.slice none 0 0) := K3.out.cell 6
    have lk := K3.out.lt
    go_wp2_with (fail)
    refine wp_region_held_drew (S := fun w1 => Below w4.heap.size w4 w1) (by kernel_rfl) ((Below.refl _ _).drew) (fun hHeld => ?_)
    refine takeD 0 22 (v := ?_) rfl rfl (by kernel_rfl) (by kernel_rfl) (by kernel_rfl) (fun _ _ _ h => h) (Or.inl ⟨by rfl, ?_⟩) (by assumption) ?_
    rotate_left
    · intro w1 hSw; obtain ⟨hcS, hfS⟩ := bcell hSw; go_simp; (try with_reducible rfl)
    (try simp only [Act.put, List.setIfInBounds_toArray, List.set_cons_zero, List.set_cons_succ])
    refine takeD 1 23 (v := ?_) rfl rfl (by kernel_rfl) (by kernel_rfl) (by kernel_rfl) (fun _ _ _ h => h) (Or.inl ⟨by rfl, ?_⟩) (by assumption) ?_
    rotate_left
    · intro w1 hSw; obtain ⟨hcS, hfS⟩ := bcell hSw; go_simp; (try with_reducible rfl)
    (try simp only [Act.put, List.setIfInBounds_toArray, List.set_cons_zero, List.set_cons_succ])
    refine wpAnyH_ready (rs := [2]) (by kernel_rfl) (by simp) ?_
    refine AllReadyH.cons rfl (fun K hK => ?_) AllReadyH.nil
    go_simp
    refine (specNew H1.out H2.out H3.out _).mono ?_
    rintro e w5 ⟨rfl, hb⟩
    refine hK.out _ _ (Below.and hHeld hb) (fun hHeld2 => ?_)
    clear hK K
    (try simp only [Act.put, List.setIfInBounds_toArray, List.set_cons_zero, List.set_cons_succ])
    refine wpAnyH_ready (rs := [3]) (by kernel_rfl) (by simp) ?_
    refine AllReadyH.cons rfl (fun K hK => ?_) AllReadyH.nil
    go_simp
    refine (wpRepNil 0 false 0 _).mono ?_
    rintro e w6 ⟨rfl, hb⟩
    refine hK.out _ _ (Below.and hHeld2 hb) (fun hHeld3 => ?_)
    clear hK K
    (try simp only [Act.put, List.setIfInBounds_toArray, List.set_cons_zero, List.set_cons_succ])
    refine takeD 4 2 (v := ?_) rfl rfl (by kernel_rfl) (by kernel_rfl) (by kernel_rfl) (fun _ _ _ h => h) (Or.inl ⟨by rfl, ?_⟩) (by assumption) ?_
    rotate_left
    · intro w1 hSw; obtain ⟨hcS, hfS⟩ := bcell hSw; go_simp; (try with_reducible rfl)
    (try simp only [Act.put, List.setIfInBounds_toArray, List.set_cons_zero, List.set_cons_succ])
    refine wpAnyH_done (by kernel_rfl) ?_ _
    have BW := Lib.hid (Below.and BW.out hHeld3)
    go_wp2
    go_light
    go_ret
    exact ⟨rfl, BW.out⟩
  · have H1 := Lib.hid (show newM me = me by unfold newM; rw [hk]; rfl)
    have H2 := Lib.hid hk
    have H3 := Lib.hid (show newN me = 1 by unfold newN; rw [hk]; rfl)
    clear hk
    go_wp2_with (fail)
    refine (implNew H1.out H2.out H3.out _).mono ?_
    rintro e w2 ⟨rfl, hb⟩
    have BW := Lib.hid ((Below.and BW.out hb).alloc (Below.and BW.out hb).size (.cells #[.int .i64 me, .int .i64 0, .bool true, .int .i64 1, .slice none 0 0, .slice none 0 0, .slice none 0 0] 37))
    have K3 : Hid (Blk (w2.alloc (.cells #[.int .i64 me, .int .i64 0, .bool true, .int .i64 1, .slice none 0 0, .slice none 0 0, .slice none 0 0] 37)) w2.heap.size 37 #[.int .i64 me, .int .i64 0, .bool true, .int .i64 1, .slice none 0 0, .slice none 0 0, .slice none 0 0]) := Blk.new w2
    have lk : w2.heap.size < (w2.alloc (.cells #[.int .i64 me, .int .i64 0, .bool true, .int .i64 1, .slice none 0 0, .slice none 0 0, .slice none 0 0] 37)).heap.size := by simp
    clear hb
    have x0 : (w2.alloc (.cells #[.int .i64 me, .int .i64 0, .bool true, .int .i64 1, .slice none 0 0, .slice none 0 0, .slice none 0 0] 37)).cell? ⟨w2.heap.size, 0, none⟩ = some (.int .i64 me) := K3.out.cell 0
    have x1 : (w2.alloc (.cells #[.int .i64 me, .int .i64 0, .bool true, .int .i64 1, .slice none 0 0, .slice none 0 0, .slice none 0 0] 37)).cell? ⟨w2.heap.size, 1, none⟩ = some (.int .i64 0) := K3.out.cell 1
    have x2 : (w2.alloc (.cells #[.int .i64 me, .int .i64 0, .bool true, .int .i64 1, .slice none 0 0, .slice none 0 0, .slice none 0 0] 37)).cell? ⟨w2.heap.size, 2, none⟩ = some (.bool true) := K3.out.cell 2
    have x3 : (w2.alloc (.cells #[.int .i64 me, .int .i64 0, .bool true, .int .i64 1, .slice none 0 0, .slice none 0 0, .slice none 0 0] 37)).cell? ⟨w2.heap.size, 3, none⟩ = some (.int .i64 1) := K3.out.cell 3
    have x4 : (w2.alloc (.cells #[.int .i64 me, .int .i64 0, .bool true, .int .i64 1, .slice none 0 0, .slice none 0 0, .slice none 0 0] 37)).cell? ⟨w2.heap.size, 4, none⟩ = some (.slice none 0 0) := K3.out.cell 4
    have x5 : (w2.alloc (.cells #[.int .i64 me, .int .i64 0, .bool true, .int .i64 1, .slice none 0 0, .slice none 0 0, .slice none 0 0] 37)).cell? ⟨w2.heap.size, 5, none⟩ = some (.slice none 0 0) := K3.out.cell 5
    have x6 : (w2.alloc (.cells #[.int .i64 me, .int .i64 0, .bool true, .int .i64 1, .slice none 0 0, .slice none 0 0, .slice none 0 0] 37)).cell? ⟨w2.heap.size, 6, none⟩ = some (.slice none 0 0) := K3.out.cell 6
    go_wp2_with (fail)
    refine wp_region_held_drew (S := fun w1 => Below (w2.alloc (.cells #[.int .i64 me, .int .i64 0, .bool true, .int .i64 1, .slice none 0 0, .slice none 0 0, .slice none 0 0] 37)).heap.size (w2.alloc (.cells #[.int .i64 me, .int .i64 0, .bool true, .int .i64 1, .slice none 0 0, .slice none 0 0, .slice none 0 0] 37)) w1) (by kernel_rfl) ((Below.refl _ _).drew) (fun hHeld => ?_)
    refine takeD 0 12 (v := ?_) rfl rfl (by kernel_rfl) (by kernel_rfl) (by kernel_rfl) (fun _ _ _ h => h) (Or.inl ⟨by rfl, ?_⟩) (by assumption) ?_
    rotate_left
    · intro w1 hSw; obtain ⟨hcS, hfS⟩ := bcell hSw; go_simp; (try with_reducible rfl)
    (try simp only [Act.put, List.setIfInBounds_toArray, List.set_cons_zero, List.set_cons_succ])
    refine takeD 1 13 (v := ?_) rfl rfl (by kernel_rfl) (by kernel_rfl) (by kernel_rfl) (fun _ _ _ h => h) (Or.inl ⟨by rfl, ?_⟩) (by assumption) ?_
    rotate_left
    · intro w1 hSw; obtain ⟨hcS, hfS⟩ := bcell hSw; go_simp; (try with_reducible rfl)
    (try simp only [Act.put, List.setIfInBounds_toArray, List.set_cons_zero, List.set_cons_succ])
    refine wpAnyH_ready (rs := [2]) (by kernel_rfl) (by simp) ?_
    refine AllReadyH.cons rfl (fun K hK => ?_) AllReadyH.nil
    go_simp
    refine (specNew H1.out H2.out H3.out _).mono ?_
    rintro e w3 ⟨rfl, hb⟩
    refine hK.out _ _ (Below.and hHeld hb) (fun hHeld2 => ?_)
    clear hK K
    (try simp only [Act.put, List.setIfInBounds_toArray, List.set_cons_zero, List.set_cons_succ])
    refine wpAnyH_ready (rs := [3]) (by kernel_rfl) (by simp) ?_
    refine AllReadyH.cons rfl (fun K hK => ?_) AllReadyH.nil
    go_simp
    refine (wpRepNil me true 1 _).mono ?_
    rintro e w4 ⟨rfl, hb⟩
    refine hK.out _ _ (Below.and hHeld2 hb) (fun hHeld3 => ?_)
    clear hK K
    (try simp only [Act.put, List.setIfInBounds_toArray, List.set_cons_zero, List.set_cons_succ])
    refine takeD 4 16 (v := ?_) rfl rfl (by kernel_rfl) (by kernel_rfl) (by kernel_rfl) (fun _ _ _ h => h) (Or.inl ⟨by rfl, ?_⟩) (by assumption) ?_
    rotate_left
    · intro w1 hSw; obtain ⟨hcS, hfS⟩ := bcell hSw; go_simp; (try with_reducible rfl)
    (try simp only [Act.put, List.setIfInBounds_toArray, List.set_cons_zero, List.set_cons_succ])
    refine takeD 5 17 (v := ?_) rfl rfl (by kernel_rfl) (by kernel_rfl) (by kernel_rfl) (fun _ _ _ h => h) (Or.inl ⟨by rfl, ?_⟩) (by assumption) ?_
    rotate_left
    · intro w1 hSw; obtain ⟨hcS, hfS⟩ := bcell hSw; go_simp; (try with_reducible rfl)
    (try simp only [Act.put, List.setIfInBounds_toArray, List.set_cons_zero, List.set_cons_succ])
    refine takeD 6 18 (v := ?_) rfl rfl (by kernel_rfl) (by kernel_rfl) (by kernel_rfl) (fun _ _ _ h => h) (Or.inl ⟨by rfl, ?_⟩) (by assumption) ?_
    rotate_left
    · intro w1 hSw; obtain ⟨hcS, hfS⟩ := bcell hSw; go_simp; (try with_reducible rfl)
    (try simp only [Act.put, List.setIfInBounds_toArray, List.set_cons_zero, List.set_cons_succ])
    refine takeD 7 19 (v := ?_) rfl rfl (by kernel_rfl) (by kernel_rfl) (by kernel_rfl) (fun _ _ _ h => h) (Or.inl ⟨by rfl, ?_⟩) (by assumption) ?_
    rotate_left
    · intro w1 hSw; obtain ⟨hcS, hfS⟩ := bcell hSw; go_simp; (try with_reducible rfl)
    (try simp only [Act.put, List.setIfInBounds_toArray, List.set_cons_zero, List.set_cons_succ])
    refine takeD 8 20 (v := ?_) rfl rfl (by kernel_rfl) (by kernel_rfl) (by kernel_rfl) (fun _ _ _ h => h) (Or.inl ⟨by rfl, ?_⟩) (by assumption) ?_
    rotate_left
    · intro w1 hSw; obtain ⟨hcS, hfS⟩ := bcell hSw; go_simp; (try with_reducible rfl)
    (try simp only [Act.put, List.setIfInBounds_toArray, List.set_cons_zero, List.set_cons_succ])
    refine takeD 9 21 (v := ?_) rfl rfl (by kernel_rfl) (by kernel_rfl) (by kernel_rfl) (fun _ _ _ h => h) (Or.inl ⟨by rfl, ?_⟩) (by assumption) ?_
    rotate_left
    · intro w1 hSw; obtain ⟨hcS, hfS⟩ := bcell hSw; go_simp; (try with_reducible rfl)
    (try simp only [Act.put, List.setIfInBounds_toArray, List.set_cons_zero, List.set_cons_succ])
    refine wpAnyH_done (by kernel_rfl) ?_ _
    have BW := Lib.hid (Below.and BW.out hHeld3)
    have K3 := Lib.hid (K3.out.below hHeld3)
    clear x0 x1 x2 x3 x4 x5 x6
    clear hHeld3
    have x0 : w4.cell? ⟨w2.heap.size, 0, none⟩ = some (.int .i64 me) := K3.out.cell 0
    have x1 : w4.cell? ⟨w2.heap.size, 1, none⟩ = some (.int .i64 0) := K3.out.cell 1
    have x2 : w4.cell? ⟨w2.heap.size, 2, none⟩ = some (.bool true) := K3.out.cell 2
    have x3 : w4.cell? ⟨w2.heap.size, 3, none⟩ = some (.int .i64 1) := K3.out.cell 3
    have x4 : w4.cell? ⟨w2.heap.size, 4, none⟩ = some (.slice none 0 0) := K3.out.cell 4
    have x5 : w4.cell? ⟨w2.heap.size, 5, none⟩ = some (.slice none 0 0) := K3.out.cell 5
    have x6 : w4.cell? ⟨w2.heap.size, 6, none⟩ = some (.slice none 0 0) := K3.out.cell 6
    have lk := K3.out.lt
    go_wp2_with (fail)
    refine (implRepOk (nilR me true 1) _ (nilR_rd _ _ _ _)).mono ?_
    rintro e w5 ⟨rfl, hb⟩
    rw [rep_new H2.out]
    have BW := Lib.hid (Below.and BW.out hb)
    have K3 := Lib.hid (K3.out.below hb)
    clear x0 x1 x2 x3 x4 x5 x6
    clear hb
    have x0 : w5.cell? ⟨w2.heap.size, 0, none⟩ = some (.int .i64 me) := K3.out.cell 0
    have x1 : w5.cell? ⟨w2.heap.size, 1, none⟩ = some (.int .i64 0) := K3.out.cell 1
    have x2 : w5.cell? ⟨w2.heap.size, 2, none⟩ = some (.bool true) := K3.out.cell 2
    have x3 : w5.cell? ⟨w2.heap.size, 3, none⟩ = some (.int .i64 1) := K3.out.cell 3
    have x4 : w5.cell? ⟨w2.heap.size, 4, none⟩ = some (.slice none 0 0) := K3.out.cell 4
    have x5 : w5.cell? ⟨w2.heap.size, 5, none⟩ = some (.slice none 0 0) := K3.out.cell 5
    have x6 : w5.cell? ⟨w2.heap.size, 6, none⟩ = some (.slice none 0 0) := K3.out.cell 6
    have e1 : (me == me) = true := by simp
    go_wp2_with (fail)
    refine (implRepListN (nilR me true 1) _ (nilR_rd _ _ _ _) [] (list_new _ _ _)).mono ?_
    rintro e w6 ⟨B, d, rfl, ho, hb⟩
    have BW := Lib.hid (Below.and BW.out hb)
    have K3 := Lib.hid (K3.out.below hb)
    clear x0 x1 x2 x3 x4 x5 x6
    clear hb ho
    have x0 : w6.cell? ⟨w2.heap.size, 0, none⟩ = some (.int .i64 me) := K3.out.cell 0
    have x1 : w6.cell? ⟨w2.heap.size, 1, none⟩ = some (.int .i64 0) := K3.out.cell 1
    have x2 : w6.cell? ⟨w2.heap.size, 2, none⟩ = some (.bool true) := K3.out.cell 2
    have x3 : w6.cell? ⟨w2.heap.size, 3, none⟩ = some (.int .i64 1) := K3.out.cell 3
    have x4 : w6.cell? ⟨w2.heap.size, 4, none⟩ = some (.slice none 0 0) := K3.out.cell 4
    have x5 : w6.cell? ⟨w2.heap.size, 5, none⟩ = some (.slice none 0 0) := K3.out.cell 5
    have x6 : w6.cell? ⟨w2.heap.size, 6, none⟩ = some (.slice none 0 0) := K3.out.cell 6
    go_wp2
    go_light
    go_ret
    exact ⟨rfl, BW.out⟩

end Go.Proofs.Ytjpbflehedbijaa
