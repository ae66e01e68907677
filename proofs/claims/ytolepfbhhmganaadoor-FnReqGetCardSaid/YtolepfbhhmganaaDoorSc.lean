/- Requests as texts: the program's side. -/
import Derived.Test.YtolepfbhhmganaaDoorSb
import Derived.Test.YtolepfbhhmganaaDoorShelf
import Derived.Test.YtolepfbhhmganaaDoorBk
import Derived.Lib.SmallJoins
import Derived.Lib.ItoaMem
namespace Go.Proofs.YtolepfbhhmganaaDoor
open Go.ChangeShapes Go.WideShapes Go.ChangeAt Go.RowKit
set_option linter.unusedVariables false
set_option linter.unusedSimpArgs false

/-- The library's table of powers lies there. -/
def Tab (w : World) : Prop := Lib.TabIs Tryd.prog w "internal/strconv.uint64pow10" .u64 Lib.pow10Tab
theorem gTab0 : (Tryd.prog.globalNamed "internal/strconv.uint64pow10").isSome = true := by kernel_rfl
theorem gTab : ∃ g, Tryd.prog.globalNamed "internal/strconv.uint64pow10" = some g := Option.isSome_iff_exists.1 gTab0
theorem Tab.below {w w' : World} (h : Tab w) (hb : Below w.heap.size w w') : Tab w' := by
  obtain ⟨g, hg⟩ := gTab
  exact Joins.tab_stays hg h hb (Nat.le_refl _)
theorem below_grow (w : World) (k : Nat) (os : Array Obj) : Below w.heap.size w (Sort.grow (w.drewN k) os) :=
  ⟨rfl, rfl, rfl, by simp [Sort.grow, World.drewN], fun i hi => by simp [Sort.grow, World.drewN, Array.getElem?_append, hi]⟩
theorem itoaC (n : Int) (w : World) (h0 : -1000 ≤ n) (h1 : n ≤ 99) (ht : Tab w) :
    Calls Tryd.prog 22 #[.int .i64 n] w fun e w' => e = .returned (bsV (Lib.itoa n)) ∧ Below w.heap.size w w' := by
  by_cases hn : 0 ≤ n
  · obtain ⟨i, rfl⟩ := Int.eq_ofNat_of_zero_le hn
    refine (Tryd.strconv_Itoa_small i (by omega) w).mono fun e w' ⟨he, hw⟩ => ⟨?_, ?_⟩
    · rw [he, itoa_nonneg hn]; rfl
    · rw [hw]; exact Below.refl _ _
  · refine (Tryd.strconv_Itoa n (by omega) (by omega) w ht).mono fun e w' ⟨he, k, os, hw⟩ => ⟨he, ?_⟩
    rw [hw]; exact below_grow w k os

theorem join_put (c n : Int) (k : Nat) (x y : Int) : Lib.join (([⟨(Lib.itoa c).toArray⟩, ⟨(Lib.itoa n).toArray⟩, ⟨(wordN k).toArray⟩, ⟨(Lib.itoa x).toArray⟩, ⟨(Lib.itoa y).toArray⟩] : List ByteArray).map (·.data.toList)) ([32] : List UInt8) = putN c n k x y := by
  simp only [List.map_cons, List.map_nil]
  rw [Lib.join_cons]
  simp [Lib.joinTail, putN, cat]
theorem putN_len (c n : Int) (k : Nat) (x y : Int) (c0 : -1000 ≤ c) (c1 : c ≤ 1000) (n0 : -1000 ≤ n) (n1 : n ≤ 1000) (x0 : -1000 ≤ x) (x1 : x ≤ 1000) (y0 : -1000 ≤ y) (y1 : y ≤ 1000) : (putN c n k x y).length ≤ 100 := by
  have l1 := itoa_len c (by omega) (by omega)
  have l2 := itoa_len n (by omega) (by omega)
  have l3 := itoa_len x (by omega) (by omega)
  have l4 := itoa_len y (by omega) (by omega)
  have l5 := wordN_len k
  unfold putN
  simp only [cat_len, List.length_cons, List.length_nil]
  omega
theorem word1 (w : World) : Calls Tryd.prog 104 #[.agg #[]] w fun e w' => e = .returned (bsV (wordN 1)) ∧ Below w.heap.size w w' := by
  go_enter Tryd.func104, Tryd.ntmps104
  go_wp2
  go_ret
  exact ⟨rfl, (Below.refl _ _).alloc (Nat.le_refl _) _⟩
theorem method_word1 (w : World) : (method 240 60 (.agg #[]) "loop.example/wapentake/impl.word").run Tryd.prog w = .ok (104, .agg #[]) w := by kernel_rfl
set_option maxRecDepth 100000 in
set_option maxHeartbeats 4000000 in
theorem implPut1 (c n x y : Int) (w : World) (hq : reqB c n 1 x y = true) (c0 : 0 ≤ c) (c1 : c ≤ 99) (n0 : 0 ≤ n) (n1 : n ≤ 99) (x0 : -1000 ≤ x) (x1 : x ≤ 99) (y0 : -1000 ≤ y) (y1 : y ≤ 99) (ht : Tab w) :
    Calls Tryd.prog 9 #[.agg #[.int .i64 c, .int .i64 n, .int .i64 1, .int .i64 x, .int .i64 y]] w fun e w' => e = .returned (bsV (putN c n 1 x y)) ∧ Below w.heap.size w w' := by
  have B0 : Hid (Below w.heap.size w (w.alloc (.cells #[.int .i64 c, .int .i64 n, .int .i64 1, .int .i64 x, .int .i64 y] 25))) := (Below.refl _ _).alloc (Nat.le_refl _) _
  have TB := Lib.hid ht
  have HQ := Lib.hid hq
  have HN := Lib.hid (show nullB ⟨c, n, 1, x, y⟩ = false by unfold nullB; rw [decide_eq_false]; intro h; injection h with _ _ h; omega)
  have hd : deedT 1 = .iface 60 (.agg #[]) := rfl
  have hi : inB 1 1 5 = true := rfl
  have hm := method_word1
  clear ht hq
  go_enter Tryd.func9, Tryd.ntmps9
  go_wp2_with (fail)
  refine (isNull ⟨c, n, 1, x, y⟩ _).mono ?_
  rintro e w1 ⟨rfl, hb⟩
  rw [HN.out]
  obtain ⟨hc1, hf1⟩ := bcell hb
  have hz1 : w.heap.size < w1.heap.size := by have := hb.size; simp at this; omega
  have B1 := Lib.hid (Below.and B0.out hb)
  have K1 := Lib.hid ((Bkk.new (t := 25) (cs := #[.int .i64 c, .int .i64 n, .int .i64 1, .int .i64 x, .int .i64 y]) w).below hb)
  go_wp2_with (first | (go_at_call 21; refine (deedOf _ _).mono ?_; rintro e w' ⟨rfl, rfl⟩; rw [hd, hi]))
  refine (implReqOk c n 1 x y _).mono ?_
  rintro e w2 ⟨rfl, hb2⟩
  rw [HQ.out]
  have BW := Lib.hid (Below.and B1.out hb2)
  have K2 := Lib.hid (K1.out.below hb2)
  clear hb hc1 hf1 hz1 hb2
  have hz2 : w.heap.size < w2.heap.size := K2.out.lt
  have x0' : w2.cell? ⟨w.heap.size, 0, none⟩ = some (.int .i64 c) := K2.out.cell 0
  have x1' : w2.cell? ⟨w.heap.size, 1, none⟩ = some (.int .i64 n) := K2.out.cell 1
  have x2' : w2.cell? ⟨w.heap.size, 2, none⟩ = some (.int .i64 1) := K2.out.cell 2
  have x3' : w2.cell? ⟨w.heap.size, 3, none⟩ = some (.int .i64 x) := K2.out.cell 3
  have x4' : w2.cell? ⟨w.heap.size, 4, none⟩ = some (.int .i64 y) := K2.out.cell 4
  go_wp2_with (fail)
  refine wp_region_held_drew (S := fun w1 => Below w2.heap.size w2 w1) (by kernel_rfl) ((Below.refl _ _).drew) (fun hH => ?_)
  refine takeD 0 21 (v := ?_) rfl rfl (by kernel_rfl) (by kernel_rfl) (by kernel_rfl) (fun _ _ _ h => h) (Or.inl ⟨by rfl, ?_⟩) (by assumption) ?_
  rotate_left
  · intro w1 hSw; obtain ⟨hcS, hfS⟩ := bcell hSw; go_simp; (try with_reducible rfl)
  (try simp only [Act.put, List.setIfInBounds_toArray, List.set_cons_zero, List.set_cons_succ])
  refine takeD 1 22 (v := ?_) rfl rfl (by kernel_rfl) (by kernel_rfl) (by kernel_rfl) (fun _ _ _ h => h) (Or.inl ⟨by rfl, ?_⟩) (by assumption) ?_
  rotate_left
  · intro w1 hSw; obtain ⟨hcS, hfS⟩ := bcell hSw; go_simp; (try with_reducible rfl)
  (try simp only [Act.put, List.setIfInBounds_toArray, List.set_cons_zero, List.set_cons_succ])
  refine takeD 3 24 (v := ?_) rfl rfl (by kernel_rfl) (by kernel_rfl) (by kernel_rfl) (fun _ _ _ h => h) (Or.inl ⟨by rfl, ?_⟩) (by assumption) ?_
  rotate_left
  · intro w1 hSw; obtain ⟨hcS, hfS⟩ := bcell hSw; go_simp; (try with_reducible rfl)
  (try simp only [Act.put, List.setIfInBounds_toArray, List.set_cons_zero, List.set_cons_succ])
  refine takeD 4 25 (v := ?_) rfl rfl (by kernel_rfl) (by kernel_rfl) (by kernel_rfl) (fun _ _ _ h => h) (Or.inl ⟨by rfl, ?_⟩) (by assumption) ?_
  rotate_left
  · intro w1 hSw; obtain ⟨hcS, hfS⟩ := bcell hSw; go_simp; (try with_reducible rfl)
  (try simp only [Act.put, List.setIfInBounds_toArray, List.set_cons_zero, List.set_cons_succ])
  refine takeD 6 27 (v := ?_) rfl rfl (by kernel_rfl) (by kernel_rfl) (by kernel_rfl) (fun _ _ _ h => h) (Or.inl ⟨by rfl, ?_⟩) (by assumption) ?_
  rotate_left
  · intro w1 hSw; obtain ⟨hcS, hfS⟩ := bcell hSw; go_simp; (try with_reducible rfl)
  (try simp only [Act.put, List.setIfInBounds_toArray, List.set_cons_zero, List.set_cons_succ])
  refine takeD 8 29 (v := ?_) rfl rfl (by kernel_rfl) (by kernel_rfl) (by kernel_rfl) (fun _ _ _ h => h) (Or.inl ⟨by rfl, ?_⟩) (by assumption) ?_
  rotate_left
  · intro w1 hSw; obtain ⟨hcS, hfS⟩ := bcell hSw; go_simp; (try with_reducible rfl)
  (try simp only [Act.put, List.setIfInBounds_toArray, List.set_cons_zero, List.set_cons_succ])
  refine takeD 9 30 (v := ?_) rfl rfl (by kernel_rfl) (by kernel_rfl) (by kernel_rfl) (fun _ _ _ h => h) (Or.inl ⟨by rfl, ?_⟩) (by assumption) ?_
  rotate_left
  · intro w1 hSw; obtain ⟨hcS, hfS⟩ := bcell hSw; go_simp; (try with_reducible rfl)
  (try simp only [Act.put, List.setIfInBounds_toArray, List.set_cons_zero, List.set_cons_succ])
  refine takeD 11 32 (v := ?_) rfl rfl (by kernel_rfl) (by kernel_rfl) (by kernel_rfl) (fun _ _ _ h => h) (Or.inl ⟨by rfl, ?_⟩) (by assumption) ?_
  rotate_left
  · intro w1 hSw; obtain ⟨hcS, hfS⟩ := bcell hSw; go_simp; (try with_reducible rfl)
  (try simp only [Act.put, List.setIfInBounds_toArray, List.set_cons_zero, List.set_cons_succ])
  refine takeD 12 33 (v := ?_) rfl rfl (by kernel_rfl) (by kernel_rfl) (by kernel_rfl) (fun _ _ _ h => h) (Or.inl ⟨by rfl, ?_⟩) (by assumption) ?_
  rotate_left
  · intro w1 hSw; obtain ⟨hcS, hfS⟩ := bcell hSw; go_simp; (try with_reducible rfl)
  (try simp only [Act.put, List.setIfInBounds_toArray, List.set_cons_zero, List.set_cons_succ])
  refine wpAnyH_ready (rs := [2]) (by kernel_rfl) (by simp) ?_
  refine AllReadyH.cons rfl (fun K hK => ?_) AllReadyH.nil
  go_simp
  refine (itoaC c _ (by omega) (by omega) (TB.out.below (Below.and BW.out hH))).mono ?_
  rintro e w3 ⟨rfl, hb⟩
  refine hK.out _ _ (Below.and hH hb) (fun hH2 => ?_)
  clear hK K
  (try simp only [Act.put, List.setIfInBounds_toArray, List.set_cons_zero, List.set_cons_succ])
  refine wpAnyH_ready (rs := [5]) (by kernel_rfl) (by simp) ?_
  refine AllReadyH.cons rfl (fun K hK => ?_) AllReadyH.nil
  go_simp
  refine (itoaC n _ (by omega) (by omega) (TB.out.below (Below.and BW.out hH2))).mono ?_
  rintro e w4 ⟨rfl, hb⟩
  refine hK.out _ _ (Below.and hH2 hb) (fun hH3 => ?_)
  clear hK K
  (try simp only [Act.put, List.setIfInBounds_toArray, List.set_cons_zero, List.set_cons_succ])
  refine wpAnyH_ready (rs := [7]) (by kernel_rfl) (by simp) ?_
  refine AllReadyH.cons rfl (fun K hK => ?_) AllReadyH.nil
  go_simp
  refine (word1 _).mono ?_
  rintro e w5 ⟨rfl, hb⟩
  refine hK.out _ _ (Below.and hH3 hb) (fun hH4 => ?_)
  clear hK K
  (try simp only [Act.put, List.setIfInBounds_toArray, List.set_cons_zero, List.set_cons_succ])
  refine wpAnyH_ready (rs := [10]) (by kernel_rfl) (by simp) ?_
  refine AllReadyH.cons rfl (fun K hK => ?_) AllReadyH.nil
  go_simp
  refine (itoaC x _ (by omega) (by omega) (TB.out.below (Below.and BW.out hH4))).mono ?_
  rintro e w6 ⟨rfl, hb⟩
  refine hK.out _ _ (Below.and hH4 hb) (fun hH5 => ?_)
  clear hK K
  (try simp only [Act.put, List.setIfInBounds_toArray, List.set_cons_zero, List.set_cons_succ])
  refine wpAnyH_ready (rs := [13]) (by kernel_rfl) (by simp) ?_
  refine AllReadyH.cons rfl (fun K hK => ?_) AllReadyH.nil
  go_simp
  refine (itoaC y _ (by omega) (by omega) (TB.out.below (Below.and BW.out hH5))).mono ?_
  rintro e w7 ⟨rfl, hb⟩
  refine hK.out _ _ (Below.and hH5 hb) (fun hH6 => ?_)
  clear hK K
  (try simp only [Act.put, List.setIfInBounds_toArray, List.set_cons_zero, List.set_cons_succ])
  refine wpAnyH_ready (rs := [14]) (by kernel_rfl) (by simp) ?_
  refine AllReadyH.cons rfl (fun K hK => ?_) AllReadyH.nil
  go_simp
  refine hK.out _ _ (hH6.alloc hH6.size _) (fun hH7 => ?_)
  clear hK K
  (try simp only [Act.put, List.setIfInBounds_toArray, List.set_cons_zero, List.set_cons_succ])
  refine takeD 15 5 (v := ?_) rfl rfl (by kernel_rfl) (by kernel_rfl) (by kernel_rfl) (fun _ _ _ h => h) (Or.inl ⟨by rfl, ?_⟩) (by assumption) ?_
  rotate_left
  · intro w1 hSw; obtain ⟨hcS, hfS⟩ := bcell hSw; go_simp; (try with_reducible rfl)
  (try simp only [Act.put, List.setIfInBounds_toArray, List.set_cons_zero, List.set_cons_succ])
  refine wpAnyH_done (by kernel_rfl) ?_ _
  have BX := Lib.hid (Below.and BW.out hH7)
  have KJ : Hid (Bkk (w7.alloc (.cells #[.string ⟨(Lib.itoa c).toArray⟩, .string ⟨(Lib.itoa n).toArray⟩, .string ⟨(wordN 1).toArray⟩, .string ⟨(Lib.itoa x).toArray⟩, .string ⟨(Lib.itoa y).toArray⟩] 9)) w7.heap.size 9 #[.string ⟨(Lib.itoa c).toArray⟩, .string ⟨(Lib.itoa n).toArray⟩, .string ⟨(wordN 1).toArray⟩, .string ⟨(Lib.itoa x).toArray⟩, .string ⟨(Lib.itoa y).toArray⟩]) := Bkk.new w7
  clear hH hH2 hH3 hH4 hH5 hH6 hH7
  have HE := Lib.hid (show Lib.join (([⟨(Lib.itoa c).toArray⟩, ⟨(Lib.itoa n).toArray⟩, ⟨(wordN 1).toArray⟩, ⟨(Lib.itoa x).toArray⟩, ⟨(Lib.itoa y).toArray⟩] : List ByteArray).map (·.data.toList)) ([32] : List UInt8) = putN c n 1 x y from join_put c n 1 x y)
  go_wp2_with (fail)
  refine (Tryd.strings_Join w7.heap.size 0 5 [⟨(Lib.itoa c).toArray⟩, ⟨(Lib.itoa n).toArray⟩, ⟨(wordN 1).toArray⟩, ⟨(Lib.itoa x).toArray⟩, ⟨(Lib.itoa y).toArray⟩] ⟨#[32]⟩ _ ?_ ?_ ?_ ?_ ?_).mono ?_
  · intro j x hj
    rw [Nat.zero_add, KJ.out.cell j]
    rcases j with _ | _ | _ | _ | _ | j
    all_goals first | (cases hj; rfl) | (simp at hj)
  · exact KJ.out.lt
  · simp
  · simp
  · have := HE.out
    rw [show (⟨#[32]⟩ : ByteArray).data.toList = [32] from rfl, this]
    have := putN_len c n 1 x y (by omega) (by omega) (by omega) (by omega) (by omega) (by omega) (by omega) (by omega)
    omega
  rintro e w8 ⟨rfl, hb⟩
  have BX := Lib.hid (Below.and BX.out hb)
  clear hb
  go_wp2
  go_light
  go_ret
  exact ⟨ret_bs HE.out, BX.out⟩

theorem word2 (w : World) : Calls Tryd.prog 106 #[.agg #[]] w fun e w' => e = .returned (bsV (wordN 2)) ∧ Below w.heap.size w w' := by
  go_enter Tryd.func106, Tryd.ntmps106
  go_wp2
  go_ret
  exact ⟨rfl, (Below.refl _ _).alloc (Nat.le_refl _) _⟩
theorem method_word2 (w : World) : (method 240 61 (.agg #[]) "loop.example/wapentake/impl.word").run Tryd.prog w = .ok (106, .agg #[]) w := by kernel_rfl
set_option maxRecDepth 100000 in
set_option maxHeartbeats 4000000 in
theorem implPut2 (c n x y : Int) (w : World) (hq : reqB c n 2 x y = true) (c0 : 0 ≤ c) (c1 : c ≤ 99) (n0 : 0 ≤ n) (n1 : n ≤ 99) (x0 : -1000 ≤ x) (x1 : x ≤ 99) (y0 : -1000 ≤ y) (y1 : y ≤ 99) (ht : Tab w) :
    Calls Tryd.prog 9 #[.agg #[.int .i64 c, .int .i64 n, .int .i64 2, .int .i64 x, .int .i64 y]] w fun e w' => e = .returned (bsV (putN c n 2 x y)) ∧ Below w.heap.size w w' := by
  have B0 : Hid (Below w.heap.size w (w.alloc (.cells #[.int .i64 c, .int .i64 n, .int .i64 2, .int .i64 x, .int .i64 y] 25))) := (Below.refl _ _).alloc (Nat.le_refl _) _
  have TB := Lib.hid ht
  have HQ := Lib.hid hq
  have HN := Lib.hid (show nullB ⟨c, n, 2, x, y⟩ = false by unfold nullB; rw [decide_eq_false]; intro h; injection h with _ _ h; omega)
  have hd : deedT 2 = .iface 61 (.agg #[]) := rfl
  have hi : inB 2 1 5 = true := rfl
  have hm := method_word2
  clear ht hq
  go_enter Tryd.func9, Tryd.ntmps9
  go_wp2_with (fail)
  refine (isNull ⟨c, n, 2, x, y⟩ _).mono ?_
  rintro e w1 ⟨rfl, hb⟩
  rw [HN.out]
  obtain ⟨hc1, hf1⟩ := bcell hb
  have hz1 : w.heap.size < w1.heap.size := by have := hb.size; simp at this; omega
  have B1 := Lib.hid (Below.and B0.out hb)
  have K1 := Lib.hid ((Bkk.new (t := 25) (cs := #[.int .i64 c, .int .i64 n, .int .i64 2, .int .i64 x, .int .i64 y]) w).below hb)
  go_wp2_with (first | (go_at_call 21; refine (deedOf _ _).mono ?_; rintro e w' ⟨rfl, rfl⟩; rw [hd, hi]))
  refine (implReqOk c n 2 x y _).mono ?_
  rintro e w2 ⟨rfl, hb2⟩
  rw [HQ.out]
  have BW := Lib.hid (Below.and B1.out hb2)
  have K2 := Lib.hid (K1.out.below hb2)
  clear hb hc1 hf1 hz1 hb2
  have hz2 : w.heap.size < w2.heap.size := K2.out.lt
  have x0' : w2.cell? ⟨w.heap.size, 0, none⟩ = some (.int .i64 c) := K2.out.cell 0
  have x1' : w2.cell? ⟨w.heap.size, 1, none⟩ = some (.int .i64 n) := K2.out.cell 1
  have x2' : w2.cell? ⟨w.heap.size, 2, none⟩ = some (.int .i64 2) := K2.out.cell 2
  have x3' : w2.cell? ⟨w.heap.size, 3, none⟩ = some (.int .i64 x) := K2.out.cell 3
  have x4' : w2.cell? ⟨w.heap.size, 4, none⟩ = some (.int .i64 y) := K2.out.cell 4
  go_wp2_with (fail)
  refine wp_region_held_drew (S := fun w1 => Below w2.heap.size w2 w1) (by kernel_rfl) ((Below.refl _ _).drew) (fun hH => ?_)
  refine takeD 0 21 (v := ?_) rfl rfl (by kernel_rfl) (by kernel_rfl) (by kernel_rfl) (fun _ _ _ h => h) (Or.inl ⟨by rfl, ?_⟩) (by assumption) ?_
  rotate_left
  · intro w1 hSw; obtain ⟨hcS, hfS⟩ := bcell hSw; go_simp; (try with_reducible rfl)
  (try simp only [Act.put, List.setIfInBounds_toArray, List.set_cons_zero, List.set_cons_succ])
  refine takeD 1 22 (v := ?_) rfl rfl (by kernel_rfl) (by kernel_rfl) (by kernel_rfl) (fun _ _ _ h => h) (Or.inl ⟨by rfl, ?_⟩) (by assumption) ?_
  rotate_left
  · intro w1 hSw; obtain ⟨hcS, hfS⟩ := bcell hSw; go_simp; (try with_reducible rfl)
  (try simp only [Act.put, List.setIfInBounds_toArray, List.set_cons_zero, List.set_cons_succ])
  refine takeD 3 24 (v := ?_) rfl rfl (by kernel_rfl) (by kernel_rfl) (by kernel_rfl) (fun _ _ _ h => h) (Or.inl ⟨by rfl, ?_⟩) (by assumption) ?_
  rotate_left
  · intro w1 hSw; obtain ⟨hcS, hfS⟩ := bcell hSw; go_simp; (try with_reducible rfl)
  (try simp only [Act.put, List.setIfInBounds_toArray, List.set_cons_zero, List.set_cons_succ])
  refine takeD 4 25 (v := ?_) rfl rfl (by kernel_rfl) (by kernel_rfl) (by kernel_rfl) (fun _ _ _ h => h) (Or.inl ⟨by rfl, ?_⟩) (by assumption) ?_
  rotate_left
  · intro w1 hSw; obtain ⟨hcS, hfS⟩ := bcell hSw; go_simp; (try with_reducible rfl)
  (try simp only [Act.put, List.setIfInBounds_toArray, List.set_cons_zero, List.set_cons_succ])
  refine takeD 6 27 (v := ?_) rfl rfl (by kernel_rfl) (by kernel_rfl) (by kernel_rfl) (fun _ _ _ h => h) (Or.inl ⟨by rfl, ?_⟩) (by assumption) ?_
  rotate_left
  · intro w1 hSw; obtain ⟨hcS, hfS⟩ := bcell hSw; go_simp; (try with_reducible rfl)
  (try simp only [Act.put, List.setIfInBounds_toArray, List.set_cons_zero, List.set_cons_succ])
  refine takeD 8 29 (v := ?_) rfl rfl (by kernel_rfl) (by kernel_rfl) (by kernel_rfl) (fun _ _ _ h => h) (Or.inl ⟨by rfl, ?_⟩) (by assumption) ?_
  rotate_left
  · intro w1 hSw; obtain ⟨hcS, hfS⟩ := bcell hSw; go_simp; (try with_reducible rfl)
  (try simp only [Act.put, List.setIfInBounds_toArray, List.set_cons_zero, List.set_cons_succ])
  refine takeD 9 30 (v := ?_) rfl rfl (by kernel_rfl) (by kernel_rfl) (by kernel_rfl) (fun _ _ _ h => h) (Or.inl ⟨by rfl, ?_⟩) (by assumption) ?_
  rotate_left
  · intro w1 hSw; obtain ⟨hcS, hfS⟩ := bcell hSw; go_simp; (try with_reducible rfl)
  (try simp only [Act.put, List.setIfInBounds_toArray, List.set_cons_zero, List.set_cons_succ])
  refine takeD 11 32 (v := ?_) rfl rfl (by kernel_rfl) (by kernel_rfl) (by kernel_rfl) (fun _ _ _ h => h) (Or.inl ⟨by rfl, ?_⟩) (by assumption) ?_
  rotate_left
  · intro w1 hSw; obtain ⟨hcS, hfS⟩ := bcell hSw; go_simp; (try with_reducible rfl)
  (try simp only [Act.put, List.setIfInBounds_toArray, List.set_cons_zero, List.set_cons_succ])
  refine takeD 12 33 (v := ?_) rfl rfl (by kernel_rfl) (by kernel_rfl) (by kernel_rfl) (fun _ _ _ h => h) (Or.inl ⟨by rfl, ?_⟩) (by assumption) ?_
  rotate_left
  · intro w1 hSw; obtain ⟨hcS, hfS⟩ := bcell hSw; go_simp; (try with_reducible rfl)
  (try simp only [Act.put, List.setIfInBounds_toArray, List.set_cons_zero, List.set_cons_succ])
  refine wpAnyH_ready (rs := [2]) (by kernel_rfl) (by simp) ?_
  refine AllReadyH.cons rfl (fun K hK => ?_) AllReadyH.nil
  go_simp
  refine (itoaC c _ (by omega) (by omega) (TB.out.below (Below.and BW.out hH))).mono ?_
  rintro e w3 ⟨rfl, hb⟩
  refine hK.out _ _ (Below.and hH hb) (fun hH2 => ?_)
  clear hK K
  (try simp only [Act.put, List.setIfInBounds_toArray, List.set_cons_zero, List.set_cons_succ])
  refine wpAnyH_ready (rs := [5]) (by kernel_rfl) (by simp) ?_
  refine AllReadyH.cons rfl (fun K hK => ?_) AllReadyH.nil
  go_simp
  refine (itoaC n _ (by omega) (by omega) (TB.out.below (Below.and BW.out hH2))).mono ?_
  rintro e w4 ⟨rfl, hb⟩
  refine hK.out _ _ (Below.and hH2 hb) (fun hH3 => ?_)
  clear hK K
  (try simp only [Act.put, List.setIfInBounds_toArray, List.set_cons_zero, List.set_cons_succ])
  refine wpAnyH_ready (rs := [7]) (by kernel_rfl) (by simp) ?_
  refine AllReadyH.cons rfl (fun K hK => ?_) AllReadyH.nil
  go_simp
  refine (word2 _).mono ?_
  rintro e w5 ⟨rfl, hb⟩
  refine hK.out _ _ (Below.and hH3 hb) (fun hH4 => ?_)
  clear hK K
  (try simp only [Act.put, List.setIfInBounds_toArray, List.set_cons_zero, List.set_cons_succ])
  refine wpAnyH_ready (rs := [10]) (by kernel_rfl) (by simp) ?_
  refine AllReadyH.cons rfl (fun K hK => ?_) AllReadyH.nil
  go_simp
  refine (itoaC x _ (by omega) (by omega) (TB.out.below (Below.and BW.out hH4))).mono ?_
  rintro e w6 ⟨rfl, hb⟩
  refine hK.out _ _ (Below.and hH4 hb) (fun hH5 => ?_)
  clear hK K
  (try simp only [Act.put, List.setIfInBounds_toArray, List.set_cons_zero, List.set_cons_succ])
  refine wpAnyH_ready (rs := [13]) (by kernel_rfl) (by simp) ?_
  refine AllReadyH.cons rfl (fun K hK => ?_) AllReadyH.nil
  go_simp
  refine (itoaC y _ (by omega) (by omega) (TB.out.below (Below.and BW.out hH5))).mono ?_
  rintro e w7 ⟨rfl, hb⟩
  refine hK.out _ _ (Below.and hH5 hb) (fun hH6 => ?_)
  clear hK K
  (try simp only [Act.put, List.setIfInBounds_toArray, List.set_cons_zero, List.set_cons_succ])
  refine wpAnyH_ready (rs := [14]) (by kernel_rfl) (by simp) ?_
  refine AllReadyH.cons rfl (fun K hK => ?_) AllReadyH.nil
  go_simp
  refine hK.out _ _ (hH6.alloc hH6.size _) (fun hH7 => ?_)
  clear hK K
  (try simp only [Act.put, List.setIfInBounds_toArray, List.set_cons_zero, List.set_cons_succ])
  refine takeD 15 5 (v := ?_) rfl rfl (by kernel_rfl) (by kernel_rfl) (by kernel_rfl) (fun _ _ _ h => h) (Or.inl ⟨by rfl, ?_⟩) (by assumption) ?_
  rotate_left
  · intro w1 hSw; obtain ⟨hcS, hfS⟩ := bcell hSw; go_simp; (try with_reducible rfl)
  (try simp only [Act.put, List.setIfInBounds_toArray, List.set_cons_zero, List.set_cons_succ])
  refine wpAnyH_done (by kernel_rfl) ?_ _
  have BX := Lib.hid (Below.and BW.out hH7)
  have KJ : Hid (Bkk (w7.alloc (.cells #[.string ⟨(Lib.itoa c).toArray⟩, .string ⟨(Lib.itoa n).toArray⟩, .string ⟨(wordN 2).toArray⟩, .string ⟨(Lib.itoa x).toArray⟩, .string ⟨(Lib.itoa y).toArray⟩] 9)) w7.heap.size 9 #[.string ⟨(Lib.itoa c).toArray⟩, .string ⟨(Lib.itoa n).toArray⟩, .string ⟨(wordN 2).toArray⟩, .string ⟨(Lib.itoa x).toArray⟩, .string ⟨(Lib.itoa y).toArray⟩]) := Bkk.new w7
  clear hH hH2 hH3 hH4 hH5 hH6 hH7
  have HE := Lib.hid (show Lib.join (([⟨(Lib.itoa c).toArray⟩, ⟨(Lib.itoa n).toArray⟩, ⟨(wordN 2).toArray⟩, ⟨(Lib.itoa x).toArray⟩, ⟨(Lib.itoa y).toArray⟩] : List ByteArray).map (·.data.toList)) ([32] : List UInt8) = putN c n 2 x y from join_put c n 2 x y)
  go_wp2_with (fail)
  refine (Tryd.strings_Join w7.heap.size 0 5 [⟨(Lib.itoa c).toArray⟩, ⟨(Lib.itoa n).toArray⟩, ⟨(wordN 2).toArray⟩, ⟨(Lib.itoa x).toArray⟩, ⟨(Lib.itoa y).toArray⟩] ⟨#[32]⟩ _ ?_ ?_ ?_ ?_ ?_).mono ?_
  · intro j x hj
    rw [Nat.zero_add, KJ.out.cell j]
    rcases j with _ | _ | _ | _ | _ | j
    all_goals first | (cases hj; rfl) | (simp at hj)
  · exact KJ.out.lt
  · simp
  · simp
  · have := HE.out
    rw [show (⟨#[32]⟩ : ByteArray).data.toList = [32] from rfl, this]
    have := putN_len c n 2 x y (by omega) (by omega) (by omega) (by omega) (by omega) (by omega) (by omega) (by omega)
    omega
  rintro e w8 ⟨rfl, hb⟩
  have BX := Lib.hid (Below.and BX.out hb)
  clear hb
  go_wp2
  go_light
  go_ret
  exact ⟨ret_bs HE.out, BX.out⟩

theorem word3 (w : World) : Calls Tryd.prog 108 #[.agg #[]] w fun e w' => e = .returned (bsV (wordN 3)) ∧ Below w.heap.size w w' := by
  go_enter Tryd.func108, Tryd.ntmps108
  go_wp2
  go_ret
  exact ⟨rfl, (Below.refl _ _).alloc (Nat.le_refl _) _⟩
theorem method_word3 (w : World) : (method 240 62 (.agg #[]) "loop.example/wapentake/impl.word").run Tryd.prog w = .ok (108, .agg #[]) w := by kernel_rfl
set_option maxRecDepth 100000 in
set_option maxHeartbeats 4000000 in
theorem implPut3 (c n x y : Int) (w : World) (hq : reqB c n 3 x y = true) (c0 : 0 ≤ c) (c1 : c ≤ 99) (n0 : 0 ≤ n) (n1 : n ≤ 99) (x0 : -1000 ≤ x) (x1 : x ≤ 99) (y0 : -1000 ≤ y) (y1 : y ≤ 99) (ht : Tab w) :
    Calls Tryd.prog 9 #[.agg #[.int .i64 c, .int .i64 n, .int .i64 3, .int .i64 x, .int .i64 y]] w fun e w' => e = .returned (bsV (putN c n 3 x y)) ∧ Below w.heap.size w w' := by
  have B0 : Hid (Below w.heap.size w (w.alloc (.cells #[.int .i64 c, .int .i64 n, .int .i64 3, .int .i64 x, .int .i64 y] 25))) := (Below.refl _ _).alloc (Nat.le_refl _) _
  have TB := Lib.hid ht
  have HQ := Lib.hid hq
  have HN := Lib.hid (show nullB ⟨c, n, 3, x, y⟩ = false by unfold nullB; rw [decide_eq_false]; intro h; injection h with _ _ h; omega)
  have hd : deedT 3 = .iface 62 (.agg #[]) := rfl
  have hi : inB 3 1 5 = true := rfl
  have hm := method_word3
  clear ht hq
  go_enter Tryd.func9, Tryd.ntmps9
  go_wp2_with (fail)
  refine (isNull ⟨c, n, 3, x, y⟩ _).mono ?_
  rintro e w1 ⟨rfl, hb⟩
  rw [HN.out]
  obtain ⟨hc1, hf1⟩ := bcell hb
  have hz1 : w.heap.size < w1.heap.size := by have := hb.size; simp at this; omega
  have B1 := Lib.hid (Below.and B0.out hb)
  have K1 := Lib.hid ((Bkk.new (t := 25) (cs := #[.int .i64 c, .int .i64 n, .int .i64 3, .int .i64 x, .int .i64 y]) w).below hb)
  go_wp2_with (first | (go_at_call 21; refine (deedOf _ _).mono ?_; rintro e w' ⟨rfl, rfl⟩; rw [hd, hi]))
  refine (implReqOk c n 3 x y _).mono ?_
  rintro e w2 ⟨rfl, hb2⟩
  rw [HQ.out]
  have BW := Lib.hid (Below.and B1.out hb2)
  have K2 := Lib.hid (K1.out.below hb2)
  clear hb hc1 hf1 hz1 hb2
  have hz2 : w.heap.size < w2.heap.size := K2.out.lt
  have x0' : w2.cell? ⟨w.heap.size, 0, none⟩ = some (.int .i64 c) := K2.out.cell 0
  have x1' : w2.cell? ⟨w.heap.size, 1, none⟩ = some (.int .i64 n) := K2.out.cell 1
  have x2' : w2.cell? ⟨w.heap.size, 2, none⟩ = some (.int .i64 3) := K2.out.cell 2
  have x3' : w2.cell? ⟨w.heap.size, 3, none⟩ = some (.int .i64 x) := K2.out.cell 3
  have x4' : w2.cell? ⟨w.heap.size, 4, none⟩ = some (.int .i64 y) := K2.out.cell 4
  go_wp2_with (fail)
  refine wp_region_held_drew (S := fun w1 => Below w2.heap.size w2 w1) (by kernel_rfl) ((Below.refl _ _).drew) (fun hH => ?_)
  refine takeD 0 21 (v := ?_) rfl rfl (by kernel_rfl) (by kernel_rfl) (by kernel_rfl) (fun _ _ _ h => h) (Or.inl ⟨by rfl, ?_⟩) (by assumption) ?_
  rotate_left
  · intro w1 hSw; obtain ⟨hcS, hfS⟩ := bcell hSw; go_simp; (try with_reducible rfl)
  (try simp only [Act.put, List.setIfInBounds_toArray, List.set_cons_zero, List.set_cons_succ])
  refine takeD 1 22 (v := ?_) rfl rfl (by kernel_rfl) (by kernel_rfl) (by kernel_rfl) (fun _ _ _ h => h) (Or.inl ⟨by rfl, ?_⟩) (by assumption) ?_
  rotate_left
  · intro w1 hSw; obtain ⟨hcS, hfS⟩ := bcell hSw; go_simp; (try with_reducible rfl)
  (try simp only [Act.put, List.setIfInBounds_toArray, List.set_cons_zero, List.set_cons_succ])
  refine takeD 3 24 (v := ?_) rfl rfl (by kernel_rfl) (by kernel_rfl) (by kernel_rfl) (fun _ _ _ h => h) (Or.inl ⟨by rfl, ?_⟩) (by assumption) ?_
  rotate_left
  · intro w1 hSw; obtain ⟨hcS, hfS⟩ := bcell hSw; go_simp; (try with_reducible rfl)
  (try simp only [Act.put, List.setIfInBounds_toArray, List.set_cons_zero, List.set_cons_succ])
  refine takeD 4 25 (v := ?_) rfl rfl (by kernel_rfl) (by kernel_rfl) (by kernel_rfl) (fun _ _ _ h => h) (Or.inl ⟨by rfl, ?_⟩) (by assumption) ?_
  rotate_left
  · intro w1 hSw; obtain ⟨hcS, hfS⟩ := bcell hSw; go_simp; (try with_reducible rfl)
  (try simp only [Act.put, List.setIfInBounds_toArray, List.set_cons_zero, List.set_cons_succ])
  refine takeD 6 27 (v := ?_) rfl rfl (by kernel_rfl) (by kernel_rfl) (by kernel_rfl) (fun _ _ _ h => h) (Or.inl ⟨by rfl, ?_⟩) (by assumption) ?_
  rotate_left
  · intro w1 hSw; obtain ⟨hcS, hfS⟩ := bcell hSw; go_simp; (try with_reducible rfl)
  (try simp only [Act.put, List.setIfInBounds_toArray, List.set_cons_zero, List.set_cons_succ])
  refine takeD 8 29 (v := ?_) rfl rfl (by kernel_rfl) (by kernel_rfl) (by kernel_rfl) (fun _ _ _ h => h) (Or.inl ⟨by rfl, ?_⟩) (by assumption) ?_
  rotate_left
  · intro w1 hSw; obtain ⟨hcS, hfS⟩ := bcell hSw; go_simp; (try with_reducible rfl)
  (try simp only [Act.put, List.setIfInBounds_toArray, List.set_cons_zero, List.set_cons_succ])
  refine takeD 9 30 (v := ?_) rfl rfl (by kernel_rfl) (by kernel_rfl) (by kernel_rfl) (fun _ _ _ h => h) (Or.inl ⟨by rfl, ?_⟩) (by assumption) ?_
  rotate_left
  · intro w1 hSw; obtain ⟨hcS, hfS⟩ := bcell hSw; go_simp; (try with_reducible rfl)
  (try simp only [Act.put, List.setIfInBounds_toArray, List.set_cons_zero, List.set_cons_succ])
  refine takeD 11 32 (v := ?_) rfl rfl (by kernel_rfl) (by kernel_rfl) (by kernel_rfl) (fun _ _ _ h => h) (Or.inl ⟨by rfl, ?_⟩) (by assumption) ?_
  rotate_left
  · intro w1 hSw; obtain ⟨hcS, hfS⟩ := bcell hSw; go_simp; (try with_reducible rfl)
  (try simp only [Act.put, List.setIfInBounds_toArray, List.set_cons_zero, List.set_cons_succ])
  refine takeD 12 33 (v := ?_) rfl rfl (by kernel_rfl) (by kernel_rfl) (by kernel_rfl) (fun _ _ _ h => h) (Or.inl ⟨by rfl, ?_⟩) (by assumption) ?_
  rotate_left
  · intro w1 hSw; obtain ⟨hcS, hfS⟩ := bcell hSw; go_simp; (try with_reducible rfl)
  (try simp only [Act.put, List.setIfInBounds_toArray, List.set_cons_zero, List.set_cons_succ])
  refine wpAnyH_ready (rs := [2]) (by kernel_rfl) (by simp) ?_
  refine AllReadyH.cons rfl (fun K hK => ?_) AllReadyH.nil
  go_simp
  refine (itoaC c _ (by omega) (by omega) (TB.out.below (Below.and BW.out hH))).mono ?_
  rintro e w3 ⟨rfl, hb⟩
  refine hK.out _ _ (Below.and hH hb) (fun hH2 => ?_)
  clear hK K
  (try simp only [Act.put, List.setIfInBounds_toArray, List.set_cons_zero, List.set_cons_succ])
  refine wpAnyH_ready (rs := [5]) (by kernel_rfl) (by simp) ?_
  refine AllReadyH.cons rfl (fun K hK => ?_) AllReadyH.nil
  go_simp
  refine (itoaC n _ (by omega) (by omega) (TB.out.below (Below.and BW.out hH2))).mono ?_
  rintro e w4 ⟨rfl, hb⟩
  refine hK.out _ _ (Below.and hH2 hb) (fun hH3 => ?_)
  clear hK K
  (try simp only [Act.put, List.setIfInBounds_toArray, List.set_cons_zero, List.set_cons_succ])
  refine wpAnyH_ready (rs := [7]) (by kernel_rfl) (by simp) ?_
  refine AllReadyH.cons rfl (fun K hK => ?_) AllReadyH.nil
  go_simp
  refine (word3 _).mono ?_
  rintro e w5 ⟨rfl, hb⟩
  refine hK.out _ _ (Below.and hH3 hb) (fun hH4 => ?_)
  clear hK K
  (try simp only [Act.put, List.setIfInBounds_toArray, List.set_cons_zero, List.set_cons_succ])
  refine wpAnyH_ready (rs := [10]) (by kernel_rfl) (by simp) ?_
  refine AllReadyH.cons rfl (fun K hK => ?_) AllReadyH.nil
  go_simp
  refine (itoaC x _ (by omega) (by omega) (TB.out.below (Below.and BW.out hH4))).mono ?_
  rintro e w6 ⟨rfl, hb⟩
  refine hK.out _ _ (Below.and hH4 hb) (fun hH5 => ?_)
  clear hK K
  (try simp only [Act.put, List.setIfInBounds_toArray, List.set_cons_zero, List.set_cons_succ])
  refine wpAnyH_ready (rs := [13]) (by kernel_rfl) (by simp) ?_
  refine AllReadyH.cons rfl (fun K hK => ?_) AllReadyH.nil
  go_simp
  refine (itoaC y _ (by omega) (by omega) (TB.out.below (Below.and BW.out hH5))).mono ?_
  rintro e w7 ⟨rfl, hb⟩
  refine hK.out _ _ (Below.and hH5 hb) (fun hH6 => ?_)
  clear hK K
  (try simp only [Act.put, List.setIfInBounds_toArray, List.set_cons_zero, List.set_cons_succ])
  refine wpAnyH_ready (rs := [14]) (by kernel_rfl) (by simp) ?_
  refine AllReadyH.cons rfl (fun K hK => ?_) AllReadyH.nil
  go_simp
  refine hK.out _ _ (hH6.alloc hH6.size _) (fun hH7 => ?_)
  clear hK K
  (try simp only [Act.put, List.setIfInBounds_toArray, List.set_cons_zero, List.set_cons_succ])
  refine takeD 15 5 (v := ?_) rfl rfl (by kernel_rfl) (by kernel_rfl) (by kernel_rfl) (fun _ _ _ h => h) (Or.inl ⟨by rfl, ?_⟩) (by assumption) ?_
  rotate_left
  · intro w1 hSw; obtain ⟨hcS, hfS⟩ := bcell hSw; go_simp; (try with_reducible rfl)
  (try simp only [Act.put, List.setIfInBounds_toArray, List.set_cons_zero, List.set_cons_succ])
  refine wpAnyH_done (by kernel_rfl) ?_ _
  have BX := Lib.hid (Below.and BW.out hH7)
  have KJ : Hid (Bkk (w7.alloc (.cells #[.string ⟨(Lib.itoa c).toArray⟩, .string ⟨(Lib.itoa n).toArray⟩, .string ⟨(wordN 3).toArray⟩, .string ⟨(Lib.itoa x).toArray⟩, .string ⟨(Lib.itoa y).toArray⟩] 9)) w7.heap.size 9 #[.string ⟨(Lib.itoa c).toArray⟩, .string ⟨(Lib.itoa n).toArray⟩, .string ⟨(wordN 3).toArray⟩, .string ⟨(Lib.itoa x).toArray⟩, .string ⟨(Lib.itoa y).toArray⟩]) := Bkk.new w7
  clear hH hH2 hH3 hH4 hH5 hH6 hH7
  have HE := Lib.hid (show Lib.join (([⟨(Lib.itoa c).toArray⟩, ⟨(Lib.itoa n).toArray⟩, ⟨(wordN 3).toArray⟩, ⟨(Lib.itoa x).toArray⟩, ⟨(Lib.itoa y).toArray⟩] : List ByteArray).map (·.data.toList)) ([32] : List UInt8) = putN c n 3 x y from join_put c n 3 x y)
  go_wp2_with (fail)
  refine (Tryd.strings_Join w7.heap.size 0 5 [⟨(Lib.itoa c).toArray⟩, ⟨(Lib.itoa n).toArray⟩, ⟨(wordN 3).toArray⟩, ⟨(Lib.itoa x).toArray⟩, ⟨(Lib.itoa y).toArray⟩] ⟨#[32]⟩ _ ?_ ?_ ?_ ?_ ?_).mono ?_
  · intro j x hj
    rw [Nat.zero_add, KJ.out.cell j]
    rcases j with _ | _ | _ | _ | _ | j
    all_goals first | (cases hj; rfl) | (simp at hj)
  · exact KJ.out.lt
  · simp
  · simp
  · have := HE.out
    rw [show (⟨#[32]⟩ : ByteArray).data.toList = [32] from rfl, this]
    have := putN_len c n 3 x y (by omega) (by omega) (by omega) (by omega) (by omega) (by omega) (by omega) (by omega)
    omega
  rintro e w8 ⟨rfl, hb⟩
  have BX := Lib.hid (Below.and BX.out hb)
  clear hb
  go_wp2
  go_light
  go_ret
  exact ⟨ret_bs HE.out, BX.out⟩

theorem word4 (w : World) : Calls Tryd.prog 110 #[.agg #[]] w fun e w' => e = .returned (bsV (wordN 4)) ∧ Below w.heap.size w w' := by
  go_enter Tryd.func110, Tryd.ntmps110
  go_wp2
  go_ret
  exact ⟨rfl, (Below.refl _ _).alloc (Nat.le_refl _) _⟩
theorem method_word4 (w : World) : (method 240 63 (.agg #[]) "loop.example/wapentake/impl.word").run Tryd.prog w = .ok (110, .agg #[]) w := by kernel_rfl
set_option maxRecDepth 100000 in
set_option maxHeartbeats 4000000 in
theorem implPut4 (c n x y : Int) (w : World) (hq : reqB c n 4 x y = true) (c0 : 0 ≤ c) (c1 : c ≤ 99) (n0 : 0 ≤ n) (n1 : n ≤ 99) (x0 : -1000 ≤ x) (x1 : x ≤ 99) (y0 : -1000 ≤ y) (y1 : y ≤ 99) (ht : Tab w) :
    Calls Tryd.prog 9 #[.agg #[.int .i64 c, .int .i64 n, .int .i64 4, .int .i64 x, .int .i64 y]] w fun e w' => e = .returned (bsV (putN c n 4 x y)) ∧ Below w.heap.size w w' := by
  have B0 : Hid (Below w.heap.size w (w.alloc (.cells #[.int .i64 c, .int .i64 n, .int .i64 4, .int .i64 x, .int .i64 y] 25))) := (Below.refl _ _).alloc (Nat.le_refl _) _
  have TB := Lib.hid ht
  have HQ := Lib.hid hq
  have HN := Lib.hid (show nullB ⟨c, n, 4, x, y⟩ = false by unfold nullB; rw [decide_eq_false]; intro h; injection h with _ _ h; omega)
  have hd : deedT 4 = .iface 63 (.agg #[]) := rfl
  have hi : inB 4 1 5 = true := rfl
  have hm := method_word4
  clear ht hq
  go_enter Tryd.func9, Tryd.ntmps9
  go_wp2_with (fail)
  refine (isNull ⟨c, n, 4, x, y⟩ _).mono ?_
  rintro e w1 ⟨rfl, hb⟩
  rw [HN.out]
  obtain ⟨hc1, hf1⟩ := bcell hb
  have hz1 : w.heap.size < w1.heap.size := by have := hb.size; simp at this; omega
  have B1 := Lib.hid (Below.and B0.out hb)
  have K1 := Lib.hid ((Bkk.new (t := 25) (cs := #[.int .i64 c, .int .i64 n, .int .i64 4, .int .i64 x, .int .i64 y]) w).below hb)
  go_wp2_with (first | (go_at_call 21; refine (deedOf _ _).mono ?_; rintro e w' ⟨rfl, rfl⟩; rw [hd, hi]))
  refine (implReqOk c n 4 x y _).mono ?_
  rintro e w2 ⟨rfl, hb2⟩
  rw [HQ.out]
  have BW := Lib.hid (Below.and B1.out hb2)
  have K2 := Lib.hid (K1.out.below hb2)
  clear hb hc1 hf1 hz1 hb2
  have hz2 : w.heap.size < w2.heap.size := K2.out.lt
  have x0' : w2.cell? ⟨w.heap.size, 0, none⟩ = some (.int .i64 c) := K2.out.cell 0
  have x1' : w2.cell? ⟨w.heap.size, 1, none⟩ = some (.int .i64 n) := K2.out.cell 1
  have x2' : w2.cell? ⟨w.heap.size, 2, none⟩ = some (.int .i64 4) := K2.out.cell 2
  have x3' : w2.cell? ⟨w.heap.size, 3, none⟩ = some (.int .i64 x) := K2.out.cell 3
  have x4' : w2.cell? ⟨w.heap.size, 4, none⟩ = some (.int .i64 y) := K2.out.cell 4
  go_wp2_with (fail)
  refine wp_region_held_drew (S := fun w1 => Below w2.heap.size w2 w1) (by kernel_rfl) ((Below.refl _ _).drew) (fun hH => ?_)
  refine takeD 0 21 (v := ?_) rfl rfl (by kernel_rfl) (by kernel_rfl) (by kernel_rfl) (fun _ _ _ h => h) (Or.inl ⟨by rfl, ?_⟩) (by assumption) ?_
  rotate_left
  · intro w1 hSw; obtain ⟨hcS, hfS⟩ := bcell hSw; go_simp; (try with_reducible rfl)
  (try simp only [Act.put, List.setIfInBounds_toArray, List.set_cons_zero, List.set_cons_succ])
  refine takeD 1 22 (v := ?_) rfl rfl (by kernel_rfl) (by kernel_rfl) (by kernel_rfl) (fun _ _ _ h => h) (Or.inl ⟨by rfl, ?_⟩) (by assumption) ?_
  rotate_left
  · intro w1 hSw; obtain ⟨hcS, hfS⟩ := bcell hSw; go_simp; (try with_reducible rfl)
  (try simp only [Act.put, List.setIfInBounds_toArray, List.set_cons_zero, List.set_cons_succ])
  refine takeD 3 24 (v := ?_) rfl rfl (by kernel_rfl) (by kernel_rfl) (by kernel_rfl) (fun _ _ _ h => h) (Or.inl ⟨by rfl, ?_⟩) (by assumption) ?_
  rotate_left
  · intro w1 hSw; obtain ⟨hcS, hfS⟩ := bcell hSw; go_simp; (try with_reducible rfl)
  (try simp only [Act.put, List.setIfInBounds_toArray, List.set_cons_zero, List.set_cons_succ])
  refine takeD 4 25 (v := ?_) rfl rfl (by kernel_rfl) (by kernel_rfl) (by kernel_rfl) (fun _ _ _ h => h) (Or.inl ⟨by rfl, ?_⟩) (by assumption) ?_
  rotate_left
  · intro w1 hSw; obtain ⟨hcS, hfS⟩ := bcell hSw; go_simp; (try with_reducible rfl)
  (try simp only [Act.put, List.setIfInBounds_toArray, List.set_cons_zero, List.set_cons_succ])
  refine takeD 6 27 (v := ?_) rfl rfl (by kernel_rfl) (by kernel_rfl) (by kernel_rfl) (fun _ _ _ h => h) (Or.inl ⟨by rfl, ?_⟩) (by assumption) ?_
  rotate_left
  · intro w1 hSw; obtain ⟨hcS, hfS⟩ := bcell hSw; go_simp; (try with_reducible rfl)
  (try simp only [Act.put, List.setIfInBounds_toArray, List.set_cons_zero, List.set_cons_succ])
  refine takeD 8 29 (v := ?_) rfl rfl (by kernel_rfl) (by kernel_rfl) (by kernel_rfl) (fun _ _ _ h => h) (Or.inl ⟨by rfl, ?_⟩) (by assumption) ?_
  rotate_left
  · intro w1 hSw; obtain ⟨hcS, hfS⟩ := bcell hSw; go_simp; (try with_reducible rfl)
  (try simp only [Act.put, List.setIfInBounds_toArray, List.set_cons_zero, List.set_cons_succ])
  refine takeD 9 30 (v := ?_) rfl rfl (by kernel_rfl) (by kernel_rfl) (by kernel_rfl) (fun _ _ _ h => h) (Or.inl ⟨by rfl, ?_⟩) (by assumption) ?_
  rotate_left
  · intro w1 hSw; obtain ⟨hcS, hfS⟩ := bcell hSw; go_simp; (try with_reducible rfl)
  (try simp only [Act.put, List.setIfInBounds_toArray, List.set_cons_zero, List.set_cons_succ])
  refine takeD 11 32 (v := ?_) rfl rfl (by kernel_rfl) (by kernel_rfl) (by kernel_rfl) (fun _ _ _ h => h) (Or.inl ⟨by rfl, ?_⟩) (by assumption) ?_
  rotate_left
  · intro w1 hSw; obtain ⟨hcS, hfS⟩ := bcell hSw; go_simp; (try with_reducible rfl)
  (try simp only [Act.put, List.setIfInBounds_toArray, List.set_cons_zero, List.set_cons_succ])
  refine takeD 12 33 (v := ?_) rfl rfl (by kernel_rfl) (by kernel_rfl) (by kernel_rfl) (fun _ _ _ h => h) (Or.inl ⟨by rfl, ?_⟩) (by assumption) ?_
  rotate_left
  · intro w1 hSw; obtain ⟨hcS, hfS⟩ := bcell hSw; go_simp; (try with_reducible rfl)
  (try simp only [Act.put, List.setIfInBounds_toArray, List.set_cons_zero, List.set_cons_succ])
  refine wpAnyH_ready (rs := [2]) (by kernel_rfl) (by simp) ?_
  refine AllReadyH.cons rfl (fun K hK => ?_) AllReadyH.nil
  go_simp
  refine (itoaC c _ (by omega) (by omega) (TB.out.below (Below.and BW.out hH))).mono ?_
  rintro e w3 ⟨rfl, hb⟩
  refine hK.out _ _ (Below.and hH hb) (fun hH2 => ?_)
  clear hK K
  (try simp only [Act.put, List.setIfInBounds_toArray, List.set_cons_zero, List.set_cons_succ])
  refine wpAnyH_ready (rs := [5]) (by kernel_rfl) (by simp) ?_
  refine AllReadyH.cons rfl (fun K hK => ?_) AllReadyH.nil
  go_simp
  refine (itoaC n _ (by omega) (by omega) (TB.out.below (Below.and BW.out hH2))).mono ?_
  rintro e w4 ⟨rfl, hb⟩
  refine hK.out _ _ (Below.and hH2 hb) (fun hH3 => ?_)
  clear hK K
  (try simp only [Act.put, List.setIfInBounds_toArray, List.set_cons_zero, List.set_cons_succ])
  refine wpAnyH_ready (rs := [7]) (by kernel_rfl) (by simp) ?_
  refine AllReadyH.cons rfl (fun K hK => ?_) AllReadyH.nil
  go_simp
  refine (word4 _).mono ?_
  rintro e w5 ⟨rfl, hb⟩
  refine hK.out _ _ (Below.and hH3 hb) (fun hH4 => ?_)
  clear hK K
  (try simp only [Act.put, List.setIfInBounds_toArray, List.set_cons_zero, List.set_cons_succ])
  refine wpAnyH_ready (rs := [10]) (by kernel_rfl) (by simp) ?_
  refine AllReadyH.cons rfl (fun K hK => ?_) AllReadyH.nil
  go_simp
  refine (itoaC x _ (by omega) (by omega) (TB.out.below (Below.and BW.out hH4))).mono ?_
  rintro e w6 ⟨rfl, hb⟩
  refine hK.out _ _ (Below.and hH4 hb) (fun hH5 => ?_)
  clear hK K
  (try simp only [Act.put, List.setIfInBounds_toArray, List.set_cons_zero, List.set_cons_succ])
  refine wpAnyH_ready (rs := [13]) (by kernel_rfl) (by simp) ?_
  refine AllReadyH.cons rfl (fun K hK => ?_) AllReadyH.nil
  go_simp
  refine (itoaC y _ (by omega) (by omega) (TB.out.below (Below.and BW.out hH5))).mono ?_
  rintro e w7 ⟨rfl, hb⟩
  refine hK.out _ _ (Below.and hH5 hb) (fun hH6 => ?_)
  clear hK K
  (try simp only [Act.put, List.setIfInBounds_toArray, List.set_cons_zero, List.set_cons_succ])
  refine wpAnyH_ready (rs := [14]) (by kernel_rfl) (by simp) ?_
  refine AllReadyH.cons rfl (fun K hK => ?_) AllReadyH.nil
  go_simp
  refine hK.out _ _ (hH6.alloc hH6.size _) (fun hH7 => ?_)
  clear hK K
  (try simp only [Act.put, List.setIfInBounds_toArray, List.set_cons_zero, List.set_cons_succ])
  refine takeD 15 5 (v := ?_) rfl rfl (by kernel_rfl) (by kernel_rfl) (by kernel_rfl) (fun _ _ _ h => h) (Or.inl ⟨by rfl, ?_⟩) (by assumption) ?_
  rotate_left
  · intro w1 hSw; obtain ⟨hcS, hfS⟩ := bcell hSw; go_simp; (try with_reducible rfl)
  (try simp only [Act.put, List.setIfInBounds_toArray, List.set_cons_zero, List.set_cons_succ])
  refine wpAnyH_done (by kernel_rfl) ?_ _
  have BX := Lib.hid (Below.and BW.out hH7)
  have KJ : Hid (Bkk (w7.alloc (.cells #[.string ⟨(Lib.itoa c).toArray⟩, .string ⟨(Lib.itoa n).toArray⟩, .string ⟨(wordN 4).toArray⟩, .string ⟨(Lib.itoa x).toArray⟩, .string ⟨(Lib.itoa y).toArray⟩] 9)) w7.heap.size 9 #[.string ⟨(Lib.itoa c).toArray⟩, .string ⟨(Lib.itoa n).toArray⟩, .string ⟨(wordN 4).toArray⟩, .string ⟨(Lib.itoa x).toArray⟩, .string ⟨(Lib.itoa y).toArray⟩]) := Bkk.new w7
  clear hH hH2 hH3 hH4 hH5 hH6 hH7
  have HE := Lib.hid (show Lib.join (([⟨(Lib.itoa c).toArray⟩, ⟨(Lib.itoa n).toArray⟩, ⟨(wordN 4).toArray⟩, ⟨(Lib.itoa x).toArray⟩, ⟨(Lib.itoa y).toArray⟩] : List ByteArray).map (·.data.toList)) ([32] : List UInt8) = putN c n 4 x y from join_put c n 4 x y)
  go_wp2_with (fail)
  refine (Tryd.strings_Join w7.heap.size 0 5 [⟨(Lib.itoa c).toArray⟩, ⟨(Lib.itoa n).toArray⟩, ⟨(wordN 4).toArray⟩, ⟨(Lib.itoa x).toArray⟩, ⟨(Lib.itoa y).toArray⟩] ⟨#[32]⟩ _ ?_ ?_ ?_ ?_ ?_).mono ?_
  · intro j x hj
    rw [Nat.zero_add, KJ.out.cell j]
    rcases j with _ | _ | _ | _ | _ | j
    all_goals first | (cases hj; rfl) | (simp at hj)
  · exact KJ.out.lt
  · simp
  · simp
  · have := HE.out
    rw [show (⟨#[32]⟩ : ByteArray).data.toList = [32] from rfl, this]
    have := putN_len c n 4 x y (by omega) (by omega) (by omega) (by omega) (by omega) (by omega) (by omega) (by omega)
    omega
  rintro e w8 ⟨rfl, hb⟩
  have BX := Lib.hid (Below.and BX.out hb)
  clear hb
  go_wp2
  go_light
  go_ret
  exact ⟨ret_bs HE.out, BX.out⟩

theorem word5 (w : World) : Calls Tryd.prog 112 #[.agg #[]] w fun e w' => e = .returned (bsV (wordN 5)) ∧ Below w.heap.size w w' := by
  go_enter Tryd.func112, Tryd.ntmps112
  go_wp2
  go_ret
  exact ⟨rfl, (Below.refl _ _).alloc (Nat.le_refl _) _⟩
theorem method_word5 (w : World) : (method 240 64 (.agg #[]) "loop.example/wapentake/impl.word").run Tryd.prog w = .ok (112, .agg #[]) w := by kernel_rfl
set_option maxRecDepth 100000 in
set_option maxHeartbeats 4000000 in
theorem implPut5 (c n x y : Int) (w : World) (hq : reqB c n 5 x y = true) (c0 : 0 ≤ c) (c1 : c ≤ 99) (n0 : 0 ≤ n) (n1 : n ≤ 99) (x0 : -1000 ≤ x) (x1 : x ≤ 99) (y0 : -1000 ≤ y) (y1 : y ≤ 99) (ht : Tab w) :
    Calls Tryd.prog 9 #[.agg #[.int .i64 c, .int .i64 n, .int .i64 5, .int .i64 x, .int .i64 y]] w fun e w' => e = .returned (bsV (putN c n 5 x y)) ∧ Below w.heap.size w w' := by
  have B0 : Hid (Below w.heap.size w (w.alloc (.cells #[.int .i64 c, .int .i64 n, .int .i64 5, .int .i64 x, .int .i64 y] 25))) := (Below.refl _ _).alloc (Nat.le_refl _) _
  have TB := Lib.hid ht
  have HQ := Lib.hid hq
  have HN := Lib.hid (show nullB ⟨c, n, 5, x, y⟩ = false by unfold nullB; rw [decide_eq_false]; intro h; injection h with _ _ h; omega)
  have hd : deedT 5 = .iface 64 (.agg #[]) := rfl
  have hi : inB 5 1 5 = true := rfl
  have hm := method_word5
  clear ht hq
  go_enter Tryd.func9, Tryd.ntmps9
  go_wp2_with (fail)
  refine (isNull ⟨c, n, 5, x, y⟩ _).mono ?_
  rintro e w1 ⟨rfl, hb⟩
  rw [HN.out]
  obtain ⟨hc1, hf1⟩ := bcell hb
  have hz1 : w.heap.size < w1.heap.size := by have := hb.size; simp at this; omega
  have B1 := Lib.hid (Below.and B0.out hb)
  have K1 := Lib.hid ((Bkk.new (t := 25) (cs := #[.int .i64 c, .int .i64 n, .int .i64 5, .int .i64 x, .int .i64 y]) w).below hb)
  go_wp2_with (first | (go_at_call 21; refine (deedOf _ _).mono ?_; rintro e w' ⟨rfl, rfl⟩; rw [hd, hi]))
  refine (implReqOk c n 5 x y _).mono ?_
  rintro e w2 ⟨rfl, hb2⟩
  rw [HQ.out]
  have BW := Lib.hid (Below.and B1.out hb2)
  have K2 := Lib.hid (K1.out.below hb2)
  clear hb hc1 hf1 hz1 hb2
  have hz2 : w.heap.size < w2.heap.size := K2.out.lt
  have x0' : w2.cell? ⟨w.heap.size, 0, none⟩ = some (.int .i64 c) := K2.out.cell 0
  have x1' : w2.cell? ⟨w.heap.size, 1, none⟩ = some (.int .i64 n) := K2.out.cell 1
  have x2' : w2.cell? ⟨w.heap.size, 2, none⟩ = some (.int .i64 5) := K2.out.cell 2
  have x3' : w2.cell? ⟨w.heap.size, 3, none⟩ = some (.int .i64 x) := K2.out.cell 3
  have x4' : w2.cell? ⟨w.heap.size, 4, none⟩ = some (.int .i64 y) := K2.out.cell 4
  go_wp2_with (fail)
  refine wp_region_held_drew (S := fun w1 => Below w2.heap.size w2 w1) (by kernel_rfl) ((Below.refl _ _).drew) (fun hH => ?_)
  refine takeD 0 21 (v := ?_) rfl rfl (by kernel_rfl) (by kernel_rfl) (by kernel_rfl) (fun _ _ _ h => h) (Or.inl ⟨by rfl, ?_⟩) (by assumption) ?_
  rotate_left
  · intro w1 hSw; obtain ⟨hcS, hfS⟩ := bcell hSw; go_simp; (try with_reducible rfl)
  (try simp only [Act.put, List.setIfInBounds_toArray, List.set_cons_zero, List.set_cons_succ])
  refine takeD 1 22 (v := ?_) rfl rfl (by kernel_rfl) (by kernel_rfl) (by kernel_rfl) (fun _ _ _ h => h) (Or.inl ⟨by rfl, ?_⟩) (by assumption) ?_
  rotate_left
  · intro w1 hSw; obtain ⟨hcS, hfS⟩ := bcell hSw; go_simp; (try with_reducible rfl)
  (try simp only [Act.put, List.setIfInBounds_toArray, List.set_cons_zero, List.set_cons_succ])
  refine takeD 3 24 (v := ?_) rfl rfl (by kernel_rfl) (by kernel_rfl) (by kernel_rfl) (fun _ _ _ h => h) (Or.inl ⟨by rfl, ?_⟩) (by assumption) ?_
  rotate_left
  · intro w1 hSw; obtain ⟨hcS, hfS⟩ := bcell hSw; go_simp; (try with_reducible rfl)
  (try simp only [Act.put, List.setIfInBounds_toArray, List.set_cons_zero, List.set_cons_succ])
  refine takeD 4 25 (v := ?_) rfl rfl (by kernel_rfl) (by kernel_rfl) (by kernel_rfl) (fun _ _ _ h => h) (Or.inl ⟨by rfl, ?_⟩) (by assumption) ?_
  rotate_left
  · intro w1 hSw; obtain ⟨hcS, hfS⟩ := bcell hSw; go_simp; (try with_reducible rfl)
  (try simp only [Act.put, List.setIfInBounds_toArray, List.set_cons_zero, List.set_cons_succ])
  refine takeD 6 27 (v := ?_) rfl rfl (by kernel_rfl) (by kernel_rfl) (by kernel_rfl) (fun _ _ _ h => h) (Or.inl ⟨by rfl, ?_⟩) (by assumption) ?_
  rotate_left
  · intro w1 hSw; obtain ⟨hcS, hfS⟩ := bcell hSw; go_simp; (try with_reducible rfl)
  (try simp only [Act.put, List.setIfInBounds_toArray, List.set_cons_zero, List.set_cons_succ])
  refine takeD 8 29 (v := ?_) rfl rfl (by kernel_rfl) (by kernel_rfl) (by kernel_rfl) (fun _ _ _ h => h) (Or.inl ⟨by rfl, ?_⟩) (by assumption) ?_
  rotate_left
  · intro w1 hSw; obtain ⟨hcS, hfS⟩ := bcell hSw; go_simp; (try with_reducible rfl)
  (try simp only [Act.put, List.setIfInBounds_toArray, List.set_cons_zero, List.set_cons_succ])
  refine takeD 9 30 (v := ?_) rfl rfl (by kernel_rfl) (by kernel_rfl) (by kernel_rfl) (fun _ _ _ h => h) (Or.inl ⟨by rfl, ?_⟩) (by assumption) ?_
  rotate_left
  · intro w1 hSw; obtain ⟨hcS, hfS⟩ := bcell hSw; go_simp; (try with_reducible rfl)
  (try simp only [Act.put, List.setIfInBounds_toArray, List.set_cons_zero, List.set_cons_succ])
  refine takeD 11 32 (v := ?_) rfl rfl (by kernel_rfl) (by kernel_rfl) (by kernel_rfl) (fun _ _ _ h => h) (Or.inl ⟨by rfl, ?_⟩) (by assumption) ?_
  rotate_left
  · intro w1 hSw; obtain ⟨hcS, hfS⟩ := bcell hSw; go_simp; (try with_reducible rfl)
  (try simp only [Act.put, List.setIfInBounds_toArray, List.set_cons_zero, List.set_cons_succ])
  refine takeD 12 33 (v := ?_) rfl rfl (by kernel_rfl) (by kernel_rfl) (by kernel_rfl) (fun _ _ _ h => h) (Or.inl ⟨by rfl, ?_⟩) (by assumption) ?_
  rotate_left
  · intro w1 hSw; obtain ⟨hcS, hfS⟩ := bcell hSw; go_simp; (try with_reducible rfl)
  (try simp only [Act.put, List.setIfInBounds_toArray, List.set_cons_zero, List.set_cons_succ])
  refine wpAnyH_ready (rs := [2]) (by kernel_rfl) (by simp) ?_
  refine AllReadyH.cons rfl (fun K hK => ?_) AllReadyH.nil
  go_simp
  refine (itoaC c _ (by omega) (by omega) (TB.out.below (Below.and BW.out hH))).mono ?_
  rintro e w3 ⟨rfl, hb⟩
  refine hK.out _ _ (Below.and hH hb) (fun hH2 => ?_)
  clear hK K
  (try simp only [Act.put, List.setIfInBounds_toArray, List.set_cons_zero, List.set_cons_succ])
  refine wpAnyH_ready (rs := [5]) (by kernel_rfl) (by simp) ?_
  refine AllReadyH.cons rfl (fun K hK => ?_) AllReadyH.nil
  go_simp
  refine (itoaC n _ (by omega) (by omega) (TB.out.below (Below.and BW.out hH2))).mono ?_
  rintro e w4 ⟨rfl, hb⟩
  refine hK.out _ _ (Below.and hH2 hb) (fun hH3 => ?_)
  clear hK K
  (try simp only [Act.put, List.setIfInBounds_toArray, List.set_cons_zero, List.set_cons_succ])
  refine wpAnyH_ready (rs := [7]) (by kernel_rfl) (by simp) ?_
  refine AllReadyH.cons rfl (fun K hK => ?_) AllReadyH.nil
  go_simp
  refine (word5 _).mono ?_
  rintro e w5 ⟨rfl, hb⟩
  refine hK.out _ _ (Below.and hH3 hb) (fun hH4 => ?_)
  clear hK K
  (try simp only [Act.put, List.setIfInBounds_toArray, List.set_cons_zero, List.set_cons_succ])
  refine wpAnyH_ready (rs := [10]) (by kernel_rfl) (by simp) ?_
  refine AllReadyH.cons rfl (fun K hK => ?_) AllReadyH.nil
  go_simp
  refine (itoaC x _ (by omega) (by omega) (TB.out.below (Below.and BW.out hH4))).mono ?_
  rintro e w6 ⟨rfl, hb⟩
  refine hK.out _ _ (Below.and hH4 hb) (fun hH5 => ?_)
  clear hK K
  (try simp only [Act.put, List.setIfInBounds_toArray, List.set_cons_zero, List.set_cons_succ])
  refine wpAnyH_ready (rs := [13]) (by kernel_rfl) (by simp) ?_
  refine AllReadyH.cons rfl (fun K hK => ?_) AllReadyH.nil
  go_simp
  refine (itoaC y _ (by omega) (by omega) (TB.out.below (Below.and BW.out hH5))).mono ?_
  rintro e w7 ⟨rfl, hb⟩
  refine hK.out _ _ (Below.and hH5 hb) (fun hH6 => ?_)
  clear hK K
  (try simp only [Act.put, List.setIfInBounds_toArray, List.set_cons_zero, List.set_cons_succ])
  refine wpAnyH_ready (rs := [14]) (by kernel_rfl) (by simp) ?_
  refine AllReadyH.cons rfl (fun K hK => ?_) AllReadyH.nil
  go_simp
  refine hK.out _ _ (hH6.alloc hH6.size _) (fun hH7 => ?_)
  clear hK K
  (try simp only [Act.put, List.setIfInBounds_toArray, List.set_cons_zero, List.set_cons_succ])
  refine takeD 15 5 (v := ?_) rfl rfl (by kernel_rfl) (by kernel_rfl) (by kernel_rfl) (fun _ _ _ h => h) (Or.inl ⟨by rfl, ?_⟩) (by assumption) ?_
  rotate_left
  · intro w1 hSw; obtain ⟨hcS, hfS⟩ := bcell hSw; go_simp; (try with_reducible rfl)
  (try simp only [Act.put, List.setIfInBounds_toArray, List.set_cons_zero, List.set_cons_succ])
  refine wpAnyH_done (by kernel_rfl) ?_ _
  have BX := Lib.hid (Below.and BW.out hH7)
  have KJ : Hid (Bkk (w7.alloc (.cells #[.string ⟨(Lib.itoa c).toArray⟩, .string ⟨(Lib.itoa n).toArray⟩, .string ⟨(wordN 5).toArray⟩, .string ⟨(Lib.itoa x).toArray⟩, .string ⟨(Lib.itoa y).toArray⟩] 9)) w7.heap.size 9 #[.string ⟨(Lib.itoa c).toArray⟩, .string ⟨(Lib.itoa n).toArray⟩, .string ⟨(wordN 5).toArray⟩, .string ⟨(Lib.itoa x).toArray⟩, .string ⟨(Lib.itoa y).toArray⟩]) := Bkk.new w7
  clear hH hH2 hH3 hH4 hH5 hH6 hH7
  have HE := Lib.hid (show Lib.join (([⟨(Lib.itoa c).toArray⟩, ⟨(Lib.itoa n).toArray⟩, ⟨(wordN 5).toArray⟩, ⟨(Lib.itoa x).toArray⟩, ⟨(Lib.itoa y).toArray⟩] : List ByteArray).map (·.data.toList)) ([32] : List UInt8) = putN c n 5 x y from join_put c n 5 x y)
  go_wp2_with (fail)
  refine (Tryd.strings_Join w7.heap.size 0 5 [⟨(Lib.itoa c).toArray⟩, ⟨(Lib.itoa n).toArray⟩, ⟨(wordN 5).toArray⟩, ⟨(Lib.itoa x).toArray⟩, ⟨(Lib.itoa y).toArray⟩] ⟨#[32]⟩ _ ?_ ?_ ?_ ?_ ?_).mono ?_
  · intro j x hj
    rw [Nat.zero_add, KJ.out.cell j]
    rcases j with _ | _ | _ | _ | _ | j
    all_goals first | (cases hj; rfl) | (simp at hj)
  · exact KJ.out.lt
  · simp
  · simp
  · have := HE.out
    rw [show (⟨#[32]⟩ : ByteArray).data.toList = [32] from rfl, this]
    have := putN_len c n 5 x y (by omega) (by omega) (by omega) (by omega) (by omega) (by omega) (by omega) (by omega)
    omega
  rintro e w8 ⟨rfl, hb⟩
  have BX := Lib.hid (Below.and BX.out hb)
  clear hb
  go_wp2
  go_light
  go_ret
  exact ⟨ret_bs HE.out, BX.out⟩
end Go.Proofs.YtolepfbhhmganaaDoor
