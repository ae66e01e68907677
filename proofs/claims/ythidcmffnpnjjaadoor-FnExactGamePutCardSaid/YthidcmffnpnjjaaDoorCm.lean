/- A figure as a text, the program's way. -/
import Derived.Test.YthidcmffnpnjjaaDoorCl
namespace Go.Proofs.YthidcmffnpnjjaaDoor
open Go.ChangeShapes Go.WideShapes Go.ChangeAt Go.RowKit
set_option linter.unusedVariables false
set_option linter.unusedSimpArgs false

theorem join_ent (e : Fig) : Lib.join (([⟨(decs e.c).toArray⟩, ⟨(decs e.x).toArray⟩, ⟨(decs e.y).toArray⟩, ⟨(decs e.l).toArray⟩, ⟨(decs e.g).toArray⟩] : List ByteArray).map (·.data.toList)) ([44] : List UInt8) = entT e := by
  simp only [List.map_cons, List.map_nil]
  rw [Lib.join_cons]
  simp [Lib.joinTail, entT]

set_option maxRecDepth 100000 in
set_option maxHeartbeats 4000000 in
theorem entText (e : Fig) (w : World) (hs : SmF e) (ht : Tab w) :
    Calls Tryd.prog 19 #[.agg #[.int .i64 e.c, .int .i64 e.x, .int .i64 e.y, .int .i64 e.l, .int .i64 e.g]] w fun e' w' => e' = .returned (bsV (entT e)) ∧ Below w.heap.size w w' := by
  have Z : Hid (Below w.heap.size w (w.alloc (.cells #[.int .i64 e.c, .int .i64 e.x, .int .i64 e.y, .int .i64 e.l, .int .i64 e.g] 48))) := (Below.refl _ _).alloc (Nat.le_refl _) _
  have K : Hid (Bkk (w.alloc (.cells #[.int .i64 e.c, .int .i64 e.x, .int .i64 e.y, .int .i64 e.l, .int .i64 e.g] 48)) w.heap.size 48 #[.int .i64 e.c, .int .i64 e.x, .int .i64 e.y, .int .i64 e.l, .int .i64 e.g]) := Bkk.new _
  have HM := Lib.hid hs
  have HT := Lib.hid ht
  have HEN := Lib.hid (join_ent e)
  have HLN := Lib.hid (entT_len e hs)
  clear hs ht
  go_enter Tryd.func19, Tryd.ntmps19
  go_upto_region 1 with (fail)
  obtain ⟨wq, hwq⟩ : ∃ X, X = w.alloc (.cells #[.int .i64 e.c, .int .i64 e.x, .int .i64 e.y, .int .i64 e.l, .int .i64 e.g] 48) := ⟨_, rfl⟩
  rw [← hwq] at K Z ⊢
  clear hwq
  have x0 : wq.cell? ⟨w.heap.size, 0, none⟩ = some (.int .i64 e.c) := K.out.cell 0
  have x1 : wq.cell? ⟨w.heap.size, 1, none⟩ = some (.int .i64 e.x) := K.out.cell 1
  have x2 : wq.cell? ⟨w.heap.size, 2, none⟩ = some (.int .i64 e.y) := K.out.cell 2
  have x3 : wq.cell? ⟨w.heap.size, 3, none⟩ = some (.int .i64 e.l) := K.out.cell 3
  have x4 : wq.cell? ⟨w.heap.size, 4, none⟩ = some (.int .i64 e.g) := K.out.cell 4
  have lx := K.out.lt
  refine wp_region_held_drew (S := fun w1 => Below wq.heap.size wq w1) (by kernel_rfl) ((Below.refl _ _).drew) (fun hq => ?_)
  refine takeD 0 4 (v := ?_) rfl rfl (by kernel_rfl) (by kernel_rfl) (by kernel_rfl) (fun _ _ _ h => h) (Or.inl ⟨by rfl, ?_⟩) (by assumption) ?_
  rotate_left
  · intro w1 hSw; obtain ⟨hcS, hfS⟩ := bcell hSw; go_simp; (try with_reducible rfl)
  (try simp only [Act.put, List.setIfInBounds_toArray, List.set_cons_zero, List.set_cons_succ])
  refine takeD 1 5 (v := ?_) rfl rfl (by kernel_rfl) (by kernel_rfl) (by kernel_rfl) (fun _ _ _ h => h) (Or.inl ⟨by rfl, ?_⟩) (by assumption) ?_
  rotate_left
  · intro w1 hSw; obtain ⟨hcS, hfS⟩ := bcell hSw; go_simp; (try with_reducible rfl)
  (try simp only [Act.put, List.setIfInBounds_toArray, List.set_cons_zero, List.set_cons_succ])
  refine takeD 3 7 (v := ?_) rfl rfl (by kernel_rfl) (by kernel_rfl) (by kernel_rfl) (fun _ _ _ h => h) (Or.inl ⟨by rfl, ?_⟩) (by assumption) ?_
  rotate_left
  · intro w1 hSw; obtain ⟨hcS, hfS⟩ := bcell hSw; go_simp; (try with_reducible rfl)
  (try simp only [Act.put, List.setIfInBounds_toArray, List.set_cons_zero, List.set_cons_succ])
  refine takeD 4 8 (v := ?_) rfl rfl (by kernel_rfl) (by kernel_rfl) (by kernel_rfl) (fun _ _ _ h => h) (Or.inl ⟨by rfl, ?_⟩) (by assumption) ?_
  rotate_left
  · intro w1 hSw; obtain ⟨hcS, hfS⟩ := bcell hSw; go_simp; (try with_reducible rfl)
  (try simp only [Act.put, List.setIfInBounds_toArray, List.set_cons_zero, List.set_cons_succ])
  refine takeD 6 10 (v := ?_) rfl rfl (by kernel_rfl) (by kernel_rfl) (by kernel_rfl) (fun _ _ _ h => h) (Or.inl ⟨by rfl, ?_⟩) (by assumption) ?_
  rotate_left
  · intro w1 hSw; obtain ⟨hcS, hfS⟩ := bcell hSw; go_simp; (try with_reducible rfl)
  (try simp only [Act.put, List.setIfInBounds_toArray, List.set_cons_zero, List.set_cons_succ])
  refine takeD 7 11 (v := ?_) rfl rfl (by kernel_rfl) (by kernel_rfl) (by kernel_rfl) (fun _ _ _ h => h) (Or.inl ⟨by rfl, ?_⟩) (by assumption) ?_
  rotate_left
  · intro w1 hSw; obtain ⟨hcS, hfS⟩ := bcell hSw; go_simp; (try with_reducible rfl)
  (try simp only [Act.put, List.setIfInBounds_toArray, List.set_cons_zero, List.set_cons_succ])
  refine takeD 9 13 (v := ?_) rfl rfl (by kernel_rfl) (by kernel_rfl) (by kernel_rfl) (fun _ _ _ h => h) (Or.inl ⟨by rfl, ?_⟩) (by assumption) ?_
  rotate_left
  · intro w1 hSw; obtain ⟨hcS, hfS⟩ := bcell hSw; go_simp; (try with_reducible rfl)
  (try simp only [Act.put, List.setIfInBounds_toArray, List.set_cons_zero, List.set_cons_succ])
  refine takeD 10 14 (v := ?_) rfl rfl (by kernel_rfl) (by kernel_rfl) (by kernel_rfl) (fun _ _ _ h => h) (Or.inl ⟨by rfl, ?_⟩) (by assumption) ?_
  rotate_left
  · intro w1 hSw; obtain ⟨hcS, hfS⟩ := bcell hSw; go_simp; (try with_reducible rfl)
  (try simp only [Act.put, List.setIfInBounds_toArray, List.set_cons_zero, List.set_cons_succ])
  refine takeD 12 16 (v := ?_) rfl rfl (by kernel_rfl) (by kernel_rfl) (by kernel_rfl) (fun _ _ _ h => h) (Or.inl ⟨by rfl, ?_⟩) (by assumption) ?_
  rotate_left
  · intro w1 hSw; obtain ⟨hcS, hfS⟩ := bcell hSw; go_simp; (try with_reducible rfl)
  (try simp only [Act.put, List.setIfInBounds_toArray, List.set_cons_zero, List.set_cons_succ])
  refine takeD 13 17 (v := ?_) rfl rfl (by kernel_rfl) (by kernel_rfl) (by kernel_rfl) (fun _ _ _ h => h) (Or.inl ⟨by rfl, ?_⟩) (by assumption) ?_
  rotate_left
  · intro w1 hSw; obtain ⟨hcS, hfS⟩ := bcell hSw; go_simp; (try with_reducible rfl)
  (try simp only [Act.put, List.setIfInBounds_toArray, List.set_cons_zero, List.set_cons_succ])
  refine wpAnyH_ready (rs := [2]) (by kernel_rfl) (by simp) ?_
  refine AllReadyH.cons rfl (fun K hK => ?_) AllReadyH.nil
  go_simp
  refine (itoaP e.c _ HM.out.c.i64 (HT.out.below (Below.and Z.out hq))).mono ?_
  rintro e' w20 ⟨rfl, hb⟩
  refine hK.out _ _ (Below.and hq hb) (fun hq2 => ?_)
  clear hK K
  (try simp only [Act.put, List.setIfInBounds_toArray, List.set_cons_zero, List.set_cons_succ])
  refine wpAnyH_ready (rs := [5]) (by kernel_rfl) (by simp) ?_
  refine AllReadyH.cons rfl (fun K hK => ?_) AllReadyH.nil
  go_simp
  refine (itoaP e.x _ HM.out.x.i64 (HT.out.below (Below.and Z.out hq2))).mono ?_
  rintro e' w21 ⟨rfl, hb⟩
  refine hK.out _ _ (Below.and hq2 hb) (fun hq3 => ?_)
  clear hK K
  (try simp only [Act.put, List.setIfInBounds_toArray, List.set_cons_zero, List.set_cons_succ])
  refine wpAnyH_ready (rs := [8]) (by kernel_rfl) (by simp) ?_
  refine AllReadyH.cons rfl (fun K hK => ?_) AllReadyH.nil
  go_simp
  refine (itoaP e.y _ HM.out.y.i64 (HT.out.below (Below.and Z.out hq3))).mono ?_
  rintro e' w22 ⟨rfl, hb⟩
  refine hK.out _ _ (Below.and hq3 hb) (fun hq4 => ?_)
  clear hK K
  (try simp only [Act.put, List.setIfInBounds_toArray, List.set_cons_zero, List.set_cons_succ])
  refine wpAnyH_ready (rs := [11]) (by kernel_rfl) (by simp) ?_
  refine AllReadyH.cons rfl (fun K hK => ?_) AllReadyH.nil
  go_simp
  refine (itoaP e.l _ HM.out.l.i64 (HT.out.below (Below.and Z.out hq4))).mono ?_
  rintro e' w23 ⟨rfl, hb⟩
  refine hK.out _ _ (Below.and hq4 hb) (fun hq5 => ?_)
  clear hK K
  (try simp only [Act.put, List.setIfInBounds_toArray, List.set_cons_zero, List.set_cons_succ])
  refine wpAnyH_ready (rs := [14]) (by kernel_rfl) (by simp) ?_
  refine AllReadyH.cons rfl (fun K hK => ?_) AllReadyH.nil
  go_simp
  refine (itoaP e.g _ HM.out.g.i64 (HT.out.below (Below.and Z.out hq5))).mono ?_
  rintro e' w24 ⟨rfl, hb⟩
  refine hK.out _ _ (Below.and hq5 hb) (fun hq6 => ?_)
  clear hK K
  (try simp only [Act.put, List.setIfInBounds_toArray, List.set_cons_zero, List.set_cons_succ])
  refine wpAnyH_ready (rs := [15]) (by kernel_rfl) (by simp) ?_
  refine AllReadyH.cons rfl (fun K hK => ?_) AllReadyH.nil
  go_simp
  refine hK.out _ _ (hq6.alloc hq6.size _) (fun hq7 => ?_)
  clear hK K
  (try simp only [Act.put, List.setIfInBounds_toArray, List.set_cons_zero, List.set_cons_succ])
  refine takeD 16 3 (v := ?_) rfl rfl (by kernel_rfl) (by kernel_rfl) (by kernel_rfl) (fun _ _ _ h => h) (Or.inl ⟨by rfl, ?_⟩) (by assumption) ?_
  rotate_left
  · intro w1 hSw; obtain ⟨hcS, hfS⟩ := bcell hSw; go_simp; (try with_reducible rfl)
  (try simp only [Act.put, List.setIfInBounds_toArray, List.set_cons_zero, List.set_cons_succ])
  refine wpAnyH_done (by kernel_rfl) ?_ _
  have BXX := Lib.hid (Below.and Z.out hq7)
  have KJ : Hid (Bkk (w24.alloc (.cells #[.string ⟨(decs e.c).toArray⟩, .string ⟨(decs e.x).toArray⟩, .string ⟨(decs e.y).toArray⟩, .string ⟨(decs e.l).toArray⟩, .string ⟨(decs e.g).toArray⟩] 9)) w24.heap.size 9 #[.string ⟨(decs e.c).toArray⟩, .string ⟨(decs e.x).toArray⟩, .string ⟨(decs e.y).toArray⟩, .string ⟨(decs e.l).toArray⟩, .string ⟨(decs e.g).toArray⟩]) := Bkk.new _
  clear x0 x1 x2 x3 x4 lx K
  go_wp2_with (fail)
  refine (Tryd.strings_Join w24.heap.size 0 5 [⟨(decs e.c).toArray⟩, ⟨(decs e.x).toArray⟩, ⟨(decs e.y).toArray⟩, ⟨(decs e.l).toArray⟩, ⟨(decs e.g).toArray⟩] ⟨#[44]⟩ _ ?_ ?_ ?_ ?_ ?_).mono ?_
  · intro j x hj
    rw [Nat.zero_add, KJ.out.cell j]
    rcases j with _ | _ | _ | _ | _ | j
    all_goals first | (cases hj; rfl) | (simp at hj)
  · exact KJ.out.lt
  · simp
  · simp
  · have := HEN.out
    rw [show (⟨#[44]⟩ : ByteArray).data.toList = [44] from rfl, this]
    have := HLN.out
    omega
  rintro e' w8 ⟨rfl, hb⟩
  have BX8 := Lib.hid (Below.and BXX.out hb)
  clear hb
  go_wp2
  go_light
  go_ret
  exact ⟨ret_bs HEN.out, BX8.out⟩

end Go.Proofs.YthidcmffnpnjjaaDoor
