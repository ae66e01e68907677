/- A game copied: the program's way. -/
import Derived.Test.YthjiooocahdfpaaGc
import Derived.Test.YthjiooocahdfpaaBk
namespace Go.Proofs.Ythjiooocahdfpaa
open Go.ChangeShapes Go.WideShapes Go.ChangeAt Go.RowKit
set_option linter.unusedVariables false
set_option linter.unusedSimpArgs false

theorem infoEnt' : (Try.prog.info? 74).map (fun i => (i.zero, i.size, i.bytes)) = some (some (.agg #[.int .i64 0, .int .i64 0, .int .i64 0, .int .i64 0, .int .i64 0]), 5, 40) := by kernel_rfl
theorem infoInt' : (Try.prog.info? 3).map (fun i => (i.zero, i.size, i.bytes)) = some (some (.int .i64 0), 1, 8) := by kernel_rfl
theorem parts_of {P : Program} {t : TypeId} {z : Option Value} {n b : Nat} (h : (P.info? t).map (fun i => (i.zero, i.size, i.bytes)) = some (z, n, b)) : ∃ i, P.info? t = some i ∧ i.zero = z ∧ i.size = n ∧ i.bytes = b := by
  rcases hi : P.info? t with _ | i
  · rw [hi] at h; cases h
  · rw [hi] at h
    simp only [Option.map_some, Option.some.injEq, Prod.mk.injEq] at h
    exact ⟨i, rfl, h.1, h.2.1, h.2.2⟩
theorem own_keepN {w w' : World} {base : Nat} {e : TypeId} {size : Nat} {v : Value} {n : Nat} {xs : List Value} (h : w.ownsRow base e size v n xs) (hg : w.grownBy w' none) : w'.ownsRow base e size v n xs := by
  rcases hq : v.ownBlock with _ | x
  · exact h.kept hg (.inl hq)
  · exact h.kept hg (.inr (by rw [hq]; simp))
theorem RdF.rd {w : World} {A : Option Addr} {E : List Fig} (h : RdF w A E) : Rd 5 Fig.cells w A E := fun i hi => by
  obtain ⟨g, rfl, a0, a1, a2, a3, a4⟩ := h i hi
  refine ⟨g, 0, rfl, fun p u hu => ?_⟩
  rw [Nat.zero_add]
  rcases p with _ | _ | _ | _ | _ | p
  · injection hu with hu; rw [← hu]; exact a0
  · injection hu with hu; rw [← hu]; exact a1
  · injection hu with hu; rw [← hu]; exact a2
  · injection hu with hu; rw [← hu]; exact a3
  · injection hu with hu; rw [← hu]; exact a4
  · cases hu
theorem RdI.rd {w : World} {A : Option Addr} {l : List Int} (h : RdI w A l) : Rd 1 cI w A l := fun i hi => by
  obtain ⟨g, rfl, a0⟩ := h i hi
  refine ⟨g, 0, rfl, fun p u hu => ?_⟩
  rw [Nat.zero_add, Nat.mul_one]
  rcases p with _ | p
  · injection hu with hu; rw [← hu]; exact a0
  · cases hu

set_option maxRecDepth 100000 in
set_option maxHeartbeats 8000000 in
theorem copyGame (A : Option Addr) (a : Nat) (B : Option Addr) (b : Nat) (C : Option Addr) (d : Nat) (E : List Fig) (F L : List Int) (w : World) (hE : E.length ≤ 4) (hF : F.length ≤ 16) (hL : L.length ≤ 4)
    (rE : RdF w A E) (rF : RdI w B F) (rL : RdI w C L) (nA : A = none → a = 0) (nB : B = none → b = 0) (nC : C = none → d = 0) :
    Calls Try.prog 39 #[gameV A E.length a B F.length b C L.length d] w fun e w' => ∃ A' a' B' b' C' d', e = .returned (gameV A' E.length a' B' F.length b' C' L.length d') ∧
      w'.ownsRow w.heap.size 74 5 (.slice A' E.length a') E.length (figs E) ∧ w'.ownsRow w.heap.size 3 1 (.slice B' F.length b') F.length (ints F) ∧ w'.ownsRow w.heap.size 3 1 (.slice C' L.length d') L.length (ints L) ∧
      (∀ x, (Value.slice A' E.length a').ownBlock = some x → (Value.slice B' F.length b').ownBlock ≠ some x) ∧ (∀ x, (Value.slice A' E.length a').ownBlock = some x → (Value.slice C' L.length d').ownBlock ≠ some x) ∧ (∀ x, (Value.slice B' F.length b').ownBlock = some x → (Value.slice C' L.length d').ownBlock ≠ some x) ∧ Below w.heap.size w w' := by
  obtain ⟨I, hi, hz0, hz1, hz2⟩ := parts_of infoEnt'
  have I1 := Lib.hid hi
  have I2 := Lib.hid hz0
  have I3 := Lib.hid hz1
  have I4 := Lib.hid hz2
  clear hi hz0 hz1 hz2
  obtain ⟨J, hi, hz0, hz1, hz2⟩ := parts_of infoInt'
  have J1 := Lib.hid hi
  have J2 := Lib.hid hz0
  have J3 := Lib.hid hz1
  have J4 := Lib.hid hz2
  clear hi hz0 hz1 hz2
  have BW : Hid (Below w.heap.size w ((w.alloc (.cells #[.slice A E.length a, .slice B F.length b, .slice C L.length d] 31)).alloc (.cells #[.slice none 0 0, .slice none 0 0, .slice none 0 0] 31))) := below_alloc2 w _ _
  have HS0 : Hid (Below (w.alloc (.cells #[.slice A E.length a, .slice B F.length b, .slice C L.length d] 31)).heap.size (w.alloc (.cells #[.slice A E.length a, .slice B F.length b, .slice C L.length d] 31)) ((w.alloc (.cells #[.slice A E.length a, .slice B F.length b, .slice C L.length d] 31)).alloc (.cells #[.slice none 0 0, .slice none 0 0, .slice none 0 0] 31))) := (Below.refl _ _).alloc (Nat.le_refl _) _
  have HB2 : Hid (Below ((w.alloc (.cells #[.slice A E.length a, .slice B F.length b, .slice C L.length d] 31)).alloc (.cells #[.slice none 0 0, .slice none 0 0, .slice none 0 0] 31)).heap.size ((w.alloc (.cells #[.slice A E.length a, .slice B F.length b, .slice C L.length d] 31)).alloc (.cells #[.slice none 0 0, .slice none 0 0, .slice none 0 0] 31)) ((w.alloc (.cells #[.slice A E.length a, .slice B F.length b, .slice C L.length d] 31)).alloc (.cells #[.slice none 0 0, .slice none 0 0, .slice none 0 0] 31)).drew) := (Below.refl _ _).drew
  have HE := Lib.hid (RdF.below rE BW.out)
  have HF := Lib.hid (RdI.below rF BW.out)
  have HL := Lib.hid (RdI.below rL BW.out)
  have HA := Lib.hid nA
  have HB := Lib.hid nB
  have HC := Lib.hid nC
  clear rE rF rL nA nB nC
  unfold gameV
  go_enter Try.func39, Try.ntmps39
  go_wp2_with (fail)
  refine wp_region_held_drew (S := fun w1 => Below (w.alloc (.cells #[.slice A E.length a, .slice B F.length b, .slice C L.length d] 31)).heap.size (w.alloc (.cells #[.slice A E.length a, .slice B F.length b, .slice C L.length d] 31)) w1) (by kernel_rfl) (Below.and HS0.out HB2.out) (fun hH => ?_)
  refine takeD 0 3 (v := ?_) rfl rfl (by kernel_rfl) (by kernel_rfl) (by kernel_rfl) (fun _ _ _ h => h) (Or.inl ⟨by rfl, ?_⟩) (by assumption) ?_
  rotate_left
  · intro w1 hSw; obtain ⟨hcS, hfS⟩ := bcell hSw; go_simp; (try with_reducible rfl)
  (try simp only [Act.put, List.setIfInBounds_toArray, List.set_cons_zero, List.set_cons_succ])
  refine takeD 1 4 (v := ?_) rfl rfl (by kernel_rfl) (by kernel_rfl) (by kernel_rfl) (fun _ _ _ h => h) (Or.inl ⟨by rfl, ?_⟩) (by assumption) ?_
  rotate_left
  · intro w1 hSw; obtain ⟨hcS, hfS⟩ := bcell hSw; go_simp; (try with_reducible rfl)
  (try simp only [Act.put, List.setIfInBounds_toArray, List.set_cons_zero, List.set_cons_succ])
  refine takeD 3 6 (v := ?_) rfl rfl (by kernel_rfl) (by kernel_rfl) (by kernel_rfl) (fun _ _ _ h => h) (Or.inl ⟨by rfl, ?_⟩) (by assumption) ?_
  rotate_left
  · intro w1 hSw; obtain ⟨hcS, hfS⟩ := bcell hSw; go_simp; (try with_reducible rfl)
  (try simp only [Act.put, List.setIfInBounds_toArray, List.set_cons_zero, List.set_cons_succ])
  refine takeD 4 7 (v := ?_) rfl rfl (by kernel_rfl) (by kernel_rfl) (by kernel_rfl) (fun _ _ _ h => h) (Or.inl ⟨by rfl, ?_⟩) (by assumption) ?_
  rotate_left
  · intro w1 hSw; obtain ⟨hcS, hfS⟩ := bcell hSw; go_simp; (try with_reducible rfl)
  (try simp only [Act.put, List.setIfInBounds_toArray, List.set_cons_zero, List.set_cons_succ])
  refine takeD 6 9 (v := ?_) rfl rfl (by kernel_rfl) (by kernel_rfl) (by kernel_rfl) (fun _ _ _ h => h) (Or.inl ⟨by rfl, ?_⟩) (by assumption) ?_
  rotate_left
  · intro w1 hSw; obtain ⟨hcS, hfS⟩ := bcell hSw; go_simp; (try with_reducible rfl)
  (try simp only [Act.put, List.setIfInBounds_toArray, List.set_cons_zero, List.set_cons_succ])
  refine takeD 7 10 (v := ?_) rfl rfl (by kernel_rfl) (by kernel_rfl) (by kernel_rfl) (fun _ _ _ h => h) (Or.inl ⟨by rfl, ?_⟩) (by assumption) ?_
  rotate_left
  · intro w1 hSw; obtain ⟨hcS, hfS⟩ := bcell hSw; go_simp; (try with_reducible rfl)
  (try simp only [Act.put, List.setIfInBounds_toArray, List.set_cons_zero, List.set_cons_succ])
  refine wpAnyH_ready (rs := [2]) (by kernel_rfl) (by simp) ?_
  refine AllReadyH.cons rfl (fun K hK => ?_) AllReadyH.nil
  refine step_app Fig.len (by rfl) _ _ 29 (by rfl) (w.heap.size + 2) 74 I (.agg #[.int .i64 0, .int .i64 0, .int .i64 0, .int .i64 0, .int .i64 0]) 40 Try.underlying29 I1.out I2.out I3.out I4.out (by rfl) (by omega) (.slice none 0 0) 0 [] (by rfl) (World.ownsRow_nil _ _ _ _) A a E.length E rfl (by rfl) (RdF.below HE.out HB2.out).rd HA.out (figs_one E) (by unfold maxLen; omega) (by omega) (by have := HB2.out.size; first | (simp at this ⊢; done) | (simp at this ⊢; omega) | omega) ?_
  intro v3 w3 ho3 hg3 hp3
  have HB3 := Lib.hid (Below.trans HB2.out (Below.of_grown hg3 HB2.out.size (fun k hk => by simp [Value.ownBlock] at hk)))
  refine hK.out _ _ (Below.and HS0.out HB3.out) (fun hS3 => ?_)
  clear hK K
  (try simp only [Act.put, List.setIfInBounds_toArray, List.set_cons_zero, List.set_cons_succ])
  refine wpAnyH_ready (rs := [5]) (by kernel_rfl) (by simp) ?_
  refine AllReadyH.cons rfl (fun K hK => ?_) AllReadyH.nil
  refine step_app cI_len (by rfl) _ _ 23 (by rfl) (w.heap.size + 2) 3 J (.int .i64 0) 8 Try.underlying23 J1.out J2.out J3.out J4.out (by rfl) (by omega) (.slice none 0 0) 0 [] (by rfl) (World.ownsRow_nil _ _ _ _) B b F.length F rfl (by rfl) (RdI.below HF.out HB3.out).rd HB.out (ints_one F) (by unfold maxLen; omega) (by omega) (by have := HB3.out.size; first | (simp at this ⊢; done) | (simp at this ⊢; omega) | omega) ?_
  intro v4 w4 ho4 hg4 hp4
  have HB4 := Lib.hid (Below.trans HB3.out (Below.of_grown hg4 HB3.out.size (fun k hk => by simp [Value.ownBlock] at hk)))
  refine hK.out _ _ (Below.and HS0.out HB4.out) (fun hS4 => ?_)
  clear hK K
  (try simp only [Act.put, List.setIfInBounds_toArray, List.set_cons_zero, List.set_cons_succ])
  refine wpAnyH_ready (rs := [8]) (by kernel_rfl) (by simp) ?_
  refine AllReadyH.cons rfl (fun K hK => ?_) AllReadyH.nil
  refine step_app cI_len (by rfl) _ _ 23 (by rfl) (w.heap.size + 2) 3 J (.int .i64 0) 8 Try.underlying23 J1.out J2.out J3.out J4.out (by rfl) (by omega) (.slice none 0 0) 0 [] (by rfl) (World.ownsRow_nil _ _ _ _) C d L.length L rfl (by rfl) (RdI.below HL.out HB4.out).rd HC.out (ints_one L) (by unfold maxLen; omega) (by omega) (by have := HB4.out.size; first | (simp at this ⊢; done) | (simp at this ⊢; omega) | omega) ?_
  intro v5 w5 ho5 hg5 hp5
  have HB5 := Lib.hid (Below.trans HB4.out (Below.of_grown hg5 HB4.out.size (fun k hk => by simp [Value.ownBlock] at hk)))
  refine hK.out _ _ (Below.and HS0.out HB5.out) (fun hS5 => ?_)
  clear hK K
  (try simp only [Act.put, List.setIfInBounds_toArray, List.set_cons_zero, List.set_cons_succ])
  simp only [Nat.zero_add, List.nil_append, ints_flat] at ho3 ho4 ho5
  obtain ⟨A', a', hv3, m3⟩ := own_form ho3
  obtain ⟨B', b', hv4, m4⟩ := own_form ho4
  obtain ⟨C', d', hv5, m5⟩ := own_form ho5
  subst hv3
  subst hv4
  subst hv5
  have OA := Lib.hid (own_keepN (own_keepN ho3 hg4) hg5)
  have OB := Lib.hid (own_keepN ho4 hg5)
  have OC := Lib.hid ho5
  have D1 : Hid (∀ x, (Value.slice A' E.length a').ownBlock = some x → (Value.slice B' F.length b').ownBlock ≠ some x) := fun x hx e => by
    have h1 := (own_block_ge ho3 x hx).2
    rcases hp4 with h | h
    · rw [h] at e; simp [Value.ownBlock] at e
    · rw [h] at e; injection e with e; omega
  have D2 : Hid (∀ x, (Value.slice A' E.length a').ownBlock = some x → (Value.slice C' L.length d').ownBlock ≠ some x) := fun x hx e => by
    have h1 := (own_block_ge ho3 x hx).2
    have h2 := hg4.size
    rcases hp5 with h | h
    · rw [h] at e; simp [Value.ownBlock] at e
    · rw [h] at e; injection e with e; omega
  have D3 : Hid (∀ x, (Value.slice B' F.length b').ownBlock = some x → (Value.slice C' L.length d').ownBlock ≠ some x) := fun x hx e => by
    have h1 := (own_block_ge ho4 x hx).2
    rcases hp5 with h | h
    · rw [h] at e; simp [Value.ownBlock] at e
    · rw [h] at e; injection e with e; omega
  have K5 : Hid (Three w5 (w.heap.size + 1) 31 (.slice none 0 0) (.slice none 0 0) (.slice none 0 0)) := by
    have h0 : Three ((w.alloc (.cells #[.slice A E.length a, .slice B F.length b, .slice C L.length d] 31)).alloc (.cells #[.slice none 0 0, .slice none 0 0, .slice none 0 0] 31)) (w.heap.size + 1) 31 (.slice none 0 0) (.slice none 0 0) (.slice none 0 0) := by
      have h := heap_alloc_new (w.alloc (.cells #[.slice A E.length a, .slice B F.length b, .slice C L.length d] 31)) (.cells #[.slice none 0 0, .slice none 0 0, .slice none 0 0] 31)
      rw [show (w.alloc (.cells #[.slice A E.length a, .slice B F.length b, .slice C L.length d] 31)).heap.size = w.heap.size + 1 by simp] at h
      exact h
    exact h0.below HB5.out (by simp)
  have BF := Lib.hid (Below.and BW.out HB5.out)
  clear ho3 ho4 ho5 hg3 hg4 hg5 hp3 hp4 hp5 m3 m4 m5 HE HF HL HA HB HC I1 I2 I3 I4 J1 J2 J3 J4 hS3 hS4 hH HB2 HB3 HB4 HB5
  obtain ⟨z0, z1, z2⟩ := K5.out.cells
  have zf := K5.out.frozen
  have zl := K5.out.lt
  refine takeD 9 12 (v := ?_) rfl rfl (by kernel_rfl) (by kernel_rfl) (by kernel_rfl) (fun _ _ _ h => h) (Or.inl ⟨by rfl, ?_⟩) (by assumption) ?_
  rotate_left
  · intro w1 hSw; go_simp; (try with_reducible rfl)
  (try simp only [Act.put, List.setIfInBounds_toArray, List.set_cons_zero, List.set_cons_succ])
  refine wpAnyH_ready (rs := [10]) (by kernel_rfl) (by simp) ?_
  refine AllReadyH.cons rfl (fun K hK => ?_) AllReadyH.nil
  go_simp
  refine hK.out _ _ (Below.setCell (Below.setCell (Below.setCell hS5 (by simp) _) (by simp) _) (by simp) _) (fun hS6 => ?_)
  clear hK K
  (try simp only [Act.put, List.setIfInBounds_toArray, List.set_cons_zero, List.set_cons_succ])
  refine wpAnyH_done (by kernel_rfl) ?_ _
  have bb : w.heap.size ≤ w5.heap.size := BF.out.size
  go_wp2
  refine bodyPost_ret (v := .agg #[.slice A' E.length a', .slice B' F.length b', .slice C' L.length d']) (by simp [results, Try.results39, go_sem, z0, z1, z2]) rfl ⟨A', a', B', b', C', d', rfl, own_base (own_put (own_put (own_put OA.out (by omega) _ _) (by omega) _ _) (by omega) _ _) (by omega), own_base (own_put (own_put (own_put OB.out (by omega) _ _) (by omega) _ _) (by omega) _ _) (by omega), own_base (own_put (own_put (own_put OC.out (by omega) _ _) (by omega) _ _) (by omega) _ _) (by omega), D1.out, D2.out, D3.out, ?_⟩
  iterate 3 (refine Below.setCell ?_ (by first | (simp; done) | (simp; omega)) _)
  exact BF.out

end Go.Proofs.Ythjiooocahdfpaa
