import Derived.Test.YtameldhdegcpoaaNB
namespace Go.Proofs.Ytameldhdegcpoaa
open Go.ChangeShapes Go.WideShapes Go.ChangeAt Go.RowKit
set_option linter.unusedVariables false
set_option linter.unusedSimpArgs false
theorem apart_symm {u v : Value} (h : ∀ x, u.ownBlock = some x → v.ownBlock ≠ some x) : ∀ x, v.ownBlock = some x → u.ownBlock ≠ some x := fun x hx e => h x e hx
theorem app_keep {w w' : World} {base : Nat} {e : TypeId} {size : Nat} {u v : Value} {n : Nat} {xs : List Value} (h : w.ownsRow base e size v n xs) (hg : w.grownBy w' u.ownBlock) (D : ∀ x, u.ownBlock = some x → v.ownBlock ≠ some x) : w'.ownsRow base e size v n xs := by
 rcases hq : v.ownBlock with _ | x
 · exact h.kept hg (.inl hq)
 · exact h.kept hg (.inr (by rw [hq]; exact fun e => D x e.symm hq))
theorem app_apart {w : World} {base : Nat} {e : TypeId} {size : Nat} {u u' v : Value} {n : Nat} {xs : List Value} (h : w.ownsRow base e size v n xs) (hp : u'.ownBlock = u.ownBlock ∨ u'.ownBlock = some w.heap.size) (D : ∀ x, u.ownBlock = some x → v.ownBlock ≠ some x) : ∀ x, u'.ownBlock = some x → v.ownBlock ≠ some x := by
 intro x hx e
 rcases hp with h1 | h1
 · exact D x (by rw [← h1]; exact hx) e
 · rw [h1] at hx
   injection hx with hx
   have := (h.lt x e).2
   omega
theorem new_apart {w : World} {base : Nat} {e : TypeId} {size : Nat} {v : Value} {n m c : Nat} {xs : List Value} (h : w.ownsRow base e size v n xs) : ∀ x, (Value.slice (some ⟨w.heap.size, 0, none⟩) m c).ownBlock = some x → v.ownBlock ≠ some x := by
 intro x hx e
 have h1 := (h.lt x e).2
 simp [Value.ownBlock] at hx
 omega
theorem own_nil_new (w : World) (e : TypeId) (size : Nat) (h : (#[] : Array Value).size = 0 * size) : (w.alloc (.cells #[] e)).ownsRow w.heap.size e size (.slice (some ⟨w.heap.size, 0, none⟩) 0 0) 0 [] :=
 World.ownsRow_lit (size := size) w #[] 0 (Nat.le_refl _) (by unfold maxLen; omega) h
set_option maxRecDepth 100000 in
set_option maxHeartbeats 16000000 in
theorem l2Copy (A : Option Addr) (a : Nat) (B : Option Addr) (b : Nat) (C : Option Addr) (d : Nat) (E : List Fig) (F L : List Int) (w : World) (hE : E.length ≤ 4) (hF : F.length ≤ 16) (hL : L.length ≤ 4)
 (rE : RdF w A E) (rF : RdI w B F) (rL : RdI w C L) (nA : A = none → a = 0) (nB : B = none → b = 0) (nC : C = none → d = 0) :
 Calls Try.prog 46 #[gameV A E.length a B F.length b C L.length d] w fun e w' => ∃ A' a' B' b' C' d', e = .returned (gameV A' E.length a' B' F.length b' C' L.length d') ∧
  w'.ownsRow w.heap.size 72 5 (.slice A' E.length a') E.length (figs E) ∧ w'.ownsRow w.heap.size 3 1 (.slice B' F.length b') F.length (ints F) ∧ w'.ownsRow w.heap.size 3 1 (.slice C' L.length d') L.length (ints L) ∧
  (∀ x, (Value.slice A' E.length a').ownBlock = some x → (Value.slice B' F.length b').ownBlock ≠ some x) ∧ (∀ x, (Value.slice A' E.length a').ownBlock = some x → (Value.slice C' L.length d').ownBlock ≠ some x) ∧ (∀ x, (Value.slice B' F.length b').ownBlock = some x → (Value.slice C' L.length d').ownBlock ≠ some x) ∧ Below w.heap.size w w' := by
 obtain ⟨I, hi, hz0, hz1, hz2⟩ := parts_of infoEnt'
 have I1 := Lib.hid hi
 have I2 := Lib.hid hz0
 have I3 := Lib.hid hz1
 have I4 := Lib.hid hz2
 clear hi hz0 hz1 hz2
 obtain ⟨J, hi, hz0, hz1, hz2⟩ := parts_of infoInt'
 have J1 := Lib.hid hi
 have J2 := Lib.hid hz0
 have J3 := Lib.hid hz1
 have J4 := Lib.hid hz2
 clear hi hz0 hz1 hz2
 have BW : Hid (Below w.heap.size w ((w.alloc (.cells #[.slice A E.length a, .slice B F.length b, .slice C L.length d] 29)).alloc (.cells #[.slice none 0 0, .slice none 0 0, .slice none 0 0] 29))) := below_alloc2 w _ _
 have HS0 : Hid (Below (w.alloc (.cells #[.slice A E.length a, .slice B F.length b, .slice C L.length d] 29)).heap.size (w.alloc (.cells #[.slice A E.length a, .slice B F.length b, .slice C L.length d] 29)) ((w.alloc (.cells #[.slice A E.length a, .slice B F.length b, .slice C L.length d] 29)).alloc (.cells #[.slice none 0 0, .slice none 0 0, .slice none 0 0] 29))) := (Below.refl _ _).alloc (Nat.le_refl _) _
 have HB2 : Hid (Below ((w.alloc (.cells #[.slice A E.length a, .slice B F.length b, .slice C L.length d] 29)).alloc (.cells #[.slice none 0 0, .slice none 0 0, .slice none 0 0] 29)).heap.size ((w.alloc (.cells #[.slice A E.length a, .slice B F.length b, .slice C L.length d] 29)).alloc (.cells #[.slice none 0 0, .slice none 0 0, .slice none 0 0] 29)) ((w.alloc (.cells #[.slice A E.length a, .slice B F.length b, .slice C L.length d] 29)).alloc (.cells #[.slice none 0 0, .slice none 0 0, .slice none 0 0] 29)).drew) := (Below.refl _ _).drew
 have HE := Lib.hid (RdF.below rE BW.out)
 have HF := Lib.hid (RdI.below rF BW.out)
 have HL := Lib.hid (RdI.below rL BW.out)
 have HA := Lib.hid nA
 have HB0 := Lib.hid nB
 have HC := Lib.hid nC
 clear rE rF rL nA nB nC
 unfold gameV
 have HBC := Lib.hid HB2.out
 clear HB2
 go_enter Try.func46, Try.ntmps46
 go_wp2_with (fail)
 refine wp_region_held_drew (S := fun w1 => Below (w.alloc (.cells #[.slice A E.length a, .slice B F.length b, .slice C L.length d] 29)).heap.size (w.alloc (.cells #[.slice A E.length a, .slice B F.length b, .slice C L.length d] 29)) w1) (by kernel_rfl) (Below.and HS0.out HBC.out) (fun hSC => ?_)
 refine tkI 1 4 (v := ?_) rfl rfl ?_ ?_
 rotate_left
 · intro w1 hSw; obtain ⟨hcS, hfS⟩ := bcell hSw; go_simp; (try with_reducible rfl)
 (try simp only [Act.put, pu1, pu2, pu3])
 refine tkI 2 5 (v := ?_) rfl rfl ?_ ?_
 rotate_left
 · intro w1 hSw; obtain ⟨hcS, hfS⟩ := bcell hSw; go_simp; (try with_reducible rfl)
 (try simp only [Act.put, pu1, pu2, pu3])
 refine tkI 5 8 (v := ?_) rfl rfl ?_ ?_
 rotate_left
 · intro w1 hSw; obtain ⟨hcS, hfS⟩ := bcell hSw; go_simp; (try with_reducible rfl)
 (try simp only [Act.put, pu1, pu2, pu3])
 refine tkI 6 9 (v := ?_) rfl rfl ?_ ?_
 rotate_left
 · intro w1 hSw; obtain ⟨hcS, hfS⟩ := bcell hSw; go_simp; (try with_reducible rfl)
 (try simp only [Act.put, pu1, pu2, pu3])
 refine tkI 9 12 (v := ?_) rfl rfl ?_ ?_
 rotate_left
 · intro w1 hSw; obtain ⟨hcS, hfS⟩ := bcell hSw; go_simp; (try with_reducible rfl)
 (try simp only [Act.put, pu1, pu2, pu3])
 refine tkI 10 13 (v := ?_) rfl rfl ?_ ?_
 rotate_left
 · intro w1 hSw; obtain ⟨hcS, hfS⟩ := bcell hSw; go_simp; (try with_reducible rfl)
 (try simp only [Act.put, pu1, pu2, pu3])
 obtain ⟨W0, hN⟩ : ∃ X, X = ((w.alloc (.cells #[.slice A E.length a, .slice B F.length b, .slice C L.length d] 29)).alloc (.cells #[.slice none 0 0, .slice none 0 0, .slice none 0 0] 29)).drew := ⟨_, rfl⟩
 rw [← hN] at hSC HBC ⊢
 clear hN
 refine wpAnyH_ready (rs := [0, 4, 8]) (by kernel_rfl) (by simp) ?_
 refine AllReadyH.cons rfl (fun K hK => ?_) (AllReadyH.cons rfl (fun K hK => ?_) (AllReadyH.cons rfl (fun K hK => ?_) AllReadyH.nil))
 · go_simp
   have n0 := own_base (base' := w.heap.size + 2) (own_nil_new W0 72 5 rfl) (by have := HBC.out.size; simp at this; omega)
   have hb := (Below.refl W0.heap.size W0).alloc (Nat.le_refl _) (.cells #[] 72)
   obtain ⟨W1, hN⟩ : ∃ X, X = W0.alloc (.cells #[] 72) := ⟨_, rfl⟩
   rw [← hN] at n0 hb ⊢
   clear hN
   refine hK.out _ _ (Below.and hSC hb) (fun hSC => ?_)
   have own0 := Lib.hid n0
   have HBC := Lib.hid (Below.and HBC.out hb)
   clear hK K hb n0
   (try simp only [Act.put, pu1, pu2, pu3])
   refine wpAnyH_ready (rs := [3, 4, 8]) (by kernel_rfl) (by simp) ?_
   refine AllReadyH.cons rfl (fun K hK => ?_) (AllReadyH.cons rfl (fun K hK => ?_) (AllReadyH.cons rfl (fun K hK => ?_) AllReadyH.nil))
   · refine step_app Fig.len (by rfl) _ _ 26 (by rfl) (w.heap.size + 2) 72 I (.agg #[.int .i64 0, .int .i64 0, .int .i64 0, .int .i64 0, .int .i64 0]) 40 Try.underlying26 I1.out I2.out I3.out I4.out (by rfl) (by omega) _ 0 [] (by rfl) own0.out A a E.length E rfl (by rfl) (RdF.below HE.out HBC.out).rd HA.out (figs_one E) (by unfold maxLen; omega) (by omega) (by have := HBC.out.size; simp at this; omega) ?_
     intro v0 W2 ho hg hp
     have hb := Below.of_grown hg (Nat.le_trans (show ((w.alloc (.cells #[.slice A E.length a, .slice B F.length b, .slice C L.length d] 29)).alloc (.cells #[.slice none 0 0, .slice none 0 0, .slice none 0 0] 29)).heap.size ≤ w.heap.size + 2 by simp) (by have := HBC.out.size; simp at this; omega)) (fun q hq => by have := (own_block_ge own0.out q hq).1; simp; omega)
     have hbS := Below.trans HBC.out hb
     refine hK.out _ _ (Below.and HS0.out hbS) (fun hSC => ?_)
     simp only [Nat.zero_add, List.nil_append, ints_flat] at ho
     have own0 : Hid (W2.ownsRow (w.heap.size + 2) 72 5 v0 E.length (figs E)) := ho
     have HBC := Lib.hid hbS
     clear hK K hb hbS hg hp ho
     (try simp only [Act.put, pu1, pu2, pu3])
     refine wpAnyH_ready (rs := [4, 8]) (by kernel_rfl) (by simp) ?_
     refine AllReadyH.cons rfl (fun K hK => ?_) (AllReadyH.cons rfl (fun K hK => ?_) AllReadyH.nil)
     · go_simp
       have n1 := own_base (base' := w.heap.size + 2) (own_nil_new W2 3 1 rfl) (by have := HBC.out.size; simp at this; omega)
       have a01 := apart_symm (new_apart own0.out (m := 0) (c := 0))
       have k0 := own0.out.alloc (.cells #[] 3)
       have hb := (Below.refl W2.heap.size W2).alloc (Nat.le_refl _) (.cells #[] 3)
       obtain ⟨W3, hN⟩ : ∃ X, X = W2.alloc (.cells #[] 3) := ⟨_, rfl⟩
       rw [← hN] at n1 hb ⊢ k0
       clear hN
       refine hK.out _ _ (Below.and hSC hb) (fun hSC => ?_)
       have own1 := Lib.hid n1
       have own0 := Lib.hid k0
       have D01 := Lib.hid a01
       have HBC := Lib.hid (Below.and HBC.out hb)
       clear hK K hb n1 k0 a01
       (try simp only [Act.put, pu1, pu2, pu3])
       refine wpAnyH_ready (rs := [7, 8]) (by kernel_rfl) (by simp) ?_
       refine AllReadyH.cons rfl (fun K hK => ?_) (AllReadyH.cons rfl (fun K hK => ?_) AllReadyH.nil)
       · refine step_app cI_len (by rfl) _ _ 27 (by rfl) (w.heap.size + 2) 3 J (.int .i64 0) 8 Try.underlying27 J1.out J2.out J3.out J4.out (by rfl) (by omega) _ 0 [] (by rfl) own1.out B b F.length F rfl (by rfl) (RdI.below HF.out HBC.out).rd HB0.out (ints_one F) (by unfold maxLen; omega) (by omega) (by have := HBC.out.size; simp at this; omega) ?_
         intro v1 W4 ho hg hp
         have hb := Below.of_grown hg (Nat.le_trans (show ((w.alloc (.cells #[.slice A E.length a, .slice B F.length b, .slice C L.length d] 29)).alloc (.cells #[.slice none 0 0, .slice none 0 0, .slice none 0 0] 29)).heap.size ≤ w.heap.size + 2 by simp) (by have := HBC.out.size; simp at this; omega)) (fun q hq => by have := (own_block_ge own1.out q hq).1; simp; omega)
         have hbS := Below.trans HBC.out hb
         have k0 := app_keep own0.out hg (apart_symm D01.out)
         have a01 := apart_symm (app_apart own0.out hp (apart_symm D01.out))
         refine hK.out _ _ (Below.and HS0.out hbS) (fun hSC => ?_)
         simp only [Nat.zero_add, List.nil_append, ints_flat] at ho
         have own1 : Hid (W4.ownsRow (w.heap.size + 2) 3 1 v1 F.length (ints F)) := ho
         have own0 := Lib.hid k0
         have D01 := Lib.hid a01
         have HBC := Lib.hid hbS
         clear hK K hb hbS hg hp ho k0 a01
         (try simp only [Act.put, pu1, pu2, pu3])
         refine wpAnyH_ready (rs := [8]) (by kernel_rfl) (by simp) ?_
         refine AllReadyH.cons rfl (fun K hK => ?_) AllReadyH.nil
         go_simp
         have n2 := own_base (base' := w.heap.size + 2) (own_nil_new W4 3 1 rfl) (by have := HBC.out.size; simp at this; omega)
         have a02 := apart_symm (new_apart own0.out (m := 0) (c := 0))
         have k0 := own0.out.alloc (.cells #[] 3)
         have a12 := apart_symm (new_apart own1.out (m := 0) (c := 0))
         have k1 := own1.out.alloc (.cells #[] 3)
         have hb := (Below.refl W4.heap.size W4).alloc (Nat.le_refl _) (.cells #[] 3)
         obtain ⟨W5, hN⟩ : ∃ X, X = W4.alloc (.cells #[] 3) := ⟨_, rfl⟩
         rw [← hN] at n2 hb ⊢ k0 k1
         clear hN
         refine hK.out _ _ (Below.and hSC hb) (fun hSC => ?_)
         have own2 := Lib.hid n2
         have own0 := Lib.hid k0
         have own1 := Lib.hid k1
         have D02 := Lib.hid a02
         have D12 := Lib.hid a12
         have HBC := Lib.hid (Below.and HBC.out hb)
         clear hK K hb n2 k0 a02 k1 a12
         (try simp only [Act.put, pu1, pu2, pu3])
         refine wpAnyH_ready (rs := [11]) (by kernel_rfl) (by simp) ?_
         refine AllReadyH.cons rfl (fun K hK => ?_) AllReadyH.nil
         refine step_app cI_len (by rfl) _ _ 27 (by rfl) (w.heap.size + 2) 3 J (.int .i64 0) 8 Try.underlying27 J1.out J2.out J3.out J4.out (by rfl) (by omega) _ 0 [] (by rfl) own2.out C d L.length L rfl (by rfl) (RdI.below HL.out HBC.out).rd HC.out (ints_one L) (by unfold maxLen; omega) (by omega) (by have := HBC.out.size; simp at this; omega) ?_
         intro v2 W6 ho hg hp
         have hb := Below.of_grown hg (Nat.le_trans (show ((w.alloc (.cells #[.slice A E.length a, .slice B F.length b, .slice C L.length d] 29)).alloc (.cells #[.slice none 0 0, .slice none 0 0, .slice none 0 0] 29)).heap.size ≤ w.heap.size + 2 by simp) (by have := HBC.out.size; simp at this; omega)) (fun q hq => by have := (own_block_ge own2.out q hq).1; simp; omega)
         have hbS := Below.trans HBC.out hb
         have k0 := app_keep own0.out hg (apart_symm D02.out)
         have a02 := apart_symm (app_apart own0.out hp (apart_symm D02.out))
         have k1 := app_keep own1.out hg (apart_symm D12.out)
         have a12 := apart_symm (app_apart own1.out hp (apart_symm D12.out))
         refine hK.out _ _ (Below.and HS0.out hbS) (fun hSC => ?_)
         simp only [Nat.zero_add, List.nil_append, ints_flat] at ho
         have own2 : Hid (W6.ownsRow (w.heap.size + 2) 3 1 v2 L.length (ints L)) := ho
         have own0 := Lib.hid k0
         have own1 := Lib.hid k1
         have D02 := Lib.hid a02
         have D12 := Lib.hid a12
         have HBC := Lib.hid hbS
         clear hK K hb hbS hg hp ho k0 a02 k1 a12
         (try simp only [Act.put, pu1, pu2, pu3])
         obtain ⟨A', a', hv0, _⟩ := own_form own0.out
         obtain ⟨B', b', hv1, _⟩ := own_form own1.out
         obtain ⟨C', d', hv2, _⟩ := own_form own2.out
         subst hv0
         subst hv1
         subst hv2
         have K5 : Hid (Three W6 (w.heap.size + 1) 29 (.slice none 0 0) (.slice none 0 0) (.slice none 0 0)) := by
          have h0 : Three ((w.alloc (.cells #[.slice A E.length a, .slice B F.length b, .slice C L.length d] 29)).alloc (.cells #[.slice none 0 0, .slice none 0 0, .slice none 0 0] 29)) (w.heap.size + 1) 29 (.slice none 0 0) (.slice none 0 0) (.slice none 0 0) := by
           have h := heap_alloc_new (w.alloc (.cells #[.slice A E.length a, .slice B F.length b, .slice C L.length d] 29)) (.cells #[.slice none 0 0, .slice none 0 0, .slice none 0 0] 29)
           rw [show (w.alloc (.cells #[.slice A E.length a, .slice B F.length b, .slice C L.length d] 29)).heap.size = w.heap.size + 1 by simp] at h
           exact h
          exact h0.below HBC.out (by simp)
         have BF := Lib.hid (Below.and BW.out HBC.out)
         have hS5 := hSC
         clear HE HF HL HA HB0 HC I1 I2 I3 I4 J1 J2 J3 J4 hSC HBC
         obtain ⟨z0, z1, z2⟩ := K5.out.cells
         have zf := K5.out.frozen
         have zl := K5.out.lt
         refine tkI 12 15 (v := ?_) rfl rfl ?_ ?_
         rotate_left
         · intro w1 hSw; go_simp; (try with_reducible rfl)
         (try simp only [Act.put, pu1, pu2, pu3])
         refine wpAnyH_ready (rs := [13]) (by kernel_rfl) (by simp) ?_
         refine AllReadyH.cons rfl (fun K hK => ?_) AllReadyH.nil
         go_simp
         refine hK.out _ _ (Below.setCell (Below.setCell (Below.setCell hS5 (by simp) _) (by simp) _) (by simp) _) (fun hS6 => ?_)
         clear hK K
         (try simp only [Act.put, pu1, pu2, pu3])
         refine wpAnyH_done (by kernel_rfl) ?_ _
         have bb : w.heap.size ≤ W6.heap.size := BF.out.size
         go_wp2
         refine bodyPost_ret (v := .agg #[.slice A' E.length a', .slice B' F.length b', .slice C' L.length d']) (by simp [results, Try.results46, go_sem, z0, z1, z2]) rfl ⟨A', a', B', b', C', d', rfl, own_base (own_put (own_put (own_put own0.out (by omega) _ _) (by omega) _ _) (by omega) _ _) (by omega), own_base (own_put (own_put (own_put own1.out (by omega) _ _) (by omega) _ _) (by omega) _ _) (by omega), own_base (own_put (own_put (own_put own2.out (by omega) _ _) (by omega) _ _) (by omega) _ _) (by omega), D01.out, D02.out, D12.out, ?_⟩
         iterate 3 (refine Below.setCell ?_ (by first | (simp; done) | (simp; omega)) _)
         exact BF.out
       · go_simp
         have n2 := own_base (base' := w.heap.size + 2) (own_nil_new W3 3 1 rfl) (by have := HBC.out.size; simp at this; omega)
         have a02 := apart_symm (new_apart own0.out (m := 0) (c := 0))
         have k0 := own0.out.alloc (.cells #[] 3)
         have a12 := apart_symm (new_apart own1.out (m := 0) (c := 0))
         have k1 := own1.out.alloc (.cells #[] 3)
         have hb := (Below.refl W3.heap.size W3).alloc (Nat.le_refl _) (.cells #[] 3)
         obtain ⟨W7, hN⟩ : ∃ X, X = W3.alloc (.cells #[] 3) := ⟨_, rfl⟩
         rw [← hN] at n2 hb ⊢ k0 k1
         clear hN
         refine hK.out _ _ (Below.and hSC hb) (fun hSC => ?_)
         have own2 := Lib.hid n2
         have own0 := Lib.hid k0
         have own1 := Lib.hid k1
         have D02 := Lib.hid a02
         have D12 := Lib.hid a12
         have HBC := Lib.hid (Below.and HBC.out hb)
         clear hK K hb n2 k0 a02 k1 a12
         (try simp only [Act.put, pu1, pu2, pu3])
         refine wpAnyH_ready (rs := [7]) (by kernel_rfl) (by simp) ?_
         refine AllReadyH.cons rfl (fun K hK => ?_) AllReadyH.nil
         refine step_app cI_len (by rfl) _ _ 27 (by rfl) (w.heap.size + 2) 3 J (.int .i64 0) 8 Try.underlying27 J1.out J2.out J3.out J4.out (by rfl) (by omega) _ 0 [] (by rfl) own1.out B b F.length F rfl (by rfl) (RdI.below HF.out HBC.out).rd HB0.out (ints_one F) (by unfold maxLen; omega) (by omega) (by have := HBC.out.size; simp at this; omega) ?_
         intro v1 W8 ho hg hp
         have hb := Below.of_grown hg (Nat.le_trans (show ((w.alloc (.cells #[.slice A E.length a, .slice B F.length b, .slice C L.length d] 29)).alloc (.cells #[.slice none 0 0, .slice none 0 0, .slice none 0 0] 29)).heap.size ≤ w.heap.size + 2 by simp) (by have := HBC.out.size; simp at this; omega)) (fun q hq => by have := (own_block_ge own1.out q hq).1; simp; omega)
         have hbS := Below.trans HBC.out hb
         have k0 := app_keep own0.out hg (apart_symm D01.out)
         have a01 := apart_symm (app_apart own0.out hp (apart_symm D01.out))
         have k2 := app_keep own2.out hg D12.out
         have a12 := app_apart own2.out hp D12.out
         refine hK.out _ _ (Below.and HS0.out hbS) (fun hSC => ?_)
         simp only [Nat.zero_add, List.nil_append, ints_flat] at ho
         have own1 : Hid (W8.ownsRow (w.heap.size + 2) 3 1 v1 F.length (ints F)) := ho
         have own0 := Lib.hid k0
         have own2 := Lib.hid k2
         have D01 := Lib.hid a01
         have D12 := Lib.hid a12
         have HBC := Lib.hid hbS
         clear hK K hb hbS hg hp ho k0 a01 k2 a12
         (try simp only [Act.put, pu1, pu2, pu3])
         refine wpAnyH_ready (rs := [11]) (by kernel_rfl) (by simp) ?_
         refine AllReadyH.cons rfl (fun K hK => ?_) AllReadyH.nil
         refine step_app cI_len (by rfl) _ _ 27 (by rfl) (w.heap.size + 2) 3 J (.int .i64 0) 8 Try.underlying27 J1.out J2.out J3.out J4.out (by rfl) (by omega) _ 0 [] (by rfl) own2.out C d L.length L rfl (by rfl) (RdI.below HL.out HBC.out).rd HC.out (ints_one L) (by unfold maxLen; omega) (by omega) (by have := HBC.out.size; simp at this; omega) ?_
         intro v2 W9 ho hg hp
         have hb := Below.of_grown hg (Nat.le_trans (show ((w.alloc (.cells #[.slice A E.length a, .slice B F.length b, .slice C L.length d] 29)).alloc (.cells #[.slice none 0 0, .slice none 0 0, .slice none 0 0] 29)).heap.size ≤ w.heap.size + 2 by simp) (by have := HBC.out.size; simp at this; omega)) (fun q hq => by have := (own_block_ge own2.out q hq).1; simp; omega)
         have hbS := Below.trans HBC.out hb
         have k0 := app_keep own0.out hg (apart_symm D02.out)
         have a02 := apart_symm (app_apart own0.out hp (apart_symm D02.out))
         have k1 := app_keep own1.out hg (apart_symm D12.out)
         have a12 := apart_symm (app_apart own1.out hp (apart_symm D12.out))
         refine hK.out _ _ (Below.and HS0.out hbS) (fun hSC => ?_)
         simp only [Nat.zero_add, List.nil_append, ints_flat] at ho
         have own2 : Hid (W9.ownsRow (w.heap.size + 2) 3 1 v2 L.length (ints L)) := ho
         have own0 := Lib.hid k0
         have own1 := Lib.hid k1
         have D02 := Lib.hid a02
         have D12 := Lib.hid a12
         have HBC := Lib.hid hbS
         clear hK K hb hbS hg hp ho k0 a02 k1 a12
         (try simp only [Act.put, pu1, pu2, pu3])
         obtain ⟨A', a', hv0, _⟩ := own_form own0.out
         obtain ⟨B', b', hv1, _⟩ := own_form own1.out
         obtain ⟨C', d', hv2, _⟩ := own_form own2.out
         subst hv0
         subst hv1
         subst hv2
         have K5 : Hid (Three W9 (w.heap.size + 1) 29 (.slice none 0 0) (.slice none 0 0) (.slice none 0 0)) := by
          have h0 : Three ((w.alloc (.cells #[.slice A E.length a, .slice B F.length b, .slice C L.length d] 29)).alloc (.cells #[.slice none 0 0, .slice none 0 0, .slice none 0 0] 29)) (w.heap.size + 1) 29 (.slice none 0 0) (.slice none 0 0) (.slice none 0 0) := by
           have h := heap_alloc_new (w.alloc (.cells #[.slice A E.length a, .slice B F.length b, .slice C L.length d] 29)) (.cells #[.slice none 0 0, .slice none 0 0, .slice none 0 0] 29)
           rw [show (w.alloc (.cells #[.slice A E.length a, .slice B F.length b, .slice C L.length d] 29)).heap.size = w.heap.size + 1 by simp] at h
           exact h
          exact h0.below HBC.out (by simp)
         have BF := Lib.hid (Below.and BW.out HBC.out)
         have hS5 := hSC
         clear HE HF HL HA HB0 HC I1 I2 I3 I4 J1 J2 J3 J4 hSC HBC
         obtain ⟨z0, z1, z2⟩ := K5.out.cells
         have zf := K5.out.frozen
         have zl := K5.out.lt
         refine tkI 12 15 (v := ?_) rfl rfl ?_ ?_
         rotate_left
         · intro w1 hSw; go_simp; (try with_reducible rfl)
         (try simp only [Act.put, pu1, pu2, pu3])
         refine wpAnyH_ready (rs := [13]) (by kernel_rfl) (by simp) ?_
         refine AllReadyH.cons rfl (fun K hK => ?_) AllReadyH.nil
         go_simp
         refine hK.out _ _ (Below.setCell (Below.setCell (Below.setCell hS5 (by simp) _) (by simp) _) (by simp) _) (fun hS6 => ?_)
         clear hK K
         (try simp only [Act.put, pu1, pu2, pu3])
         refine wpAnyH_done (by kernel_rfl) ?_ _
         have bb : w.heap.size ≤ W9.heap.size := BF.out.size
         go_wp2
         refine bodyPost_ret (v := .agg #[.slice A' E.length a', .slice B' F.length b', .slice C' L.length d']) (by simp [results, Try.results46, go_sem, z0, z1, z2]) rfl ⟨A', a', B', b', C', d', rfl, own_base (own_put (own_put (own_put own0.out (by omega) _ _) (by omega) _ _) (by omega) _ _) (by omega), own_base (own_put (own_put (own_put own1.out (by omega) _ _) (by omega) _ _) (by omega) _ _) (by omega), own_base (own_put (own_put (own_put own2.out (by omega) _ _) (by omega) _ _) (by omega) _ _) (by omega), D01.out, D02.out, D12.out, ?_⟩
         iterate 3 (refine Below.setCell ?_ (by first | (simp; done) | (simp; omega)) _)
         exact BF.out
     · go_simp
       have n2 := own_base (base' := w.heap.size + 2) (own_nil_new W2 3 1 rfl) (by have := HBC.out.size; simp at this; omega)
       have a02 := apart_symm (new_apart own0.out (m := 0) (c := 0))
       have k0 := own0.out.alloc (.cells #[] 3)
       have hb := (Below.refl W2.heap.size W2).alloc (Nat.le_refl _) (.cells #[] 3)
       obtain ⟨W10, hN⟩ : ∃ X, X = W2.alloc (.cells #[] 3) := ⟨_, rfl⟩
       rw [← hN] at n2 hb ⊢ k0
       clear hN
       refine hK.out _ _ (Below.and hSC hb) (fun hSC => ?_)
       have own2 := Lib.hid n2
       have own0 := Lib.hid k0
       have D02 := Lib.hid a02
       have HBC := Lib.hid (Below.and HBC.out hb)
       clear hK K hb n2 k0 a02
       (try simp only [Act.put, pu1, pu2, pu3])
       refine wpAnyH_ready (rs := [4]) (by kernel_rfl) (by simp) ?_
       refine AllReadyH.cons rfl (fun K hK => ?_) AllReadyH.nil
       go_simp
       have n1 := own_base (base' := w.heap.size + 2) (own_nil_new W10 3 1 rfl) (by have := HBC.out.size; simp at this; omega)
       have a01 := apart_symm (new_apart own0.out (m := 0) (c := 0))
       have k0 := own0.out.alloc (.cells #[] 3)
       have a12 := new_apart own2.out (m := 0) (c := 0)
       have k2 := own2.out.alloc (.cells #[] 3)
       have hb := (Below.refl W10.heap.size W10).alloc (Nat.le_refl _) (.cells #[] 3)
       obtain ⟨W11, hN⟩ : ∃ X, X = W10.alloc (.cells #[] 3) := ⟨_, rfl⟩
       rw [← hN] at n1 hb ⊢ k0 k2
       clear hN
       refine hK.out _ _ (Below.and hSC hb) (fun hSC => ?_)
       have own1 := Lib.hid n1
       have own0 := Lib.hid k0
       have own2 := Lib.hid k2
       have D01 := Lib.hid a01
       have D12 := Lib.hid a12
       have HBC := Lib.hid (Below.and HBC.out hb)
       clear hK K hb n1 k0 a01 k2 a12
       (try simp only [Act.put, pu1, pu2, pu3])
       refine wpAnyH_ready (rs := [7]) (by kernel_rfl) (by simp) ?_
       refine AllReadyH.cons rfl (fun K hK => ?_) AllReadyH.nil
       refine step_app cI_len (by rfl) _ _ 27 (by rfl) (w.heap.size + 2) 3 J (.int .i64 0) 8 Try.underlying27 J1.out J2.out J3.out J4.out (by rfl) (by omega) _ 0 [] (by rfl) own1.out B b F.length F rfl (by rfl) (RdI.below HF.out HBC.out).rd HB0.out (ints_one F) (by unfold maxLen; omega) (by omega) (by have := HBC.out.size; simp at this; omega) ?_
       intro v1 W12 ho hg hp
       have hb := Below.of_grown hg (Nat.le_trans (show ((w.alloc (.cells #[.slice A E.length a, .slice B F.length b, .slice C L.length d] 29)).alloc (.cells #[.slice none 0 0, .slice none 0 0, .slice none 0 0] 29)).heap.size ≤ w.heap.size + 2 by simp) (by have := HBC.out.size; simp at this; omega)) (fun q hq => by have := (own_block_ge own1.out q hq).1; simp; omega)
       have hbS := Below.trans HBC.out hb
       have k0 := app_keep own0.out hg (apart_symm D01.out)
       have a01 := apart_symm (app_apart own0.out hp (apart_symm D01.out))
       have k2 := app_keep own2.out hg D12.out
       have a12 := app_apart own2.out hp D12.out
       refine hK.out _ _ (Below.and HS0.out hbS) (fun hSC => ?_)
       simp only [Nat.zero_add, List.nil_append, ints_flat] at ho
       have own1 : Hid (W12.ownsRow (w.heap.size + 2) 3 1 v1 F.length (ints F)) := ho
       have own0 := Lib.hid k0
       have own2 := Lib.hid k2
       have D01 := Lib.hid a01
       have D12 := Lib.hid a12
       have HBC := Lib.hid hbS
       clear hK K hb hbS hg hp ho k0 a01 k2 a12
       (try simp only [Act.put, pu1, pu2, pu3])
       refine wpAnyH_ready (rs := [11]) (by kernel_rfl) (by simp) ?_
       refine AllReadyH.cons rfl (fun K hK => ?_) AllReadyH.nil
       refine step_app cI_len (by rfl) _ _ 27 (by rfl) (w.heap.size + 2) 3 J (.int .i64 0) 8 Try.underlying27 J1.out J2.out J3.out J4.out (by rfl) (by omega) _ 0 [] (by rfl) own2.out C d L.length L rfl (by rfl) (RdI.below HL.out HBC.out).rd HC.out (ints_one L) (by unfold maxLen; omega) (by omega) (by have := HBC.out.size; simp at this; omega) ?_
       intro v2 W13 ho hg hp
       have hb := Below.of_grown hg (Nat.le_trans (show ((w.alloc (.cells #[.slice A E.length a, .slice B F.length b, .slice C L.length d] 29)).alloc (.cells #[.slice none 0 0, .slice none 0 0, .slice none 0 0] 29)).heap.size ≤ w.heap.size + 2 by simp) (by have := HBC.out.size; simp at this; omega)) (fun q hq => by have := (own_block_ge own2.out q hq).1; simp; omega)
       have hbS := Below.trans HBC.out hb
       have k0 := app_keep own0.out hg (apart_symm D02.out)
       have a02 := apart_symm (app_apart own0.out hp (apart_symm D02.out))
       have k1 := app_keep own1.out hg (apart_symm D12.out)
       have a12 := apart_symm (app_apart own1.out hp (apart_symm D12.out))
       refine hK.out _ _ (Below.and HS0.out hbS) (fun hSC => ?_)
       simp only [Nat.zero_add, List.nil_append, ints_flat] at ho
       have own2 : Hid (W13.ownsRow (w.heap.size + 2) 3 1 v2 L.length (ints L)) := ho
       have own0 := Lib.hid k0
       have own1 := Lib.hid k1
       have D02 := Lib.hid a02
       have D12 := Lib.hid a12
       have HBC := Lib.hid hbS
       clear hK K hb hbS hg hp ho k0 a02 k1 a12
       (try simp only [Act.put, pu1, pu2, pu3])
       obtain ⟨A', a', hv0, _⟩ := own_form own0.out
       obtain ⟨B', b', hv1, _⟩ := own_form own1.out
       obtain ⟨C', d', hv2, _⟩ := own_form own2.out
       subst hv0
       subst hv1
       subst hv2
       have K5 : Hid (Three W13 (w.heap.size + 1) 29 (.slice none 0 0) (.slice none 0 0) (.slice none 0 0)) := by
        have h0 : Three ((w.alloc (.cells #[.slice A E.length a, .slice B F.length b, .slice C L.length d] 29)).alloc (.cells #[.slice none 0 0, .slice none 0 0, .slice none 0 0] 29)) (w.heap.size + 1) 29 (.slice none 0 0) (.slice none 0 0) (.slice none 0 0) := by
         have h := heap_alloc_new (w.alloc (.cells #[.slice A E.length a, .slice B F.length b, .slice C L.length d] 29)) (.cells #[.slice none 0 0, .slice none 0 0, .slice none 0 0] 29)
         rw [show (w.alloc (.cells #[.slice A E.length a, .slice B F.length b, .slice C L.length d] 29)).heap.size = w.heap.size + 1 by simp] at h
         exact h
        exact h0.below HBC.out (by simp)
       have BF := Lib.hid (Below.and BW.out HBC.out)
       have hS5 := hSC
       clear HE HF HL HA HB0 HC I1 I2 I3 I4 J1 J2 J3 J4 hSC HBC
       obtain ⟨z0, z1, z2⟩ := K5.out.cells
       have zf := K5.out.frozen
       have zl := K5.out.lt
       refine tkI 12 15 (v := ?_) rfl rfl ?_ ?_
       rotate_left
       · intro w1 hSw; go_simp; (try with_reducible rfl)
       (try simp only [Act.put, pu1, pu2, pu3])
       refine wpAnyH_ready (rs := [13]) (by kernel_rfl) (by simp) ?_
       refine AllReadyH.cons rfl (fun K hK => ?_) AllReadyH.nil
       go_simp
       refine hK.out _ _ (Below.setCell (Below.setCell (Below.setCell hS5 (by simp) _) (by simp) _) (by simp) _) (fun hS6 => ?_)
       clear hK K
       (try simp only [Act.put, pu1, pu2, pu3])
       refine wpAnyH_done (by kernel_rfl) ?_ _
       have bb : w.heap.size ≤ W13.heap.size := BF.out.size
       go_wp2
       refine bodyPost_ret (v := .agg #[.slice A' E.length a', .slice B' F.length b', .slice C' L.length d']) (by simp [results, Try.results46, go_sem, z0, z1, z2]) rfl ⟨A', a', B', b', C', d', rfl, own_base (own_put (own_put (own_put own0.out (by omega) _ _) (by omega) _ _) (by omega) _ _) (by omega), own_base (own_put (own_put (own_put own1.out (by omega) _ _) (by omega) _ _) (by omega) _ _) (by omega), own_base (own_put (own_put (own_put own2.out (by omega) _ _) (by omega) _ _) (by omega) _ _) (by omega), D01.out, D02.out, D12.out, ?_⟩
       iterate 3 (refine Below.setCell ?_ (by first | (simp; done) | (simp; omega)) _)
       exact BF.out
   · go_simp
     have n1 := own_base (base' := w.heap.size + 2) (own_nil_new W1 3 1 rfl) (by have := HBC.out.size; simp at this; omega)
     have a01 := apart_symm (new_apart own0.out (m := 0) (c := 0))
     have k0 := own0.out.alloc (.cells #[] 3)
     have hb := (Below.refl W1.heap.size W1).alloc (Nat.le_refl _) (.cells #[] 3)
     obtain ⟨W14, hN⟩ : ∃ X, X = W1.alloc (.cells #[] 3) := ⟨_, rfl⟩
     rw [← hN] at n1 hb ⊢ k0
     clear hN
     refine hK.out _ _ (Below.and hSC hb) (fun hSC => ?_)
     have own1 := Lib.hid n1
     have own0 := Lib.hid k0
     have D01 := Lib.hid a01
     have HBC := Lib.hid (Below.and HBC.out hb)
     clear hK K hb n1 k0 a01
     (try simp only [Act.put, pu1, pu2, pu3])
     refine wpAnyH_ready (rs := [3, 8]) (by kernel_rfl) (by simp) ?_
     refine AllReadyH.cons rfl (fun K hK => ?_) (AllReadyH.cons rfl (fun K hK => ?_) AllReadyH.nil)
     · refine step_app Fig.len (by rfl) _ _ 26 (by rfl) (w.heap.size + 2) 72 I (.agg #[.int .i64 0, .int .i64 0, .int .i64 0, .int .i64 0, .int .i64 0]) 40 Try.underlying26 I1.out I2.out I3.out I4.out (by rfl) (by omega) _ 0 [] (by rfl) own0.out A a E.length E rfl (by rfl) (RdF.below HE.out HBC.out).rd HA.out (figs_one E) (by unfold maxLen; omega) (by omega) (by have := HBC.out.size; simp at this; omega) ?_
       intro v0 W15 ho hg hp
       have hb := Below.of_grown hg (Nat.le_trans (show ((w.alloc (.cells #[.slice A E.length a, .slice B F.length b, .slice C L.length d] 29)).alloc (.cells #[.slice none 0 0, .slice none 0 0, .slice none 0 0] 29)).heap.size ≤ w.heap.size + 2 by simp) (by have := HBC.out.size; simp at this; omega)) (fun q hq => by have := (own_block_ge own0.out q hq).1; simp; omega)
       have hbS := Below.trans HBC.out hb
       have k1 := app_keep own1.out hg D01.out
       have a01 := app_apart own1.out hp D01.out
       refine hK.out _ _ (Below.and HS0.out hbS) (fun hSC => ?_)
       simp only [Nat.zero_add, List.nil_append, ints_flat] at ho
       have own0 : Hid (W15.ownsRow (w.heap.size + 2) 72 5 v0 E.length (figs E)) := ho
       have own1 := Lib.hid k1
       have D01 := Lib.hid a01
       have HBC := Lib.hid hbS
       clear hK K hb hbS hg hp ho k1 a01
       (try simp only [Act.put, pu1, pu2, pu3])
       refine wpAnyH_ready (rs := [7, 8]) (by kernel_rfl) (by simp) ?_
       refine AllReadyH.cons rfl (fun K hK => ?_) (AllReadyH.cons rfl (fun K hK => ?_) AllReadyH.nil)
       · refine step_app cI_len (by rfl) _ _ 27 (by rfl) (w.heap.size + 2) 3 J (.int .i64 0) 8 Try.underlying27 J1.out J2.out J3.out J4.out (by rfl) (by omega) _ 0 [] (by rfl) own1.out B b F.length F rfl (by rfl) (RdI.below HF.out HBC.out).rd HB0.out (ints_one F) (by unfold maxLen; omega) (by omega) (by have := HBC.out.size; simp at this; omega) ?_
         intro v1 W16 ho hg hp
         have hb := Below.of_grown hg (Nat.le_trans (show ((w.alloc (.cells #[.slice A E.length a, .slice B F.length b, .slice C L.length d] 29)).alloc (.cells #[.slice none 0 0, .slice none 0 0, .slice none 0 0] 29)).heap.size ≤ w.heap.size + 2 by simp) (by have := HBC.out.size; simp at this; omega)) (fun q hq => by have := (own_block_ge own1.out q hq).1; simp; omega)
         have hbS := Below.trans HBC.out hb
         have k0 := app_keep own0.out hg (apart_symm D01.out)
         have a01 := apart_symm (app_apart own0.out hp (apart_symm D01.out))
         refine hK.out _ _ (Below.and HS0.out hbS) (fun hSC => ?_)
         simp only [Nat.zero_add, List.nil_append, ints_flat] at ho
         have own1 : Hid (W16.ownsRow (w.heap.size + 2) 3 1 v1 F.length (ints F)) := ho
         have own0 := Lib.hid k0
         have D01 := Lib.hid a01
         have HBC := Lib.hid hbS
         clear hK K hb hbS hg hp ho k0 a01
         (try simp only [Act.put, pu1, pu2, pu3])
         refine wpAnyH_ready (rs := [8]) (by kernel_rfl) (by simp) ?_
         refine AllReadyH.cons rfl (fun K hK => ?_) AllReadyH.nil
         go_simp
         have n2 := own_base (base' := w.heap.size + 2) (own_nil_new W16 3 1 rfl) (by have := HBC.out.size; simp at this; omega)
         have a02 := apart_symm (new_apart own0.out (m := 0) (c := 0))
         have k0 := own0.out.alloc (.cells #[] 3)
         have a12 := apart_symm (new_apart own1.out (m := 0) (c := 0))
         have k1 := own1.out.alloc (.cells #[] 3)
         have hb := (Below.refl W16.heap.size W16).alloc (Nat.le_refl _) (.cells #[] 3)
         obtain ⟨W17, hN⟩ : ∃ X, X = W16.alloc (.cells #[] 3) := ⟨_, rfl⟩
         rw [← hN] at n2 hb ⊢ k0 k1
         clear hN
         refine hK.out _ _ (Below.and hSC hb) (fun hSC => ?_)
         have own2 := Lib.hid n2
         have own0 := Lib.hid k0
         have own1 := Lib.hid k1
         have D02 := Lib.hid a02
         have D12 := Lib.hid a12
         have HBC := Lib.hid (Below.and HBC.out hb)
         clear hK K hb n2 k0 a02 k1 a12
         (try simp only [Act.put, pu1, pu2, pu3])
         refine wpAnyH_ready (rs := [11]) (by kernel_rfl) (by simp) ?_
         refine AllReadyH.cons rfl (fun K hK => ?_) AllReadyH.nil
         refine step_app cI_len (by rfl) _ _ 27 (by rfl) (w.heap.size + 2) 3 J (.int .i64 0) 8 Try.underlying27 J1.out J2.out J3.out J4.out (by rfl) (by omega) _ 0 [] (by rfl) own2.out C d L.length L rfl (by rfl) (RdI.below HL.out HBC.out).rd HC.out (ints_one L) (by unfold maxLen; omega) (by omega) (by have := HBC.out.size; simp at this; omega) ?_
         intro v2 W18 ho hg hp
         have hb := Below.of_grown hg (Nat.le_trans (show ((w.alloc (.cells #[.slice A E.length a, .slice B F.length b, .slice C L.length d] 29)).alloc (.cells #[.slice none 0 0, .slice none 0 0, .slice none 0 0] 29)).heap.size ≤ w.heap.size + 2 by simp) (by have := HBC.out.size; simp at this; omega)) (fun q hq => by have := (own_block_ge own2.out q hq).1; simp; omega)
         have hbS := Below.trans HBC.out hb
         have k0 := app_keep own0.out hg (apart_symm D02.out)
         have a02 := apart_symm (app_apart own0.out hp (apart_symm D02.out))
         have k1 := app_keep own1.out hg (apart_symm D12.out)
         have a12 := apart_symm (app_apart own1.out hp (apart_symm D12.out))
         refine hK.out _ _ (Below.and HS0.out hbS) (fun hSC => ?_)
         simp only [Nat.zero_add, List.nil_append, ints_flat] at ho
         have own2 : Hid (W18.ownsRow (w.heap.size + 2) 3 1 v2 L.length (ints L)) := ho
         have own0 := Lib.hid k0
         have own1 := Lib.hid k1
         have D02 := Lib.hid a02
         have D12 := Lib.hid a12
         have HBC := Lib.hid hbS
         clear hK K hb hbS hg hp ho k0 a02 k1 a12
         (try simp only [Act.put, pu1, pu2, pu3])
         obtain ⟨A', a', hv0, _⟩ := own_form own0.out
         obtain ⟨B', b', hv1, _⟩ := own_form own1.out
         obtain ⟨C', d', hv2, _⟩ := own_form own2.out
         subst hv0
         subst hv1
         subst hv2
         have K5 : Hid (Three W18 (w.heap.size + 1) 29 (.slice none 0 0) (.slice none 0 0) (.slice none 0 0)) := by
          have h0 : Three ((w.alloc (.cells #[.slice A E.length a, .slice B F.length b, .slice C L.length d] 29)).alloc (.cells #[.slice none 0 0, .slice none 0 0, .slice none 0 0] 29)) (w.heap.size + 1) 29 (.slice none 0 0) (.slice none 0 0) (.slice none 0 0) := by
           have h := heap_alloc_new (w.alloc (.cells #[.slice A E.length a, .slice B F.length b, .slice C L.length d] 29)) (.cells #[.slice none 0 0, .slice none 0 0, .slice none 0 0] 29)
           rw [show (w.alloc (.cells #[.slice A E.length a, .slice B F.length b, .slice C L.length d] 29)).heap.size = w.heap.size + 1 by simp] at h
           exact h
          exact h0.below HBC.out (by simp)
         have BF := Lib.hid (Below.and BW.out HBC.out)
         have hS5 := hSC
         clear HE HF HL HA HB0 HC I1 I2 I3 I4 J1 J2 J3 J4 hSC HBC
         obtain ⟨z0, z1, z2⟩ := K5.out.cells
         have zf := K5.out.frozen
         have zl := K5.out.lt
         refine tkI 12 15 (v := ?_) rfl rfl ?_ ?_
         rotate_left
         · intro w1 hSw; go_simp; (try with_reducible rfl)
         (try simp only [Act.put, pu1, pu2, pu3])
         refine wpAnyH_ready (rs := [13]) (by kernel_rfl) (by simp) ?_
         refine AllReadyH.cons rfl (fun K hK => ?_) AllReadyH.nil
         go_simp
         refine hK.out _ _ (Below.setCell (Below.setCell (Below.setCell hS5 (by simp) _) (by simp) _) (by simp) _) (fun hS6 => ?_)
         clear hK K
         (try simp only [Act.put, pu1, pu2, pu3])
         refine wpAnyH_done (by kernel_rfl) ?_ _
         have bb : w.heap.size ≤ W18.heap.size := BF.out.size
         go_wp2
         refine bodyPost_ret (v := .agg #[.slice A' E.length a', .slice B' F.length b', .slice C' L.length d']) (by simp [results, Try.results46, go_sem, z0, z1, z2]) rfl ⟨A', a', B', b', C', d', rfl, own_base (own_put (own_put (own_put own0.out (by omega) _ _) (by omega) _ _) (by omega) _ _) (by omega), own_base (own_put (own_put (own_put own1.out (by omega) _ _) (by omega) _ _) (by omega) _ _) (by omega), own_base (own_put (own_put (own_put own2.out (by omega) _ _) (by omega) _ _) (by omega) _ _) (by omega), D01.out, D02.out, D12.out, ?_⟩
         iterate 3 (refine Below.setCell ?_ (by first | (simp; done) | (simp; omega)) _)
         exact BF.out
       · go_simp
         have n2 := own_base (base' := w.heap.size + 2) (own_nil_new W15 3 1 rfl) (by have := HBC.out.size; simp at this; omega)
         have a02 := apart_symm (new_apart own0.out (m := 0) (c := 0))
         have k0 := own0.out.alloc (.cells #[] 3)
         have a12 := apart_symm (new_apart own1.out (m := 0) (c := 0))
         have k1 := own1.out.alloc (.cells #[] 3)
         have hb := (Below.refl W15.heap.size W15).alloc (Nat.le_refl _) (.cells #[] 3)
         obtain ⟨W19, hN⟩ : ∃ X, X = W15.alloc (.cells #[] 3) := ⟨_, rfl⟩
         rw [← hN] at n2 hb ⊢ k0 k1
         clear hN
         refine hK.out _ _ (Below.and hSC hb) (fun hSC => ?_)
         have own2 := Lib.hid n2
         have own0 := Lib.hid k0
         have own1 := Lib.hid k1
         have D02 := Lib.hid a02
         have D12 := Lib.hid a12
         have HBC := Lib.hid (Below.and HBC.out hb)
         clear hK K hb n2 k0 a02 k1 a12
         (try simp only [Act.put, pu1, pu2, pu3])
         refine wpAnyH_ready (rs := [7]) (by kernel_rfl) (by simp) ?_
         refine AllReadyH.cons rfl (fun K hK => ?_) AllReadyH.nil
         refine step_app cI_len (by rfl) _ _ 27 (by rfl) (w.heap.size + 2) 3 J (.int .i64 0) 8 Try.underlying27 J1.out J2.out J3.out J4.out (by rfl) (by omega) _ 0 [] (by rfl) own1.out B b F.length F rfl (by rfl) (RdI.below HF.out HBC.out).rd HB0.out (ints_one F) (by unfold maxLen; omega) (by omega) (by have := HBC.out.size; simp at this; omega) ?_
         intro v1 W20 ho hg hp
         have hb := Below.of_grown hg (Nat.le_trans (show ((w.alloc (.cells #[.slice A E.length a, .slice B F.length b, .slice C L.length d] 29)).alloc (.cells #[.slice none 0 0, .slice none 0 0, .slice none 0 0] 29)).heap.size ≤ w.heap.size + 2 by simp) (by have := HBC.out.size; simp at this; omega)) (fun q hq => by have := (own_block_ge own1.out q hq).1; simp; omega)
         have hbS := Below.trans HBC.out hb
         have k0 := app_keep own0.out hg (apart_symm D01.out)
         have a01 := apart_symm (app_apart own0.out hp (apart_symm D01.out))
         have k2 := app_keep own2.out hg D12.out
         have a12 := app_apart own2.out hp D12.out
         refine hK.out _ _ (Below.and HS0.out hbS) (fun hSC => ?_)
         simp only [Nat.zero_add, List.nil_append, ints_flat] at ho
         have own1 : Hid (W20.ownsRow (w.heap.size + 2) 3 1 v1 F.length (ints F)) := ho
         have own0 := Lib.hid k0
         have own2 := Lib.hid k2
         have D01 := Lib.hid a01
         have D12 := Lib.hid a12
         have HBC := Lib.hid hbS
         clear hK K hb hbS hg hp ho k0 a01 k2 a12
         (try simp only [Act.put, pu1, pu2, pu3])
         refine wpAnyH_ready (rs := [11]) (by kernel_rfl) (by simp) ?_
         refine AllReadyH.cons rfl (fun K hK => ?_) AllReadyH.nil
         refine step_app cI_len (by rfl) _ _ 27 (by rfl) (w.heap.size + 2) 3 J (.int .i64 0) 8 Try.underlying27 J1.out J2.out J3.out J4.out (by rfl) (by omega) _ 0 [] (by rfl) own2.out C d L.length L rfl (by rfl) (RdI.below HL.out HBC.out).rd HC.out (ints_one L) (by unfold maxLen; omega) (by omega) (by have := HBC.out.size; simp at this; omega) ?_
         intro v2 W21 ho hg hp
         have hb := Below.of_grown hg (Nat.le_trans (show ((w.alloc (.cells #[.slice A E.length a, .slice B F.length b, .slice C L.length d] 29)).alloc (.cells #[.slice none 0 0, .slice none 0 0, .slice none 0 0] 29)).heap.size ≤ w.heap.size + 2 by simp) (by have := HBC.out.size; simp at this; omega)) (fun q hq => by have := (own_block_ge own2.out q hq).1; simp; omega)
         have hbS := Below.trans HBC.out hb
         have k0 := app_keep own0.out hg (apart_symm D02.out)
         have a02 := apart_symm (app_apart own0.out hp (apart_symm D02.out))
         have k1 := app_keep own1.out hg (apart_symm D12.out)
         have a12 := apart_symm (app_apart own1.out hp (apart_symm D12.out))
         refine hK.out _ _ (Below.and HS0.out hbS) (fun hSC => ?_)
         simp only [Nat.zero_add, List.nil_append, ints_flat] at ho
         have own2 : Hid (W21.ownsRow (w.heap.size + 2) 3 1 v2 L.length (ints L)) := ho
         have own0 := Lib.hid k0
         have own1 := Lib.hid k1
         have D02 := Lib.hid a02
         have D12 := Lib.hid a12
         have HBC := Lib.hid hbS
         clear hK K hb hbS hg hp ho k0 a02 k1 a12
         (try simp only [Act.put, pu1, pu2, pu3])
         obtain ⟨A', a', hv0, _⟩ := own_form own0.out
         obtain ⟨B', b', hv1, _⟩ := own_form own1.out
         obtain ⟨C', d', hv2, _⟩ := own_form own2.out
         subst hv0
         subst hv1
         subst hv2
         have K5 : Hid (Three W21 (w.heap.size + 1) 29 (.slice none 0 0) (.slice none 0 0) (.slice none 0 0)) := by
          have h0 : Three ((w.alloc (.cells #[.slice A E.length a, .slice B F.length b, .slice C L.length d] 29)).alloc (.cells #[.slice none 0 0, .slice none 0 0, .slice none 0 0] 29)) (w.heap.size + 1) 29 (.slice none 0 0) (.slice none 0 0) (.slice none 0 0) := by
           have h := heap_alloc_new (w.alloc (.cells #[.slice A E.length a, .slice B F.length b, .slice C L.length d] 29)) (.cells #[.slice none 0 0, .slice none 0 0, .slice none 0 0] 29)
           rw [show (w.alloc (.cells #[.slice A E.length a, .slice B F.length b, .slice C L.length d] 29)).heap.size = w.heap.size + 1 by simp] at h
           exact h
          exact h0.below HBC.out (by simp)
         have BF := Lib.hid (Below.and BW.out HBC.out)
         have hS5 := hSC
         clear HE HF HL HA HB0 HC I1 I2 I3 I4 J1 J2 J3 J4 hSC HBC
         obtain ⟨z0, z1, z2⟩ := K5.out.cells
         have zf := K5.out.frozen
         have zl := K5.out.lt
         refine tkI 12 15 (v := ?_) rfl rfl ?_ ?_
         rotate_left
         · intro w1 hSw; go_simp; (try with_reducible rfl)
         (try simp only [Act.put, pu1, pu2, pu3])
         refine wpAnyH_ready (rs := [13]) (by kernel_rfl) (by simp) ?_
         refine AllReadyH.cons rfl (fun K hK => ?_) AllReadyH.nil
         go_simp
         refine hK.out _ _ (Below.setCell (Below.setCell (Below.setCell hS5 (by simp) _) (by simp) _) (by simp) _) (fun hS6 => ?_)
         clear hK K
         (try simp only [Act.put, pu1, pu2, pu3])
         refine wpAnyH_done (by kernel_rfl) ?_ _
         have bb : w.heap.size ≤ W21.heap.size := BF.out.size
         go_wp2
         refine bodyPost_ret (v := .agg #[.slice A' E.length a', .slice B' F.length b', .slice C' L.length d']) (by simp [results, Try.results46, go_sem, z0, z1, z2]) rfl ⟨A', a', B', b', C', d', rfl, own_base (own_put (own_put (own_put own0.out (by omega) _ _) (by omega) _ _) (by omega) _ _) (by omega), own_base (own_put (own_put (own_put own1.out (by omega) _ _) (by omega) _ _) (by omega) _ _) (by omega), own_base (own_put (own_put (own_put own2.out (by omega) _ _) (by omega) _ _) (by omega) _ _) (by omega), D01.out, D02.out, D12.out, ?_⟩
         iterate 3 (refine Below.setCell ?_ (by first | (simp; done) | (simp; omega)) _)
         exact BF.out
     · go_simp
       have n2 := own_base (base' := w.heap.size + 2) (own_nil_new W14 3 1 rfl) (by have := HBC.out.size; simp at this; omega)
       have a02 := apart_symm (new_apart own0.out (m := 0) (c := 0))
       have k0 := own0.out.alloc (.cells #[] 3)
       have a12 := apart_symm (new_apart own1.out (m := 0) (c := 0))
       have k1 := own1.out.alloc (.cells #[] 3)
       have hb := (Below.refl W14.heap.size W14).alloc (Nat.le_refl _) (.cells #[] 3)
       obtain ⟨W22, hN⟩ : ∃ X, X = W14.alloc (.cells #[] 3) := ⟨_, rfl⟩
       rw [← hN] at n2 hb ⊢ k0 k1
       clear hN
       refine hK.out _ _ (Below.and hSC hb) (fun hSC => ?_)
       have own2 := Lib.hid n2
       have own0 := Lib.hid k0
       have own1 := Lib.hid k1
       have D02 := Lib.hid a02
       have D12 := Lib.hid a12
       have HBC := Lib.hid (Below.and HBC.out hb)
       clear hK K hb n2 k0 a02 k1 a12
       (try simp only [Act.put, pu1, pu2, pu3])
       refine wpAnyH_ready (rs := [3]) (by kernel_rfl) (by simp) ?_
       refine AllReadyH.cons rfl (fun K hK => ?_) AllReadyH.nil
       refine step_app Fig.len (by rfl) _ _ 26 (by rfl) (w.heap.size + 2) 72 I (.agg #[.int .i64 0, .int .i64 0, .int .i64 0, .int .i64 0, .int .i64 0]) 40 Try.underlying26 I1.out I2.out I3.out I4.out (by rfl) (by omega) _ 0 [] (by rfl) own0.out A a E.length E rfl (by rfl) (RdF.below HE.out HBC.out).rd HA.out (figs_one E) (by unfold maxLen; omega) (by omega) (by have := HBC.out.size; simp at this; omega) ?_
       intro v0 W23 ho hg hp
       have hb := Below.of_grown hg (Nat.le_trans (show ((w.alloc (.cells #[.slice A E.length a, .slice B F.length b, .slice C L.length d] 29)).alloc (.cells #[.slice none 0 0, .slice none 0 0, .slice none 0 0] 29)).heap.size ≤ w.heap.size + 2 by simp) (by have := HBC.out.size; simp at this; omega)) (fun q hq => by have := (own_block_ge own0.out q hq).1; simp; omega)
       have hbS := Below.trans HBC.out hb
       have k1 := app_keep own1.out hg D01.out
       have a01 := app_apart own1.out hp D01.out
       have k2 := app_keep own2.out hg D02.out
       have a02 := app_apart own2.out hp D02.out
       refine hK.out _ _ (Below.and HS0.out hbS) (fun hSC => ?_)
       simp only [Nat.zero_add, List.nil_append, ints_flat] at ho
       have own0 : Hid (W23.ownsRow (w.heap.size + 2) 72 5 v0 E.length (figs E)) := ho
       have own1 := Lib.hid k1
       have own2 := Lib.hid k2
       have D01 := Lib.hid a01
       have D02 := Lib.hid a02
       have HBC := Lib.hid hbS
       clear hK K hb hbS hg hp ho k1 a01 k2 a02
       (try simp only [Act.put, pu1, pu2, pu3])
       refine wpAnyH_ready (rs := [7]) (by kernel_rfl) (by simp) ?_
       refine AllReadyH.cons rfl (fun K hK => ?_) AllReadyH.nil
       refine step_app cI_len (by rfl) _ _ 27 (by rfl) (w.heap.size + 2) 3 J (.int .i64 0) 8 Try.underlying27 J1.out J2.out J3.out J4.out (by rfl) (by omega) _ 0 [] (by rfl) own1.out B b F.length F rfl (by rfl) (RdI.below HF.out HBC.out).rd HB0.out (ints_one F) (by unfold maxLen; omega) (by omega) (by have := HBC.out.size; simp at this; omega) ?_
       intro v1 W24 ho hg hp
       have hb := Below.of_grown hg (Nat.le_trans (show ((w.alloc (.cells #[.slice A E.length a, .slice B F.length b, .slice C L.length d] 29)).alloc (.cells #[.slice none 0 0, .slice none 0 0, .slice none 0 0] 29)).heap.size ≤ w.heap.size + 2 by simp) (by have := HBC.out.size; simp at this; omega)) (fun q hq => by have := (own_block_ge own1.out q hq).1; simp; omega)
       have hbS := Below.trans HBC.out hb
       have k0 := app_keep own0.out hg (apart_symm D01.out)
       have a01 := apart_symm (app_apart own0.out hp (apart_symm D01.out))
       have k2 := app_keep own2.out hg D12.out
       have a12 := app_apart own2.out hp D12.out
       refine hK.out _ _ (Below.and HS0.out hbS) (fun hSC => ?_)
       simp only [Nat.zero_add, List.nil_append, ints_flat] at ho
       have own1 : Hid (W24.ownsRow (w.heap.size + 2) 3 1 v1 F.length (ints F)) := ho
       have own0 := Lib.hid k0
       have own2 := Lib.hid k2
       have D01 := Lib.hid a01
       have D12 := Lib.hid a12
       have HBC := Lib.hid hbS
       clear hK K hb hbS hg hp ho k0 a01 k2 a12
       (try simp only [Act.put, pu1, pu2, pu3])
       refine wpAnyH_ready (rs := [11]) (by kernel_rfl) (by simp) ?_
       refine AllReadyH.cons rfl (fun K hK => ?_) AllReadyH.nil
       refine step_app cI_len (by rfl) _ _ 27 (by rfl) (w.heap.size + 2) 3 J (.int .i64 0) 8 Try.underlying27 J1.out J2.out J3.out J4.out (by rfl) (by omega) _ 0 [] (by rfl) own2.out C d L.length L rfl (by rfl) (RdI.below HL.out HBC.out).rd HC.out (ints_one L) (by unfold maxLen; omega) (by omega) (by have := HBC.out.size; simp at this; omega) ?_
       intro v2 W25 ho hg hp
       have hb := Below.of_grown hg (Nat.le_trans (show ((w.alloc (.cells #[.slice A E.length a, .slice B F.length b, .slice C L.length d] 29)).alloc (.cells #[.slice none 0 0, .slice none 0 0, .slice none 0 0] 29)).heap.size ≤ w.heap.size + 2 by simp) (by have := HBC.out.size; simp at this; omega)) (fun q hq => by have := (own_block_ge own2.out q hq).1; simp; omega)
       have hbS := Below.trans HBC.out hb
       have k0 := app_keep own0.out hg (apart_symm D02.out)
       have a02 := apart_symm (app_apart own0.out hp (apart_symm D02.out))
       have k1 := app_keep own1.out hg (apart_symm D12.out)
       have a12 := apart_symm (app_apart own1.out hp (apart_symm D12.out))
       refine hK.out _ _ (Below.and HS0.out hbS) (fun hSC => ?_)
       simp only [Nat.zero_add, List.nil_append, ints_flat] at ho
       have own2 : Hid (W25.ownsRow (w.heap.size + 2) 3 1 v2 L.length (ints L)) := ho
       have own0 := Lib.hid k0
       have own1 := Lib.hid k1
       have D02 := Lib.hid a02
       have D12 := Lib.hid a12
       have HBC := Lib.hid hbS
       clear hK K hb hbS hg hp ho k0 a02 k1 a12
       (try simp only [Act.put, pu1, pu2, pu3])
       obtain ⟨A', a', hv0, _⟩ := own_form own0.out
       obtain ⟨B', b', hv1, _⟩ := own_form own1.out
       obtain ⟨C', d', hv2, _⟩ := own_form own2.out
       subst hv0
       subst hv1
       subst hv2
       have K5 : Hid (Three W25 (w.heap.size + 1) 29 (.slice none 0 0) (.slice none 0 0) (.slice none 0 0)) := by
        have h0 : Three ((w.alloc (.cells #[.slice A E.length a, .slice B F.length b, .slice C L.length d] 29)).alloc (.cells #[.slice none 0 0, .slice none 0 0, .slice none 0 0] 29)) (w.heap.size + 1) 29 (.slice none 0 0) (.slice none 0 0) (.slice none 0 0) := by
         have h := heap_alloc_new (w.alloc (.cells #[.slice A E.length a, .slice B F.length b, .slice C L.length d] 29)) (.cells #[.slice none 0 0, .slice none 0 0, .slice none 0 0] 29)
         rw [show (w.alloc (.cells #[.slice A E.length a, .slice B F.length b, .slice C L.length d] 29)).heap.size = w.heap.size + 1 by simp] at h
         exact h
        exact h0.below HBC.out (by simp)
       have BF := Lib.hid (Below.and BW.out HBC.out)
       have hS5 := hSC
       clear HE HF HL HA HB0 HC I1 I2 I3 I4 J1 J2 J3 J4 hSC HBC
       obtain ⟨z0, z1, z2⟩ := K5.out.cells
       have zf := K5.out.frozen
       have zl := K5.out.lt
       refine tkI 12 15 (v := ?_) rfl rfl ?_ ?_
       rotate_left
       · intro w1 hSw; go_simp; (try with_reducible rfl)
       (try simp only [Act.put, pu1, pu2, pu3])
       refine wpAnyH_ready (rs := [13]) (by kernel_rfl) (by simp) ?_
       refine AllReadyH.cons rfl (fun K hK => ?_) AllReadyH.nil
       go_simp
       refine hK.out _ _ (Below.setCell (Below.setCell (Below.setCell hS5 (by simp) _) (by simp) _) (by simp) _) (fun hS6 => ?_)
       clear hK K
       (try simp only [Act.put, pu1, pu2, pu3])
       refine wpAnyH_done (by kernel_rfl) ?_ _
       have bb : w.heap.size ≤ W25.heap.size := BF.out.size
       go_wp2
       refine bodyPost_ret (v := .agg #[.slice A' E.length a', .slice B' F.length b', .slice C' L.length d']) (by simp [results, Try.results46, go_sem, z0, z1, z2]) rfl ⟨A', a', B', b', C', d', rfl, own_base (own_put (own_put (own_put own0.out (by omega) _ _) (by omega) _ _) (by omega) _ _) (by omega), own_base (own_put (own_put (own_put own1.out (by omega) _ _) (by omega) _ _) (by omega) _ _) (by omega), own_base (own_put (own_put (own_put own2.out (by omega) _ _) (by omega) _ _) (by omega) _ _) (by omega), D01.out, D02.out, D12.out, ?_⟩
       iterate 3 (refine Below.setCell ?_ (by first | (simp; done) | (simp; omega)) _)
       exact BF.out
   · go_simp
     have n2 := own_base (base' := w.heap.size + 2) (own_nil_new W1 3 1 rfl) (by have := HBC.out.size; simp at this; omega)
     have a02 := apart_symm (new_apart own0.out (m := 0) (c := 0))
     have k0 := own0.out.alloc (.cells #[] 3)
     have hb := (Below.refl W1.heap.size W1).alloc (Nat.le_refl _) (.cells #[] 3)
     obtain ⟨W26, hN⟩ : ∃ X, X = W1.alloc (.cells #[] 3) := ⟨_, rfl⟩
     rw [← hN] at n2 hb ⊢ k0
     clear hN
     refine hK.out _ _ (Below.and hSC hb) (fun hSC => ?_)
     have own2 := Lib.hid n2
     have own0 := Lib.hid k0
     have D02 := Lib.hid a02
     have HBC := Lib.hid (Below.and HBC.out hb)
     clear hK K hb n2 k0 a02
     (try simp only [Act.put, pu1, pu2, pu3])
     refine wpAnyH_ready (rs := [3, 4]) (by kernel_rfl) (by simp) ?_
     refine AllReadyH.cons rfl (fun K hK => ?_) (AllReadyH.cons rfl (fun K hK => ?_) AllReadyH.nil)
     · refine step_app Fig.len (by rfl) _ _ 26 (by rfl) (w.heap.size + 2) 72 I (.agg #[.int .i64 0, .int .i64 0, .int .i64 0, .int .i64 0, .int .i64 0]) 40 Try.underlying26 I1.out I2.out I3.out I4.out (by rfl) (by omega) _ 0 [] (by rfl) own0.out A a E.length E rfl (by rfl) (RdF.below HE.out HBC.out).rd HA.out (figs_one E) (by unfold maxLen; omega) (by omega) (by have := HBC.out.size; simp at this; omega) ?_
       intro v0 W27 ho hg hp
       have hb := Below.of_grown hg (Nat.le_trans (show ((w.alloc (.cells #[.slice A E.length a, .slice B F.length b, .slice C L.length d] 29)).alloc (.cells #[.slice none 0 0, .slice none 0 0, .slice none 0 0] 29)).heap.size ≤ w.heap.size + 2 by simp) (by have := HBC.out.size; simp at this; omega)) (fun q hq => by have := (own_block_ge own0.out q hq).1; simp; omega)
       have hbS := Below.trans HBC.out hb
       have k2 := app_keep own2.out hg D02.out
       have a02 := app_apart own2.out hp D02.out
       refine hK.out _ _ (Below.and HS0.out hbS) (fun hSC => ?_)
       simp only [Nat.zero_add, List.nil_append, ints_flat] at ho
       have own0 : Hid (W27.ownsRow (w.heap.size + 2) 72 5 v0 E.length (figs E)) := ho
       have own2 := Lib.hid k2
       have D02 := Lib.hid a02
       have HBC := Lib.hid hbS
       clear hK K hb hbS hg hp ho k2 a02
       (try simp only [Act.put, pu1, pu2, pu3])
       refine wpAnyH_ready (rs := [4]) (by kernel_rfl) (by simp) ?_
       refine AllReadyH.cons rfl (fun K hK => ?_) AllReadyH.nil
       go_simp
       have n1 := own_base (base' := w.heap.size + 2) (own_nil_new W27 3 1 rfl) (by have := HBC.out.size; simp at this; omega)
       have a01 := apart_symm (new_apart own0.out (m := 0) (c := 0))
       have k0 := own0.out.alloc (.cells #[] 3)
       have a12 := new_apart own2.out (m := 0) (c := 0)
       have k2 := own2.out.alloc (.cells #[] 3)
       have hb := (Below.refl W27.heap.size W27).alloc (Nat.le_refl _) (.cells #[] 3)
       obtain ⟨W28, hN⟩ : ∃ X, X = W27.alloc (.cells #[] 3) := ⟨_, rfl⟩
       rw [← hN] at n1 hb ⊢ k0 k2
       clear hN
       refine hK.out _ _ (Below.and hSC hb) (fun hSC => ?_)
       have own1 := Lib.hid n1
       have own0 := Lib.hid k0
       have own2 := Lib.hid k2
       have D01 := Lib.hid a01
       have D12 := Lib.hid a12
       have HBC := Lib.hid (Below.and HBC.out hb)
       clear hK K hb n1 k0 a01 k2 a12
       (try simp only [Act.put, pu1, pu2, pu3])
       refine wpAnyH_ready (rs := [7]) (by kernel_rfl) (by simp) ?_
       refine AllReadyH.cons rfl (fun K hK => ?_) AllReadyH.nil
       refine step_app cI_len (by rfl) _ _ 27 (by rfl) (w.heap.size + 2) 3 J (.int .i64 0) 8 Try.underlying27 J1.out J2.out J3.out J4.out (by rfl) (by omega) _ 0 [] (by rfl) own1.out B b F.length F rfl (by rfl) (RdI.below HF.out HBC.out).rd HB0.out (ints_one F) (by unfold maxLen; omega) (by omega) (by have := HBC.out.size; simp at this; omega) ?_
       intro v1 W29 ho hg hp
       have hb := Below.of_grown hg (Nat.le_trans (show ((w.alloc (.cells #[.slice A E.length a, .slice B F.length b, .slice C L.length d] 29)).alloc (.cells #[.slice none 0 0, .slice none 0 0, .slice none 0 0] 29)).heap.size ≤ w.heap.size + 2 by simp) (by have := HBC.out.size; simp at this; omega)) (fun q hq => by have := (own_block_ge own1.out q hq).1; simp; omega)
       have hbS := Below.trans HBC.out hb
       have k0 := app_keep own0.out hg (apart_symm D01.out)
       have a01 := apart_symm (app_apart own0.out hp (apart_symm D01.out))
       have k2 := app_keep own2.out hg D12.out
       have a12 := app_apart own2.out hp D12.out
       refine hK.out _ _ (Below.and HS0.out hbS) (fun hSC => ?_)
       simp only [Nat.zero_add, List.nil_append, ints_flat] at ho
       have own1 : Hid (W29.ownsRow (w.heap.size + 2) 3 1 v1 F.length (ints F)) := ho
       have own0 := Lib.hid k0
       have own2 := Lib.hid k2
       have D01 := Lib.hid a01
       have D12 := Lib.hid a12
       have HBC := Lib.hid hbS
       clear hK K hb hbS hg hp ho k0 a01 k2 a12
       (try simp only [Act.put, pu1, pu2, pu3])
       refine wpAnyH_ready (rs := [11]) (by kernel_rfl) (by simp) ?_
       refine AllReadyH.cons rfl (fun K hK => ?_) AllReadyH.nil
       refine step_app cI_len (by rfl) _ _ 27 (by rfl) (w.heap.size + 2) 3 J (.int .i64 0) 8 Try.underlying27 J1.out J2.out J3.out J4.out (by rfl) (by omega) _ 0 [] (by rfl) own2.out C d L.length L rfl (by rfl) (RdI.below HL.out HBC.out).rd HC.out (ints_one L) (by unfold maxLen; omega) (by omega) (by have := HBC.out.size; simp at this; omega) ?_
       intro v2 W30 ho hg hp
       have hb := Below.of_grown hg (Nat.le_trans (show ((w.alloc (.cells #[.slice A E.length a, .slice B F.length b, .slice C L.length d] 29)).alloc (.cells #[.slice none 0 0, .slice none 0 0, .slice none 0 0] 29)).heap.size ≤ w.heap.size + 2 by simp) (by have := HBC.out.size; simp at this; omega)) (fun q hq => by have := (own_block_ge own2.out q hq).1; simp; omega)
       have hbS := Below.trans HBC.out hb
       have k0 := app_keep own0.out hg (apart_symm D02.out)
       have a02 := apart_symm (app_apart own0.out hp (apart_symm D02.out))
       have k1 := app_keep own1.out hg (apart_symm D12.out)
       have a12 := apart_symm (app_apart own1.out hp (apart_symm D12.out))
       refine hK.out _ _ (Below.and HS0.out hbS) (fun hSC => ?_)
       simp only [Nat.zero_add, List.nil_append, ints_flat] at ho
       have own2 : Hid (W30.ownsRow (w.heap.size + 2) 3 1 v2 L.length (ints L)) := ho
       have own0 := Lib.hid k0
       have own1 := Lib.hid k1
       have D02 := Lib.hid a02
       have D12 := Lib.hid a12
       have HBC := Lib.hid hbS
       clear hK K hb hbS hg hp ho k0 a02 k1 a12
       (try simp only [Act.put, pu1, pu2, pu3])
       obtain ⟨A', a', hv0, _⟩ := own_form own0.out
       obtain ⟨B', b', hv1, _⟩ := own_form own1.out
       obtain ⟨C', d', hv2, _⟩ := own_form own2.out
       subst hv0
       subst hv1
       subst hv2
       have K5 : Hid (Three W30 (w.heap.size + 1) 29 (.slice none 0 0) (.slice none 0 0) (.slice none 0 0)) := by
        have h0 : Three ((w.alloc (.cells #[.slice A E.length a, .slice B F.length b, .slice C L.length d] 29)).alloc (.cells #[.slice none 0 0, .slice none 0 0, .slice none 0 0] 29)) (w.heap.size + 1) 29 (.slice none 0 0) (.slice none 0 0) (.slice none 0 0) := by
         have h := heap_alloc_new (w.alloc (.cells #[.slice A E.length a, .slice B F.length b, .slice C L.length d] 29)) (.cells #[.slice none 0 0, .slice none 0 0, .slice none 0 0] 29)
         rw [show (w.alloc (.cells #[.slice A E.length a, .slice B F.length b, .slice C L.length d] 29)).heap.size = w.heap.size + 1 by simp] at h
         exact h
        exact h0.below HBC.out (by simp)
       have BF := Lib.hid (Below.and BW.out HBC.out)
       have hS5 := hSC
       clear HE HF HL HA HB0 HC I1 I2 I3 I4 J1 J2 J3 J4 hSC HBC
       obtain ⟨z0, z1, z2⟩ := K5.out.cells
       have zf := K5.out.frozen
       have zl := K5.out.lt
       refine tkI 12 15 (v := ?_) rfl rfl ?_ ?_
       rotate_left
       · intro w1 hSw; go_simp; (try with_reducible rfl)
       (try simp only [Act.put, pu1, pu2, pu3])
       refine wpAnyH_ready (rs := [13]) (by kernel_rfl) (by simp) ?_
       refine AllReadyH.cons rfl (fun K hK => ?_) AllReadyH.nil
       go_simp
       refine hK.out _ _ (Below.setCell (Below.setCell (Below.setCell hS5 (by simp) _) (by simp) _) (by simp) _) (fun hS6 => ?_)
       clear hK K
       (try simp only [Act.put, pu1, pu2, pu3])
       refine wpAnyH_done (by kernel_rfl) ?_ _
       have bb : w.heap.size ≤ W30.heap.size := BF.out.size
       go_wp2
       refine bodyPost_ret (v := .agg #[.slice A' E.length a', .slice B' F.length b', .slice C' L.length d']) (by simp [results, Try.results46, go_sem, z0, z1, z2]) rfl ⟨A', a', B', b', C', d', rfl, own_base (own_put (own_put (own_put own0.out (by omega) _ _) (by omega) _ _) (by omega) _ _) (by omega), own_base (own_put (own_put (own_put own1.out (by omega) _ _) (by omega) _ _) (by omega) _ _) (by omega), own_base (own_put (own_put (own_put own2.out (by omega) _ _) (by omega) _ _) (by omega) _ _) (by omega), D01.out, D02.out, D12.out, ?_⟩
       iterate 3 (refine Below.setCell ?_ (by first | (simp; done) | (simp; omega)) _)
       exact BF.out
     · go_simp
       have n1 := own_base (base' := w.heap.size + 2) (own_nil_new W26 3 1 rfl) (by have := HBC.out.size; simp at this; omega)
       have a01 := apart_symm (new_apart own0.out (m := 0) (c := 0))
       have k0 := own0.out.alloc (.cells #[] 3)
       have a12 := new_apart own2.out (m := 0) (c := 0)
       have k2 := own2.out.alloc (.cells #[] 3)
       have hb := (Below.refl W26.heap.size W26).alloc (Nat.le_refl _) (.cells #[] 3)
       obtain ⟨W31, hN⟩ : ∃ X, X = W26.alloc (.cells #[] 3) := ⟨_, rfl⟩
       rw [← hN] at n1 hb ⊢ k0 k2
       clear hN
       refine hK.out _ _ (Below.and hSC hb) (fun hSC => ?_)
       have own1 := Lib.hid n1
       have own0 := Lib.hid k0
       have own2 := Lib.hid k2
       have D01 := Lib.hid a01
       have D12 := Lib.hid a12
       have HBC := Lib.hid (Below.and HBC.out hb)
       clear hK K hb n1 k0 a01 k2 a12
       (try simp only [Act.put, pu1, pu2, pu3])
       refine wpAnyH_ready (rs := [3]) (by kernel_rfl) (by simp) ?_
       refine AllReadyH.cons rfl (fun K hK => ?_) AllReadyH.nil
       refine step_app Fig.len (by rfl) _ _ 26 (by rfl) (w.heap.size + 2) 72 I (.agg #[.int .i64 0, .int .i64 0, .int .i64 0, .int .i64 0, .int .i64 0]) 40 Try.underlying26 I1.out I2.out I3.out I4.out (by rfl) (by omega) _ 0 [] (by rfl) own0.out A a E.length E rfl (by rfl) (RdF.below HE.out HBC.out).rd HA.out (figs_one E) (by unfold maxLen; omega) (by omega) (by have := HBC.out.size; simp at this; omega) ?_
       intro v0 W32 ho hg hp
       have hb := Below.of_grown hg (Nat.le_trans (show ((w.alloc (.cells #[.slice A E.length a, .slice B F.length b, .slice C L.length d] 29)).alloc (.cells #[.slice none 0 0, .slice none 0 0, .slice none 0 0] 29)).heap.size ≤ w.heap.size + 2 by simp) (by have := HBC.out.size; simp at this; omega)) (fun q hq => by have := (own_block_ge own0.out q hq).1; simp; omega)
       have hbS := Below.trans HBC.out hb
       have k1 := app_keep own1.out hg D01.out
       have a01 := app_apart own1.out hp D01.out
       have k2 := app_keep own2.out hg D02.out
       have a02 := app_apart own2.out hp D02.out
       refine hK.out _ _ (Below.and HS0.out hbS) (fun hSC => ?_)
       simp only [Nat.zero_add, List.nil_append, ints_flat] at ho
       have own0 : Hid (W32.ownsRow (w.heap.size + 2) 72 5 v0 E.length (figs E)) := ho
       have own1 := Lib.hid k1
       have own2 := Lib.hid k2
       have D01 := Lib.hid a01
       have D02 := Lib.hid a02
       have HBC := Lib.hid hbS
       clear hK K hb hbS hg hp ho k1 a01 k2 a02
       (try simp only [Act.put, pu1, pu2, pu3])
       refine wpAnyH_ready (rs := [7]) (by kernel_rfl) (by simp) ?_
       refine AllReadyH.cons rfl (fun K hK => ?_) AllReadyH.nil
       refine step_app cI_len (by rfl) _ _ 27 (by rfl) (w.heap.size + 2) 3 J (.int .i64 0) 8 Try.underlying27 J1.out J2.out J3.out J4.out (by rfl) (by omega) _ 0 [] (by rfl) own1.out B b F.length F rfl (by rfl) (RdI.below HF.out HBC.out).rd HB0.out (ints_one F) (by unfold maxLen; omega) (by omega) (by have := HBC.out.size; simp at this; omega) ?_
       intro v1 W33 ho hg hp
       have hb := Below.of_grown hg (Nat.le_trans (show ((w.alloc (.cells #[.slice A E.length a, .slice B F.length b, .slice C L.length d] 29)).alloc (.cells #[.slice none 0 0, .slice none 0 0, .slice none 0 0] 29)).heap.size ≤ w.heap.size + 2 by simp) (by have := HBC.out.size; simp at this; omega)) (fun q hq => by have := (own_block_ge own1.out q hq).1; simp; omega)
       have hbS := Below.trans HBC.out hb
       have k0 := app_keep own0.out hg (apart_symm D01.out)
       have a01 := apart_symm (app_apart own0.out hp (apart_symm D01.out))
       have k2 := app_keep own2.out hg D12.out
       have a12 := app_apart own2.out hp D12.out
       refine hK.out _ _ (Below.and HS0.out hbS) (fun hSC => ?_)
       simp only [Nat.zero_add, List.nil_append, ints_flat] at ho
       have own1 : Hid (W33.ownsRow (w.heap.size + 2) 3 1 v1 F.length (ints F)) := ho
       have own0 := Lib.hid k0
       have own2 := Lib.hid k2
       have D01 := Lib.hid a01
       have D12 := Lib.hid a12
       have HBC := Lib.hid hbS
       clear hK K hb hbS hg hp ho k0 a01 k2 a12
       (try simp only [Act.put, pu1, pu2, pu3])
       refine wpAnyH_ready (rs := [11]) (by kernel_rfl) (by simp) ?_
       refine AllReadyH.cons rfl (fun K hK => ?_) AllReadyH.nil
       refine step_app cI_len (by rfl) _ _ 27 (by rfl) (w.heap.size + 2) 3 J (.int .i64 0) 8 Try.underlying27 J1.out J2.out J3.out J4.out (by rfl) (by omega) _ 0 [] (by rfl) own2.out C d L.length L rfl (by rfl) (RdI.below HL.out HBC.out).rd HC.out (ints_one L) (by unfold maxLen; omega) (by omega) (by have := HBC.out.size; simp at this; omega) ?_
       intro v2 W34 ho hg hp
       have hb := Below.of_grown hg (Nat.le_trans (show ((w.alloc (.cells #[.slice A E.length a, .slice B F.length b, .slice C L.length d] 29)).alloc (.cells #[.slice none 0 0, .slice none 0 0, .slice none 0 0] 29)).heap.size ≤ w.heap.size + 2 by simp) (by have := HBC.out.size; simp at this; omega)) (fun q hq => by have := (own_block_ge own2.out q hq).1; simp; omega)
       have hbS := Below.trans HBC.out hb
       have k0 := app_keep own0.out hg (apart_symm D02.out)
       have a02 := apart_symm (app_apart own0.out hp (apart_symm D02.out))
       have k1 := app_keep own1.out hg (apart_symm D12.out)
       have a12 := apart_symm (app_apart own1.out hp (apart_symm D12.out))
       refine hK.out _ _ (Below.and HS0.out hbS) (fun hSC => ?_)
       simp only [Nat.zero_add, List.nil_append, ints_flat] at ho
       have own2 : Hid (W34.ownsRow (w.heap.size + 2) 3 1 v2 L.length (ints L)) := ho
       have own0 := Lib.hid k0
       have own1 := Lib.hid k1
       have D02 := Lib.hid a02
       have D12 := Lib.hid a12
       have HBC := Lib.hid hbS
       clear hK K hb hbS hg hp ho k0 a02 k1 a12
       (try simp only [Act.put, pu1, pu2, pu3])
       obtain ⟨A', a', hv0, _⟩ := own_form own0.out
       obtain ⟨B', b', hv1, _⟩ := own_form own1.out
       obtain ⟨C', d', hv2, _⟩ := own_form own2.out
       subst hv0
       subst hv1
       subst hv2
       have K5 : Hid (Three W34 (w.heap.size + 1) 29 (.slice none 0 0) (.slice none 0 0) (.slice none 0 0)) := by
        have h0 : Three ((w.alloc (.cells #[.slice A E.length a, .slice B F.length b, .slice C L.length d] 29)).alloc (.cells #[.slice none 0 0, .slice none 0 0, .slice none 0 0] 29)) (w.heap.size + 1) 29 (.slice none 0 0) (.slice none 0 0) (.slice none 0 0) := by
         have h := heap_alloc_new (w.alloc (.cells #[.slice A E.length a, .slice B F.length b, .slice C L.length d] 29)) (.cells #[.slice none 0 0, .slice none 0 0, .slice none 0 0] 29)
         rw [show (w.alloc (.cells #[.slice A E.length a, .slice B F.length b, .slice C L.length d] 29)).heap.size = w.heap.size + 1 by simp] at h
         exact h
        exact h0.below HBC.out (by simp)
       have BF := Lib.hid (Below.and BW.out HBC.out)
       have hS5 := hSC
       clear HE HF HL HA HB0 HC I1 I2 I3 I4 J1 J2 J3 J4 hSC HBC
       obtain ⟨z0, z1, z2⟩ := K5.out.cells
       have zf := K5.out.frozen
       have zl := K5.out.lt
       refine tkI 12 15 (v := ?_) rfl rfl ?_ ?_
       rotate_left
       · intro w1 hSw; go_simp; (try with_reducible rfl)
       (try simp only [Act.put, pu1, pu2, pu3])
       refine wpAnyH_ready (rs := [13]) (by kernel_rfl) (by simp) ?_
       refine AllReadyH.cons rfl (fun K hK => ?_) AllReadyH.nil
       go_simp
       refine hK.out _ _ (Below.setCell (Below.setCell (Below.setCell hS5 (by simp) _) (by simp) _) (by simp) _) (fun hS6 => ?_)
       clear hK K
       (try simp only [Act.put, pu1, pu2, pu3])
       refine wpAnyH_done (by kernel_rfl) ?_ _
       have bb : w.heap.size ≤ W34.heap.size := BF.out.size
       go_wp2
       refine bodyPost_ret (v := .agg #[.slice A' E.length a', .slice B' F.length b', .slice C' L.length d']) (by simp [results, Try.results46, go_sem, z0, z1, z2]) rfl ⟨A', a', B', b', C', d', rfl, own_base (own_put (own_put (own_put own0.out (by omega) _ _) (by omega) _ _) (by omega) _ _) (by omega), own_base (own_put (own_put (own_put own1.out (by omega) _ _) (by omega) _ _) (by omega) _ _) (by omega), own_base (own_put (own_put (own_put own2.out (by omega) _ _) (by omega) _ _) (by omega) _ _) (by omega), D01.out, D02.out, D12.out, ?_⟩
       iterate 3 (refine Below.setCell ?_ (by first | (simp; done) | (simp; omega)) _)
       exact BF.out
 · go_simp
   have n1 := own_base (base' := w.heap.size + 2) (own_nil_new W0 3 1 rfl) (by have := HBC.out.size; simp at this; omega)
   have hb := (Below.refl W0.heap.size W0).alloc (Nat.le_refl _) (.cells #[] 3)
   obtain ⟨W35, hN⟩ : ∃ X, X = W0.alloc (.cells #[] 3) := ⟨_, rfl⟩
   rw [← hN] at n1 hb ⊢
   clear hN
   refine hK.out _ _ (Below.and hSC hb) (fun hSC => ?_)
   have own1 := Lib.hid n1
   have HBC := Lib.hid (Below.and HBC.out hb)
   clear hK K hb n1
   (try simp only [Act.put, pu1, pu2, pu3])
   refine wpAnyH_ready (rs := [0, 8]) (by kernel_rfl) (by simp) ?_
   refine AllReadyH.cons rfl (fun K hK => ?_) (AllReadyH.cons rfl (fun K hK => ?_) AllReadyH.nil)
   · go_simp
     have n0 := own_base (base' := w.heap.size + 2) (own_nil_new W35 72 5 rfl) (by have := HBC.out.size; simp at this; omega)
     have a01 := new_apart own1.out (m := 0) (c := 0)
     have k1 := own1.out.alloc (.cells #[] 72)
     have hb := (Below.refl W35.heap.size W35).alloc (Nat.le_refl _) (.cells #[] 72)
     obtain ⟨W36, hN⟩ : ∃ X, X = W35.alloc (.cells #[] 72) := ⟨_, rfl⟩
     rw [← hN] at n0 hb ⊢ k1
     clear hN
     refine hK.out _ _ (Below.and hSC hb) (fun hSC => ?_)
     have own0 := Lib.hid n0
     have own1 := Lib.hid k1
     have D01 := Lib.hid a01
     have HBC := Lib.hid (Below.and HBC.out hb)
     clear hK K hb n0 k1 a01
     (try simp only [Act.put, pu1, pu2, pu3])
     refine wpAnyH_ready (rs := [3, 8]) (by kernel_rfl) (by simp) ?_
     refine AllReadyH.cons rfl (fun K hK => ?_) (AllReadyH.cons rfl (fun K hK => ?_) AllReadyH.nil)
     · refine step_app Fig.len (by rfl) _ _ 26 (by rfl) (w.heap.size + 2) 72 I (.agg #[.int .i64 0, .int .i64 0, .int .i64 0, .int .i64 0, .int .i64 0]) 40 Try.underlying26 I1.out I2.out I3.out I4.out (by rfl) (by omega) _ 0 [] (by rfl) own0.out A a E.length E rfl (by rfl) (RdF.below HE.out HBC.out).rd HA.out (figs_one E) (by unfold maxLen; omega) (by omega) (by have := HBC.out.size; simp at this; omega) ?_
       intro v0 W37 ho hg hp
       have hb := Below.of_grown hg (Nat.le_trans (show ((w.alloc (.cells #[.slice A E.length a, .slice B F.length b, .slice C L.length d] 29)).alloc (.cells #[.slice none 0 0, .slice none 0 0, .slice none 0 0] 29)).heap.size ≤ w.heap.size + 2 by simp) (by have := HBC.out.size; simp at this; omega)) (fun q hq => by have := (own_block_ge own0.out q hq).1; simp; omega)
       have hbS := Below.trans HBC.out hb
       have k1 := app_keep own1.out hg D01.out
       have a01 := app_apart own1.out hp D01.out
       refine hK.out _ _ (Below.and HS0.out hbS) (fun hSC => ?_)
       simp only [Nat.zero_add, List.nil_append, ints_flat] at ho
       have own0 : Hid (W37.ownsRow (w.heap.size + 2) 72 5 v0 E.length (figs E)) := ho
       have own1 := Lib.hid k1
       have D01 := Lib.hid a01
       have HBC := Lib.hid hbS
       clear hK K hb hbS hg hp ho k1 a01
       (try simp only [Act.put, pu1, pu2, pu3])
       refine wpAnyH_ready (rs := [7, 8]) (by kernel_rfl) (by simp) ?_
       refine AllReadyH.cons rfl (fun K hK => ?_) (AllReadyH.cons rfl (fun K hK => ?_) AllReadyH.nil)
       · refine step_app cI_len (by rfl) _ _ 27 (by rfl) (w.heap.size + 2) 3 J (.int .i64 0) 8 Try.underlying27 J1.out J2.out J3.out J4.out (by rfl) (by omega) _ 0 [] (by rfl) own1.out B b F.length F rfl (by rfl) (RdI.below HF.out HBC.out).rd HB0.out (ints_one F) (by unfold maxLen; omega) (by omega) (by have := HBC.out.size; simp at this; omega) ?_
         intro v1 W38 ho hg hp
         have hb := Below.of_grown hg (Nat.le_trans (show ((w.alloc (.cells #[.slice A E.length a, .slice B F.length b, .slice C L.length d] 29)).alloc (.cells #[.slice none 0 0, .slice none 0 0, .slice none 0 0] 29)).heap.size ≤ w.heap.size + 2 by simp) (by have := HBC.out.size; simp at this; omega)) (fun q hq => by have := (own_block_ge own1.out q hq).1; simp; omega)
         have hbS := Below.trans HBC.out hb
         have k0 := app_keep own0.out hg (apart_symm D01.out)
         have a01 := apart_symm (app_apart own0.out hp (apart_symm D01.out))
         refine hK.out _ _ (Below.and HS0.out hbS) (fun hSC => ?_)
         simp only [Nat.zero_add, List.nil_append, ints_flat] at ho
         have own1 : Hid (W38.ownsRow (w.heap.size + 2) 3 1 v1 F.length (ints F)) := ho
         have own0 := Lib.hid k0
         have D01 := Lib.hid a01
         have HBC := Lib.hid hbS
         clear hK K hb hbS hg hp ho k0 a01
         (try simp only [Act.put, pu1, pu2, pu3])
         refine wpAnyH_ready (rs := [8]) (by kernel_rfl) (by simp) ?_
         refine AllReadyH.cons rfl (fun K hK => ?_) AllReadyH.nil
         go_simp
         have n2 := own_base (base' := w.heap.size + 2) (own_nil_new W38 3 1 rfl) (by have := HBC.out.size; simp at this; omega)
         have a02 := apart_symm (new_apart own0.out (m := 0) (c := 0))
         have k0 := own0.out.alloc (.cells #[] 3)
         have a12 := apart_symm (new_apart own1.out (m := 0) (c := 0))
         have k1 := own1.out.alloc (.cells #[] 3)
         have hb := (Below.refl W38.heap.size W38).alloc (Nat.le_refl _) (.cells #[] 3)
         obtain ⟨W39, hN⟩ : ∃ X, X = W38.alloc (.cells #[] 3) := ⟨_, rfl⟩
         rw [← hN] at n2 hb ⊢ k0 k1
         clear hN
         refine hK.out _ _ (Below.and hSC hb) (fun hSC => ?_)
         have own2 := Lib.hid n2
         have own0 := Lib.hid k0
         have own1 := Lib.hid k1
         have D02 := Lib.hid a02
         have D12 := Lib.hid a12
         have HBC := Lib.hid (Below.and HBC.out hb)
         clear hK K hb n2 k0 a02 k1 a12
         (try simp only [Act.put, pu1, pu2, pu3])
         refine wpAnyH_ready (rs := [11]) (by kernel_rfl) (by simp) ?_
         refine AllReadyH.cons rfl (fun K hK => ?_) AllReadyH.nil
         refine step_app cI_len (by rfl) _ _ 27 (by rfl) (w.heap.size + 2) 3 J (.int .i64 0) 8 Try.underlying27 J1.out J2.out J3.out J4.out (by rfl) (by omega) _ 0 [] (by rfl) own2.out C d L.length L rfl (by rfl) (RdI.below HL.out HBC.out).rd HC.out (ints_one L) (by unfold maxLen; omega) (by omega) (by have := HBC.out.size; simp at this; omega) ?_
         intro v2 W40 ho hg hp
         have hb := Below.of_grown hg (Nat.le_trans (show ((w.alloc (.cells #[.slice A E.length a, .slice B F.length b, .slice C L.length d] 29)).alloc (.cells #[.slice none 0 0, .slice none 0 0, .slice none 0 0] 29)).heap.size ≤ w.heap.size + 2 by simp) (by have := HBC.out.size; simp at this; omega)) (fun q hq => by have := (own_block_ge own2.out q hq).1; simp; omega)
         have hbS := Below.trans HBC.out hb
         have k0 := app_keep own0.out hg (apart_symm D02.out)
         have a02 := apart_symm (app_apart own0.out hp (apart_symm D02.out))
         have k1 := app_keep own1.out hg (apart_symm D12.out)
         have a12 := apart_symm (app_apart own1.out hp (apart_symm D12.out))
         refine hK.out _ _ (Below.and HS0.out hbS) (fun hSC => ?_)
         simp only [Nat.zero_add, List.nil_append, ints_flat] at ho
         have own2 : Hid (W40.ownsRow (w.heap.size + 2) 3 1 v2 L.length (ints L)) := ho
         have own0 := Lib.hid k0
         have own1 := Lib.hid k1
         have D02 := Lib.hid a02
         have D12 := Lib.hid a12
         have HBC := Lib.hid hbS
         clear hK K hb hbS hg hp ho k0 a02 k1 a12
         (try simp only [Act.put, pu1, pu2, pu3])
         obtain ⟨A', a', hv0, _⟩ := own_form own0.out
         obtain ⟨B', b', hv1, _⟩ := own_form own1.out
         obtain ⟨C', d', hv2, _⟩ := own_form own2.out
         subst hv0
         subst hv1
         subst hv2
         have K5 : Hid (Three W40 (w.heap.size + 1) 29 (.slice none 0 0) (.slice none 0 0) (.slice none 0 0)) := by
          have h0 : Three ((w.alloc (.cells #[.slice A E.length a, .slice B F.length b, .slice C L.length d] 29)).alloc (.cells #[.slice none 0 0, .slice none 0 0, .slice none 0 0] 29)) (w.heap.size + 1) 29 (.slice none 0 0) (.slice none 0 0) (.slice none 0 0) := by
           have h := heap_alloc_new (w.alloc (.cells #[.slice A E.length a, .slice B F.length b, .slice C L.length d] 29)) (.cells #[.slice none 0 0, .slice none 0 0, .slice none 0 0] 29)
           rw [show (w.alloc (.cells #[.slice A E.length a, .slice B F.length b, .slice C L.length d] 29)).heap.size = w.heap.size + 1 by simp] at h
           exact h
          exact h0.below HBC.out (by simp)
         have BF := Lib.hid (Below.and BW.out HBC.out)
         have hS5 := hSC
         clear HE HF HL HA HB0 HC I1 I2 I3 I4 J1 J2 J3 J4 hSC HBC
         obtain ⟨z0, z1, z2⟩ := K5.out.cells
         have zf := K5.out.frozen
         have zl := K5.out.lt
         refine tkI 12 15 (v := ?_) rfl rfl ?_ ?_
         rotate_left
         · intro w1 hSw; go_simp; (try with_reducible rfl)
         (try simp only [Act.put, pu1, pu2, pu3])
         refine wpAnyH_ready (rs := [13]) (by kernel_rfl) (by simp) ?_
         refine AllReadyH.cons rfl (fun K hK => ?_) AllReadyH.nil
         go_simp
         refine hK.out _ _ (Below.setCell (Below.setCell (Below.setCell hS5 (by simp) _) (by simp) _) (by simp) _) (fun hS6 => ?_)
         clear hK K
         (try simp only [Act.put, pu1, pu2, pu3])
         refine wpAnyH_done (by kernel_rfl) ?_ _
         have bb : w.heap.size ≤ W40.heap.size := BF.out.size
         go_wp2
         refine bodyPost_ret (v := .agg #[.slice A' E.length a', .slice B' F.length b', .slice C' L.length d']) (by simp [results, Try.results46, go_sem, z0, z1, z2]) rfl ⟨A', a', B', b', C', d', rfl, own_base (own_put (own_put (own_put own0.out (by omega) _ _) (by omega) _ _) (by omega) _ _) (by omega), own_base (own_put (own_put (own_put own1.out (by omega) _ _) (by omega) _ _) (by omega) _ _) (by omega), own_base (own_put (own_put (own_put own2.out (by omega) _ _) (by omega) _ _) (by omega) _ _) (by omega), D01.out, D02.out, D12.out, ?_⟩
         iterate 3 (refine Below.setCell ?_ (by first | (simp; done) | (simp; omega)) _)
         exact BF.out
       · go_simp
         have n2 := own_base (base' := w.heap.size + 2) (own_nil_new W37 3 1 rfl) (by have := HBC.out.size; simp at this; omega)
         have a02 := apart_symm (new_apart own0.out (m := 0) (c := 0))
         have k0 := own0.out.alloc (.cells #[] 3)
         have a12 := apart_symm (new_apart own1.out (m := 0) (c := 0))
         have k1 := own1.out.alloc (.cells #[] 3)
         have hb := (Below.refl W37.heap.size W37).alloc (Nat.le_refl _) (.cells #[] 3)
         obtain ⟨W41, hN⟩ : ∃ X, X = W37.alloc (.cells #[] 3) := ⟨_, rfl⟩
         rw [← hN] at n2 hb ⊢ k0 k1
         clear hN
         refine hK.out _ _ (Below.and hSC hb) (fun hSC => ?_)
         have own2 := Lib.hid n2
         have own0 := Lib.hid k0
         have own1 := Lib.hid k1
         have D02 := Lib.hid a02
         have D12 := Lib.hid a12
         have HBC := Lib.hid (Below.and HBC.out hb)
         clear hK K hb n2 k0 a02 k1 a12
         (try simp only [Act.put, pu1, pu2, pu3])
         refine wpAnyH_ready (rs := [7]) (by kernel_rfl) (by simp) ?_
         refine AllReadyH.cons rfl (fun K hK => ?_) AllReadyH.nil
         refine step_app cI_len (by rfl) _ _ 27 (by rfl) (w.heap.size + 2) 3 J (.int .i64 0) 8 Try.underlying27 J1.out J2.out J3.out J4.out (by rfl) (by omega) _ 0 [] (by rfl) own1.out B b F.length F rfl (by rfl) (RdI.below HF.out HBC.out).rd HB0.out (ints_one F) (by unfold maxLen; omega) (by omega) (by have := HBC.out.size; simp at this; omega) ?_
         intro v1 W42 ho hg hp
         have hb := Below.of_grown hg (Nat.le_trans (show ((w.alloc (.cells #[.slice A E.length a, .slice B F.length b, .slice C L.length d] 29)).alloc (.cells #[.slice none 0 0, .slice none 0 0, .slice none 0 0] 29)).heap.size ≤ w.heap.size + 2 by simp) (by have := HBC.out.size; simp at this; omega)) (fun q hq => by have := (own_block_ge own1.out q hq).1; simp; omega)
         have hbS := Below.trans HBC.out hb
         have k0 := app_keep own0.out hg (apart_symm D01.out)
         have a01 := apart_symm (app_apart own0.out hp (apart_symm D01.out))
         have k2 := app_keep own2.out hg D12.out
         have a12 := app_apart own2.out hp D12.out
         refine hK.out _ _ (Below.and HS0.out hbS) (fun hSC => ?_)
         simp only [Nat.zero_add, List.nil_append, ints_flat] at ho
         have own1 : Hid (W42.ownsRow (w.heap.size + 2) 3 1 v1 F.length (ints F)) := ho
         have own0 := Lib.hid k0
         have own2 := Lib.hid k2
         have D01 := Lib.hid a01
         have D12 := Lib.hid a12
         have HBC := Lib.hid hbS
         clear hK K hb hbS hg hp ho k0 a01 k2 a12
         (try simp only [Act.put, pu1, pu2, pu3])
         refine wpAnyH_ready (rs := [11]) (by kernel_rfl) (by simp) ?_
         refine AllReadyH.cons rfl (fun K hK => ?_) AllReadyH.nil
         refine step_app cI_len (by rfl) _ _ 27 (by rfl) (w.heap.size + 2) 3 J (.int .i64 0) 8 Try.underlying27 J1.out J2.out J3.out J4.out (by rfl) (by omega) _ 0 [] (by rfl) own2.out C d L.length L rfl (by rfl) (RdI.below HL.out HBC.out).rd HC.out (ints_one L) (by unfold maxLen; omega) (by omega) (by have := HBC.out.size; simp at this; omega) ?_
         intro v2 W43 ho hg hp
         have hb := Below.of_grown hg (Nat.le_trans (show ((w.alloc (.cells #[.slice A E.length a, .slice B F.length b, .slice C L.length d] 29)).alloc (.cells #[.slice none 0 0, .slice none 0 0, .slice none 0 0] 29)).heap.size ≤ w.heap.size + 2 by simp) (by have := HBC.out.size; simp at this; omega)) (fun q hq => by have := (own_block_ge own2.out q hq).1; simp; omega)
         have hbS := Below.trans HBC.out hb
         have k0 := app_keep own0.out hg (apart_symm D02.out)
         have a02 := apart_symm (app_apart own0.out hp (apart_symm D02.out))
         have k1 := app_keep own1.out hg (apart_symm D12.out)
         have a12 := apart_symm (app_apart own1.out hp (apart_symm D12.out))
         refine hK.out _ _ (Below.and HS0.out hbS) (fun hSC => ?_)
         simp only [Nat.zero_add, List.nil_append, ints_flat] at ho
         have own2 : Hid (W43.ownsRow (w.heap.size + 2) 3 1 v2 L.length (ints L)) := ho
         have own0 := Lib.hid k0
         have own1 := Lib.hid k1
         have D02 := Lib.hid a02
         have D12 := Lib.hid a12
         have HBC := Lib.hid hbS
         clear hK K hb hbS hg hp ho k0 a02 k1 a12
         (try simp only [Act.put, pu1, pu2, pu3])
         obtain ⟨A', a', hv0, _⟩ := own_form own0.out
         obtain ⟨B', b', hv1, _⟩ := own_form own1.out
         obtain ⟨C', d', hv2, _⟩ := own_form own2.out
         subst hv0
         subst hv1
         subst hv2
         have K5 : Hid (Three W43 (w.heap.size + 1) 29 (.slice none 0 0) (.slice none 0 0) (.slice none 0 0)) := by
          have h0 : Three ((w.alloc (.cells #[.slice A E.length a, .slice B F.length b, .slice C L.length d] 29)).alloc (.cells #[.slice none 0 0, .slice none 0 0, .slice none 0 0] 29)) (w.heap.size + 1) 29 (.slice none 0 0) (.slice none 0 0) (.slice none 0 0) := by
           have h := heap_alloc_new (w.alloc (.cells #[.slice A E.length a, .slice B F.length b, .slice C L.length d] 29)) (.cells #[.slice none 0 0, .slice none 0 0, .slice none 0 0] 29)
           rw [show (w.alloc (.cells #[.slice A E.length a, .slice B F.length b, .slice C L.length d] 29)).heap.size = w.heap.size + 1 by simp] at h
           exact h
          exact h0.below HBC.out (by simp)
         have BF := Lib.hid (Below.and BW.out HBC.out)
         have hS5 := hSC
         clear HE HF HL HA HB0 HC I1 I2 I3 I4 J1 J2 J3 J4 hSC HBC
         obtain ⟨z0, z1, z2⟩ := K5.out.cells
         have zf := K5.out.frozen
         have zl := K5.out.lt
         refine tkI 12 15 (v := ?_) rfl rfl ?_ ?_
         rotate_left
         · intro w1 hSw; go_simp; (try with_reducible rfl)
         (try simp only [Act.put, pu1, pu2, pu3])
         refine wpAnyH_ready (rs := [13]) (by kernel_rfl) (by simp) ?_
         refine AllReadyH.cons rfl (fun K hK => ?_) AllReadyH.nil
         go_simp
         refine hK.out _ _ (Below.setCell (Below.setCell (Below.setCell hS5 (by simp) _) (by simp) _) (by simp) _) (fun hS6 => ?_)
         clear hK K
         (try simp only [Act.put, pu1, pu2, pu3])
         refine wpAnyH_done (by kernel_rfl) ?_ _
         have bb : w.heap.size ≤ W43.heap.size := BF.out.size
         go_wp2
         refine bodyPost_ret (v := .agg #[.slice A' E.length a', .slice B' F.length b', .slice C' L.length d']) (by simp [results, Try.results46, go_sem, z0, z1, z2]) rfl ⟨A', a', B', b', C', d', rfl, own_base (own_put (own_put (own_put own0.out (by omega) _ _) (by omega) _ _) (by omega) _ _) (by omega), own_base (own_put (own_put (own_put own1.out (by omega) _ _) (by omega) _ _) (by omega) _ _) (by omega), own_base (own_put (own_put (own_put own2.out (by omega) _ _) (by omega) _ _) (by omega) _ _) (by omega), D01.out, D02.out, D12.out, ?_⟩
         iterate 3 (refine Below.setCell ?_ (by first | (simp; done) | (simp; omega)) _)
         exact BF.out
     · go_simp
       have n2 := own_base (base' := w.heap.size + 2) (own_nil_new W36 3 1 rfl) (by have := HBC.out.size; simp at this; omega)
       have a02 := apart_symm (new_apart own0.out (m := 0) (c := 0))
       have k0 := own0.out.alloc (.cells #[] 3)
       have a12 := apart_symm (new_apart own1.out (m := 0) (c := 0))
       have k1 := own1.out.alloc (.cells #[] 3)
       have hb := (Below.refl W36.heap.size W36).alloc (Nat.le_refl _) (.cells #[] 3)
       obtain ⟨W44, hN⟩ : ∃ X, X = W36.alloc (.cells #[] 3) := ⟨_, rfl⟩
       rw [← hN] at n2 hb ⊢ k0 k1
       clear hN
       refine hK.out _ _ (Below.and hSC hb) (fun hSC => ?_)
       have own2 := Lib.hid n2
       have own0 := Lib.hid k0
       have own1 := Lib.hid k1
       have D02 := Lib.hid a02
       have D12 := Lib.hid a12
       have HBC := Lib.hid (Below.and HBC.out hb)
       clear hK K hb n2 k0 a02 k1 a12
       (try simp only [Act.put, pu1, pu2, pu3])
       refine wpAnyH_ready (rs := [3]) (by kernel_rfl) (by simp) ?_
       refine AllReadyH.cons rfl (fun K hK => ?_) AllReadyH.nil
       refine step_app Fig.len (by rfl) _ _ 26 (by rfl) (w.heap.size + 2) 72 I (.agg #[.int .i64 0, .int .i64 0, .int .i64 0, .int .i64 0, .int .i64 0]) 40 Try.underlying26 I1.out I2.out I3.out I4.out (by rfl) (by omega) _ 0 [] (by rfl) own0.out A a E.length E rfl (by rfl) (RdF.below HE.out HBC.out).rd HA.out (figs_one E) (by unfold maxLen; omega) (by omega) (by have := HBC.out.size; simp at this; omega) ?_
       intro v0 W45 ho hg hp
       have hb := Below.of_grown hg (Nat.le_trans (show ((w.alloc (.cells #[.slice A E.length a, .slice B F.length b, .slice C L.length d] 29)).alloc (.cells #[.slice none 0 0, .slice none 0 0, .slice none 0 0] 29)).heap.size ≤ w.heap.size + 2 by simp) (by have := HBC.out.size; simp at this; omega)) (fun q hq => by have := (own_block_ge own0.out q hq).1; simp; omega)
       have hbS := Below.trans HBC.out hb
       have k1 := app_keep own1.out hg D01.out
       have a01 := app_apart own1.out hp D01.out
       have k2 := app_keep own2.out hg D02.out
       have a02 := app_apart own2.out hp D02.out
       refine hK.out _ _ (Below.and HS0.out hbS) (fun hSC => ?_)
       simp only [Nat.zero_add, List.nil_append, ints_flat] at ho
       have own0 : Hid (W45.ownsRow (w.heap.size + 2) 72 5 v0 E.length (figs E)) := ho
       have own1 := Lib.hid k1
       have own2 := Lib.hid k2
       have D01 := Lib.hid a01
       have D02 := Lib.hid a02
       have HBC := Lib.hid hbS
       clear hK K hb hbS hg hp ho k1 a01 k2 a02
       (try simp only [Act.put, pu1, pu2, pu3])
       refine wpAnyH_ready (rs := [7]) (by kernel_rfl) (by simp) ?_
       refine AllReadyH.cons rfl (fun K hK => ?_) AllReadyH.nil
       refine step_app cI_len (by rfl) _ _ 27 (by rfl) (w.heap.size + 2) 3 J (.int .i64 0) 8 Try.underlying27 J1.out J2.out J3.out J4.out (by rfl) (by omega) _ 0 [] (by rfl) own1.out B b F.length F rfl (by rfl) (RdI.below HF.out HBC.out).rd HB0.out (ints_one F) (by unfold maxLen; omega) (by omega) (by have := HBC.out.size; simp at this; omega) ?_
       intro v1 W46 ho hg hp
       have hb := Below.of_grown hg (Nat.le_trans (show ((w.alloc (.cells #[.slice A E.length a, .slice B F.length b, .slice C L.length d] 29)).alloc (.cells #[.slice none 0 0, .slice none 0 0, .slice none 0 0] 29)).heap.size ≤ w.heap.size + 2 by simp) (by have := HBC.out.size; simp at this; omega)) (fun q hq => by have := (own_block_ge own1.out q hq).1; simp; omega)
       have hbS := Below.trans HBC.out hb
       have k0 := app_keep own0.out hg (apart_symm D01.out)
       have a01 := apart_symm (app_apart own0.out hp (apart_symm D01.out))
       have k2 := app_keep own2.out hg D12.out
       have a12 := app_apart own2.out hp D12.out
       refine hK.out _ _ (Below.and HS0.out hbS) (fun hSC => ?_)
       simp only [Nat.zero_add, List.nil_append, ints_flat] at ho
       have own1 : Hid (W46.ownsRow (w.heap.size + 2) 3 1 v1 F.length (ints F)) := ho
       have own0 := Lib.hid k0
       have own2 := Lib.hid k2
       have D01 := Lib.hid a01
       have D12 := Lib.hid a12
       have HBC := Lib.hid hbS
       clear hK K hb hbS hg hp ho k0 a01 k2 a12
       (try simp only [Act.put, pu1, pu2, pu3])
       refine wpAnyH_ready (rs := [11]) (by kernel_rfl) (by simp) ?_
       refine AllReadyH.cons rfl (fun K hK => ?_) AllReadyH.nil
       refine step_app cI_len (by rfl) _ _ 27 (by rfl) (w.heap.size + 2) 3 J (.int .i64 0) 8 Try.underlying27 J1.out J2.out J3.out J4.out (by rfl) (by omega) _ 0 [] (by rfl) own2.out C d L.length L rfl (by rfl) (RdI.below HL.out HBC.out).rd HC.out (ints_one L) (by unfold maxLen; omega) (by omega) (by have := HBC.out.size; simp at this; omega) ?_
       intro v2 W47 ho hg hp
       have hb := Below.of_grown hg (Nat.le_trans (show ((w.alloc (.cells #[.slice A E.length a, .slice B F.length b, .slice C L.length d] 29)).alloc (.cells #[.slice none 0 0, .slice none 0 0, .slice none 0 0] 29)).heap.size ≤ w.heap.size + 2 by simp) (by have := HBC.out.size; simp at this; omega)) (fun q hq => by have := (own_block_ge own2.out q hq).1; simp; omega)
       have hbS := Below.trans HBC.out hb
       have k0 := app_keep own0.out hg (apart_symm D02.out)
       have a02 := apart_symm (app_apart own0.out hp (apart_symm D02.out))
       have k1 := app_keep own1.out hg (apart_symm D12.out)
       have a12 := apart_symm (app_apart own1.out hp (apart_symm D12.out))
       refine hK.out _ _ (Below.and HS0.out hbS) (fun hSC => ?_)
       simp only [Nat.zero_add, List.nil_append, ints_flat] at ho
       have own2 : Hid (W47.ownsRow (w.heap.size + 2) 3 1 v2 L.length (ints L)) := ho
       have own0 := Lib.hid k0
       have own1 := Lib.hid k1
       have D02 := Lib.hid a02
       have D12 := Lib.hid a12
       have HBC := Lib.hid hbS
       clear hK K hb hbS hg hp ho k0 a02 k1 a12
       (try simp only [Act.put, pu1, pu2, pu3])
       obtain ⟨A', a', hv0, _⟩ := own_form own0.out
       obtain ⟨B', b', hv1, _⟩ := own_form own1.out
       obtain ⟨C', d', hv2, _⟩ := own_form own2.out
       subst hv0
       subst hv1
       subst hv2
       have K5 : Hid (Three W47 (w.heap.size + 1) 29 (.slice none 0 0) (.slice none 0 0) (.slice none 0 0)) := by
        have h0 : Three ((w.alloc (.cells #[.slice A E.length a, .slice B F.length b, .slice C L.length d] 29)).alloc (.cells #[.slice none 0 0, .slice none 0 0, .slice none 0 0] 29)) (w.heap.size + 1) 29 (.slice none 0 0) (.slice none 0 0) (.slice none 0 0) := by
         have h := heap_alloc_new (w.alloc (.cells #[.slice A E.length a, .slice B F.length b, .slice C L.length d] 29)) (.cells #[.slice none 0 0, .slice none 0 0, .slice none 0 0] 29)
         rw [show (w.alloc (.cells #[.slice A E.length a, .slice B F.length b, .slice C L.length d] 29)).heap.size = w.heap.size + 1 by simp] at h
         exact h
        exact h0.below HBC.out (by simp)
       have BF := Lib.hid (Below.and BW.out HBC.out)
       have hS5 := hSC
       clear HE HF HL HA HB0 HC I1 I2 I3 I4 J1 J2 J3 J4 hSC HBC
       obtain ⟨z0, z1, z2⟩ := K5.out.cells
       have zf := K5.out.frozen
       have zl := K5.out.lt
       refine tkI 12 15 (v := ?_) rfl rfl ?_ ?_
       rotate_left
       · intro w1 hSw; go_simp; (try with_reducible rfl)
       (try simp only [Act.put, pu1, pu2, pu3])
       refine wpAnyH_ready (rs := [13]) (by kernel_rfl) (by simp) ?_
       refine AllReadyH.cons rfl (fun K hK => ?_) AllReadyH.nil
       go_simp
       refine hK.out _ _ (Below.setCell (Below.setCell (Below.setCell hS5 (by simp) _) (by simp) _) (by simp) _) (fun hS6 => ?_)
       clear hK K
       (try simp only [Act.put, pu1, pu2, pu3])
       refine wpAnyH_done (by kernel_rfl) ?_ _
       have bb : w.heap.size ≤ W47.heap.size := BF.out.size
       go_wp2
       refine bodyPost_ret (v := .agg #[.slice A' E.length a', .slice B' F.length b', .slice C' L.length d']) (by simp [results, Try.results46, go_sem, z0, z1, z2]) rfl ⟨A', a', B', b', C', d', rfl, own_base (own_put (own_put (own_put own0.out (by omega) _ _) (by omega) _ _) (by omega) _ _) (by omega), own_base (own_put (own_put (own_put own1.out (by omega) _ _) (by omega) _ _) (by omega) _ _) (by omega), own_base (own_put (own_put (own_put own2.out (by omega) _ _) (by omega) _ _) (by omega) _ _) (by omega), D01.out, D02.out, D12.out, ?_⟩
       iterate 3 (refine Below.setCell ?_ (by first | (simp; done) | (simp; omega)) _)
       exact BF.out
   · go_simp
     have n2 := own_base (base' := w.heap.size + 2) (own_nil_new W35 3 1 rfl) (by have := HBC.out.size; simp at this; omega)
     have a12 := apart_symm (new_apart own1.out (m := 0) (c := 0))
     have k1 := own1.out.alloc (.cells #[] 3)
     have hb := (Below.refl W35.heap.size W35).alloc (Nat.le_refl _) (.cells #[] 3)
     obtain ⟨W48, hN⟩ : ∃ X, X = W35.alloc (.cells #[] 3) := ⟨_, rfl⟩
     rw [← hN] at n2 hb ⊢ k1
     clear hN
     refine hK.out _ _ (Below.and hSC hb) (fun hSC => ?_)
     have own2 := Lib.hid n2
     have own1 := Lib.hid k1
     have D12 := Lib.hid a12
     have HBC := Lib.hid (Below.and HBC.out hb)
     clear hK K hb n2 k1 a12
     (try simp only [Act.put, pu1, pu2, pu3])
     refine wpAnyH_ready (rs := [0]) (by kernel_rfl) (by simp) ?_
     refine AllReadyH.cons rfl (fun K hK => ?_) AllReadyH.nil
     go_simp
     have n0 := own_base (base' := w.heap.size + 2) (own_nil_new W48 72 5 rfl) (by have := HBC.out.size; simp at this; omega)
     have a01 := new_apart own1.out (m := 0) (c := 0)
     have k1 := own1.out.alloc (.cells #[] 72)
     have a02 := new_apart own2.out (m := 0) (c := 0)
     have k2 := own2.out.alloc (.cells #[] 72)
     have hb := (Below.refl W48.heap.size W48).alloc (Nat.le_refl _) (.cells #[] 72)
     obtain ⟨W49, hN⟩ : ∃ X, X = W48.alloc (.cells #[] 72) := ⟨_, rfl⟩
     rw [← hN] at n0 hb ⊢ k1 k2
     clear hN
     refine hK.out _ _ (Below.and hSC hb) (fun hSC => ?_)
     have own0 := Lib.hid n0
     have own1 := Lib.hid k1
     have own2 := Lib.hid k2
     have D01 := Lib.hid a01
     have D02 := Lib.hid a02
     have HBC := Lib.hid (Below.and HBC.out hb)
     clear hK K hb n0 k1 a01 k2 a02
     (try simp only [Act.put, pu1, pu2, pu3])
     refine wpAnyH_ready (rs := [3]) (by kernel_rfl) (by simp) ?_
     refine AllReadyH.cons rfl (fun K hK => ?_) AllReadyH.nil
     refine step_app Fig.len (by rfl) _ _ 26 (by rfl) (w.heap.size + 2) 72 I (.agg #[.int .i64 0, .int .i64 0, .int .i64 0, .int .i64 0, .int .i64 0]) 40 Try.underlying26 I1.out I2.out I3.out I4.out (by rfl) (by omega) _ 0 [] (by rfl) own0.out A a E.length E rfl (by rfl) (RdF.below HE.out HBC.out).rd HA.out (figs_one E) (by unfold maxLen; omega) (by omega) (by have := HBC.out.size; simp at this; omega) ?_
     intro v0 W50 ho hg hp
     have hb := Below.of_grown hg (Nat.le_trans (show ((w.alloc (.cells #[.slice A E.length a, .slice B F.length b, .slice C L.length d] 29)).alloc (.cells #[.slice none 0 0, .slice none 0 0, .slice none 0 0] 29)).heap.size ≤ w.heap.size + 2 by simp) (by have := HBC.out.size; simp at this; omega)) (fun q hq => by have := (own_block_ge own0.out q hq).1; simp; omega)
     have hbS := Below.trans HBC.out hb
     have k1 := app_keep own1.out hg D01.out
     have a01 := app_apart own1.out hp D01.out
     have k2 := app_keep own2.out hg D02.out
     have a02 := app_apart own2.out hp D02.out
     refine hK.out _ _ (Below.and HS0.out hbS) (fun hSC => ?_)
     simp only [Nat.zero_add, List.nil_append, ints_flat] at ho
     have own0 : Hid (W50.ownsRow (w.heap.size + 2) 72 5 v0 E.length (figs E)) := ho
     have own1 := Lib.hid k1
     have own2 := Lib.hid k2
     have D01 := Lib.hid a01
     have D02 := Lib.hid a02
     have HBC := Lib.hid hbS
     clear hK K hb hbS hg hp ho k1 a01 k2 a02
     (try simp only [Act.put, pu1, pu2, pu3])
     refine wpAnyH_ready (rs := [7]) (by kernel_rfl) (by simp) ?_
     refine AllReadyH.cons rfl (fun K hK => ?_) AllReadyH.nil
     refine step_app cI_len (by rfl) _ _ 27 (by rfl) (w.heap.size + 2) 3 J (.int .i64 0) 8 Try.underlying27 J1.out J2.out J3.out J4.out (by rfl) (by omega) _ 0 [] (by rfl) own1.out B b F.length F rfl (by rfl) (RdI.below HF.out HBC.out).rd HB0.out (ints_one F) (by unfold maxLen; omega) (by omega) (by have := HBC.out.size; simp at this; omega) ?_
     intro v1 W51 ho hg hp
     have hb := Below.of_grown hg (Nat.le_trans (show ((w.alloc (.cells #[.slice A E.length a, .slice B F.length b, .slice C L.length d] 29)).alloc (.cells #[.slice none 0 0, .slice none 0 0, .slice none 0 0] 29)).heap.size ≤ w.heap.size + 2 by simp) (by have := HBC.out.size; simp at this; omega)) (fun q hq => by have := (own_block_ge own1.out q hq).1; simp; omega)
     have hbS := Below.trans HBC.out hb
     have k0 := app_keep own0.out hg (apart_symm D01.out)
     have a01 := apart_symm (app_apart own0.out hp (apart_symm D01.out))
     have k2 := app_keep own2.out hg D12.out
     have a12 := app_apart own2.out hp D12.out
     refine hK.out _ _ (Below.and HS0.out hbS) (fun hSC => ?_)
     simp only [Nat.zero_add, List.nil_append, ints_flat] at ho
     have own1 : Hid (W51.ownsRow (w.heap.size + 2) 3 1 v1 F.length (ints F)) := ho
     have own0 := Lib.hid k0
     have own2 := Lib.hid k2
     have D01 := Lib.hid a01
     have D12 := Lib.hid a12
     have HBC := Lib.hid hbS
     clear hK K hb hbS hg hp ho k0 a01 k2 a12
     (try simp only [Act.put, pu1, pu2, pu3])
     refine wpAnyH_ready (rs := [11]) (by kernel_rfl) (by simp) ?_
     refine AllReadyH.cons rfl (fun K hK => ?_) AllReadyH.nil
     refine step_app cI_len (by rfl) _ _ 27 (by rfl) (w.heap.size + 2) 3 J (.int .i64 0) 8 Try.underlying27 J1.out J2.out J3.out J4.out (by rfl) (by omega) _ 0 [] (by rfl) own2.out C d L.length L rfl (by rfl) (RdI.below HL.out HBC.out).rd HC.out (ints_one L) (by unfold maxLen; omega) (by omega) (by have := HBC.out.size; simp at this; omega) ?_
     intro v2 W52 ho hg hp
     have hb := Below.of_grown hg (Nat.le_trans (show ((w.alloc (.cells #[.slice A E.length a, .slice B F.length b, .slice C L.length d] 29)).alloc (.cells #[.slice none 0 0, .slice none 0 0, .slice none 0 0] 29)).heap.size ≤ w.heap.size + 2 by simp) (by have := HBC.out.size; simp at this; omega)) (fun q hq => by have := (own_block_ge own2.out q hq).1; simp; omega)
     have hbS := Below.trans HBC.out hb
     have k0 := app_keep own0.out hg (apart_symm D02.out)
     have a02 := apart_symm (app_apart own0.out hp (apart_symm D02.out))
     have k1 := app_keep own1.out hg (apart_symm D12.out)
     have a12 := apart_symm (app_apart own1.out hp (apart_symm D12.out))
     refine hK.out _ _ (Below.and HS0.out hbS) (fun hSC => ?_)
     simp only [Nat.zero_add, List.nil_append, ints_flat] at ho
     have own2 : Hid (W52.ownsRow (w.heap.size + 2) 3 1 v2 L.length (ints L)) := ho
     have own0 := Lib.hid k0
     have own1 := Lib.hid k1
     have D02 := Lib.hid a02
     have D12 := Lib.hid a12
     have HBC := Lib.hid hbS
     clear hK K hb hbS hg hp ho k0 a02 k1 a12
     (try simp only [Act.put, pu1, pu2, pu3])
     obtain ⟨A', a', hv0, _⟩ := own_form own0.out
     obtain ⟨B', b', hv1, _⟩ := own_form own1.out
     obtain ⟨C', d', hv2, _⟩ := own_form own2.out
     subst hv0
     subst hv1
     subst hv2
     have K5 : Hid (Three W52 (w.heap.size + 1) 29 (.slice none 0 0) (.slice none 0 0) (.slice none 0 0)) := by
      have h0 : Three ((w.alloc (.cells #[.slice A E.length a, .slice B F.length b, .slice C L.length d] 29)).alloc (.cells #[.slice none 0 0, .slice none 0 0, .slice none 0 0] 29)) (w.heap.size + 1) 29 (.slice none 0 0) (.slice none 0 0) (.slice none 0 0) := by
       have h := heap_alloc_new (w.alloc (.cells #[.slice A E.length a, .slice B F.length b, .slice C L.length d] 29)) (.cells #[.slice none 0 0, .slice none 0 0, .slice none 0 0] 29)
       rw [show (w.alloc (.cells #[.slice A E.length a, .slice B F.length b, .slice C L.length d] 29)).heap.size = w.heap.size + 1 by simp] at h
       exact h
      exact h0.below HBC.out (by simp)
     have BF := Lib.hid (Below.and BW.out HBC.out)
     have hS5 := hSC
     clear HE HF HL HA HB0 HC I1 I2 I3 I4 J1 J2 J3 J4 hSC HBC
     obtain ⟨z0, z1, z2⟩ := K5.out.cells
     have zf := K5.out.frozen
     have zl := K5.out.lt
     refine tkI 12 15 (v := ?_) rfl rfl ?_ ?_
     rotate_left
     · intro w1 hSw; go_simp; (try with_reducible rfl)
     (try simp only [Act.put, pu1, pu2, pu3])
     refine wpAnyH_ready (rs := [13]) (by kernel_rfl) (by simp) ?_
     refine AllReadyH.cons rfl (fun K hK => ?_) AllReadyH.nil
     go_simp
     refine hK.out _ _ (Below.setCell (Below.setCell (Below.setCell hS5 (by simp) _) (by simp) _) (by simp) _) (fun hS6 => ?_)
     clear hK K
     (try simp only [Act.put, pu1, pu2, pu3])
     refine wpAnyH_done (by kernel_rfl) ?_ _
     have bb : w.heap.size ≤ W52.heap.size := BF.out.size
     go_wp2
     refine bodyPost_ret (v := .agg #[.slice A' E.length a', .slice B' F.length b', .slice C' L.length d']) (by simp [results, Try.results46, go_sem, z0, z1, z2]) rfl ⟨A', a', B', b', C', d', rfl, own_base (own_put (own_put (own_put own0.out (by omega) _ _) (by omega) _ _) (by omega) _ _) (by omega), own_base (own_put (own_put (own_put own1.out (by omega) _ _) (by omega) _ _) (by omega) _ _) (by omega), own_base (own_put (own_put (own_put own2.out (by omega) _ _) (by omega) _ _) (by omega) _ _) (by omega), D01.out, D02.out, D12.out, ?_⟩
     iterate 3 (refine Below.setCell ?_ (by first | (simp; done) | (simp; omega)) _)
     exact BF.out
 · go_simp
   have n2 := own_base (base' := w.heap.size + 2) (own_nil_new W0 3 1 rfl) (by have := HBC.out.size; simp at this; omega)
   have hb := (Below.refl W0.heap.size W0).alloc (Nat.le_refl _) (.cells #[] 3)
   obtain ⟨W53, hN⟩ : ∃ X, X = W0.alloc (.cells #[] 3) := ⟨_, rfl⟩
   rw [← hN] at n2 hb ⊢
   clear hN
   refine hK.out _ _ (Below.and hSC hb) (fun hSC => ?_)
   have own2 := Lib.hid n2
   have HBC := Lib.hid (Below.and HBC.out hb)
   clear hK K hb n2
   (try simp only [Act.put, pu1, pu2, pu3])
   refine wpAnyH_ready (rs := [0, 4]) (by kernel_rfl) (by simp) ?_
   refine AllReadyH.cons rfl (fun K hK => ?_) (AllReadyH.cons rfl (fun K hK => ?_) AllReadyH.nil)
   · go_simp
     have n0 := own_base (base' := w.heap.size + 2) (own_nil_new W53 72 5 rfl) (by have := HBC.out.size; simp at this; omega)
     have a02 := new_apart own2.out (m := 0) (c := 0)
     have k2 := own2.out.alloc (.cells #[] 72)
     have hb := (Below.refl W53.heap.size W53).alloc (Nat.le_refl _) (.cells #[] 72)
     obtain ⟨W54, hN⟩ : ∃ X, X = W53.alloc (.cells #[] 72) := ⟨_, rfl⟩
     rw [← hN] at n0 hb ⊢ k2
     clear hN
     refine hK.out _ _ (Below.and hSC hb) (fun hSC => ?_)
     have own0 := Lib.hid n0
     have own2 := Lib.hid k2
     have D02 := Lib.hid a02
     have HBC := Lib.hid (Below.and HBC.out hb)
     clear hK K hb n0 k2 a02
     (try simp only [Act.put, pu1, pu2, pu3])
     refine wpAnyH_ready (rs := [3, 4]) (by kernel_rfl) (by simp) ?_
     refine AllReadyH.cons rfl (fun K hK => ?_) (AllReadyH.cons rfl (fun K hK => ?_) AllReadyH.nil)
     · refine step_app Fig.len (by rfl) _ _ 26 (by rfl) (w.heap.size + 2) 72 I (.agg #[.int .i64 0, .int .i64 0, .int .i64 0, .int .i64 0, .int .i64 0]) 40 Try.underlying26 I1.out I2.out I3.out I4.out (by rfl) (by omega) _ 0 [] (by rfl) own0.out A a E.length E rfl (by rfl) (RdF.below HE.out HBC.out).rd HA.out (figs_one E) (by unfold maxLen; omega) (by omega) (by have := HBC.out.size; simp at this; omega) ?_
       intro v0 W55 ho hg hp
       have hb := Below.of_grown hg (Nat.le_trans (show ((w.alloc (.cells #[.slice A E.length a, .slice B F.length b, .slice C L.length d] 29)).alloc (.cells #[.slice none 0 0, .slice none 0 0, .slice none 0 0] 29)).heap.size ≤ w.heap.size + 2 by simp) (by have := HBC.out.size; simp at this; omega)) (fun q hq => by have := (own_block_ge own0.out q hq).1; simp; omega)
       have hbS := Below.trans HBC.out hb
       have k2 := app_keep own2.out hg D02.out
       have a02 := app_apart own2.out hp D02.out
       refine hK.out _ _ (Below.and HS0.out hbS) (fun hSC => ?_)
       simp only [Nat.zero_add, List.nil_append, ints_flat] at ho
       have own0 : Hid (W55.ownsRow (w.heap.size + 2) 72 5 v0 E.length (figs E)) := ho
       have own2 := Lib.hid k2
       have D02 := Lib.hid a02
       have HBC := Lib.hid hbS
       clear hK K hb hbS hg hp ho k2 a02
       (try simp only [Act.put, pu1, pu2, pu3])
       refine wpAnyH_ready (rs := [4]) (by kernel_rfl) (by simp) ?_
       refine AllReadyH.cons rfl (fun K hK => ?_) AllReadyH.nil
       go_simp
       have n1 := own_base (base' := w.heap.size + 2) (own_nil_new W55 3 1 rfl) (by have := HBC.out.size; simp at this; omega)
       have a01 := apart_symm (new_apart own0.out (m := 0) (c := 0))
       have k0 := own0.out.alloc (.cells #[] 3)
       have a12 := new_apart own2.out (m := 0) (c := 0)
       have k2 := own2.out.alloc (.cells #[] 3)
       have hb := (Below.refl W55.heap.size W55).alloc (Nat.le_refl _) (.cells #[] 3)
       obtain ⟨W56, hN⟩ : ∃ X, X = W55.alloc (.cells #[] 3) := ⟨_, rfl⟩
       rw [← hN] at n1 hb ⊢ k0 k2
       clear hN
       refine hK.out _ _ (Below.and hSC hb) (fun hSC => ?_)
       have own1 := Lib.hid n1
       have own0 := Lib.hid k0
       have own2 := Lib.hid k2
       have D01 := Lib.hid a01
       have D12 := Lib.hid a12
       have HBC := Lib.hid (Below.and HBC.out hb)
       clear hK K hb n1 k0 a01 k2 a12
       (try simp only [Act.put, pu1, pu2, pu3])
       refine wpAnyH_ready (rs := [7]) (by kernel_rfl) (by simp) ?_
       refine AllReadyH.cons rfl (fun K hK => ?_) AllReadyH.nil
       refine step_app cI_len (by rfl) _ _ 27 (by rfl) (w.heap.size + 2) 3 J (.int .i64 0) 8 Try.underlying27 J1.out J2.out J3.out J4.out (by rfl) (by omega) _ 0 [] (by rfl) own1.out B b F.length F rfl (by rfl) (RdI.below HF.out HBC.out).rd HB0.out (ints_one F) (by unfold maxLen; omega) (by omega) (by have := HBC.out.size; simp at this; omega) ?_
       intro v1 W57 ho hg hp
       have hb := Below.of_grown hg (Nat.le_trans (show ((w.alloc (.cells #[.slice A E.length a, .slice B F.length b, .slice C L.length d] 29)).alloc (.cells #[.slice none 0 0, .slice none 0 0, .slice none 0 0] 29)).heap.size ≤ w.heap.size + 2 by simp) (by have := HBC.out.size; simp at this; omega)) (fun q hq => by have := (own_block_ge own1.out q hq).1; simp; omega)
       have hbS := Below.trans HBC.out hb
       have k0 := app_keep own0.out hg (apart_symm D01.out)
       have a01 := apart_symm (app_apart own0.out hp (apart_symm D01.out))
       have k2 := app_keep own2.out hg D12.out
       have a12 := app_apart own2.out hp D12.out
       refine hK.out _ _ (Below.and HS0.out hbS) (fun hSC => ?_)
       simp only [Nat.zero_add, List.nil_append, ints_flat] at ho
       have own1 : Hid (W57.ownsRow (w.heap.size + 2) 3 1 v1 F.length (ints F)) := ho
       have own0 := Lib.hid k0
       have own2 := Lib.hid k2
       have D01 := Lib.hid a01
       have D12 := Lib.hid a12
       have HBC := Lib.hid hbS
       clear hK K hb hbS hg hp ho k0 a01 k2 a12
       (try simp only [Act.put, pu1, pu2, pu3])
       refine wpAnyH_ready (rs := [11]) (by kernel_rfl) (by simp) ?_
       refine AllReadyH.cons rfl (fun K hK => ?_) AllReadyH.nil
       refine step_app cI_len (by rfl) _ _ 27 (by rfl) (w.heap.size + 2) 3 J (.int .i64 0) 8 Try.underlying27 J1.out J2.out J3.out J4.out (by rfl) (by omega) _ 0 [] (by rfl) own2.out C d L.length L rfl (by rfl) (RdI.below HL.out HBC.out).rd HC.out (ints_one L) (by unfold maxLen; omega) (by omega) (by have := HBC.out.size; simp at this; omega) ?_
       intro v2 W58 ho hg hp
       have hb := Below.of_grown hg (Nat.le_trans (show ((w.alloc (.cells #[.slice A E.length a, .slice B F.length b, .slice C L.length d] 29)).alloc (.cells #[.slice none 0 0, .slice none 0 0, .slice none 0 0] 29)).heap.size ≤ w.heap.size + 2 by simp) (by have := HBC.out.size; simp at this; omega)) (fun q hq => by have := (own_block_ge own2.out q hq).1; simp; omega)
       have hbS := Below.trans HBC.out hb
       have k0 := app_keep own0.out hg (apart_symm D02.out)
       have a02 := apart_symm (app_apart own0.out hp (apart_symm D02.out))
       have k1 := app_keep own1.out hg (apart_symm D12.out)
       have a12 := apart_symm (app_apart own1.out hp (apart_symm D12.out))
       refine hK.out _ _ (Below.and HS0.out hbS) (fun hSC => ?_)
       simp only [Nat.zero_add, List.nil_append, ints_flat] at ho
       have own2 : Hid (W58.ownsRow (w.heap.size + 2) 3 1 v2 L.length (ints L)) := ho
       have own0 := Lib.hid k0
       have own1 := Lib.hid k1
       have D02 := Lib.hid a02
       have D12 := Lib.hid a12
       have HBC := Lib.hid hbS
       clear hK K hb hbS hg hp ho k0 a02 k1 a12
       (try simp only [Act.put, pu1, pu2, pu3])
       obtain ⟨A', a', hv0, _⟩ := own_form own0.out
       obtain ⟨B', b', hv1, _⟩ := own_form own1.out
       obtain ⟨C', d', hv2, _⟩ := own_form own2.out
       subst hv0
       subst hv1
       subst hv2
       have K5 : Hid (Three W58 (w.heap.size + 1) 29 (.slice none 0 0) (.slice none 0 0) (.slice none 0 0)) := by
        have h0 : Three ((w.alloc (.cells #[.slice A E.length a, .slice B F.length b, .slice C L.length d] 29)).alloc (.cells #[.slice none 0 0, .slice none 0 0, .slice none 0 0] 29)) (w.heap.size + 1) 29 (.slice none 0 0) (.slice none 0 0) (.slice none 0 0) := by
         have h := heap_alloc_new (w.alloc (.cells #[.slice A E.length a, .slice B F.length b, .slice C L.length d] 29)) (.cells #[.slice none 0 0, .slice none 0 0, .slice none 0 0] 29)
         rw [show (w.alloc (.cells #[.slice A E.length a, .slice B F.length b, .slice C L.length d] 29)).heap.size = w.heap.size + 1 by simp] at h
         exact h
        exact h0.below HBC.out (by simp)
       have BF := Lib.hid (Below.and BW.out HBC.out)
       have hS5 := hSC
       clear HE HF HL HA HB0 HC I1 I2 I3 I4 J1 J2 J3 J4 hSC HBC
       obtain ⟨z0, z1, z2⟩ := K5.out.cells
       have zf := K5.out.frozen
       have zl := K5.out.lt
       refine tkI 12 15 (v := ?_) rfl rfl ?_ ?_
       rotate_left
       · intro w1 hSw; go_simp; (try with_reducible rfl)
       (try simp only [Act.put, pu1, pu2, pu3])
       refine wpAnyH_ready (rs := [13]) (by kernel_rfl) (by simp) ?_
       refine AllReadyH.cons rfl (fun K hK => ?_) AllReadyH.nil
       go_simp
       refine hK.out _ _ (Below.setCell (Below.setCell (Below.setCell hS5 (by simp) _) (by simp) _) (by simp) _) (fun hS6 => ?_)
       clear hK K
       (try simp only [Act.put, pu1, pu2, pu3])
       refine wpAnyH_done (by kernel_rfl) ?_ _
       have bb : w.heap.size ≤ W58.heap.size := BF.out.size
       go_wp2
       refine bodyPost_ret (v := .agg #[.slice A' E.length a', .slice B' F.length b', .slice C' L.length d']) (by simp [results, Try.results46, go_sem, z0, z1, z2]) rfl ⟨A', a', B', b', C', d', rfl, own_base (own_put (own_put (own_put own0.out (by omega) _ _) (by omega) _ _) (by omega) _ _) (by omega), own_base (own_put (own_put (own_put own1.out (by omega) _ _) (by omega) _ _) (by omega) _ _) (by omega), own_base (own_put (own_put (own_put own2.out (by omega) _ _) (by omega) _ _) (by omega) _ _) (by omega), D01.out, D02.out, D12.out, ?_⟩
       iterate 3 (refine Below.setCell ?_ (by first | (simp; done) | (simp; omega)) _)
       exact BF.out
     · go_simp
       have n1 := own_base (base' := w.heap.size + 2) (own_nil_new W54 3 1 rfl) (by have := HBC.out.size; simp at this; omega)
       have a01 := apart_symm (new_apart own0.out (m := 0) (c := 0))
       have k0 := own0.out.alloc (.cells #[] 3)
       have a12 := new_apart own2.out (m := 0) (c := 0)
       have k2 := own2.out.alloc (.cells #[] 3)
       have hb := (Below.refl W54.heap.size W54).alloc (Nat.le_refl _) (.cells #[] 3)
       obtain ⟨W59, hN⟩ : ∃ X, X = W54.alloc (.cells #[] 3) := ⟨_, rfl⟩
       rw [← hN] at n1 hb ⊢ k0 k2
       clear hN
       refine hK.out _ _ (Below.and hSC hb) (fun hSC => ?_)
       have own1 := Lib.hid n1
       have own0 := Lib.hid k0
       have own2 := Lib.hid k2
       have D01 := Lib.hid a01
       have D12 := Lib.hid a12
       have HBC := Lib.hid (Below.and HBC.out hb)
       clear hK K hb n1 k0 a01 k2 a12
       (try simp only [Act.put, pu1, pu2, pu3])
       refine wpAnyH_ready (rs := [3]) (by kernel_rfl) (by simp) ?_
       refine AllReadyH.cons rfl (fun K hK => ?_) AllReadyH.nil
       refine step_app Fig.len (by rfl) _ _ 26 (by rfl) (w.heap.size + 2) 72 I (.agg #[.int .i64 0, .int .i64 0, .int .i64 0, .int .i64 0, .int .i64 0]) 40 Try.underlying26 I1.out I2.out I3.out I4.out (by rfl) (by omega) _ 0 [] (by rfl) own0.out A a E.length E rfl (by rfl) (RdF.below HE.out HBC.out).rd HA.out (figs_one E) (by unfold maxLen; omega) (by omega) (by have := HBC.out.size; simp at this; omega) ?_
       intro v0 W60 ho hg hp
       have hb := Below.of_grown hg (Nat.le_trans (show ((w.alloc (.cells #[.slice A E.length a, .slice B F.length b, .slice C L.length d] 29)).alloc (.cells #[.slice none 0 0, .slice none 0 0, .slice none 0 0] 29)).heap.size ≤ w.heap.size + 2 by simp) (by have := HBC.out.size; simp at this; omega)) (fun q hq => by have := (own_block_ge own0.out q hq).1; simp; omega)
       have hbS := Below.trans HBC.out hb
       have k1 := app_keep own1.out hg D01.out
       have a01 := app_apart own1.out hp D01.out
       have k2 := app_keep own2.out hg D02.out
       have a02 := app_apart own2.out hp D02.out
       refine hK.out _ _ (Below.and HS0.out hbS) (fun hSC => ?_)
       simp only [Nat.zero_add, List.nil_append, ints_flat] at ho
       have own0 : Hid (W60.ownsRow (w.heap.size + 2) 72 5 v0 E.length (figs E)) := ho
       have own1 := Lib.hid k1
       have own2 := Lib.hid k2
       have D01 := Lib.hid a01
       have D02 := Lib.hid a02
       have HBC := Lib.hid hbS
       clear hK K hb hbS hg hp ho k1 a01 k2 a02
       (try simp only [Act.put, pu1, pu2, pu3])
       refine wpAnyH_ready (rs := [7]) (by kernel_rfl) (by simp) ?_
       refine AllReadyH.cons rfl (fun K hK => ?_) AllReadyH.nil
       refine step_app cI_len (by rfl) _ _ 27 (by rfl) (w.heap.size + 2) 3 J (.int .i64 0) 8 Try.underlying27 J1.out J2.out J3.out J4.out (by rfl) (by omega) _ 0 [] (by rfl) own1.out B b F.length F rfl (by rfl) (RdI.below HF.out HBC.out).rd HB0.out (ints_one F) (by unfold maxLen; omega) (by omega) (by have := HBC.out.size; simp at this; omega) ?_
       intro v1 W61 ho hg hp
       have hb := Below.of_grown hg (Nat.le_trans (show ((w.alloc (.cells #[.slice A E.length a, .slice B F.length b, .slice C L.length d] 29)).alloc (.cells #[.slice none 0 0, .slice none 0 0, .slice none 0 0] 29)).heap.size ≤ w.heap.size + 2 by simp) (by have := HBC.out.size; simp at this; omega)) (fun q hq => by have := (own_block_ge own1.out q hq).1; simp; omega)
       have hbS := Below.trans HBC.out hb
       have k0 := app_keep own0.out hg (apart_symm D01.out)
       have a01 := apart_symm (app_apart own0.out hp (apart_symm D01.out))
       have k2 := app_keep own2.out hg D12.out
       have a12 := app_apart own2.out hp D12.out
       refine hK.out _ _ (Below.and HS0.out hbS) (fun hSC => ?_)
       simp only [Nat.zero_add, List.nil_append, ints_flat] at ho
       have own1 : Hid (W61.ownsRow (w.heap.size + 2) 3 1 v1 F.length (ints F)) := ho
       have own0 := Lib.hid k0
       have own2 := Lib.hid k2
       have D01 := Lib.hid a01
       have D12 := Lib.hid a12
       have HBC := Lib.hid hbS
       clear hK K hb hbS hg hp ho k0 a01 k2 a12
       (try simp only [Act.put, pu1, pu2, pu3])
       refine wpAnyH_ready (rs := [11]) (by kernel_rfl) (by simp) ?_
       refine AllReadyH.cons rfl (fun K hK => ?_) AllReadyH.nil
       refine step_app cI_len (by rfl) _ _ 27 (by rfl) (w.heap.size + 2) 3 J (.int .i64 0) 8 Try.underlying27 J1.out J2.out J3.out J4.out (by rfl) (by omega) _ 0 [] (by rfl) own2.out C d L.length L rfl (by rfl) (RdI.below HL.out HBC.out).rd HC.out (ints_one L) (by unfold maxLen; omega) (by omega) (by have := HBC.out.size; simp at this; omega) ?_
       intro v2 W62 ho hg hp
       have hb := Below.of_grown hg (Nat.le_trans (show ((w.alloc (.cells #[.slice A E.length a, .slice B F.length b, .slice C L.length d] 29)).alloc (.cells #[.slice none 0 0, .slice none 0 0, .slice none 0 0] 29)).heap.size ≤ w.heap.size + 2 by simp) (by have := HBC.out.size; simp at this; omega)) (fun q hq => by have := (own_block_ge own2.out q hq).1; simp; omega)
       have hbS := Below.trans HBC.out hb
       have k0 := app_keep own0.out hg (apart_symm D02.out)
       have a02 := apart_symm (app_apart own0.out hp (apart_symm D02.out))
       have k1 := app_keep own1.out hg (apart_symm D12.out)
       have a12 := apart_symm (app_apart own1.out hp (apart_symm D12.out))
       refine hK.out _ _ (Below.and HS0.out hbS) (fun hSC => ?_)
       simp only [Nat.zero_add, List.nil_append, ints_flat] at ho
       have own2 : Hid (W62.ownsRow (w.heap.size + 2) 3 1 v2 L.length (ints L)) := ho
       have own0 := Lib.hid k0
       have own1 := Lib.hid k1
       have D02 := Lib.hid a02
       have D12 := Lib.hid a12
       have HBC := Lib.hid hbS
       clear hK K hb hbS hg hp ho k0 a02 k1 a12
       (try simp only [Act.put, pu1, pu2, pu3])
       obtain ⟨A', a', hv0, _⟩ := own_form own0.out
       obtain ⟨B', b', hv1, _⟩ := own_form own1.out
       obtain ⟨C', d', hv2, _⟩ := own_form own2.out
       subst hv0
       subst hv1
       subst hv2
       have K5 : Hid (Three W62 (w.heap.size + 1) 29 (.slice none 0 0) (.slice none 0 0) (.slice none 0 0)) := by
        have h0 : Three ((w.alloc (.cells #[.slice A E.length a, .slice B F.length b, .slice C L.length d] 29)).alloc (.cells #[.slice none 0 0, .slice none 0 0, .slice none 0 0] 29)) (w.heap.size + 1) 29 (.slice none 0 0) (.slice none 0 0) (.slice none 0 0) := by
         have h := heap_alloc_new (w.alloc (.cells #[.slice A E.length a, .slice B F.length b, .slice C L.length d] 29)) (.cells #[.slice none 0 0, .slice none 0 0, .slice none 0 0] 29)
         rw [show (w.alloc (.cells #[.slice A E.length a, .slice B F.length b, .slice C L.length d] 29)).heap.size = w.heap.size + 1 by simp] at h
         exact h
        exact h0.below HBC.out (by simp)
       have BF := Lib.hid (Below.and BW.out HBC.out)
       have hS5 := hSC
       clear HE HF HL HA HB0 HC I1 I2 I3 I4 J1 J2 J3 J4 hSC HBC
       obtain ⟨z0, z1, z2⟩ := K5.out.cells
       have zf := K5.out.frozen
       have zl := K5.out.lt
       refine tkI 12 15 (v := ?_) rfl rfl ?_ ?_
       rotate_left
       · intro w1 hSw; go_simp; (try with_reducible rfl)
       (try simp only [Act.put, pu1, pu2, pu3])
       refine wpAnyH_ready (rs := [13]) (by kernel_rfl) (by simp) ?_
       refine AllReadyH.cons rfl (fun K hK => ?_) AllReadyH.nil
       go_simp
       refine hK.out _ _ (Below.setCell (Below.setCell (Below.setCell hS5 (by simp) _) (by simp) _) (by simp) _) (fun hS6 => ?_)
       clear hK K
       (try simp only [Act.put, pu1, pu2, pu3])
       refine wpAnyH_done (by kernel_rfl) ?_ _
       have bb : w.heap.size ≤ W62.heap.size := BF.out.size
       go_wp2
       refine bodyPost_ret (v := .agg #[.slice A' E.length a', .slice B' F.length b', .slice C' L.length d']) (by simp [results, Try.results46, go_sem, z0, z1, z2]) rfl ⟨A', a', B', b', C', d', rfl, own_base (own_put (own_put (own_put own0.out (by omega) _ _) (by omega) _ _) (by omega) _ _) (by omega), own_base (own_put (own_put (own_put own1.out (by omega) _ _) (by omega) _ _) (by omega) _ _) (by omega), own_base (own_put (own_put (own_put own2.out (by omega) _ _) (by omega) _ _) (by omega) _ _) (by omega), D01.out, D02.out, D12.out, ?_⟩
       iterate 3 (refine Below.setCell ?_ (by first | (simp; done) | (simp; omega)) _)
       exact BF.out
   · go_simp
     have n1 := own_base (base' := w.heap.size + 2) (own_nil_new W53 3 1 rfl) (by have := HBC.out.size; simp at this; omega)
     have a12 := new_apart own2.out (m := 0) (c := 0)
     have k2 := own2.out.alloc (.cells #[] 3)
     have hb := (Below.refl W53.heap.size W53).alloc (Nat.le_refl _) (.cells #[] 3)
     obtain ⟨W63, hN⟩ : ∃ X, X = W53.alloc (.cells #[] 3) := ⟨_, rfl⟩
     rw [← hN] at n1 hb ⊢ k2
     clear hN
     refine hK.out _ _ (Below.and hSC hb) (fun hSC => ?_)
     have own1 := Lib.hid n1
     have own2 := Lib.hid k2
     have D12 := Lib.hid a12
     have HBC := Lib.hid (Below.and HBC.out hb)
     clear hK K hb n1 k2 a12
     (try simp only [Act.put, pu1, pu2, pu3])
     refine wpAnyH_ready (rs := [0]) (by kernel_rfl) (by simp) ?_
     refine AllReadyH.cons rfl (fun K hK => ?_) AllReadyH.nil
     go_simp
     have n0 := own_base (base' := w.heap.size + 2) (own_nil_new W63 72 5 rfl) (by have := HBC.out.size; simp at this; omega)
     have a01 := new_apart own1.out (m := 0) (c := 0)
     have k1 := own1.out.alloc (.cells #[] 72)
     have a02 := new_apart own2.out (m := 0) (c := 0)
     have k2 := own2.out.alloc (.cells #[] 72)
     have hb := (Below.refl W63.heap.size W63).alloc (Nat.le_refl _) (.cells #[] 72)
     obtain ⟨W64, hN⟩ : ∃ X, X = W63.alloc (.cells #[] 72) := ⟨_, rfl⟩
     rw [← hN] at n0 hb ⊢ k1 k2
     clear hN
     refine hK.out _ _ (Below.and hSC hb) (fun hSC => ?_)
     have own0 := Lib.hid n0
     have own1 := Lib.hid k1
     have own2 := Lib.hid k2
     have D01 := Lib.hid a01
     have D02 := Lib.hid a02
     have HBC := Lib.hid (Below.and HBC.out hb)
     clear hK K hb n0 k1 a01 k2 a02
     (try simp only [Act.put, pu1, pu2, pu3])
     refine wpAnyH_ready (rs := [3]) (by kernel_rfl) (by simp) ?_
     refine AllReadyH.cons rfl (fun K hK => ?_) AllReadyH.nil
     refine step_app Fig.len (by rfl) _ _ 26 (by rfl) (w.heap.size + 2) 72 I (.agg #[.int .i64 0, .int .i64 0, .int .i64 0, .int .i64 0, .int .i64 0]) 40 Try.underlying26 I1.out I2.out I3.out I4.out (by rfl) (by omega) _ 0 [] (by rfl) own0.out A a E.length E rfl (by rfl) (RdF.below HE.out HBC.out).rd HA.out (figs_one E) (by unfold maxLen; omega) (by omega) (by have := HBC.out.size; simp at this; omega) ?_
     intro v0 W65 ho hg hp
     have hb := Below.of_grown hg (Nat.le_trans (show ((w.alloc (.cells #[.slice A E.length a, .slice B F.length b, .slice C L.length d] 29)).alloc (.cells #[.slice none 0 0, .slice none 0 0, .slice none 0 0] 29)).heap.size ≤ w.heap.size + 2 by simp) (by have := HBC.out.size; simp at this; omega)) (fun q hq => by have := (own_block_ge own0.out q hq).1; simp; omega)
     have hbS := Below.trans HBC.out hb
     have k1 := app_keep own1.out hg D01.out
     have a01 := app_apart own1.out hp D01.out
     have k2 := app_keep own2.out hg D02.out
     have a02 := app_apart own2.out hp D02.out
     refine hK.out _ _ (Below.and HS0.out hbS) (fun hSC => ?_)
     simp only [Nat.zero_add, List.nil_append, ints_flat] at ho
     have own0 : Hid (W65.ownsRow (w.heap.size + 2) 72 5 v0 E.length (figs E)) := ho
     have own1 := Lib.hid k1
     have own2 := Lib.hid k2
     have D01 := Lib.hid a01
     have D02 := Lib.hid a02
     have HBC := Lib.hid hbS
     clear hK K hb hbS hg hp ho k1 a01 k2 a02
     (try simp only [Act.put, pu1, pu2, pu3])
     refine wpAnyH_ready (rs := [7]) (by kernel_rfl) (by simp) ?_
     refine AllReadyH.cons rfl (fun K hK => ?_) AllReadyH.nil
     refine step_app cI_len (by rfl) _ _ 27 (by rfl) (w.heap.size + 2) 3 J (.int .i64 0) 8 Try.underlying27 J1.out J2.out J3.out J4.out (by rfl) (by omega) _ 0 [] (by rfl) own1.out B b F.length F rfl (by rfl) (RdI.below HF.out HBC.out).rd HB0.out (ints_one F) (by unfold maxLen; omega) (by omega) (by have := HBC.out.size; simp at this; omega) ?_
     intro v1 W66 ho hg hp
     have hb := Below.of_grown hg (Nat.le_trans (show ((w.alloc (.cells #[.slice A E.length a, .slice B F.length b, .slice C L.length d] 29)).alloc (.cells #[.slice none 0 0, .slice none 0 0, .slice none 0 0] 29)).heap.size ≤ w.heap.size + 2 by simp) (by have := HBC.out.size; simp at this; omega)) (fun q hq => by have := (own_block_ge own1.out q hq).1; simp; omega)
     have hbS := Below.trans HBC.out hb
     have k0 := app_keep own0.out hg (apart_symm D01.out)
     have a01 := apart_symm (app_apart own0.out hp (apart_symm D01.out))
     have k2 := app_keep own2.out hg D12.out
     have a12 := app_apart own2.out hp D12.out
     refine hK.out _ _ (Below.and HS0.out hbS) (fun hSC => ?_)
     simp only [Nat.zero_add, List.nil_append, ints_flat] at ho
     have own1 : Hid (W66.ownsRow (w.heap.size + 2) 3 1 v1 F.length (ints F)) := ho
     have own0 := Lib.hid k0
     have own2 := Lib.hid k2
     have D01 := Lib.hid a01
     have D12 := Lib.hid a12
     have HBC := Lib.hid hbS
     clear hK K hb hbS hg hp ho k0 a01 k2 a12
     (try simp only [Act.put, pu1, pu2, pu3])
     refine wpAnyH_ready (rs := [11]) (by kernel_rfl) (by simp) ?_
     refine AllReadyH.cons rfl (fun K hK => ?_) AllReadyH.nil
     refine step_app cI_len (by rfl) _ _ 27 (by rfl) (w.heap.size + 2) 3 J (.int .i64 0) 8 Try.underlying27 J1.out J2.out J3.out J4.out (by rfl) (by omega) _ 0 [] (by rfl) own2.out C d L.length L rfl (by rfl) (RdI.below HL.out HBC.out).rd HC.out (ints_one L) (by unfold maxLen; omega) (by omega) (by have := HBC.out.size; simp at this; omega) ?_
     intro v2 W67 ho hg hp
     have hb := Below.of_grown hg (Nat.le_trans (show ((w.alloc (.cells #[.slice A E.length a, .slice B F.length b, .slice C L.length d] 29)).alloc (.cells #[.slice none 0 0, .slice none 0 0, .slice none 0 0] 29)).heap.size ≤ w.heap.size + 2 by simp) (by have := HBC.out.size; simp at this; omega)) (fun q hq => by have := (own_block_ge own2.out q hq).1; simp; omega)
     have hbS := Below.trans HBC.out hb
     have k0 := app_keep own0.out hg (apart_symm D02.out)
     have a02 := apart_symm (app_apart own0.out hp (apart_symm D02.out))
     have k1 := app_keep own1.out hg (apart_symm D12.out)
     have a12 := apart_symm (app_apart own1.out hp (apart_symm D12.out))
     refine hK.out _ _ (Below.and HS0.out hbS) (fun hSC => ?_)
     simp only [Nat.zero_add, List.nil_append, ints_flat] at ho
     have own2 : Hid (W67.ownsRow (w.heap.size + 2) 3 1 v2 L.length (ints L)) := ho
     have own0 := Lib.hid k0
     have own1 := Lib.hid k1
     have D02 := Lib.hid a02
     have D12 := Lib.hid a12
     have HBC := Lib.hid hbS
     clear hK K hb hbS hg hp ho k0 a02 k1 a12
     (try simp only [Act.put, pu1, pu2, pu3])
     obtain ⟨A', a', hv0, _⟩ := own_form own0.out
     obtain ⟨B', b', hv1, _⟩ := own_form own1.out
     obtain ⟨C', d', hv2, _⟩ := own_form own2.out
     subst hv0
     subst hv1
     subst hv2
     have K5 : Hid (Three W67 (w.heap.size + 1) 29 (.slice none 0 0) (.slice none 0 0) (.slice none 0 0)) := by
      have h0 : Three ((w.alloc (.cells #[.slice A E.length a, .slice B F.length b, .slice C L.length d] 29)).alloc (.cells #[.slice none 0 0, .slice none 0 0, .slice none 0 0] 29)) (w.heap.size + 1) 29 (.slice none 0 0) (.slice none 0 0) (.slice none 0 0) := by
       have h := heap_alloc_new (w.alloc (.cells #[.slice A E.length a, .slice B F.length b, .slice C L.length d] 29)) (.cells #[.slice none 0 0, .slice none 0 0, .slice none 0 0] 29)
       rw [show (w.alloc (.cells #[.slice A E.length a, .slice B F.length b, .slice C L.length d] 29)).heap.size = w.heap.size + 1 by simp] at h
       exact h
      exact h0.below HBC.out (by simp)
     have BF := Lib.hid (Below.and BW.out HBC.out)
     have hS5 := hSC
     clear HE HF HL HA HB0 HC I1 I2 I3 I4 J1 J2 J3 J4 hSC HBC
     obtain ⟨z0, z1, z2⟩ := K5.out.cells
     have zf := K5.out.frozen
     have zl := K5.out.lt
     refine tkI 12 15 (v := ?_) rfl rfl ?_ ?_
     rotate_left
     · intro w1 hSw; go_simp; (try with_reducible rfl)
     (try simp only [Act.put, pu1, pu2, pu3])
     refine wpAnyH_ready (rs := [13]) (by kernel_rfl) (by simp) ?_
     refine AllReadyH.cons rfl (fun K hK => ?_) AllReadyH.nil
     go_simp
     refine hK.out _ _ (Below.setCell (Below.setCell (Below.setCell hS5 (by simp) _) (by simp) _) (by simp) _) (fun hS6 => ?_)
     clear hK K
     (try simp only [Act.put, pu1, pu2, pu3])
     refine wpAnyH_done (by kernel_rfl) ?_ _
     have bb : w.heap.size ≤ W67.heap.size := BF.out.size
     go_wp2
     refine bodyPost_ret (v := .agg #[.slice A' E.length a', .slice B' F.length b', .slice C' L.length d']) (by simp [results, Try.results46, go_sem, z0, z1, z2]) rfl ⟨A', a', B', b', C', d', rfl, own_base (own_put (own_put (own_put own0.out (by omega) _ _) (by omega) _ _) (by omega) _ _) (by omega), own_base (own_put (own_put (own_put own1.out (by omega) _ _) (by omega) _ _) (by omega) _ _) (by omega), own_base (own_put (own_put (own_put own2.out (by omega) _ _) (by omega) _ _) (by omega) _ _) (by omega), D01.out, D02.out, D12.out, ?_⟩
     iterate 3 (refine Below.setCell ?_ (by first | (simp; done) | (simp; omega)) _)
     exact BF.out
end Go.Proofs.Ytameldhdegcpoaa
