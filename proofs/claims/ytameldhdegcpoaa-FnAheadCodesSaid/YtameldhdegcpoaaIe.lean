import Derived.Test.YtameldhdegcpoaaIc
import Derived.RangeFuncNested
import Derived.RangeFuncCalls
namespace Go.Proofs.Ytameldhdegcpoaa
open Go.ChangeShapes Go.WideShapes Go.ChangeAt Go.RowKit
set_option linter.unusedVariables false
set_option linter.unusedSimpArgs false
theorem grownBy_cellI (W : World) (b j : Nat) (v : Value) : W.grownBy (W.setCell ⟨b, j, none⟩ v) (some b) :=
 ⟨rfl, rfl, rfl, by simp, fun k _ hk => Below.heap_setCell W ⟨b, j, none⟩ v k (fun e => hk (by rw [e]))⟩
theorem grownBy_drewI (W : World) (r : Option Nat) : W.grownBy W.drew r := ⟨rfl, rfl, rfl, Nat.le_refl _, fun _ _ _ => rfl⟩
set_option maxRecDepth 100000 in
set_option maxHeartbeats 4000000 in
theorem undoRun {w : World} {pf g d f : Nat} {A : Option Addr} {a : Nat} {B : Option Addr} {b : Nat} {C : Option Addr} {c n m l : Nat} {Q : Option Addr} {k q : Nat} {v0 v1 v2 v3 v4 : Value} (h1 : Three w g 29 (.slice A n a) (.slice B m b) (.slice C l c)) (h2 : Bkk w d 27 #[.slice Q k q]) (h3 : Bkk w f 63 #[.pointer (some ⟨pf, 0, none⟩)]) (h5 : Five w pf 62 v0 v1 v2 v3 v4) :
 Calls Try.prog 104 #[.pointer (some ⟨g, 0, none⟩), .pointer (some ⟨d, 0, none⟩), .pointer (some ⟨f, 0, none⟩)] w fun e w' => (∃ v, e = .returned v) ∧ Five w' pf 62 (.slice A n a) (.slice B m b) (.slice C l c) (.slice Q k q) v4 ∧ w.grownBy w' (some pf) ∧ KeepsOthers w w' := by
 have T5 := Lib.hid h5
 have P3 := Lib.hid (show Three w g 29 (.slice A n a) (.slice B m b) (.slice C l c) ∧ Bkk w d 27 #[.slice Q k q] ∧ Bkk w f 63 #[.pointer (some ⟨pf, 0, none⟩)] from ⟨h1, h2, h3⟩)
 have n1 : g ≠ pf := fun e => by
  subst e
  have := h1.symm.trans h5
  simp only [Option.some.injEq, Obj.cells.injEq] at this
  exact absurd this.2.1 (by decide)
 have n2 : d ≠ pf := fun e => by
  subst e
  have := h2.symm.trans h5
  simp only [Option.some.injEq, Obj.cells.injEq] at this
  exact absurd this.2.1 (by decide)
 have n3 : f ≠ pf := fun e => by
  subst e
  have := h3.symm.trans h5
  simp only [Option.some.injEq, Obj.cells.injEq] at this
  exact absurd this.2.1 (by decide)
 obtain ⟨u0, hu0⟩ : ∃ X, X = Value.slice A n a := ⟨_, rfl⟩
 obtain ⟨u1, hu1⟩ : ∃ X, X = Value.slice B m b := ⟨_, rfl⟩
 obtain ⟨u2, hu2⟩ : ∃ X, X = Value.slice C l c := ⟨_, rfl⟩
 obtain ⟨x, hx⟩ : ∃ X, X = Value.slice Q k q := ⟨_, rfl⟩
 subst hu0 hu1 hu2 hx
 clear h1 h2 h3 h5
 go_enter Try.func104, Try.ntmps104
 refine wp_region_held_drew (S := fun WS => Three WS g 29 (.slice A n a) (.slice B m b) (.slice C l c) ∧ Bkk WS d 27 #[.slice Q k q] ∧ Bkk WS f 63 #[.pointer (some ⟨pf, 0, none⟩)]) (by kernel_rfl) ⟨P3.out.1.drew, P3.out.2.1, P3.out.2.2⟩ (fun hS0 => ?_)
 refine tkI 0 3 (v := ?_) rfl rfl ?_ ?_
 rotate_left
 · intro wS hSw; obtain ⟨⟨p0, p1, p2⟩, q0, r0⟩ : (_ ∧ _ ∧ _) ∧ _ ∧ _ := ⟨Three.cells hSw.1, Bkk.cell hSw.2.1 0, Bkk.cell hSw.2.2 0⟩; simp only [List.getElem?_toArray, List.getElem?_cons_zero] at q0 r0; go_simp; (try with_reducible rfl)
 (try simp only [Act.put, pu1, pu2, pu3])
 refine tkI 1 4 (v := ?_) rfl rfl ?_ ?_
 rotate_left
 · intro wS hSw; obtain ⟨⟨p0, p1, p2⟩, q0, r0⟩ : (_ ∧ _ ∧ _) ∧ _ ∧ _ := ⟨Three.cells hSw.1, Bkk.cell hSw.2.1 0, Bkk.cell hSw.2.2 0⟩; simp only [List.getElem?_toArray, List.getElem?_cons_zero] at q0 r0; go_simp; (try with_reducible rfl)
 (try simp only [Act.put, pu1, pu2, pu3])
 refine tkI 2 5 (v := ?_) rfl rfl ?_ ?_
 rotate_left
 · intro wS hSw; obtain ⟨⟨p0, p1, p2⟩, q0, r0⟩ : (_ ∧ _ ∧ _) ∧ _ ∧ _ := ⟨Three.cells hSw.1, Bkk.cell hSw.2.1 0, Bkk.cell hSw.2.2 0⟩; simp only [List.getElem?_toArray, List.getElem?_cons_zero] at q0 r0; go_simp; (try with_reducible rfl)
 (try simp only [Act.put, pu1, pu2, pu3])
 refine tkI 3 6 (v := ?_) rfl rfl ?_ ?_
 rotate_left
 · intro wS hSw; obtain ⟨⟨p0, p1, p2⟩, q0, r0⟩ : (_ ∧ _ ∧ _) ∧ _ ∧ _ := ⟨Three.cells hSw.1, Bkk.cell hSw.2.1 0, Bkk.cell hSw.2.2 0⟩; simp only [List.getElem?_toArray, List.getElem?_cons_zero] at q0 r0; go_simp; (try with_reducible rfl)
 (try simp only [Act.put, pu1, pu2, pu3])
 refine tkI 4 7 (v := ?_) rfl rfl ?_ ?_
 rotate_left
 · intro wS hSw; obtain ⟨⟨p0, p1, p2⟩, q0, r0⟩ : (_ ∧ _ ∧ _) ∧ _ ∧ _ := ⟨Three.cells hSw.1, Bkk.cell hSw.2.1 0, Bkk.cell hSw.2.2 0⟩; simp only [List.getElem?_toArray, List.getElem?_cons_zero] at q0 r0; go_simp; (try with_reducible rfl)
 (try simp only [Act.put, pu1, pu2, pu3])
 refine tkI 5 8 (v := ?_) rfl rfl ?_ ?_
 rotate_left
 · intro wS hSw; obtain ⟨⟨p0, p1, p2⟩, q0, r0⟩ : (_ ∧ _ ∧ _) ∧ _ ∧ _ := ⟨Three.cells hSw.1, Bkk.cell hSw.2.1 0, Bkk.cell hSw.2.2 0⟩; simp only [List.getElem?_toArray, List.getElem?_cons_zero] at q0 r0; go_simp; (try with_reducible rfl)
 (try simp only [Act.put, pu1, pu2, pu3])
 clear hS0
 refine wpAnyH_ready (rs := [6]) (by kernel_rfl) (by simp) ?_
 refine AllReadyH.cons rfl (fun KK hK => ?_) AllReadyH.nil
 obtain ⟨x0, x1, x2, x3, x4⟩ := T5.out.cells
 have xf := T5.out.frozen
 go_simp
 refine hK.out _ _ ⟨((P3.out.1.far n1 _).far n1 _).far n1 _, ((P3.out.2.1.far n2 0 _).far n2 1 _).far n2 2 _, ((P3.out.2.2.far n3 0 _).far n3 1 _).far n3 2 _⟩ (fun _ => ?_)
 clear hK KK
 (try simp only [Act.put, pu1, pu2, pu3])
 clear x0 x1 x2 x3 x4 xf
 refine tkI 7 9 (v := ?_) rfl rfl ?_ ?_
 rotate_left
 · intro wS hSw; obtain ⟨⟨p0, p1, p2⟩, q0, r0⟩ : (_ ∧ _ ∧ _) ∧ _ ∧ _ := ⟨Three.cells hSw.1, Bkk.cell hSw.2.1 0, Bkk.cell hSw.2.2 0⟩; simp only [List.getElem?_toArray, List.getElem?_cons_zero] at q0 r0; go_simp; (try with_reducible rfl)
 (try simp only [Act.put, pu1, pu2, pu3])
 refine tkI 8 10 (v := ?_) rfl rfl ?_ ?_
 rotate_left
 · intro wS hSw; obtain ⟨⟨p0, p1, p2⟩, q0, r0⟩ : (_ ∧ _ ∧ _) ∧ _ ∧ _ := ⟨Three.cells hSw.1, Bkk.cell hSw.2.1 0, Bkk.cell hSw.2.2 0⟩; simp only [List.getElem?_toArray, List.getElem?_cons_zero] at q0 r0; go_simp; (try with_reducible rfl)
 (try simp only [Act.put, pu1, pu2, pu3])
 refine wpAnyH_ready (rs := [9]) (by kernel_rfl) (by simp) ?_
 refine AllReadyH.cons rfl (fun KK hK => ?_) AllReadyH.nil
 have T6 := (((T5.out.set0 (.slice A n a)).set1 (.slice B m b)).set2 (.slice C l c))
 obtain ⟨x0, x1, x2, x3, x4⟩ := T6.cells
 have xf := T6.frozen
 go_simp
 refine hK.out _ _ ⟨(((P3.out.1.far n1 _).far n1 _).far n1 _).far n1 _, (((P3.out.2.1.far n2 0 _).far n2 1 _).far n2 2 _).far n2 3 _, (((P3.out.2.2.far n3 0 _).far n3 1 _).far n3 2 _).far n3 3 _⟩ (fun _ => ?_)
 clear hK KK
 (try simp only [Act.put, pu1, pu2, pu3])
 clear x0 x1 x2 x3 x4 xf
 refine wpAnyH_done (by kernel_rfl) ?_ _
 have T7 := Lib.hid (T6.set3 (.slice Q k q))
 clear T6
 go_wp2
 refine bodyPost_end (v := .tuple #[]) (by simp [results, Try.results104, go_sem]) rfl ⟨⟨_, rfl⟩, T7.out, ?_, ?_⟩
 · exact grownBy_trans (grownBy_trans (grownBy_trans (grownBy_trans (grownBy_cellI w pf 0 _) (grownBy_cellI _ pf 1 _)) (grownBy_cellI _ pf 2 _)) (grownBy_cellI _ pf 3 _)) (grownBy_drewI _ _)
 · exact ((((KeepsOthers.setCell w ⟨pf, 0, none⟩ _).trans (KeepsOthers.setCell _ ⟨pf, 1, none⟩ _)).trans (KeepsOthers.setCell _ ⟨pf, 2, none⟩ _)).trans (KeepsOthers.setCell _ ⟨pf, 3, none⟩ _)).trans (KeepsOthers.drew _)
end Go.Proofs.Ytameldhdegcpoaa
