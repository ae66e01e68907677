/- A text that is bent, and a text drawn. -/
import Derived.Test.YtolepfbhhmganaaDoorSu
namespace Go.Proofs.YtolepfbhhmganaaDoor
open Go.ChangeShapes Go.WideShapes Go.ChangeAt Go.RowKit
set_option linter.unusedVariables false
set_option linter.unusedSimpArgs false

theorem oneS {w : World} {R : Nat} {A : Option Addr} {n c : Nat} {p : Int} (g : Nat) (l : List ByteArray) (h : Reader w R A n c p) (hp : p ≤ 100000) (hl : 0 < l.length) (hl1 : l.length ≤ 1000) (hg : g ≠ R)
    (hc : ∀ i (hi : i < l.length), w.cell? ⟨g, i, none⟩ = some (.string (l[i]'hi))) (hz : ∀ x ∈ l, x.size ≤ 16) :
    Calls Tryd.prog 45 #[.pointer (some ⟨R, 0, none⟩), .slice (some ⟨g, 0, none⟩) l.length l.length] w fun e w' => ∃ x : ByteArray, e = .returned (.string x) ∧ x.size ≤ 16 ∧ Drawn w R A n c p 1 w' := by
  have H := Lib.hid h
  have HC := Lib.hid hc
  have HZ := Lib.hid hz
  clear h hc hz
  go_enter Tryd.func45, Tryd.ntmps45
  go_wp2_with (fail)
  refine (pickR (l.length : Int) H.out hp (by omega) (by omega)).mono ?_
  rintro e w1 ⟨v, v0, v1, rfl, hd⟩
  obtain ⟨j, rfl⟩ := Int.eq_ofNat_of_zero_le v0
  obtain ⟨q, hq0, hq1, hr, hgr⟩ := hd
  have hcell := hgr.cell (HC.out j (by omega)) (by simpa using hg)
  have HD : Hid (Drawn w R A n c p 1 w1) := ⟨q, hq0, hq1, hr, hgr⟩
  have HX : Hid ((l[j]'(by omega)).size ≤ 16) := HZ.out _ (List.getElem_mem _)
  clear hr hgr
  generalize l[j] = x at hcell HX
  go_wp2
  go_light
  go_ret
  exact ⟨x, rfl, HX.out, HD.out⟩
theorem cells_of_strs {w : World} {g : Nat} {t : TypeId} (l : List ByteArray) (h : Bkk w g t (l.map Value.string).toArray) : ∀ i (hi : i < l.length), w.cell? ⟨g, i, none⟩ = some (.string (l[i]'hi)) := fun i hi => by
  rw [h.cell]
  simp [hi]
theorem ext_le (s : ByteArray) (j k : Nat) : (s.extract j k).size ≤ s.size := by
  rw [ByteArray.size_extract]; omega

set_option maxRecDepth 100000 in
set_option maxHeartbeats 4000000 in
theorem l20Bent {w : World} {R : Nat} {A : Option Addr} {n c : Nat} {p : Int} (s : ByteArray) (hs : s.size ≤ 900) (h : Reader w R A n c p) (hp : p ≤ 90000) :
    Calls Tryd.prog 34 #[.pointer (some ⟨R, 0, none⟩), .string s] w fun e w' => ∃ z : ByteArray, e = .returned (.string z) ∧ z.size ≤ 2000 ∧ Drawn w R A n c p 3 w' := by
  have RD := Lib.hid h
  clear h
  go_enter Tryd.func34, Tryd.ntmps34
  go_wp2_with (fail)
  refine (pickR ((s.size : Int) + 1) RD.out (by omega) (by omega) (by omega)).mono ?_
  rintro e w1 ⟨v, v0, v1, rfl, q1, q10, q11, hr, hgr⟩
  obtain ⟨k, rfl⟩ := Int.eq_ofNat_of_zero_le v0
  have RD := Lib.hid hr
  have G1 := Lib.hid hgr
  clear hr hgr
  go_wp2_with (fail)
  refine (pickR 5 RD.out (by omega) (by omega) (by omega)).mono ?_
  rintro e w2 ⟨d, d0, d1, rfl, q2, q20, q21, hr, hgr⟩
  have RLT := Lib.hid hr.lt
  have RD := Lib.hid hr
  have G2 := Lib.hid (grownBy_trans G1.out hgr)
  have HD2 : Hid (Drawn w R A n c p 3 w2) := ⟨q2, by omega, by omega, RD.out, G2.out⟩
  clear hr hgr G1
  have k0 : (0 : Int) ≤ (k : Int) := by omega
  have k1 : (k : Int) ≤ (s.size : Int) := by omega
  have hd : d = 0 ∨ d = 1 ∨ d = 2 ∨ d = 3 ∨ d = 4 := by omega
  clear d0 d1
  rcases hd with rfl | rfl | rfl | rfl | rfl
  rotate_left
  · go_wp2
    go_light
    go_ret
    exact ⟨_, rfl, by have := ext_le s 0 k; omega, HD2.out⟩
  · have BX : Hid (Below w2.heap.size w2 (w2.alloc (.cells #[.string ⟨#[48]⟩, .string ⟨#[32]⟩, .string ⟨#[44]⟩, .string ⟨#[10]⟩] 9))) := (Below.refl _ _).alloc (Nat.le_refl _) _
    have RX := Lib.hid (RD.out.below BX.out)
    have KX : Hid (Bkk (w2.alloc (.cells #[.string ⟨#[48]⟩, .string ⟨#[32]⟩, .string ⟨#[44]⟩, .string ⟨#[10]⟩] 9)) w2.heap.size 9 #[.string ⟨#[48]⟩, .string ⟨#[32]⟩, .string ⟨#[44]⟩, .string ⟨#[10]⟩]) := Bkk.new w2
    go_wp2_with (fail)
    refine (oneS w2.heap.size [(⟨#[48]⟩ : ByteArray), (⟨#[32]⟩ : ByteArray), (⟨#[44]⟩ : ByteArray), (⟨#[10]⟩ : ByteArray)] RX.out (by omega) (by decide) (by decide) (by have := RLT.out; omega) (cells_of_strs _ KX.out) (by decide)).mono ?_
    rintro e w3 ⟨x, rfl, hx, q3, q30, q31, hr3, hg3⟩
    have HD : Hid (Drawn w R A n c p 3 w3) := ⟨q3, by omega, by omega, hr3, grownBy_trans (grownBy_trans G2.out (Below.grownBy BX.out (some R))) hg3⟩
    obtain ⟨Z1, hZ1⟩ : ∃ Z, s ++ x = Z := ⟨_, rfl⟩
    have HZ : Hid (Z1.size ≤ 2000) := by show Z1.size ≤ 2000; rw [← hZ1, ByteArray.size_append]; omega
    have e1 : ∀ W : World, (Op.stringOp .add s x).run Tryd.prog W = .ok (.string Z1) W := fun W => by rw [← hZ1]; exact run_string_add W s x (by omega) (by omega)
    clear hr3 hg3 hZ1 hx
    go_wp2
    go_light
    go_ret
    exact ⟨Z1, rfl, HZ.out, HD.out⟩
  · go_wp2
    go_light
    go_ret
    exact ⟨s, rfl, by omega, HD2.out⟩
  · go_wp2
    go_light
    go_ret
    exact ⟨s, rfl, by omega, HD2.out⟩
  by_cases hk : k < s.size
  · have k2 : (k : Int) < (s.size : Int) := by omega
    have kw : IntKind.i64.wrap ((k : Int) + 1) = (k : Int) + 1 := IntWalk.i64_in _ (by omega)
    have k3 : (0 : Int) ≤ (k : Int) + 1 := by omega
    have k4 : (k : Int) + 1 ≤ (s.size : Int) := by omega
    have BX : Hid (Below w2.heap.size w2 (w2.drew.alloc (.cells #[.string ⟨#[48]⟩, .string ⟨#[49]⟩, .string ⟨#[32]⟩, .string ⟨#[45]⟩, .string ⟨#[44]⟩, .string ⟨#[47]⟩, .string ⟨#[10]⟩] 9))) := (Below.refl _ _).drew.alloc (Nat.le_refl _) _
    have RX := Lib.hid (RD.out.below BX.out)
    have KX : Hid (Bkk (w2.drew.alloc (.cells #[.string ⟨#[48]⟩, .string ⟨#[49]⟩, .string ⟨#[32]⟩, .string ⟨#[45]⟩, .string ⟨#[44]⟩, .string ⟨#[47]⟩, .string ⟨#[10]⟩] 9)) w2.heap.size 9 #[.string ⟨#[48]⟩, .string ⟨#[49]⟩, .string ⟨#[32]⟩, .string ⟨#[45]⟩, .string ⟨#[44]⟩, .string ⟨#[47]⟩, .string ⟨#[10]⟩]) := Bkk.new w2.drew
    go_wp2_with (fail)
    refine wp_region_held_drew (S := fun _ => True) (by kernel_rfl) trivial (fun hH => ?_)
    refine takeD 0 19 (v := ?_) rfl rfl (by kernel_rfl) (by kernel_rfl) (by kernel_rfl) (fun _ _ _ h => h) (Or.inl ⟨by rfl, ?_⟩) (by assumption) ?_
    rotate_left
    · intro w1 hSw; go_simp; (try with_reducible rfl)
    (try simp only [Act.put, List.setIfInBounds_toArray, List.set_cons_zero, List.set_cons_succ])
    refine takeD 1 20 (v := ?_) rfl rfl (by kernel_rfl) (by kernel_rfl) (by kernel_rfl) (fun _ _ _ h => h) (Or.inl ⟨by rfl, ?_⟩) (by assumption) ?_
    rotate_left
    · intro w1 hSw; go_simp; (try with_reducible rfl)
    (try simp only [Act.put, List.setIfInBounds_toArray, List.set_cons_zero, List.set_cons_succ])
    refine takeD 2 21 (v := ?_) rfl rfl (by kernel_rfl) (by kernel_rfl) (by kernel_rfl) (fun _ _ _ h => h) (Or.inl ⟨by rfl, ?_⟩) (by assumption) ?_
    rotate_left
    · intro w1 hSw; go_simp; (try with_reducible rfl)
    (try simp only [Act.put, List.setIfInBounds_toArray, List.set_cons_zero, List.set_cons_succ])
    refine takeD 3 22 (v := ?_) rfl rfl (by kernel_rfl) (by kernel_rfl) (by kernel_rfl) (fun _ _ _ h => h) (Or.inl ⟨by rfl, ?_⟩) (by assumption) ?_
    rotate_left
    · intro w1 hSw; go_simp; (try with_reducible rfl)
    (try simp only [Act.put, List.setIfInBounds_toArray, List.set_cons_zero, List.set_cons_succ])
    refine takeD 7 26 (v := ?_) rfl rfl (by kernel_rfl) (by kernel_rfl) (by kernel_rfl) (fun _ _ _ h => h) (Or.inl ⟨by rfl, ?_⟩) (by assumption) ?_
    rotate_left
    · intro w1 hSw; go_simp; (try with_reducible rfl)
    (try simp only [Act.put, List.setIfInBounds_toArray, List.set_cons_zero, List.set_cons_succ])
    refine takeD 8 27 (v := ?_) rfl rfl (by kernel_rfl) (by kernel_rfl) (by kernel_rfl) (fun _ _ _ h => h) (Or.inl ⟨by rfl, ?_⟩) (by assumption) ?_
    rotate_left
    · intro w1 hSw; go_simp; (try with_reducible rfl)
    (try simp only [Act.put, List.setIfInBounds_toArray, List.set_cons_zero, List.set_cons_succ])
    refine takeD 9 28 (v := ?_) rfl rfl (by kernel_rfl) (by kernel_rfl) (by kernel_rfl) (fun _ _ _ h => h) (Or.inl ⟨by rfl, ?_⟩) (by assumption) ?_
    rotate_left
    · intro w1 hSw; go_simp; (try with_reducible rfl)
    (try simp only [Act.put, List.setIfInBounds_toArray, List.set_cons_zero, List.set_cons_succ])
    refine takeD 10 29 (v := ?_) rfl rfl (by kernel_rfl) (by kernel_rfl) (by kernel_rfl) (fun _ _ _ h => h) (Or.inl ⟨by rfl, ?_⟩) (by assumption) ?_
    rotate_left
    · intro w1 hSw; go_simp; (try with_reducible rfl)
    (try simp only [Act.put, List.setIfInBounds_toArray, List.set_cons_zero, List.set_cons_succ])
    refine wpAnyH_ready (rs := [4]) (by kernel_rfl) (by simp) ?_
    refine AllReadyH.cons rfl (fun K hK => ?_) AllReadyH.nil
    go_simp
    refine hK.out _ _ trivial (fun hH2 => ?_)
    clear hK K
    (try simp only [Act.put, List.setIfInBounds_toArray, List.set_cons_zero, List.set_cons_succ])
    refine wpAnyH_ready (rs := [5]) (by kernel_rfl) (by simp) ?_
    refine AllReadyH.cons rfl (fun K hK => ?_) AllReadyH.nil
    go_simp
    refine (oneS w2.heap.size [(⟨#[48]⟩ : ByteArray), (⟨#[49]⟩ : ByteArray), (⟨#[32]⟩ : ByteArray), (⟨#[45]⟩ : ByteArray), (⟨#[44]⟩ : ByteArray), (⟨#[47]⟩ : ByteArray), (⟨#[10]⟩ : ByteArray)] RX.out (by omega) (by decide) (by decide) (by have := RLT.out; omega) (cells_of_strs _ KX.out) (by decide)).mono ?_
    rintro e w3 ⟨x, rfl, hx, q3, q30, q31, hr3, hg3⟩
    have HD : Hid (Drawn w R A n c p 3 w3) := ⟨q3, by omega, by omega, hr3, grownBy_trans (grownBy_trans G2.out (Below.grownBy BX.out (some R))) hg3⟩
    obtain ⟨Z1, hZ1⟩ : ∃ Z, s.extract 0 k ++ x = Z := ⟨_, rfl⟩
    obtain ⟨Z2, hZ2⟩ : ∃ Z, Z1 ++ s.extract (k + 1) s.size = Z := ⟨_, rfl⟩
    have z1 : Z1.size ≤ s.size + 16 := by rw [← hZ1, ByteArray.size_append]; have := ext_le s 0 k; omega
    have HZ2 : Hid (Z2.size ≤ 2000) := by show Z2.size ≤ 2000; rw [← hZ2, ByteArray.size_append]; have := ext_le s (k + 1) s.size; omega
    have e1 : ∀ W : World, (Op.stringOp .add (s.extract 0 k) x).run Tryd.prog W = .ok (.string Z1) W := fun W => by rw [← hZ1]; exact run_string_add W (s.extract 0 k) x (by have := ext_le s 0 k; omega) (by omega)
    have e2 : ∀ W : World, (Op.stringOp .add Z1 (s.extract (k + 1) s.size)).run Tryd.prog W = .ok (.string Z2) W := fun W => by rw [← hZ2]; exact run_string_add W Z1 (s.extract (k + 1) s.size) (by omega) (by have := ext_le s (k + 1) s.size; omega)
    clear hr3 hg3 hZ1 hZ2 z1 hx
    refine hK.out _ _ trivial (fun hH3 => ?_)
    clear hK K
    (try simp only [Act.put, List.setIfInBounds_toArray, List.set_cons_zero, List.set_cons_succ])
    refine takeD 6 25 (v := ?_) rfl rfl (by kernel_rfl) (by kernel_rfl) (by kernel_rfl) (fun _ _ _ h => h) (Or.inl ⟨by rfl, ?_⟩) (by assumption) ?_
    rotate_left
    · intro w1 hSw; go_simp; (try with_reducible rfl)
    (try simp only [Act.put, List.setIfInBounds_toArray, List.set_cons_zero, List.set_cons_succ])
    refine takeD 11 30 (v := ?_) rfl rfl (by kernel_rfl) (by kernel_rfl) (by kernel_rfl) (fun _ _ _ h => h) (Or.inl ⟨by rfl, ?_⟩) (by assumption) ?_
    rotate_left
    · intro w1 hSw; go_simp; (try with_reducible rfl)
    (try simp only [Act.put, List.setIfInBounds_toArray, List.set_cons_zero, List.set_cons_succ])
    refine takeD 12 4 (v := ?_) rfl rfl (by kernel_rfl) (by kernel_rfl) (by kernel_rfl) (fun _ _ _ h => h) (Or.inl ⟨by rfl, ?_⟩) (by assumption) ?_
    rotate_left
    · intro w1 hSw; go_simp; (try with_reducible rfl)
    (try simp only [Act.put, List.setIfInBounds_toArray, List.set_cons_zero, List.set_cons_succ])
    refine wpAnyH_done (by kernel_rfl) ?_ _
    go_wp2
    go_ret
    exact ⟨Z2, rfl, HZ2.out, HD.out⟩
  · have k2 : ¬ (k : Int) < (s.size : Int) := by omega
    go_wp2
    go_light
    go_ret
    exact ⟨s, rfl, by omega, HD2.out⟩

end Go.Proofs.YtolepfbhhmganaaDoor
