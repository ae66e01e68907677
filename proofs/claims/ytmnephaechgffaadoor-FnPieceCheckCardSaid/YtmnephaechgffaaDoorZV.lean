/- Pv, Pw, Px -/
import Derived.Test.YtmnephaechgffaaDoorPa
import Derived.Test.YtmnephaechgffaaDoorZR
import Derived.Test.YtmnephaechgffaaDoorTm
import Derived.Test.YtmnephaechgffaaDoorPe
/- The sums of pieces, as lists; the leaves, the model's way. -/
namespace Go.Proofs.YtmnephaechgffaaDoor
open Go.ChangeShapes Go.WideShapes Go.ChangeAt Go.RowKit
set_option linter.unusedVariables false
set_option linter.unusedSimpArgs false

abbrev cN (x : Int) : List Value := [.int .i64 x]
/-- The sums of pieces, from the k-th on. -/
def leavesF : Nat → List ByteArray → List Int
  | _, [] => []
  | k, b :: t => leafN (k : Int) b.data.toList :: leavesF (k + 1) t
def upF : List Int → List Int
  | a :: b :: t => nodeN a b :: upF t
  | [a] => [a]
  | [] => []
theorem upF_len : ∀ l : List Int, (upF l).length = (l.length + 1) / 2
  | [] => rfl
  | [a] => by simp [upF]
  | a :: b :: t => by show (upF t).length + 1 = _; rw [upF_len t]; simp only [List.length_cons]; omega
theorem leavesF_len : ∀ (S : List ByteArray) (k : Nat), (leavesF k S).length = S.length
  | [], _ => rfl
  | b :: t, k => by show (leavesF (k + 1) t).length + 1 = _; rw [leavesF_len t]; rfl
theorem leavesF_64 : ∀ (S : List ByteArray) (k : Nat), ∀ x ∈ leavesF k S, I64 x
  | [], _, x, h => by cases h
  | b :: t, k, x, h => by
    rcases List.mem_cons.1 h with rfl | h
    · exact leafN_64' _ _
    · exact leavesF_64 t (k + 1) x h
theorem upF_64 : ∀ (l : List Int), (∀ x ∈ l, I64 x) → ∀ x ∈ upF l, I64 x
  | [], _, x, h => by cases h
  | [a], h0, x, h => h0 x h
  | a :: b :: t, h0, x, h => by
    rcases List.mem_cons.1 h with rfl | h
    · exact nodeN_64' _ _
    · exact upF_64 t (fun y hy => h0 y (by simp [hy])) x h
def OwN (w : World) (lo : Nat) (B : Option Addr) (d : Nat) (D : List Int) : Prop := w.ownsRow lo 3 1 (.slice B D.length d) D.length (D.flatMap cN)
theorem OwN.nil (w : World) (lo : Nat) : OwN w lo none 0 [] := World.ownsRow_nil _ _ _ _
theorem OwN.below {w w' : World} {lo : Nat} {B : Option Addr} {d : Nat} {D : List Int} (h : OwN w lo B d D) (hb : Below w.heap.size w w') : OwN w' lo B d D := own_below (show w.ownsRow _ _ _ _ _ _ from h) hb
theorem OwN.rd {w : World} {lo : Nat} {B : Option Addr} {d : Nat} {D : List Int} (h : OwN w lo B d D) : Rd 1 cN w B D := Rd.of_own (f := cN) (k := 1) (fun _ => rfl) (show w.ownsRow _ _ _ _ _ _ from h) rfl
theorem Rd.inI {w : World} {B : Option Addr} {D : List Int} (h : Rd 1 cN w B D) : InI w B D := fun i hi => by
  obtain ⟨g, o, e, hc⟩ := h i hi
  exact ⟨g, o, e, by have := hc 0 _ rfl; simpa using this⟩
theorem OwN.ge {w : World} {lo : Nat} {B : Option Addr} {d : Nat} {D : List Int} (h : OwN w lo B d D) : ∀ x, (Value.slice B D.length d).ownBlock = some x → lo ≤ x ∧ x < w.heap.size := own_block_ge (show w.ownsRow _ _ _ _ _ _ from h)
theorem OwN.push {w' : World} {lo : Nat} {D : List Int} {v' : Value} {b : Int} (ho : w'.ownsRow lo 3 1 v' (D.length + 1) (D.flatMap cN ++ [b].flatMap cN)) :
    ∃ B' d', v' = .slice B' (D ++ [b]).length d' ∧ OwN w' lo B' d' (D ++ [b]) := by
  obtain ⟨A', a', rfl⟩ := own_formS ho
  have hl : D.length + 1 = (D ++ [b]).length := by simp
  rw [← List.flatMap_append, hl] at ho
  exact ⟨A', a', by rw [hl], ho⟩
theorem ints_oneN (D : List Int) : ∀ u ∈ D.flatMap cN, u.oneCell' = true := by
  intro u hu
  simp only [List.mem_flatMap, cN, List.mem_singleton] at hu
  obtain ⟨a, _, rfl⟩ := hu
  rfl
theorem int_oneN (w : World) (b : Int) : Rd 1 cN (w.alloc (.cells #[.int .i64 b] 3)) (some ⟨w.heap.size, 0, none⟩) [b] := by
  intro i h
  have hi : i = 0 := by simpa using h
  subst hi
  refine ⟨w.heap.size, 0, rfl, fun j u hu => ?_⟩
  have hb := cell_of_row _ _ j _ 3 (0, 0) (heap_alloc_new w (.cells #[.int .i64 b] 3))
  rw [show 0 + 0 * 1 + j = j by omega, hb]
  simpa [cN] using hu
theorem infoIntN : (Tryd.prog.info? 3).map (fun i => (i.zero, i.size, i.bytes)) = some (some (.int .i64 0), 1, 8) := by kernel_rfl
def DoSums (S : List Int) (w : World) (e : Ending) (w' : World) : Prop := ∃ B d, e = .returned (.slice B S.length d) ∧ OwN w' w.heap.size B d S ∧ Below w.heap.size w w'

set_option maxRecDepth 100000 in
set_option maxHeartbeats 4000000 in
theorem specLeaves (A : Option Addr) (c : Nat) (S : List ByteArray) (w : World) (hn : S.length ≤ 16) (hz : ∀ b ∈ S, b.size ≤ 12) (hr : Rd 1 cS w A S) :
    Calls Tryd.prog 49 #[.slice A S.length c] w (DoSums (leavesF 0 S) w) := by
  obtain ⟨I, hi, hz0, hz1, hz2⟩ := parts_ofS infoIntN
  have I1 := Lib.hid hi
  have I2 := Lib.hid hz0
  have I3 := Lib.hid hz1
  have I4 := Lib.hid hz2
  have HR := Lib.hid hr
  have HZ := Lib.hid hz
  have O0 : Hid (OwN (w.alloc (.cells #[] 3)) w.heap.size (some ⟨w.heap.size, 0, none⟩) 0 []) := World.ownsRow_lit (size := 1) w #[] 0 (Nat.le_refl _) (by unfold maxLen; omega) rfl
  have B0 : Hid (Below w.heap.size w (w.alloc (.cells #[] 3))) := (Below.refl _ _).alloc (Nat.le_refl _) _
  obtain ⟨n, hnn⟩ : ∃ n, n = S.length := ⟨_, rfl⟩
  rw [← hnn] at hn ⊢
  have HN := Lib.hid hnn
  clear hi hz0 hz1 hz2 hr hz hnn
  go_enter Tryd.func49, Tryd.ntmps49
  go_wp2
  go_loopw [3, 4] (fun lv iv wr => ∃ (k : Nat) (D : List Int) (B : Option Addr) (d : Nat), iv = .int .i64 k ∧ lv = .slice B k d ∧ k ≤ n ∧ Hid (D.length = k) ∧ Hid (leavesF 0 S = D ++ leavesF k (S.drop k)) ∧ Hid (OwN wr w.heap.size B d D) ∧ Hid (Below w.heap.size w wr)) (fun _ iv _ => n - (intOf iv).toNat)
  case atStart => exact ⟨0, [], some ⟨w.heap.size, 0, none⟩, 0, by first | rfl | go_num, rfl, Nat.zero_le _, rfl, by simp [Hid], O0.out, B0.out⟩
  case round =>
    clear O0 B0
    obtain ⟨k, D, B, d, rfl, rfl, hk, HD, HL, OO, BB⟩ := hrel
    by_cases hlt : k < n
    · have i0 : (0 : Int) ≤ (k : Int) := by omega
      have i1 : (k : Int) < (n : Int) := by omega
      have hlt' : k < S.length := by rw [← HN.out]; exact hlt
      obtain ⟨g, o, rfl, hc0⟩ := HR.out k hlt'
      have hz1 := HZ.out _ (List.getElem_mem hlt')
      have hdr := List.drop_eq_getElem_cons hlt'
      obtain ⟨b, hb⟩ : ∃ b, b = S[k] := ⟨_, rfl⟩
      rw [← hb] at hc0 hz1 hdr
      have hc1 : wr.cell? ⟨g, o + k * 1, none⟩ = some (.string b) := by have := cell_kept BB.out (hc0 0 _ rfl); simpa using this
      have hc1 : wr.cell? ⟨g, o + k, none⟩ = some (.string b) := by simpa using hc1
      have HL2 := Lib.hid (show leavesF 0 S = (D ++ [leafN (k : Int) b.data.toList]) ++ leavesF (k + 1) (S.drop (k + 1)) by
        rw [HL.out, hdr, List.append_assoc]; rfl)
      have HS := Lib.hid (show b.data.toList.length ≤ 1048000 by simp; omega)
      clear hc0 hz1 hdr hb hlt' HL
      go_wp2_with (fail)
      refine (leafS (k : Int) b.data.toList _ ⟨by omega, by omega⟩ HS.out).mono ?_
      obtain ⟨x, hx⟩ : ∃ x, x = leafN (k : Int) b.data.toList := ⟨_, rfl⟩
      rw [← hx] at HL2 ⊢
      rintro e w2 ⟨rfl, hb2⟩
      have hba : Below w2.heap.size w2 (w2.alloc (.cells #[.int .i64 x] 3)) := (Below.refl _ _).alloc (Nat.le_refl _) _
      have OB := Lib.hid ((OO.out.below hb2).below hba)
      have BA := Lib.hid (Below.and (Below.and BB.out hb2) hba)
      have HRd := Lib.hid (int_oneN w2 x)
      have hsz := BA.out.size
      clear hb2 hba hx hc1
      have hDk := HD.out
      go_wp2_with (at_builtin; go_loud (refine list_app (f := cN) (fun _ => rfl) rfl _ _ 22 rfl w.heap.size 3 I (.int .i64 0) 8 Tryd.underlying22 I1.out I2.out I3.out I4.out rfl (by decide) (.slice B k d) k (D.flatMap cN) rfl (by have h := OB.out; unfold OwN at h; rw [HD.out] at h; exact h) _ _ 1 [x] rfl rfl HRd.out (fun h => by cases h) (ints_oneN _) (by unfold maxLen; omega) (by omega) hsz ?_))
      intro v5 w5 ho hg hp
      have BB := Lib.hid (BA.out.grown hg BA.out.size (fun q hq => by have h := OB.out.ge q (by rw [HD.out]; exact hq); exact h.1))
      rw [← HD.out] at ho
      obtain ⟨B5, d5, rfl, oa⟩ := OwN.push ho
      have OO := Lib.hid oa
      have hl : (D ++ [x]).length = k + 1 := by simp [HD.out]
      rw [hl]
      have HD2 := Lib.hid hl
      clear ho hg hp oa OB BA HRd hsz hl hDk
      go_wp2
      go_roundw
      case rel => exact ⟨k + 1, D ++ [x], B5, d5, by go_num, rfl, by omega, HD2.out, HL2.out, OO.out, BB.out⟩
      case measure => simp [intOf]; omega
    · have HE := Lib.hid (show leavesF 0 S = D by rw [HL.out, List.drop_of_length_le (by rw [← HN.out]; omega)]; simp [leavesF])
      have i1 : ¬ (k : Int) < (n : Int) := by omega
      clear HL
      go_wp2
      go_light
      go_ret
      rw [HE.out]
      exact ⟨B, d, by rw [HD.out]; rfl, OO.out, BB.out⟩
end Go.Proofs.YtmnephaechgffaaDoor

/- The sums above sums, the model's way. -/
namespace Go.Proofs.YtmnephaechgffaaDoor
open Go.ChangeShapes Go.WideShapes Go.ChangeAt Go.RowKit
set_option linter.unusedVariables false
set_option linter.unusedSimpArgs false

set_option maxRecDepth 100000 in
set_option maxHeartbeats 8000000 in
theorem specUp (A : Option Addr) (c : Nat) (S : List Int) (w : World) (hn : S.length ≤ 1048576) (hx : ∀ x ∈ S, I64 x) (hr : InI w A S) :
    Calls Tryd.prog 50 #[.slice A S.length c] w (DoSums (upF S) w) := by
  obtain ⟨I, hi, hz0, hz1, hz2⟩ := parts_ofS infoIntN
  have I1 := Lib.hid hi
  have I2 := Lib.hid hz0
  have I3 := Lib.hid hz1
  have I4 := Lib.hid hz2
  have HR := Lib.hid hr
  have HI := Lib.hid hx
  have O0 : Hid (OwN (w.alloc (.cells #[] 3)) w.heap.size (some ⟨w.heap.size, 0, none⟩) 0 []) := World.ownsRow_lit (size := 1) w #[] 0 (Nat.le_refl _) (by unfold maxLen; omega) rfl
  have B0 : Hid (Below w.heap.size w (w.alloc (.cells #[] 3))) := (Below.refl _ _).alloc (Nat.le_refl _) _
  obtain ⟨n, hnn⟩ : ∃ n, n = S.length := ⟨_, rfl⟩
  rw [← hnn] at hn ⊢
  have HN := Lib.hid hnn
  clear hi hz0 hz1 hz2 hr hx hnn
  go_enter Tryd.func50, Tryd.ntmps50
  go_wp2
  go_loopw [3, 4] (fun lv iv wr => ∃ (k q : Nat) (D : List Int) (B : Option Addr) (d : Nat), iv = .int .i64 k ∧ lv = .slice B q d ∧ k ≤ n + 1 ∧ q ≤ k ∧ Hid (D.length = q) ∧ Hid (upF S = D ++ upF (S.drop k)) ∧ Hid (OwN wr w.heap.size B d D) ∧ Hid (Below w.heap.size w wr)) (fun _ iv _ => n + 2 - (intOf iv).toNat)
  case atStart => exact ⟨0, 0, [], some ⟨w.heap.size, 0, none⟩, 0, by first | rfl | go_num, rfl, by omega, by omega, rfl, by simp [Hid], O0.out, B0.out⟩
  case round =>
    clear O0 B0
    obtain ⟨k, q, D, B, d, rfl, rfl, hk, hq, HD, HL, OO, BB⟩ := hrel
    by_cases hlt : k < n
    · have i0 : (0 : Int) ≤ (k : Int) := by omega
      have i1 : (k : Int) < (n : Int) := by omega
      have wk : IntKind.i64.wrap ((k : Int) + 1) = (k : Int) + 1 := IntWalk.i64_in _ (by omega)
      have wk2 : IntKind.i64.wrap ((k : Int) + 2) = (k : Int) + 2 := IntWalk.i64_in _ (by omega)
      have hlt' : k < S.length := by rw [← HN.out]; exact hlt
      have hdr := List.drop_eq_getElem_cons hlt'
      have HX := Lib.hid (HI.out _ (List.getElem_mem hlt'))
      obtain ⟨g, o, rfl, hc0⟩ := HR.out k hlt'
      obtain ⟨x, hx⟩ : ∃ x, x = S[k] := ⟨_, rfl⟩
      rw [← hx] at hc0 hdr HX
      have C0 := Lib.hid hc0
      clear hc0 hx
      by_cases hlt2 : k + 1 < n
      · have i2 : (0 : Int) ≤ (k : Int) + 1 := by omega
        have i3 : (k : Int) + 1 < (n : Int) := by omega
        have hlt3 : k + 1 < S.length := by rw [← HN.out]; exact hlt2
        have hdr2 := List.drop_eq_getElem_cons hlt3
        have HY := Lib.hid (HI.out _ (List.getElem_mem hlt3))
        obtain ⟨g', o', he, hc1⟩ := HR.out (k + 1) hlt3
        cases he
        obtain ⟨y, hy⟩ : ∃ y, y = S[k + 1] := ⟨_, rfl⟩
        rw [← hy] at hc1 hdr2 HY
        have C1 := Lib.hid hc1
        have HL2 := Lib.hid (show upF S = (D ++ [nodeN x y]) ++ upF (S.drop (k + 2)) by
          rw [HL.out, hdr, hdr2, List.append_assoc]; rfl)
        clear hc1 hy hdr hdr2 HL hlt' hlt3
        go_wp2_with (fail)
        refine wp_region_held_drew (S := fun WS => Below w.heap.size w WS) (by kernel_rfl) BB.out.drew (fun hS0 => ?_)
        refine takeD 0 17 (v := ?_) rfl rfl (by kernel_rfl) (by kernel_rfl) (by kernel_rfl) (fun _ _ _ h => h) (Or.inl ⟨by rfl, ?_⟩) (by assumption) ?_
        rotate_left
        · intro wS hSw; have y0 := cell_kept hSw C0.out; have y1 := cell_kept hSw C1.out; go_simp; (try with_reducible rfl)
        (try simp only [Act.put, List.setIfInBounds_toArray, List.set_cons_zero, List.set_cons_succ])
        refine takeD 1 18 (v := ?_) rfl rfl (by kernel_rfl) (by kernel_rfl) (by kernel_rfl) (fun _ _ _ h => h) (Or.inl ⟨by rfl, ?_⟩) (by assumption) ?_
        rotate_left
        · intro wS hSw; have y0 := cell_kept hSw C0.out; have y1 := cell_kept hSw C1.out; go_simp; (try with_reducible rfl)
        (try simp only [Act.put, List.setIfInBounds_toArray, List.set_cons_zero, List.set_cons_succ])
        refine takeD 2 19 (v := ?_) rfl rfl (by kernel_rfl) (by kernel_rfl) (by kernel_rfl) (fun _ _ _ h => h) (Or.inl ⟨by rfl, ?_⟩) (by assumption) ?_
        rotate_left
        · intro wS hSw; have y0 := cell_kept hSw C0.out; have y1 := cell_kept hSw C1.out; go_simp; (try with_reducible rfl)
        (try simp only [Act.put, List.setIfInBounds_toArray, List.set_cons_zero, List.set_cons_succ])
        refine takeD 3 20 (v := ?_) rfl rfl (by kernel_rfl) (by kernel_rfl) (by kernel_rfl) (fun _ _ _ h => h) (Or.inl ⟨by rfl, ?_⟩) (by assumption) ?_
        rotate_left
        · intro wS hSw; have y0 := cell_kept hSw C0.out; have y1 := cell_kept hSw C1.out; go_simp; (try with_reducible rfl)
        (try simp only [Act.put, List.setIfInBounds_toArray, List.set_cons_zero, List.set_cons_succ])
        refine takeD 4 21 (v := ?_) rfl rfl (by kernel_rfl) (by kernel_rfl) (by kernel_rfl) (fun _ _ _ h => h) (Or.inl ⟨by rfl, ?_⟩) (by assumption) ?_
        rotate_left
        · intro wS hSw; have y0 := cell_kept hSw C0.out; have y1 := cell_kept hSw C1.out; go_simp; (try with_reducible rfl)
        (try simp only [Act.put, List.setIfInBounds_toArray, List.set_cons_zero, List.set_cons_succ])
        refine takeD 5 22 (v := ?_) rfl rfl (by kernel_rfl) (by kernel_rfl) (by kernel_rfl) (fun _ _ _ h => h) (Or.inl ⟨by rfl, ?_⟩) (by assumption) ?_
        rotate_left
        · intro wS hSw; have y0 := cell_kept hSw C0.out; have y1 := cell_kept hSw C1.out; go_simp; (try with_reducible rfl)
        (try simp only [Act.put, List.setIfInBounds_toArray, List.set_cons_zero, List.set_cons_succ])
        refine takeD 6 23 (v := ?_) rfl rfl (by kernel_rfl) (by kernel_rfl) (by kernel_rfl) (fun _ _ _ h => h) (Or.inl ⟨by rfl, ?_⟩) (by assumption) ?_
        rotate_left
        · intro wS hSw; have y0 := cell_kept hSw C0.out; have y1 := cell_kept hSw C1.out; go_simp; (try with_reducible rfl)
        (try simp only [Act.put, List.setIfInBounds_toArray, List.set_cons_zero, List.set_cons_succ])
        refine takeD 7 24 (v := ?_) rfl rfl (by kernel_rfl) (by kernel_rfl) (by kernel_rfl) (fun _ _ _ h => h) (Or.inl ⟨by rfl, ?_⟩) (by assumption) ?_
        rotate_left
        · intro wS hSw; have y0 := cell_kept hSw C0.out; have y1 := cell_kept hSw C1.out; go_simp; (try with_reducible rfl)
        (try simp only [Act.put, List.setIfInBounds_toArray, List.set_cons_zero, List.set_cons_succ])
        refine takeD 8 25 (v := ?_) rfl rfl (by kernel_rfl) (by kernel_rfl) (by kernel_rfl) (fun _ _ _ h => h) (Or.inl ⟨by rfl, ?_⟩) (by assumption) ?_
        rotate_left
        · intro wS hSw; have y0 := cell_kept hSw C0.out; have y1 := cell_kept hSw C1.out; go_simp; (try with_reducible rfl)
        (try simp only [Act.put, List.setIfInBounds_toArray, List.set_cons_zero, List.set_cons_succ])
        refine takeD 9 26 (v := ?_) rfl rfl (by kernel_rfl) (by kernel_rfl) (by kernel_rfl) (fun _ _ _ h => h) (Or.inl ⟨by rfl, ?_⟩) (by assumption) ?_
        rotate_left
        · intro wS hSw; have y0 := cell_kept hSw C0.out; have y1 := cell_kept hSw C1.out; go_simp; (try with_reducible rfl)
        (try simp only [Act.put, List.setIfInBounds_toArray, List.set_cons_zero, List.set_cons_succ])
        refine wpAnyH_ready (rs := [10]) (by kernel_rfl) (by simp) ?_
        refine AllReadyH.cons rfl (fun KK hK => ?_) AllReadyH.nil
        go_simp
        refine (nodeS x y _ HX.out HY.out).mono ?_
        obtain ⟨z, hz⟩ : ∃ z, z = nodeN x y := ⟨_, rfl⟩
        rw [← hz] at HL2 ⊢
        rintro e w2 ⟨rfl, hb2⟩
        have B2 := Lib.hid (Below.and hS0 hb2)
        have O2 := Lib.hid ((OO.out.below (Below.refl _ _).drew).below hb2)
        clear hb2 hz
        refine hK.out _ _ B2.out (fun hS1 => ?_)
        clear hK KK
        (try simp only [Act.put, List.setIfInBounds_toArray, List.set_cons_zero, List.set_cons_succ])
        refine wpAnyH_ready (rs := [11]) (by kernel_rfl) (by simp) ?_
        refine AllReadyH.cons rfl (fun KK hK => ?_) AllReadyH.nil
        go_simp
        have hba : Below w2.heap.size w2 (w2.alloc (.cells #[.int .i64 z] 3)) := (Below.refl _ _).alloc (Nat.le_refl _) _
        have O3 := Lib.hid (O2.out.below hba)
        have B3 := Lib.hid (Below.and B2.out hba)
        have HRd := Lib.hid (int_oneN w2 z)
        obtain ⟨rb, hrb⟩ : ∃ X, X = w2.heap.size := ⟨_, rfl⟩
        obtain ⟨w3, hw3⟩ : ∃ X, X = w2.alloc (.cells #[.int .i64 z] 3) := ⟨_, rfl⟩
        rw [← hw3] at O3 B3 HRd ⊢
        rw [← hrb] at HRd ⊢
        clear hw3 hrb hba
        refine hK.out _ _ B3.out (fun hS2 => ?_)
        clear hK KK
        (try simp only [Act.put, List.setIfInBounds_toArray, List.set_cons_zero, List.set_cons_succ])
        refine wpAnyH_ready (rs := [12]) (by kernel_rfl) (by simp) ?_
        refine AllReadyH.cons rfl (fun KK hK => ?_) AllReadyH.nil
        refine step_app (f := cN) (k := 1) (fun _ => rfl) (by rfl) _ _ 22 (by rfl) w.heap.size 3 I (.int .i64 0) 8 Tryd.underlying22 I1.out I2.out I3.out I4.out (by rfl) (by omega) (.slice B q d) q (D.flatMap cN) (by rfl) (by have h := O3.out; unfold OwN at h; rw [HD.out] at h; exact h) (some ⟨rb, 0, none⟩) 1 1 [z] rfl (by rfl) HRd.out (fun h => by cases h) (ints_oneN _) (by unfold maxLen; omega) (by omega) B3.out.size ?_
        intro v5 w5 ho hg hp
        have B5 := Lib.hid (B3.out.grown hg B3.out.size (fun p hp => by have h := O3.out.ge p (by rw [HD.out]; exact hp); exact h.1))
        rw [← HD.out] at ho
        obtain ⟨B6, d6, rfl, oa⟩ := OwN.push ho
        have O5 := Lib.hid oa
        have hl : (D ++ [z]).length = q + 1 := by simp [HD.out]
        rw [hl]
        have HD2 := Lib.hid hl
        clear ho hg hp oa hl
        refine hK.out _ _ B5.out (fun hS3 => ?_)
        clear hK KK
        (try simp only [Act.put, List.setIfInBounds_toArray, List.set_cons_zero, List.set_cons_succ])
        refine takeD 13 3 (v := ?_) rfl rfl (by kernel_rfl) (by kernel_rfl) (by kernel_rfl) (fun _ _ _ h => h) (Or.inl ⟨by rfl, ?_⟩) (by assumption) ?_
        rotate_left
        · intro wS hSw; go_simp; (try with_reducible rfl)
        (try simp only [Act.put, List.setIfInBounds_toArray, List.set_cons_zero, List.set_cons_succ])
        refine wpAnyH_done (by kernel_rfl) ?_ _
        go_wp2
        go_roundw
        case rel => exact ⟨k + 2, q + 1, D ++ [z], B6, d6, by go_num, rfl, by omega, by omega, HD2.out, HL2.out, O5.out, B5.out⟩
        case measure => simp [intOf]; omega
      · have i3 : ¬ (k : Int) + 1 < (n : Int) := by omega
        have HL2 := Lib.hid (show upF S = (D ++ [x]) ++ upF (S.drop (k + 2)) by
          rw [HL.out, hdr, List.drop_of_length_le (i := k + 1) (by rw [← HN.out]; omega), List.drop_of_length_le (i := k + 2) (by rw [← HN.out]; omega)]
          simp [upF])
        have hba : Below wr.heap.size wr (wr.alloc (.cells #[.int .i64 x] 3)) := (Below.refl _ _).alloc (Nat.le_refl _) _
        have OB := Lib.hid (OO.out.below hba)
        have BA := Lib.hid (Below.and BB.out hba)
        have HRd := Lib.hid (int_oneN wr x)
        have hsz := BA.out.size
        have y0 := cell_kept BB.out C0.out
        clear hba hdr HL hlt'
        go_wp2_with (at_builtin; go_loud (refine list_app (f := cN) (fun _ => rfl) rfl _ _ 22 rfl w.heap.size 3 I (.int .i64 0) 8 Tryd.underlying22 I1.out I2.out I3.out I4.out rfl (by decide) (.slice B q d) q (D.flatMap cN) rfl (by have h := OB.out; unfold OwN at h; rw [HD.out] at h; exact h) _ _ 1 [x] rfl rfl HRd.out (fun h => by cases h) (ints_oneN _) (by unfold maxLen; omega) (by omega) hsz ?_))
        intro v5 w5 ho hg hp
        have BB := Lib.hid (BA.out.grown hg BA.out.size (fun p hp => by have h := OB.out.ge p (by rw [HD.out]; exact hp); exact h.1))
        rw [← HD.out] at ho
        obtain ⟨B5, d5, rfl, oa⟩ := OwN.push ho
        have OO := Lib.hid oa
        have hl : (D ++ [x]).length = q + 1 := by simp [HD.out]
        rw [hl]
        have HD2 := Lib.hid hl
        clear ho hg hp oa OB BA HRd hsz hl y0
        go_wp2
        go_roundw
        case rel => exact ⟨k + 2, q + 1, D ++ [x], B5, d5, by go_num, rfl, by omega, by omega, HD2.out, HL2.out, OO.out, BB.out⟩
        case measure => simp [intOf]; omega
    · have HE := Lib.hid (show upF S = D by rw [HL.out, List.drop_of_length_le (by rw [← HN.out]; omega)]; simp [upF])
      have i1 : ¬ (k : Int) < (n : Int) := by omega
      clear HL
      go_wp2
      go_light
      go_ret
      rw [HE.out]
      exact ⟨B, d, by rw [HD.out]; rfl, OO.out, BB.out⟩
end Go.Proofs.YtmnephaechgffaaDoor

/- The sum of all pieces, and the sums beside a way up: the model's way. -/
namespace Go.Proofs.YtmnephaechgffaaDoor
open Go.ChangeShapes Go.WideShapes Go.ChangeAt Go.RowKit
set_option linter.unusedVariables false
set_option linter.unusedSimpArgs false

def topF : Nat → List Int → List Int
  | 0, l => l
  | f + 1, l => if l.length ≤ 1 then l else topF f (upF l)
def proofF : Nat → List Int → Nat → List Int
  | 0, _, _ => []
  | f + 1, l, a => if l.length ≤ 1 then [] else (match l[a ^^^ 1]? with | some x => [x] | none => []) ++ proofF f (upF l) (a / 2)
def rootP (S : List ByteArray) : Int := if wfB S = true then (topF 16 (leavesF 0 S)).headD 0 else -1
def proofP (S : List ByteArray) (a : Int) : List Int := if wfB S = true ∧ inB a 0 ((S.length : Int) - 1) = true then proofF 16 (leavesF 0 S) a.toNat else []
theorem topF_done (f : Nat) (l : List Int) (h : l.length ≤ 1) : topF f l = l := by
  cases f with
  | zero => rfl
  | succ f => show (if _ then _ else _) = _; rw [if_pos h]
theorem topF_go (f : Nat) (l : List Int) (h : ¬ l.length ≤ 1) : topF (f + 1) l = topF f (upF l) := by
  show (if _ then _ else _) = _; rw [if_neg h]
theorem proofF_done (f : Nat) (l : List Int) (a : Nat) (h : l.length ≤ 1) : proofF f l a = [] := by
  cases f with
  | zero => rfl
  | succ f => show (if _ then _ else _) = _; rw [if_pos h]
theorem proofF_take (f : Nat) (l : List Int) (a : Nat) (h : ¬ l.length ≤ 1) (h2 : a ^^^ 1 < l.length) : proofF (f + 1) l a = l[a ^^^ 1] :: proofF f (upF l) (a / 2) := by
  show (if _ then _ else _) = _; rw [if_neg h, List.getElem?_eq_getElem h2]; rfl
theorem proofF_skip (f : Nat) (l : List Int) (a : Nat) (h : ¬ l.length ≤ 1) (h2 : ¬ a ^^^ 1 < l.length) : proofF (f + 1) l a = proofF f (upF l) (a / 2) := by
  show (if _ then _ else _) = _; rw [if_neg h, List.getElem?_eq_none (by omega)]; rfl
theorem wfB_of {S : List ByteArray} (h : wfB S = true) : 1 ≤ S.length ∧ S.length ≤ 16 ∧ ∀ b ∈ S, b.size ≤ 12 := by
  rcases split_last S with rfl | ⟨I, x, rfl⟩
  · simp [wfB] at h
  · rw [wfB_app] at h
    simp only [wfI, Bool.and_eq_true, decide_eq_true_eq, List.all_eq_true, beq_iff_eq] at h
    refine ⟨by simp, by simp; omega, fun b hb => ?_⟩
    rcases List.mem_append.1 hb with hb | hb
    · have := h.2.1 b hb; omega
    · obtain rfl := List.mem_singleton.1 hb
      exact h.2.2.1
def lenV : Value → Nat
  | .slice _ n _ => n
  | _ => 0

set_option maxRecDepth 100000 in
set_option maxHeartbeats 4000000 in
theorem specPieceRoot (A : Option Addr) (c : Nat) (S : List ByteArray) (w : World) (hn : S.length ≤ 1048576) (hr : Rd 1 cS w A S) :
    Calls Tryd.prog 17 #[.slice A S.length c] w fun e w' => e = .returned (.int .i64 (rootP S)) ∧ Below w.heap.size w w' := by
  have HR := Lib.hid hr
  clear hr
  rcases hw : wfB S with _ | _
  · have HW := Lib.hid hw
    clear hw
    go_enter Tryd.func17, Tryd.ntmps17
    go_wp2_with (fail)
    refine (specL12 S A c _ hn HR.out).mono ?_
    rintro e w1 ⟨rfl, hb⟩
    rw [HW.out]
    have Z := Lib.hid hb
    clear hb
    go_wp2
    go_light
    go_ret
    exact ⟨ret_int (by unfold rootP; rw [HW.out]; rfl), Z.out⟩
  obtain ⟨n1, n2, hz⟩ := wfB_of hw
  have HZ := Lib.hid hz
  have HW := Lib.hid hw
  have hRT : rootP S = (topF 16 (leavesF 0 S)).headD 0 := by unfold rootP; rw [if_pos hw]
  obtain ⟨l0, hl0⟩ : ∃ l, l = leavesF 0 S := ⟨_, rfl⟩
  have hlen := leavesF_len S 0
  have h64 := leavesF_64 S 0
  rw [← hl0] at hRT hlen h64
  have HL0 := Lib.hid hl0
  have HRT := Lib.hid hRT
  have HLEN := Lib.hid hlen
  have H64 := Lib.hid h64
  clear hz hw hl0 hRT hlen h64
  go_enter Tryd.func17, Tryd.ntmps17
  go_wp2_with (fail)
  refine (specL12 S A c _ hn HR.out).mono ?_
  rintro e w1 ⟨rfl, hb⟩
  rw [HW.out]
  have Z := Lib.hid hb
  have HR1 : Hid (Rd 1 cS w1 A S) := fun i hi => by
    obtain ⟨g, o, e, hc⟩ := HR.out i hi
    exact ⟨g, o, e, fun j u hu => cell_kept hb (hc j u hu)⟩
  clear hb
  go_wp2_with (fail)
  refine (specLeaves A c S _ n2 HZ.out HR1.out).mono ?_
  rw [← HL0.out]
  rintro e w2 ⟨B2, d2, rfl, o2, hb⟩
  have Z := Lib.hid (Below.and Z.out hb)
  have O2 := Lib.hid o2
  have R2 := Lib.hid o2.rd.inI
  have L2 : Hid (1 ≤ l0.length ∧ l0.length ≤ 16) := by have := HLEN.out; exact ⟨by omega, by omega⟩
  clear hb o2 HR HR1 HZ HL0 HW
  go_wp2
  go_loopw [3] (fun lv wr => ∃ (f q : Nat) (l : List Int) (B : Option Addr) (d : Nat), lv = .slice B q d ∧ 1 ≤ q ∧ q ≤ f + 1 ∧ q ≤ 16 ∧ Hid (l.length = q) ∧ Hid (rootP S = (topF f l).headD 0) ∧ Hid (∀ x ∈ l, I64 x) ∧ Hid (InI wr B l) ∧ Hid (Below w.heap.size w wr)) (fun lv _ => lenV lv)
  case atStart => exact ⟨16, l0.length, l0, B2, d2, rfl, L2.out.1, by have := L2.out.2; omega, L2.out.2, rfl, HRT.out, H64.out, R2.out, Z.out⟩
  case round =>
    clear HRT H64 R2 Z L2 O2 HLEN
    obtain ⟨f, q, l, B, d, rfl, hq1, hqf, hq2, HQ, HT, HI, HR, Z⟩ := hrel
    by_cases h1 : q ≤ 1
    · have hq : q = 1 := by omega
      subst hq
      obtain ⟨x, hx⟩ : ∃ x, l = [x] := by
        rcases l with _ | ⟨x, _ | ⟨y, t⟩⟩
        · have := HQ.out; simp at this
        · exact ⟨x, rfl⟩
        · have := HQ.out; simp at this
      subst hx
      have HV := Lib.hid (show rootP S = x by rw [HT.out, topF_done f [x] (by simp)]; rfl)
      obtain ⟨g, o, rfl, hc⟩ := HR.out 0 (by simp)
      have hc : wr.cell? ⟨g, o, none⟩ = some (.int .i64 x) := by simpa using hc
      clear HQ HT HI HR
      go_wp2
      go_light
      go_ret
      exact ⟨ret_int (by rw [HV.out]), Z.out⟩
    · obtain ⟨f, rfl⟩ : ∃ g, f = g + 1 := ⟨f - 1, by omega⟩
      have i1 : (1 : Int) < (q : Int) := by omega
      have HT2 := Lib.hid (show rootP S = (topF f (upF l)).headD 0 by rw [HT.out, topF_go f l (by rw [HQ.out]; exact h1)])
      have HI2 := Lib.hid (upF_64 l HI.out)
      have HLQ : Hid ((upF l).length = (q + 1) / 2) := by have := upF_len l; rw [HQ.out] at this; exact this
      have hup := specUp B d l wr (by have := HQ.out; omega) HI.out HR.out
      rw [HQ.out] at hup
      have HUP := Lib.hid hup
      obtain ⟨q2, hq3⟩ : ∃ x, x = (q + 1) / 2 := ⟨_, rfl⟩
      rw [← hq3] at HLQ
      have j1 : 1 ≤ q2 := by omega
      have j2 : q2 ≤ f + 1 := by omega
      have j3 : q2 ≤ 16 := by omega
      have j4 : q2 < q := by omega
      clear hup hq3 HT HR
      go_wp2_with (fail)
      refine HUP.out.mono ?_
      rintro e w3 ⟨B3, d3, rfl, o3, hb⟩
      have Z3 := Lib.hid (Below.and Z.out hb)
      have R3 := Lib.hid o3.rd.inI
      rw [HLQ.out]
      clear hb o3 HUP
      go_wp2
      go_roundw
      case rel => exact ⟨f, q2, upF l, B3, d3, rfl, j1, j2, j3, HLQ.out, HT2.out, HI2.out, R3.out, Z3.out⟩
      case measure => (simp only [lenV]; omega)

set_option maxRecDepth 100000 in
set_option maxHeartbeats 8000000 in
theorem specPieceProof (A : Option Addr) (c : Nat) (S : List ByteArray) (a0 : Int) (w : World) (hn : S.length ≤ 1048576) (hr : Rd 1 cS w A S) :
    Calls Tryd.prog 24 #[.slice A S.length c, .int .i64 a0] w (DoSums (proofP S a0) w) := by
  have HR := Lib.hid hr
  obtain ⟨I, hi, hz0, hz1, hz2⟩ := parts_ofS infoIntN
  have I1 := Lib.hid hi
  have I2 := Lib.hid hz0
  have I3 := Lib.hid hz1
  have I4 := Lib.hid hz2
  have O0 : Hid (OwN (w.alloc (.cells #[] 3)) w.heap.size (some ⟨w.heap.size, 0, none⟩) 0 []) := World.ownsRow_lit (size := 1) w #[] 0 (Nat.le_refl _) (by unfold maxLen; omega) rfl
  have B0 : Hid (Below w.heap.size w (w.alloc (.cells #[] 3))) := (Below.refl _ _).alloc (Nat.le_refl _) _
  have HR0 : Hid (Rd 1 cS (w.alloc (.cells #[] 3)) A S) := fun i hi => by
    obtain ⟨g, o, e, hc⟩ := HR.out i hi
    exact ⟨g, o, e, fun j u hu => cell_kept B0.out (hc j u hu)⟩
  clear hr hi hz0 hz1 hz2 HR
  rcases hw : wfB S with _ | _
  · have HW := Lib.hid hw
    have HP := Lib.hid (show proofP S a0 = [] by unfold proofP; rw [if_neg (by rw [hw]; simp)])
    clear hw
    go_enter Tryd.func24, Tryd.ntmps24
    go_wp2_with (fail)
    refine (specL12 S A c _ hn HR0.out).mono ?_
    rintro e w1 ⟨rfl, hb⟩
    rw [HW.out]
    have Z := Lib.hid (Below.and B0.out hb)
    have O1 := Lib.hid (O0.out.below hb)
    clear hb O0 B0 HR0
    go_wp2
    go_light
    go_ret
    rw [HP.out]
    exact ⟨_, _, rfl, O1.out, Z.out⟩
  obtain ⟨n1, n2, hz⟩ := wfB_of hw
  have HZ := Lib.hid hz
  have HW := Lib.hid hw
  obtain ⟨n, hnn⟩ : ∃ n, n = S.length := ⟨_, rfl⟩
  rw [← hnn] at n1 n2
  have HN := Lib.hid hnn
  have wn : IntKind.i64.wrap ((n : Int) - 1) = (n : Int) - 1 := IntWalk.i64_in _ (by omega)
  clear hz hnn
  rcases hin : inB a0 0 ((n : Int) - 1) with _ | _
  · have HIN := Lib.hid hin
    have HP := Lib.hid (show proofP S a0 = [] by unfold proofP; rw [if_neg (by rw [← HN.out, hin]; simp)])
    clear hw hin
    go_enter Tryd.func24, Tryd.ntmps24
    go_wp2_with (fail)
    refine (specL12 S A c _ hn HR0.out).mono ?_
    rintro e w1 ⟨rfl, hb⟩
    rw [HW.out, ← HN.out]
    have Z := Lib.hid (Below.and B0.out hb)
    have O1 := Lib.hid (O0.out.below hb)
    clear hb O0 B0 HR0
    go_wp2_with (fail)
    refine (specIn _ _ _ _).mono ?_
    rintro e w2 ⟨rfl, rfl⟩
    rw [HIN.out]
    go_wp2
    go_light
    go_ret
    rw [HP.out]
    exact ⟨_, _, rfl, O1.out, Z.out⟩
  have hP : proofP S a0 = proofF 16 (leavesF 0 S) a0.toNat := by unfold proofP; rw [if_pos ⟨hw, by rw [← HN.out]; exact hin⟩]
  have hin2 : 0 ≤ a0 ∧ a0 ≤ (n : Int) - 1 := by simpa [inB] using hin
  have HIN := Lib.hid hin
  obtain ⟨a1, rfl⟩ : ∃ x : Nat, a0 = (x : Int) := ⟨a0.toNat, by omega⟩
  rw [Int.toNat_natCast] at hP
  have ha1 : a1 < 16 := by omega
  obtain ⟨l0, hl0⟩ : ∃ l, l = leavesF 0 S := ⟨_, rfl⟩
  have hlen := leavesF_len S 0
  have h64 := leavesF_64 S 0
  rw [← hl0] at hP hlen h64
  rw [← HN.out] at hlen
  obtain ⟨R, hR⟩ : ∃ R, R = proofP S (a1 : Int) := ⟨_, rfl⟩
  rw [← hR] at hP ⊢
  have HL0 := Lib.hid hl0
  have HP := Lib.hid hP
  have HLEN := Lib.hid hlen
  have H64 := Lib.hid h64
  clear hw hin hin2 hl0 hP hlen h64 hR
  go_enter Tryd.func24, Tryd.ntmps24
  go_wp2_with (fail)
  refine (specL12 S A c _ hn HR0.out).mono ?_
  rintro e w1 ⟨rfl, hb⟩
  rw [HW.out, ← HN.out]
  have Z := Lib.hid (Below.and B0.out hb)
  have O1 := Lib.hid (O0.out.below hb)
  have HR1 : Hid (Rd 1 cS w1 A S) := fun i hi => by
    obtain ⟨g, o, e, hc⟩ := HR0.out i hi
    exact ⟨g, o, e, fun j u hu => cell_kept hb (hc j u hu)⟩
  clear hb O0 B0 HR0
  go_wp2_with (fail)
  refine (specIn _ _ _ _).mono ?_
  rintro e w2 ⟨rfl, rfl⟩
  rw [HIN.out]
  clear wn
  go_wp2_with (fail)
  rw [HN.out]
  refine (specLeaves A c S _ (by rw [← HN.out]; exact n2) HZ.out HR1.out).mono ?_
  rw [← HL0.out]
  rintro e w3 ⟨B3, d3, rfl, o3, hb⟩
  have AP : Hid (∀ p, (Value.slice (some ⟨w.heap.size, 0, none⟩) 0 0).ownBlock = some p → ∀ g o, B3 = some ⟨g, o, none⟩ → g ≠ p) := fun p hp g o e => by
    subst e
    have h1 := (O1.out.ge p hp).2
    have h2 := (o3.ge g rfl).1
    omega
  have Z := Lib.hid (Below.and Z.out hb)
  have O1 := Lib.hid (O1.out.below hb)
  have R3 := Lib.hid o3.rd.inI
  rw [HLEN.out]
  clear hb o3 HR1 HZ HL0 HW HIN
  go_wp2
  go_loopw [1, 5, 6] (fun av ov lv wr => ∃ (f q a k : Nat) (l D : List Int) (B : Option Addr) (d : Nat) (G : Option Addr) (e : Nat), av = .int .i64 (a : Int) ∧ ov = .slice G k e ∧ lv = .slice B q d ∧ 1 ≤ q ∧ q ≤ f + 1 ∧ q ≤ 16 ∧ a < 16 ∧ k + f ≤ 16 ∧ Hid (l.length = q) ∧ Hid (D.length = k) ∧ Hid (R = D ++ proofF f l a) ∧ Hid (∀ x ∈ l, I64 x) ∧ Hid (InI wr B l) ∧ Hid (OwN wr w.heap.size G e D) ∧ Hid (∀ p, (Value.slice G k e).ownBlock = some p → ∀ g o, B = some ⟨g, o, none⟩ → g ≠ p) ∧ Hid (Below w.heap.size w wr)) (fun _ _ lv _ => lenV lv)
  case atStart => exact ⟨16, n, a1, 0, l0, [], B3, d3, _, _, rfl, rfl, rfl, n1, by omega, n2, ha1, by omega, HLEN.out, rfl, HP.out, H64.out, R3.out, O1.out, AP.out, Z.out⟩
  case round =>
    clear HP H64 R3 Z O1 HLEN AP
    obtain ⟨f, q, a, k, l, D, B, d, G, e, rfl, rfl, rfl, hq1, hqf, hq2, ha, hk, HQ, HD, HT, HI, HR, OO, AP, Z⟩ := hrel
    by_cases h1 : q ≤ 1
    · have HV := Lib.hid (show R = D by rw [HT.out, proofF_done f l a (by rw [HQ.out]; exact h1)]; simp)
      have i1 : ¬ (1 : Int) < (q : Int) := by omega
      clear HQ HT HI HR
      go_wp2
      go_light
      go_ret
      rw [HV.out]
      exact ⟨G, e, by rw [HD.out]; rfl, OO.out, Z.out⟩
    · obtain ⟨f, rfl⟩ : ∃ g, f = g + 1 := ⟨f - 1, by omega⟩
      have i1 : (1 : Int) < (q : Int) := by omega
      have ex := i64_xorC a 1 (by omega) (by omega)
      have ex : bits .xor .i64 (a : Int) 1 = ((a ^^^ 1 : Nat) : Int) := ex
      have hqd := half_dn' a
      have HTK := Lib.hid (proofF_take f l a (by rw [HQ.out]; exact h1))
      have HSK := Lib.hid (proofF_skip f l a (by rw [HQ.out]; exact h1))
      have HI2 := Lib.hid (upF_64 l HI.out)
      have HLQ : Hid ((upF l).length = (q + 1) / 2) := by have := upF_len l; rw [HQ.out] at this; exact this
      have HUP := Lib.hid (fun (w : World) (h : InI w B l) => by have := specUp B d l w (by have := HQ.out; omega) HI.out h; rw [HQ.out] at this; exact this)
      obtain ⟨sb, hsb⟩ : ∃ X, X = a ^^^ 1 := ⟨_, rfl⟩
      rw [← hsb] at ex
      obtain ⟨a2, ha2⟩ : ∃ X, X = a / 2 := ⟨_, rfl⟩
      rw [← ha2] at hqd HSK HTK
      obtain ⟨q2, hq3⟩ : ∃ x, x = (q + 1) / 2 := ⟨_, rfl⟩
      rw [← hq3] at HLQ
      have j0 : a2 < 16 := by omega
      have j1 : 1 ≤ q2 := by omega
      have j2 : q2 ≤ f + 1 := by omega
      have j3 : q2 ≤ 16 := by omega
      have j4 : q2 < q := by omega
      have wa : IntKind.i64.wrap (a2 : Int) = (a2 : Int) := IntWalk.i64_in _ (by omega)
      have HSB := Lib.hid hsb
      clear hq3 ha2 hsb
      by_cases hs : sb < q
      · have i2 : (sb : Int) < (q : Int) := by omega
        have i3 : (0 : Int) ≤ (sb : Int) := by omega
        have hs' : a ^^^ 1 < l.length := by rw [HQ.out, ← HSB.out]; exact hs
        obtain ⟨g, o, rfl, hc⟩ := HR.out (a ^^^ 1) hs'
        have HT2 := HT.out
        rw [HTK.out hs'] at HT2
        obtain ⟨x, hx⟩ : ∃ x, x = l[a ^^^ 1] := ⟨_, rfl⟩
        rw [← hx] at hc HT2
        rw [← HSB.out] at hc
        have HT3 := Lib.hid (show R = (D ++ [x]) ++ proofF f (upF l) a2 by rw [HT2, List.append_assoc]; rfl)
        have hba : Below wr.heap.size wr (wr.alloc (.cells #[.int .i64 x] 3)) := (Below.refl _ _).alloc (Nat.le_refl _) _
        have OB := Lib.hid (OO.out.below hba)
        have BA := Lib.hid (Below.and Z.out hba)
        have RA : Hid (InI (wr.alloc (.cells #[.int .i64 x] 3)) (some ⟨g, o, none⟩) l) := fun i hi => by
          obtain ⟨g', o', e, hc⟩ := HR.out i hi
          exact ⟨g', o', e, cell_kept hba hc⟩
        have HRd := Lib.hid (int_oneN wr x)
        have hsz := BA.out.size
        clear hba hx HT2 hs' HT HTK HSK HR
        go_wp2_with (at_builtin; go_loud (refine list_app (f := cN) (fun _ => rfl) rfl _ _ 22 rfl w.heap.size 3 I (.int .i64 0) 8 Tryd.underlying22 I1.out I2.out I3.out I4.out rfl (by decide) (.slice G k e) k (D.flatMap cN) rfl (by have h := OB.out; unfold OwN at h; rw [HD.out] at h; exact h) _ _ 1 [x] rfl rfl HRd.out (fun h => by cases h) (ints_oneN _) (by unfold maxLen; omega) (by omega) hsz ?_))
        intro v5 w5 ho hg hp
        have B5 := Lib.hid (BA.out.grown hg BA.out.size (fun p hp => by have h := OB.out.ge p (by rw [HD.out]; exact hp); exact h.1))
        have R5 : Hid (InI w5 (some ⟨g, o, none⟩) l) := fun i hi => by
          obtain ⟨g', o', e', hc⟩ := RA.out i hi
          exact ⟨g', o', e', hg.cell hc (fun h => AP.out _ h.symm g' o' e' rfl)⟩
        rw [← HD.out] at ho
        obtain ⟨G5, e5, rfl, oa⟩ := OwN.push ho
        have O5 := Lib.hid oa
        have hl : (D ++ [x]).length = k + 1 := by simp [HD.out]
        rw [hl]
        have HD2 := Lib.hid hl
        have HU2 := Lib.hid (HUP.out w5 R5.out)
        clear ho hg hp oa hl OB BA RA HRd hsz AP HUP hc R5
        go_wp2_with (fail)
        refine HU2.out.mono ?_
        rintro e' w3 ⟨B3, d3, rfl, o3, hb⟩
        have Z3 := Lib.hid (Below.and B5.out hb)
        have R3 := Lib.hid o3.rd.inI
        have AP3 : Hid (∀ p, (Value.slice G5 (k + 1) e5).ownBlock = some p → ∀ g o, B3 = some ⟨g, o, none⟩ → g ≠ p) := fun p hp g o e => by
          subst e
          have h1 := (O5.out.ge p (by rw [HD2.out]; exact hp)).2
          have h2 := (o3.ge g rfl).1
          omega
        have O3 := Lib.hid (O5.out.below hb)
        rw [HLQ.out]
        clear hb o3 HU2
        go_wp2
        go_roundw
        case rel => exact ⟨f, q2, a2, k + 1, upF l, D ++ [x], B3, d3, G5, e5, by first | rfl | go_num, rfl, rfl, j1, j2, j3, j0, by omega, HLQ.out, HD2.out, HT3.out, HI2.out, R3.out, O3.out, AP3.out, Z3.out⟩
        case measure => (simp only [lenV]; omega)
      · have i2 : ¬ (sb : Int) < (q : Int) := by omega
        have HT3 := Lib.hid (HT.out.trans (by rw [HSK.out (by rw [HQ.out, ← HSB.out]; exact hs)] : D ++ proofF (f + 1) l a = D ++ proofF f (upF l) a2))
        have HU2 := Lib.hid (HUP.out wr HR.out)
        clear HT HTK HSK HR HUP
        go_wp2_with (fail)
        refine HU2.out.mono ?_
        rintro e' w3 ⟨B3, d3, rfl, o3, hb⟩
        have Z3 := Lib.hid (Below.and Z.out hb)
        have R3 := Lib.hid o3.rd.inI
        have AP3 : Hid (∀ p, (Value.slice G k e).ownBlock = some p → ∀ g o, B3 = some ⟨g, o, none⟩ → g ≠ p) := fun p hp g o e => by
          subst e
          have h1 := (OO.out.ge p (by rw [HD.out]; exact hp)).2
          have h2 := (o3.ge g rfl).1
          omega
        have O3 := Lib.hid (OO.out.below hb)
        rw [HLQ.out]
        clear hb o3 HU2 AP
        go_wp2
        go_roundw
        case rel => exact ⟨f, q2, a2, k, upF l, D, B3, d3, G, e, by first | rfl | go_num, rfl, rfl, j1, j2, j3, j0, by omega, HLQ.out, HD.out, HT3.out, HI2.out, R3.out, O3.out, AP3.out, Z3.out⟩
        case measure => (simp only [lenV]; omega)
end Go.Proofs.YtmnephaechgffaaDoor
