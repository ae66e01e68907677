/- The operation that a word names: the program's side. -/
import Derived.Test.YtolepfbhhmganaaDoorSg
namespace Go.Proofs.YtolepfbhhmganaaDoor
open Go.ChangeShapes Go.WideShapes Go.ChangeAt Go.RowKit
set_option linter.unusedVariables false
set_option linter.unusedSimpArgs false

theorem bs_of {s : ByteArray} {l : List UInt8} (h : s.data.toList = l) : s = ⟨l.toArray⟩ := by
  subst h
  exact (Lib.mk_data s).symm
theorem toList_data (s : ByteArray) : s.toList = s.data.toList := ByteArray.toList_eq s
theorem opT_none {l : List UInt8} (h : ∀ j, 1 ≤ j → j < 6 → l ≠ wordN j) : opT l = 0 := by
  unfold opT
  rw [if_neg (h 1 (by omega) (by omega)), if_neg (h 2 (by omega) (by omega)), if_neg (h 3 (by omega) (by omega)), if_neg (h 4 (by omega) (by omega)), if_neg (h 5 (by omega) (by omega))]

set_option maxRecDepth 100000 in
set_option maxHeartbeats 2000000 in
theorem opOf (s : ByteArray) (w : World) :
    Calls Tryd.prog 29 #[.string s] w fun e w' => e = .returned (.int .i64 (opT s.data.toList)) ∧ Below w.heap.size w w' := by
  go_enter Tryd.func29, Tryd.ntmps29
  go_wp2
  go_loopw [3] (fun i wr => ∃ k : Nat, 1 ≤ k ∧ k ≤ 6 ∧ i = .int .i64 k ∧ Hid (∀ j, 1 ≤ j → j < k → s.data.toList ≠ wordN j) ∧ Hid (Below w.heap.size w wr)) (fun i _ => 6 - (intOf i).toNat)
  case atStart => exact ⟨1, by omega, by omega, rfl, (fun j h1 h2 => by omega), Below.refl _ _⟩
  case round =>
    obtain ⟨k, h1, h6, rfl, hG, hb⟩ := hrel
    by_cases h5 : k ≤ 5
    · have hk : k = 1 ∨ k = 2 ∨ k = 3 ∨ k = 4 ∨ k = 5 := by omega
      rcases hk with rfl | rfl | rfl | rfl | rfl
      · have hd : deedT 1 = .iface 60 (.agg #[]) := rfl
        have hi : inB 1 1 5 = true := rfl
        have hm := method_word1
        clear h1 h6 h5
        by_cases hq : s.data.toList = wordN 1
        · have HE := Lib.hid (show opT s.data.toList = (1 : Int) by rw [hq]; exact opT_word 1 (by omega) (by omega))
          have he : (wordN 1 == s.toList) = true := by rw [toList_data, hq]; simp
          clear hq
          go_wp2_with (first | (go_at_call 21; refine (deedOf _ _).mono ?_; rintro e w' ⟨rfl, rfl⟩; rw [show deedT (((1 : Nat) : Int)) = .iface 60 (.agg #[]) from hd, show inB (((1 : Nat) : Int)) 1 5 = true from hi]) | (go_at_call 21; refine (deedOf _ _).mono ?_; rintro e w' ⟨rfl, rfl⟩; rw [hd, hi]))
          refine (word1 _).mono ?_
          rintro e w2 ⟨rfl, hb2⟩
          have BN := Lib.hid (Below.trans hb.out (hb2.mono hb.out.size))
          clear hb2
          go_wp2
          go_light
          go_ret
          exact ⟨ret_int HE.out.symm, BN.out⟩
        · have HN : Hid (∀ j, 1 ≤ j → j < 1 + 1 → s.data.toList ≠ wordN j) := fun j g1 g2 => by
            by_cases hj : j = 1
            · subst hj; exact hq
            · exact hG.out j g1 (by omega)
          have he : (wordN 1 == s.toList) = false := by
            rw [beq_eq_false_iff_ne, toList_data]; exact fun h => hq h.symm
          clear hq
          go_wp2_with (first | (go_at_call 21; refine (deedOf _ _).mono ?_; rintro e w' ⟨rfl, rfl⟩; rw [hd, hi]))
          refine (word1 _).mono ?_
          rintro e w2 ⟨rfl, hb2⟩
          have BN := Lib.hid (Below.trans hb.out (hb2.mono hb.out.size))
          clear hb2
          go_wp2
          go_light
          go_roundw
          case rel => exact ⟨1 + 1, (by omega), (by omega), (by go_num), HN, BN⟩
          case measure => simp [intOf]
      · have hd : deedT 2 = .iface 61 (.agg #[]) := rfl
        have hi : inB 2 1 5 = true := rfl
        have hm := method_word2
        clear h1 h6 h5
        by_cases hq : s.data.toList = wordN 2
        · have HE := Lib.hid (show opT s.data.toList = (2 : Int) by rw [hq]; exact opT_word 2 (by omega) (by omega))
          have he : (wordN 2 == s.toList) = true := by rw [toList_data, hq]; simp
          clear hq
          go_wp2_with (first | (go_at_call 21; refine (deedOf _ _).mono ?_; rintro e w' ⟨rfl, rfl⟩; rw [show deedT (((2 : Nat) : Int)) = .iface 61 (.agg #[]) from hd, show inB (((2 : Nat) : Int)) 1 5 = true from hi]) | (go_at_call 21; refine (deedOf _ _).mono ?_; rintro e w' ⟨rfl, rfl⟩; rw [hd, hi]))
          refine (word2 _).mono ?_
          rintro e w2 ⟨rfl, hb2⟩
          have BN := Lib.hid (Below.trans hb.out (hb2.mono hb.out.size))
          clear hb2
          go_wp2
          go_light
          go_ret
          exact ⟨ret_int HE.out.symm, BN.out⟩
        · have HN : Hid (∀ j, 1 ≤ j → j < 2 + 1 → s.data.toList ≠ wordN j) := fun j g1 g2 => by
            by_cases hj : j = 2
            · subst hj; exact hq
            · exact hG.out j g1 (by omega)
          have he : (wordN 2 == s.toList) = false := by
            rw [beq_eq_false_iff_ne, toList_data]; exact fun h => hq h.symm
          clear hq
          go_wp2_with (first | (go_at_call 21; refine (deedOf _ _).mono ?_; rintro e w' ⟨rfl, rfl⟩; rw [hd, hi]))
          refine (word2 _).mono ?_
          rintro e w2 ⟨rfl, hb2⟩
          have BN := Lib.hid (Below.trans hb.out (hb2.mono hb.out.size))
          clear hb2
          go_wp2
          go_light
          go_roundw
          case rel => exact ⟨2 + 1, (by omega), (by omega), (by go_num), HN, BN⟩
          case measure => simp [intOf]
      · have hd : deedT 3 = .iface 62 (.agg #[]) := rfl
        have hi : inB 3 1 5 = true := rfl
        have hm := method_word3
        clear h1 h6 h5
        by_cases hq : s.data.toList = wordN 3
        · have HE := Lib.hid (show opT s.data.toList = (3 : Int) by rw [hq]; exact opT_word 3 (by omega) (by omega))
          have he : (wordN 3 == s.toList) = true := by rw [toList_data, hq]; simp
          clear hq
          go_wp2_with (first | (go_at_call 21; refine (deedOf _ _).mono ?_; rintro e w' ⟨rfl, rfl⟩; rw [show deedT (((3 : Nat) : Int)) = .iface 62 (.agg #[]) from hd, show inB (((3 : Nat) : Int)) 1 5 = true from hi]) | (go_at_call 21; refine (deedOf _ _).mono ?_; rintro e w' ⟨rfl, rfl⟩; rw [hd, hi]))
          refine (word3 _).mono ?_
          rintro e w2 ⟨rfl, hb2⟩
          have BN := Lib.hid (Below.trans hb.out (hb2.mono hb.out.size))
          clear hb2
          go_wp2
          go_light
          go_ret
          exact ⟨ret_int HE.out.symm, BN.out⟩
        · have HN : Hid (∀ j, 1 ≤ j → j < 3 + 1 → s.data.toList ≠ wordN j) := fun j g1 g2 => by
            by_cases hj : j = 3
            · subst hj; exact hq
            · exact hG.out j g1 (by omega)
          have he : (wordN 3 == s.toList) = false := by
            rw [beq_eq_false_iff_ne, toList_data]; exact fun h => hq h.symm
          clear hq
          go_wp2_with (first | (go_at_call 21; refine (deedOf _ _).mono ?_; rintro e w' ⟨rfl, rfl⟩; rw [hd, hi]))
          refine (word3 _).mono ?_
          rintro e w2 ⟨rfl, hb2⟩
          have BN := Lib.hid (Below.trans hb.out (hb2.mono hb.out.size))
          clear hb2
          go_wp2
          go_light
          go_roundw
          case rel => exact ⟨3 + 1, (by omega), (by omega), (by go_num), HN, BN⟩
          case measure => simp [intOf]
      · have hd : deedT 4 = .iface 63 (.agg #[]) := rfl
        have hi : inB 4 1 5 = true := rfl
        have hm := method_word4
        clear h1 h6 h5
        by_cases hq : s.data.toList = wordN 4
        · have HE := Lib.hid (show opT s.data.toList = (4 : Int) by rw [hq]; exact opT_word 4 (by omega) (by omega))
          have he : (wordN 4 == s.toList) = true := by rw [toList_data, hq]; simp
          clear hq
          go_wp2_with (first | (go_at_call 21; refine (deedOf _ _).mono ?_; rintro e w' ⟨rfl, rfl⟩; rw [show deedT (((4 : Nat) : Int)) = .iface 63 (.agg #[]) from hd, show inB (((4 : Nat) : Int)) 1 5 = true from hi]) | (go_at_call 21; refine (deedOf _ _).mono ?_; rintro e w' ⟨rfl, rfl⟩; rw [hd, hi]))
          refine (word4 _).mono ?_
          rintro e w2 ⟨rfl, hb2⟩
          have BN := Lib.hid (Below.trans hb.out (hb2.mono hb.out.size))
          clear hb2
          go_wp2
          go_light
          go_ret
          exact ⟨ret_int HE.out.symm, BN.out⟩
        · have HN : Hid (∀ j, 1 ≤ j → j < 4 + 1 → s.data.toList ≠ wordN j) := fun j g1 g2 => by
            by_cases hj : j = 4
            · subst hj; exact hq
            · exact hG.out j g1 (by omega)
          have he : (wordN 4 == s.toList) = false := by
            rw [beq_eq_false_iff_ne, toList_data]; exact fun h => hq h.symm
          clear hq
          go_wp2_with (first | (go_at_call 21; refine (deedOf _ _).mono ?_; rintro e w' ⟨rfl, rfl⟩; rw [hd, hi]))
          refine (word4 _).mono ?_
          rintro e w2 ⟨rfl, hb2⟩
          have BN := Lib.hid (Below.trans hb.out (hb2.mono hb.out.size))
          clear hb2
          go_wp2
          go_light
          go_roundw
          case rel => exact ⟨4 + 1, (by omega), (by omega), (by go_num), HN, BN⟩
          case measure => simp [intOf]
      · have hd : deedT 5 = .iface 64 (.agg #[]) := rfl
        have hi : inB 5 1 5 = true := rfl
        have hm := method_word5
        clear h1 h6 h5
        by_cases hq : s.data.toList = wordN 5
        · have HE := Lib.hid (show opT s.data.toList = (5 : Int) by rw [hq]; exact opT_word 5 (by omega) (by omega))
          have he : (wordN 5 == s.toList) = true := by rw [toList_data, hq]; simp
          clear hq
          go_wp2_with (first | (go_at_call 21; refine (deedOf _ _).mono ?_; rintro e w' ⟨rfl, rfl⟩; rw [show deedT (((5 : Nat) : Int)) = .iface 64 (.agg #[]) from hd, show inB (((5 : Nat) : Int)) 1 5 = true from hi]) | (go_at_call 21; refine (deedOf _ _).mono ?_; rintro e w' ⟨rfl, rfl⟩; rw [hd, hi]))
          refine (word5 _).mono ?_
          rintro e w2 ⟨rfl, hb2⟩
          have BN := Lib.hid (Below.trans hb.out (hb2.mono hb.out.size))
          clear hb2
          go_wp2
          go_light
          go_ret
          exact ⟨ret_int HE.out.symm, BN.out⟩
        · have HN : Hid (∀ j, 1 ≤ j → j < 5 + 1 → s.data.toList ≠ wordN j) := fun j g1 g2 => by
            by_cases hj : j = 5
            · subst hj; exact hq
            · exact hG.out j g1 (by omega)
          have he : (wordN 5 == s.toList) = false := by
            rw [beq_eq_false_iff_ne, toList_data]; exact fun h => hq h.symm
          clear hq
          go_wp2_with (first | (go_at_call 21; refine (deedOf _ _).mono ?_; rintro e w' ⟨rfl, rfl⟩; rw [hd, hi]))
          refine (word5 _).mono ?_
          rintro e w2 ⟨rfl, hb2⟩
          have BN := Lib.hid (Below.trans hb.out (hb2.mono hb.out.size))
          clear hb2
          go_wp2
          go_light
          go_roundw
          case rel => exact ⟨5 + 1, (by omega), (by omega), (by go_num), HN, BN⟩
          case measure => simp [intOf]
    · obtain rfl : k = 6 := by omega
      have HE := Lib.hid (opT_none hG.out)
      clear h1 h6 h5
      go_wp2
      go_ret
      exact ⟨ret_int HE.out.symm, hb.out⟩

end Go.Proofs.YtolepfbhhmganaaDoor
