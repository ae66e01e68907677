/- The sum of a text, both ways. -/
import Derived.Test.YtmnephaechgffaaDoorCa
namespace Go.Proofs.YtmnephaechgffaaDoor
open Go.ChangeShapes Go.WideShapes Go.ChangeAt Go.RowKit
set_option linter.unusedVariables false
set_option linter.unusedSimpArgs false

def crcF (l : List UInt8) (c : Nat) : Nat := l.foldl (fun c b => cbits 8 (c ^^^ b.toNat)) c
def crcN (l : List UInt8) : Nat := crcF l 4294967295 ^^^ 4294967295
theorem crcF_lt : ∀ (l : List UInt8) (c : Nat), c < 4294967296 → crcF l c < 4294967296
  | [], _, h => h
  | b :: l, c, h => crcF_lt l _ (cbits_lt (Nat.xor_lt_two_pow (n := 32) h (by have := b.toNat_lt; omega)) 8)
theorem crcF_snoc (l : List UInt8) (b : UInt8) (c : Nat) : crcF (l ++ [b]) c = cbits 8 (crcF l c ^^^ b.toNat) := by
  unfold crcF
  rw [List.foldl_append]
  rfl
theorem cbit_at (c k : Nat) : cbits (k + 1) c = cbit (cbits k c) := rfl
theorem take_snocB (s : ByteArray) (k : Nat) (h : k < s.size) : s.data.toList.take (k + 1) = s.data.toList.take k ++ [s[k]'h] := by
  have hl : k < s.data.toList.length := by simpa using h
  rw [List.take_succ_eq_append_getElem hl]
  rfl
theorem take_allB (s : ByteArray) : s.data.toList.take s.size = s.data.toList := List.take_of_length_le (by simp)

set_option maxRecDepth 100000 in
set_option maxHeartbeats 2000000 in
theorem implCrc (s : ByteArray) (w : World) (hs : s.size ≤ 1048577) :
    Calls Tryd.prog 62 #[.string s] w fun e w' => e = .returned (.int .i64 (crcN s.data.toList : Nat)) ∧ w = w' := by
  have HSZ := Lib.hid hs
  clear hs
  go_enter Tryd.func62, Tryd.ntmps62
  go_wp2
  go_loopw [3, 7] (fun v u wr => ∃ k : Nat, k ≤ s.size ∧ v = .int .u32 ((crcF (s.data.toList.take k) 4294967295 : Nat) : Int) ∧ u = .int .i64 (k : Int) ∧ wr = w) (fun _ u _ => s.size - (intOf u).toNat)
  case atStart => exact ⟨0, Nat.zero_le _, rfl, rfl, rfl⟩
  case round =>
    obtain ⟨k, hk, rfl, rfl, rfl⟩ := hrel
    have hlt := crcF_lt (s.data.toList.take k) 4294967295 (by decide)
    by_cases h8 : k < s.size
    · have HS := Lib.hid (show crcF (s.data.toList.take (k + 1)) 4294967295 = cbits 8 (crcF (s.data.toList.take k) 4294967295 ^^^ (s[k]'h8).toNat) by rw [take_snocB s k h8, crcF_snoc])
      obtain ⟨x, hx⟩ : ∃ X, X = crcF (s.data.toList.take k) 4294967295 := ⟨_, rfl⟩
      rw [← hx] at hlt HS ⊢
      clear hx
      have i0 : (0 : Int) ≤ (k : Int) := by omega
      have i1 : (k : Int) < (s.size : Int) := by omega
      have hb8 := (s[k]'h8).toNat_lt
      have ew : IntKind.u32.wrap (((s[k]'h8).toNat : Nat) : Int) = (((s[k]'h8).toNat : Nat) : Int) := by rw [IntKind.wrap_u32']; omega
      have ex := u32_xor_nat x (s[k]'h8).toNat hlt (by omega)
      have hl2 : x ^^^ (s[k]'h8).toNat < 4294967296 := Nat.xor_lt_two_pow (n := 32) hlt (by omega)
      have hsz := HSZ.out
      generalize hy : x ^^^ (s[k]'h8).toNat = y at ex HS hl2
      have HL := Lib.hid hl2
      clear hy hl2
      go_wp2_with (fail)
      refine (crcByte y _ HL.out).mono ?_
      rintro e w1 ⟨rfl, rfl⟩
      go_wp2
      go_roundw
      case rel => exact ⟨k + 1, by omega, by rw [HS.out], by go_num, by first | rfl | trivial⟩
      case measure => (simp [intOf]; try omega)
    · obtain rfl : k = s.size := by omega
      have i1 : ¬ ((s.size : Int) < (s.size : Int)) := by omega
      have HX := Lib.hid (show crcN s.data.toList = crcF (s.data.toList.take s.size) 4294967295 ^^^ 4294967295 by rw [take_allB]; rfl)
      obtain ⟨x, hx⟩ : ∃ X, X = crcF (s.data.toList.take s.size) 4294967295 := ⟨_, rfl⟩
      rw [← hx] at hlt HX ⊢
      clear hx
      have ex := u32_xor_nat 4294967295 x (by decide) hlt
      rw [Nat.xor_comm] at ex
      have ex : bits .xor .u32 IntKind.u32.max (x : Int) = ((x ^^^ 4294967295 : Nat) : Int) := ex
      have hl2 : x ^^^ 4294967295 < 4294967296 := Nat.xor_lt_two_pow (n := 32) hlt (by decide)
      generalize hy : x ^^^ 4294967295 = y at ex HX hl2
      clear hy
      have ew : wrap64 (y : Int) = (y : Int) := by unfold wrap64; omega
      go_wp2
      go_light
      go_ret
      exact ⟨by rw [HX.out]; rfl, rfl⟩

set_option maxRecDepth 100000 in
set_option maxHeartbeats 2000000 in
theorem specL7 (s : ByteArray) (w : World) (hs : s.size ≤ 1048577) :
    Calls Tryd.prog 68 #[.string s] w fun e w' => e = .returned (.int .i64 (crcN s.data.toList : Nat)) ∧ w = w' := by
  have HSZ := Lib.hid hs
  clear hs
  go_enter Tryd.func68, Tryd.ntmps68
  go_wp2
  go_loopw [3, 4] (fun v u wr => ∃ k : Nat, k ≤ s.size ∧ v = .int .i64 ((crcF (s.data.toList.take k) 4294967295 : Nat) : Int) ∧ u = .int .i64 (k : Int) ∧ wr = w) (fun _ u _ => s.size - (intOf u).toNat)
  case atStart => exact ⟨0, Nat.zero_le _, rfl, rfl, rfl⟩
  case round =>
    obtain ⟨k, hk, rfl, rfl, rfl⟩ := hrel
    have hlt := crcF_lt (s.data.toList.take k) 4294967295 (by decide)
    by_cases h8 : k < s.size
    · have HS := Lib.hid (show crcF (s.data.toList.take (k + 1)) 4294967295 = cbits 8 (crcF (s.data.toList.take k) 4294967295 ^^^ (s[k]'h8).toNat) by rw [take_snocB s k h8, crcF_snoc])
      obtain ⟨x, hx⟩ : ∃ X, X = crcF (s.data.toList.take k) 4294967295 := ⟨_, rfl⟩
      rw [← hx] at hlt HS ⊢
      clear hx
      have i0 : (0 : Int) ≤ (k : Int) := by omega
      have i1 : (k : Int) < (s.size : Int) := by omega
      have hb8 := (s[k]'h8).toNat_lt
      have ew : IntKind.i64.wrap (((s[k]'h8).toNat : Nat) : Int) = (((s[k]'h8).toNat : Nat) : Int) := IntWalk.i64_in _ (by omega)
      have ex := i64_xorC x (s[k]'h8).toNat hlt (by omega)
      have hl2 : x ^^^ (s[k]'h8).toNat < 4294967296 := Nat.xor_lt_two_pow (n := 32) hlt (by omega)
      have hsz := HSZ.out
      generalize hy : x ^^^ (s[k]'h8).toNat = y at ex HS hl2
      have HL := Lib.hid hl2
      clear hy hl2
      go_wp2
      clear ex ew
      go_loopw [3, 5] (fun v u wq => ∃ j : Nat, j ≤ 8 ∧ v = .int .i64 ((cbits j y : Nat) : Int) ∧ u = .int .i64 (j : Int) ∧ wq = wr) (fun _ u _ => 8 - (intOf u).toNat)
      case atStart => exact ⟨0, by omega, rfl, rfl, rfl⟩
      case round =>
        obtain ⟨j, hj, rfl, rfl, rfl⟩ := hrel
        have hlz := cbits_lt HL.out j
        have HJ := Lib.hid (cbit_at y j)
        by_cases h9 : j < 8
        · obtain ⟨z, hz⟩ : ∃ X, X = cbits j y := ⟨_, rfl⟩
          rw [← hz] at hlz HJ ⊢
          clear hz
          have j1 : (j : Int) < 8 := by omega
          have h2 : z / 2 < 4294967296 := by omega
          have ex := i64_xorC (z / 2) 3988292384 h2 (by decide)
          have ed : ((z : Int) / 2) = ((z / 2 : Nat) : Int) := by omega
          by_cases hp : z % 2 = 1
          · have HB := Lib.hid (show cbit z = (z / 2) ^^^ 3988292384 by unfold cbit cpoly; rw [if_pos hp])
            have ea : (z : Int) % 2 = 1 := by omega
            have ex : bits .xor .i64 ((z : Int) / 2) 3988292384 = (((z / 2) ^^^ 3988292384 : Nat) : Int) := by rw [ed]; exact ex
            generalize hy : (z / 2) ^^^ 3988292384 = q at ex HB
            clear hy ed
            go_wp2
            go_roundw
            case rel => exact ⟨j + 1, by omega, by rw [HJ.out, HB.out], by go_num, by first | rfl | trivial⟩
            case measure => (simp [intOf]; try omega)
          · have HB := Lib.hid (show cbit z = z / 2 by unfold cbit; rw [if_neg hp])
            have ea : (z : Int) % 2 = 0 := by omega
            have HE := Lib.hid ed
            clear ex ed
            go_wp2
            go_roundw
            case rel => exact ⟨j + 1, by omega, by rw [HJ.out, HB.out, HE.out], by go_num, by first | rfl | trivial⟩
            case measure => (simp [intOf]; try omega)
        · obtain rfl : j = 8 := by omega
          go_wp2
          go_roundw
          case rel => exact ⟨k + 1, by omega, by rw [HS.out], by go_num, by first | rfl | trivial⟩
          case measure => (simp [intOf]; try omega)
    · obtain rfl : k = s.size := by omega
      have i1 : ¬ ((s.size : Int) < (s.size : Int)) := by omega
      have HX := Lib.hid (show crcN s.data.toList = crcF (s.data.toList.take s.size) 4294967295 ^^^ 4294967295 by rw [take_allB]; rfl)
      obtain ⟨x, hx⟩ : ∃ X, X = crcF (s.data.toList.take s.size) 4294967295 := ⟨_, rfl⟩
      rw [← hx] at hlt HX ⊢
      clear hx
      have ex := i64_xorC x 4294967295 hlt (by decide)
      have ex : bits .xor .i64 (x : Int) 4294967295 = ((x ^^^ 4294967295 : Nat) : Int) := ex
      generalize hy : x ^^^ 4294967295 = y at ex HX
      clear hy
      go_wp2
      go_light
      go_ret
      exact ⟨by rw [HX.out]; rfl, rfl⟩
end Go.Proofs.YtmnephaechgffaaDoor
