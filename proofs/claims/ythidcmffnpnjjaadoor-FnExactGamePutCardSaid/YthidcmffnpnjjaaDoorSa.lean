/- Numbers and requests as texts: the model's side. -/
import Derived.Test.YthidcmffnpnjjaaDoorY
import Derived.Lib.ItoaLen
import Derived.Lib.Join
import Derived.Laws.BytesArg
import Derived.Laws.Concat
import Derived.Deep.RegionWith
namespace Go.Proofs.YthidcmffnpnjjaaDoor
open Go.ChangeShapes Go.WideShapes Go.ChangeAt Go.RowKit
set_option linter.unusedVariables false
set_option linter.unusedSimpArgs false

abbrev bsV (l : List UInt8) : Value := .string ⟨l.toArray⟩
theorem dec_small {u : Nat} (h : u < 10) : Lib.decDigits u = [UInt8.ofNat (48 + u)] := by rw [Lib.decDigits, dif_pos h]
theorem dec_big {u : Nat} (h : ¬ u < 10) : Lib.decDigits u = Lib.decDigits (u / 10) ++ [UInt8.ofNat (48 + u % 10)] := by rw [Lib.decDigits, dif_neg h]
theorem bs_app (l m : List UInt8) : (⟨l.toArray⟩ : ByteArray) ++ ⟨m.toArray⟩ = ⟨(l ++ m).toArray⟩ := by
  apply ByteArray.ext
  apply Array.toList_inj.1
  simp
theorem below_undrew {k : Nat} {a w : World} (h : Below k a.drew w) : Below k a w := ⟨h.os, h.tape, h.output, h.size, h.block⟩
theorem ret_bs {l m : List UInt8} (h : l = m) : Ending.returned (bsV l) = .returned (bsV m) := by rw [h]
theorem add_bs (X Y : List UInt8) (h : X.length + Y.length ≤ 8388608) (W : World) : (Op.stringOp .add ⟨X.toArray⟩ ⟨Y.toArray⟩).run Tryd.prog W = .ok (.string ⟨(X ++ Y).toArray⟩) W := by
  exact run_string_add_lists (P := Tryd.prog) W X Y (by omega) (by omega)
/-- A text of one byte, made of a new row. -/
theorem conv_one (W : World) (n : Int) : (convert 40 9 (.slice (some ⟨W.heap.size, 0, none⟩) 1 1)).run Tryd.prog (W.alloc (.cells #[.int .u8 n] 5)) = .ok (bsV [UInt8.ofNat n.toNat]) (W.alloc (.cells #[.int .u8 n] 5)) := by
  have h := run_convert_bytes_arg (P := Tryd.prog) (W.alloc (.cells #[.int .u8 n] 5)) 40 5 Tryd.underlying40 Tryd.underlying5 W.heap.size 0 1 1 [n] rfl (fun i hi => by
    obtain rfl : i = 0 := by omega
    rw [cell_of_row _ _ _ _ 5 (0, 0) (heap_alloc_new W _)]; rfl) 9 Tryd.underlying9
  exact h
theorem conv_oneD (W : World) (n : Int) : (convert 40 9 (.slice (some ⟨W.heap.size, 0, none⟩) 1 1)).run Tryd.prog (W.alloc (.cells #[.int .u8 n] 5)).drew = .ok (bsV [UInt8.ofNat n.toNat]) (W.alloc (.cells #[.int .u8 n] 5)).drew := by
  have h := run_convert_bytes_arg (P := Tryd.prog) (W.alloc (.cells #[.int .u8 n] 5)).drew 40 5 Tryd.underlying40 Tryd.underlying5 W.heap.size 0 1 1 [n] rfl (fun i hi => by
    obtain rfl : i = 0 := by omega
    rw [cell_of_row _ _ _ _ 5 (0, 0) (show (W.alloc (.cells #[.int .u8 n] 5)).drew.heap[W.heap.size]? = _ from heap_alloc_new W _)]; rfl) 9 Tryd.underlying9
  exact h
theorem conv_kept {W w' : World} {n : Int} (hb : Below (W.alloc (.cells #[.int .u8 n] 5)).heap.size (W.alloc (.cells #[.int .u8 n] 5)) w') : (convert 40 9 (.slice (some ⟨W.heap.size, 0, none⟩) 1 1)).run Tryd.prog w' = .ok (bsV [UInt8.ofNat n.toNat]) w' := by
  have h := run_convert_bytes_arg (P := Tryd.prog) w' 40 5 Tryd.underlying40 Tryd.underlying5 W.heap.size 0 1 1 [n] rfl (fun i hi => by
    obtain rfl : i = 0 := by omega
    rw [boxed hb, cell_of_row _ _ _ _ 5 (0, 0) (heap_alloc_new W _)]; rfl) 9 Tryd.underlying9
  exact h

theorem conv_keptD {W w' : World} {n : Int} (hb : Below (W.alloc (.cells #[.int .u8 n] 5)).drew.heap.size (W.alloc (.cells #[.int .u8 n] 5)).drew w') : (convert 40 9 (.slice (some ⟨W.heap.size, 0, none⟩) 1 1)).run Tryd.prog w' = .ok (bsV [UInt8.ofNat n.toNat]) w' := by
  have h := run_convert_bytes_arg (P := Tryd.prog) w' 40 5 Tryd.underlying40 Tryd.underlying5 W.heap.size 0 1 1 [n] rfl (fun i hi => by
    obtain rfl : i = 0 := by omega
    have hh : w'.heap[W.heap.size]? = some (.cells #[.int .u8 n] 5) := (hb.block W.heap.size (by simp)).trans (heap_alloc_new W _)
    rw [cell_of_row _ _ _ _ 5 (0, 0) hh]; rfl) 9 Tryd.underlying9
  exact h

set_option maxRecDepth 100000 in
theorem l1Dec_one (n : Int) (w : World) (h0 : 0 ≤ n) (h1 : n < 10) :
    Calls Tryd.prog 25 #[.int .i64 n] w fun e w' => e = .returned (bsV (Lib.decDigits n.toNat)) ∧ Below w.heap.size w w' := by
  have d0 : decide (n < -9223372036854775807) = false := by simp; omega
  have d1 : decide (n < 0) = false := by simp; omega
  have d2 : decide (n < 10) = true := by simpa using h1
  have hw : IntKind.u8.wrap (48 + n) = 48 + n := by have hbits : IntKind.u8.bits = 8 := rfl; simp only [IntKind.wrap, hbits]; simp; omega
  have hk := conv_one
  have HE := Lib.hid (show Lib.decDigits n.toNat = [UInt8.ofNat (48 + n).toNat] by rw [dec_small (by omega), show (48 + n).toNat = 48 + n.toNat from by omega])
  go_enter Tryd.func25, Tryd.ntmps25
  go_wp2
  go_light
  go_ret
  exact ⟨by rw [HE.out]; rfl, (Below.refl _ _).alloc (Nat.le_refl _) _⟩

set_option maxRecDepth 100000 in
set_option maxHeartbeats 1000000 in
theorem l1Dec_pos (k : Nat) : ∀ (n : Int) (w : World), 0 ≤ n → n ≤ 9223372036854775807 → n.toNat ≤ k →
    Calls Tryd.prog 25 #[.int .i64 n] w fun e w' => e = .returned (bsV (Lib.decDigits n.toNat)) ∧ Below w.heap.size w w' := by
  induction k with
  | zero => intro n w h0 h1 hk; exact l1Dec_one n w h0 (by omega)
  | succ k ih =>
    intro n w h0 h1 hk
    by_cases hs : n < 10
    · exact l1Dec_one n w h0 hs
    have d0 : decide (n < -9223372036854775807) = false := by simp; omega
    have d1 : decide (n < 0) = false := by simp; omega
    have d2 : decide (n < 10) = false := by simp; omega
    have hq : n.tdiv 10 = n / 10 := Int.tdiv_eq_ediv_of_nonneg h0
    have hr : n.tmod 10 = n % 10 := Int.tmod_eq_emod_of_nonneg h0
    have r0 : 0 ≤ n % 10 := by omega
    have r1 : n % 10 < 10 := by omega
    have IH := Lib.hid (fun W => ih (n / 10) W (by omega) (by omega) (by omega))
    have hu : IntKind.u8.wrap (48 + n % 10) = 48 + n % 10 := by have hbits : IntKind.u8.bits = 8 := rfl; simp only [IntKind.wrap, hbits]; simp; omega
    have hw : IntKind.i64.wrap (48 + n % 10) = 48 + n % 10 := IntWalk.i64_in _ (by omega)
    have hd : IntKind.i64.wrap (n / 10) = n / 10 := IntWalk.i64_in _ (by omega)
    have hk := conv_one
    have hkD := conv_oneD
    have HE := Lib.hid (show Lib.decDigits n.toNat = Lib.decDigits (n / 10).toNat ++ [UInt8.ofNat (48 + n % 10).toNat] by
      rw [dec_big (by omega), show (n / 10).toNat = n.toNat / 10 from by omega, show (48 + n % 10).toNat = 48 + n.toNat % 10 from by omega])
    have HA := add_bs (Lib.decDigits (n / 10).toNat) [UInt8.ofNat (48 + n % 10).toNat] (by have := Lib.nDigits_le20 (n / 10).toNat (by omega); rw [Lib.decDigits_length]; simp; omega)
    clear ih h1 hs
    go_enter Tryd.func25, Tryd.ntmps25
    go_wp2_with (fail)
    go_region_with ((go_at_call 25; refine (IH.out _).mono ?_; rintro e w' ⟨rfl, hb⟩; (first | have HK2 := conv_kept hb | have HK2 := conv_keptD hb | skip)))
    all_goals go_wp2
    all_goals go_light
    all_goals go_ret
    all_goals refine ⟨by rw [HE.out]; rfl, ?_⟩
    all_goals first | exact (below_undrew hb).alloc (below_undrew hb).size _ | exact below_box (below_undrew hb)

theorem itoa_nonneg {n : Int} (h : 0 ≤ n) : Lib.itoa n = Lib.decDigits n.toNat := by unfold Lib.itoa; rw [if_neg (by omega)]
theorem itoa_neg' {n : Int} (h : n < 0) : Lib.itoa n = 45 :: Lib.decDigits n.natAbs := by unfold Lib.itoa; rw [if_pos h]
theorem itoa_len (n : Int) (h0 : -9223372036854775807 ≤ n) (h1 : n ≤ 9223372036854775807) : (Lib.itoa n).length ≤ 21 := by
  unfold Lib.itoa
  split
  · rw [List.length_cons, Lib.decDigits_length]; have := Lib.nDigits_le20 n.natAbs (by omega); omega
  · rw [Lib.decDigits_length]; have := Lib.nDigits_le20 n.toNat (by omega); omega
set_option maxRecDepth 100000 in
theorem l1Dec (n : Int) (w : World) (h0 : -9223372036854775807 ≤ n) (h1 : n ≤ 9223372036854775807) :
    Calls Tryd.prog 25 #[.int .i64 n] w fun e w' => e = .returned (bsV (Lib.itoa n)) ∧ Below w.heap.size w w' := by
  by_cases hn : 0 ≤ n
  · rw [itoa_nonneg hn]; exact l1Dec_pos n.toNat n w hn h1 (Nat.le_refl _)
  have d0 : decide (n < -9223372036854775807) = false := by simp; omega
  have d1 : decide (n < 0) = true := by simp; omega
  have HE := Lib.hid (show Lib.itoa n = [45] ++ Lib.decDigits (-n).toNat by rw [itoa_neg' (by omega), show (-n).toNat = n.natAbs from by omega]; rfl)
  have HA := add_bs [45] (Lib.decDigits (-n).toNat) (by have := Lib.nDigits_le20 (-n).toNat (by omega); rw [Lib.decDigits_length]; simp; omega)
  have hw : IntKind.i64.wrap (-n) = -n := IntWalk.i64_in _ (by omega)
  go_enter Tryd.func25, Tryd.ntmps25
  go_wp2_with (fail)
  refine (l1Dec_pos (-n).toNat (-n) _ (by omega) (by omega) (Nat.le_refl _)).mono ?_
  rintro e w1 ⟨rfl, hb⟩
  go_wp2
  go_light
  go_ret
  exact ⟨by rw [HE.out]; rfl, hb⟩
end Go.Proofs.YthidcmffnpnjjaaDoor
