/- Numbers and requests as texts: the model's side. -/
import Derived.Test.YtfbfhgejclencaaMH
import Derived.Lib.ItoaLen
import Derived.Lib.Join
import Derived.Laws.BytesArg
import Derived.Laws.Concat
import Derived.Deep.RegionWith
namespace Go.Proofs.Ytfbfhgejclencaa
open Go.ChangeShapes Go.WideShapes Go.ChangeAt Go.RowKit
set_option linter.unusedVariables false
set_option linter.unusedSimpArgs false

abbrev bsV (l : List UInt8) : Value := .string ⟨l.toArray⟩
theorem dec_small {u : Nat} (h : u < 10) : Lib.decDigits u = [UInt8.ofNat (48 + u)] := by rw [Lib.decDigits, dif_pos h]
theorem dec_big {u : Nat} (h : ¬ u < 10) : Lib.decDigits u = Lib.decDigits (u / 10) ++ [UInt8.ofNat (48 + u % 10)] := by rw [Lib.decDigits, dif_neg h]
theorem bs_app (l m : List UInt8) : (⟨l.toArray⟩ : ByteArray) ++ ⟨m.toArray⟩ = ⟨(l ++ m).toArray⟩ := by
  apply ByteArray.ext
  apply Array.toList_inj.1
  simp
theorem below_undrew {k : Nat} {a w : World} (h : Below k a.drew w) : Below k a w := ⟨h.os, h.tape, h.output, h.size, h.block⟩
theorem ret_bs {l m : List UInt8} (h : l = m) : Ending.returned (bsV l) = .returned (bsV m) := by rw [h]
theorem add_bs (X Y : List UInt8) (h : X.length + Y.length ≤ 8388608) (W : World) : (Op.stringOp .add ⟨X.toArray⟩ ⟨Y.toArray⟩).run Try.prog W = .ok (.string ⟨(X ++ Y).toArray⟩) W := by
  exact run_string_add_lists (P := Try.prog) W X Y (by omega) (by omega)
/-- A text of one byte, made of a new row. -/
theorem conv_one (W : World) (n : Int) : (convert 33 9 (.slice (some ⟨W.heap.size, 0, none⟩) 1 1)).run Try.prog (W.alloc (.cells #[.int .u8 n] 5)) = .ok (bsV [UInt8.ofNat n.toNat]) (W.alloc (.cells #[.int .u8 n] 5)) := by
  have h := run_convert_bytes_arg (P := Try.prog) (W.alloc (.cells #[.int .u8 n] 5)) 33 5 Try.underlying33 Try.underlying5 W.heap.size 0 1 1 [n] rfl (fun i hi => by
    obtain rfl : i = 0 := by omega
    rw [cell_of_row _ _ _ _ 5 (0, 0) (heap_alloc_new W _)]; rfl) 9 Try.underlying9
  exact h
theorem conv_oneD (W : World) (n : Int) : (convert 33 9 (.slice (some ⟨W.heap.size, 0, none⟩) 1 1)).run Try.prog (W.alloc (.cells #[.int .u8 n] 5)).drew = .ok (bsV [UInt8.ofNat n.toNat]) (W.alloc (.cells #[.int .u8 n] 5)).drew := by
  have h := run_convert_bytes_arg (P := Try.prog) (W.alloc (.cells #[.int .u8 n] 5)).drew 33 5 Try.underlying33 Try.underlying5 W.heap.size 0 1 1 [n] rfl (fun i hi => by
    obtain rfl : i = 0 := by omega
    rw [cell_of_row _ _ _ _ 5 (0, 0) (show (W.alloc (.cells #[.int .u8 n] 5)).drew.heap[W.heap.size]? = _ from heap_alloc_new W _)]; rfl) 9 Try.underlying9
  exact h
theorem conv_kept {W w' : World} {n : Int} (hb : Below (W.alloc (.cells #[.int .u8 n] 5)).heap.size (W.alloc (.cells #[.int .u8 n] 5)) w') : (convert 33 9 (.slice (some ⟨W.heap.size, 0, none⟩) 1 1)).run Try.prog w' = .ok (bsV [UInt8.ofNat n.toNat]) w' := by
  have h := run_convert_bytes_arg (P := Try.prog) w' 33 5 Try.underlying33 Try.underlying5 W.heap.size 0 1 1 [n] rfl (fun i hi => by
    obtain rfl : i = 0 := by omega
    rw [boxed hb, cell_of_row _ _ _ _ 5 (0, 0) (heap_alloc_new W _)]; rfl) 9 Try.underlying9
  exact h

theorem conv_keptD {W w' : World} {n : Int} (hb : Below (W.alloc (.cells #[.int .u8 n] 5)).drew.heap.size (W.alloc (.cells #[.int .u8 n] 5)).drew w') : (convert 33 9 (.slice (some ⟨W.heap.size, 0, none⟩) 1 1)).run Try.prog w' = .ok (bsV [UInt8.ofNat n.toNat]) w' := by
  have h := run_convert_bytes_arg (P := Try.prog) w' 33 5 Try.underlying33 Try.underlying5 W.heap.size 0 1 1 [n] rfl (fun i hi => by
    obtain rfl : i = 0 := by omega
    have hh : w'.heap[W.heap.size]? = some (.cells #[.int .u8 n] 5) := (hb.block W.heap.size (by simp)).trans (heap_alloc_new W _)
    rw [cell_of_row _ _ _ _ 5 (0, 0) hh]; rfl) 9 Try.underlying9
  exact h

theorem itoa_nonneg {n : Int} (h : 0 ≤ n) : Lib.itoa n = Lib.decDigits n.toNat := by unfold Lib.itoa; rw [if_neg (by omega)]
theorem itoa_neg' {n : Int} (h : n < 0) : Lib.itoa n = 45 :: Lib.decDigits n.natAbs := by unfold Lib.itoa; rw [if_pos h]
theorem itoa_len (n : Int) (h0 : -9223372036854775807 ≤ n) (h1 : n ≤ 9223372036854775807) : (Lib.itoa n).length ≤ 21 := by
  unfold Lib.itoa
  split
  · rw [List.length_cons, Lib.decDigits_length]; have := Lib.nDigits_le20 n.natAbs (by omega); omega
  · rw [Lib.decDigits_length]; have := Lib.nDigits_le20 n.toNat (by omega); omega
end Go.Proofs.Ytfbfhgejclencaa
