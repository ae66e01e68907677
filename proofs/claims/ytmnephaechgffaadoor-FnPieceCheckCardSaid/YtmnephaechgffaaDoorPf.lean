/- Pieces joined, both ways; rows of texts laid anew, sized, as they came in. -/
import Derived.Test.YtmnephaechgffaaDoorPe
import Derived.Test.YtmnephaechgffaaDoorHc
namespace Go.Proofs.YtmnephaechgffaaDoor
open Go.ChangeShapes Go.WideShapes Go.ChangeAt Go.RowKit
set_option linter.unusedVariables false
set_option linter.unusedSimpArgs false

def joinL (D : List ByteArray) : ByteArray := D.foldl (fun a b => a ++ b) ⟨#[]⟩
def joinR (D : List ByteArray) : ByteArray × Bool := if wfB D then (joinL D, true) else (⟨#[]⟩, false)
theorem joinL_succ (D : List ByteArray) (j : Nat) (h : j < D.length) : joinL (D.take (j + 1)) = joinL (D.take j) ++ D[j] := by
  unfold joinL
  rw [List.take_succ_eq_append_getElem h, List.foldl_append]
  rfl
theorem bs_data (a b : ByteArray) : (a ++ b).data.toList = a.data.toList ++ b.data.toList := by simp
theorem joinL_data (D : List ByteArray) : (joinL D).data.toList = (D.map (·.data.toList)).flatten := by
  have key : ∀ (D : List ByteArray) (a : ByteArray), (D.foldl (fun a b => a ++ b) a).data.toList = a.data.toList ++ (D.map (·.data.toList)).flatten := by
    intro D
    induction D with
    | nil => intro a; simp
    | cons x D ih =>
      intro a
      rw [List.foldl_cons, ih, bs_data]
      simp
  have := key D ⟨#[]⟩
  simpa [joinL] using this
theorem join_flat (xs : List (List UInt8)) : Lib.join xs [] = xs.flatten := by
  rcases xs with _ | ⟨x, r⟩
  · rfl
  · rw [Lib.join_cons]
    simp [Lib.joinTail]
theorem joinL_eq (D : List ByteArray) : (⟨(Lib.join (D.map (·.data.toList)) (⟨#[]⟩ : ByteArray).data.toList).toArray⟩ : ByteArray) = joinL D := by
  have h := joinL_data D
  show (⟨(Lib.join (D.map (·.data.toList)) []).toArray⟩ : ByteArray) = joinL D
  rw [join_flat, ← h]
theorem wfB_small {D : List ByteArray} (h : wfB D = true) : 1 ≤ D.length ∧ D.length ≤ 16 ∧ ∀ x ∈ D, x.size ≤ 12 := by
  rcases split_last D with rfl | ⟨I, x, rfl⟩
  · cases h
  · rw [wfB_app] at h
    unfold wfI at h
    simp only [Bool.and_eq_true, decide_eq_true_iff, List.all_eq_true] at h
    refine ⟨by simp, by simp; omega, fun y hy => ?_⟩
    rcases List.mem_append.1 hy with hy | hy
    · have := h.2.1 y hy
      simp at this
      omega
    · simp only [List.mem_singleton] at hy
      subst hy
      exact h.2.2.1
theorem flat_len (D : List ByteArray) (m : Nat) (h : ∀ x ∈ D, x.size ≤ m) : (D.map (·.data.toList)).flatten.length ≤ m * D.length := by
  induction D with
  | nil => simp
  | cons x D ih =>
    have h1 := ih (fun y hy => h y (List.mem_cons_of_mem _ hy))
    have h2 := h x (List.Mem.head _)
    have h3 : x.data.toList.length = x.size := by simp
    simp only [List.map_cons, List.flatten_cons, List.length_append, List.length_cons]
    rw [h3, Nat.mul_succ]
    omega
theorem joinL_len (D : List ByteArray) (m : Nat) (h : ∀ x ∈ D, x.size ≤ m) : (joinL D).size ≤ m * D.length := by
  have h1 := flat_len D m h
  rw [← joinL_data] at h1
  simpa using h1

set_option maxRecDepth 100000 in
set_option maxHeartbeats 4000000 in
theorem implPieceJoin (D : List ByteArray) (A : Option Addr) (a : Nat) (w : World) (hD : D.length ≤ 1048576) (hc : D.length ≤ a) (hr : Rd 1 cS w A D) :
    Calls Tryd.prog 58 #[.slice A D.length a] w fun e w' => e = .returned (.tuple #[.string (joinR D).1, .bool (joinR D).2]) ∧ Below w.heap.size w w' := by
  have HR := Lib.hid hr
  clear hr
  go_enter Tryd.func58, Tryd.ntmps58
  go_wp2_with (fail)
  refine (implWell D A a _ hD hc HR.out).mono ?_
  rintro e w1 ⟨rfl, hb⟩
  have BB := Lib.hid hb
  rcases hw : wfB D with _ | _
  · have HJ := Lib.hid (show joinR D = (⟨#[]⟩, false) by unfold joinR; rw [hw]; rfl)
    clear hw hb
    go_wp2
    exact bodyPost_ret (v := .tuple #[.string ⟨#[]⟩, .bool false]) (by simp [results, Tryd.results58, go_sem]) rfl ⟨by rw [HJ.out], BB.out⟩
  have HJ := Lib.hid (show joinR D = (joinL D, true) by unfold joinR; rw [hw]; rfl)
  obtain ⟨h1, h16, hs⟩ := wfB_small hw
  obtain ⟨bk, o, rfl, c0⟩ := Rd.below HR.out hb 0 h1
  have HC := Lib.hid (show ∀ (j : Nat) x, D[j]? = some x → w1.cell? ⟨bk, o + j, none⟩ = some (.string x) by
    intro j x hx
    obtain ⟨hj, rfl⟩ := List.getElem?_eq_some_iff.1 hx
    obtain ⟨b2, o2, e2, c2⟩ := Rd.below HR.out hb j hj
    cases e2
    simpa using c2 0 _ rfl)
  have HK := Lib.hid (show bk < w1.heap.size from World.block_lt_of_cell? w1 _ (c0 0 _ rfl))
  have HE := Lib.hid (joinL_eq D)
  have HF := Lib.hid (show (Lib.join (D.map (·.data.toList)) (⟨#[]⟩ : ByteArray).data.toList).length ≤ 140737488355328 by
    show (Lib.join (D.map (·.data.toList)) []).length ≤ _
    rw [join_flat]
    have := flat_len D 12 hs
    omega)
  clear hw hb c0 hs
  go_wp2_with (fail)
  refine (Tryd.strings_Join bk o a D ⟨#[]⟩ _ HC.out HK.out (by omega) hc HF.out).mono ?_
  rintro e w2 ⟨rfl, hb⟩
  rw [HE.out]
  have BB := Lib.hid (Below.and BB.out hb)
  clear hb
  go_wp2
  exact bodyPost_ret (v := .tuple #[.string (joinL D), .bool true]) (by simp [results, Tryd.results58, go_sem]) rfl ⟨by rw [HJ.out], BB.out⟩

set_option maxRecDepth 100000 in
set_option maxHeartbeats 4000000 in
theorem specPieceJoin (D : List ByteArray) (A : Option Addr) (a : Nat) (w : World) (hD : D.length ≤ 1048576) (hc : D.length ≤ a) (hr : Rd 1 cS w A D) :
    Calls Tryd.prog 56 #[.slice A D.length a] w fun e w' => e = .returned (.tuple #[.string (joinR D).1, .bool (joinR D).2]) ∧ Below w.heap.size w w' := by
  have HR := Lib.hid hr
  clear hr
  go_enter Tryd.func56, Tryd.ntmps56
  go_wp2_with (fail)
  refine (specL12 D A a _ hD HR.out).mono ?_
  rintro e w1 ⟨rfl, hb⟩
  have BB := Lib.hid hb
  have HR1 := Lib.hid (Rd.below HR.out hb)
  rcases hw : wfB D with _ | _
  · have HJ := Lib.hid (show joinR D = (⟨#[]⟩, false) by unfold joinR; rw [hw]; rfl)
    clear hw hb
    go_wp2
    exact bodyPost_ret (v := .tuple #[.string ⟨#[]⟩, .bool false]) (by simp [results, Tryd.results56, go_sem]) rfl ⟨by rw [HJ.out], BB.out⟩
  have HJ := Lib.hid (show joinR D = (joinL D, true) by unfold joinR; rw [hw]; rfl)
  obtain ⟨h1, h16, hs⟩ := wfB_small hw
  have HSZ := Lib.hid hs
  clear hw hb hs HR
  go_wp2
  go_loopw [4, 5] (fun ov v wr => ∃ j : Nat, j ≤ D.length ∧ v = .int .i64 (j : Int) ∧ wr = w1 ∧ ov = .string (joinL (D.take j))) (fun _ v _ => D.length - (intOf v).toNat)
  case atStart => exact ⟨0, Nat.zero_le _, rfl, rfl, rfl⟩
  case round =>
    obtain ⟨j, hj, rfl, rfl, rfl⟩ := hrel
    by_cases hlt : j < D.length
    · have i0 : (0 : Int) ≤ (j : Int) := by omega
      have i1 : (j : Int) < (D.length : Int) := by omega
      have HN := Lib.hid (joinL_succ D j hlt)
      have hz := joinL_len (D.take j) 12 (fun x hx => HSZ.out x (List.mem_of_mem_take hx))
      rw [List.length_take, Nat.min_eq_left (by omega)] at hz
      have hx := HSZ.out _ (List.getElem_mem hlt)
      obtain ⟨g, o, rfl, ca⟩ := HR1.out j hlt
      generalize D[j] = x at ca HN hx
      have xr0 : wr.cell? ⟨g, o + j, none⟩ = some (.string x) := by simpa using ca 0 _ rfl
      clear ca
      obtain ⟨ob, hob⟩ : ∃ ob, ob = joinL (D.take j) := ⟨_, rfl⟩
      rw [← hob] at HN hz ⊢
      clear hob
      go_wp2
      go_roundw
      case rel => exact ⟨j + 1, by omega, by go_num, trivial, by rw [HN.out]⟩
      case measure => (simp [intOf]; try omega)
    · have i1 : ¬ (j : Int) < (D.length : Int) := by omega
      obtain rfl : j = D.length := by omega
      have HE := Lib.hid (show joinL (D.take D.length) = joinL D by rw [List.take_length])
      go_wp2
      exact bodyPost_ret (v := .tuple #[.string (joinL (D.take D.length)), .bool true]) (by simp [results, Tryd.results56, go_sem]) rfl ⟨by rw [HJ.out, HE.out], BB.out⟩

set_option maxRecDepth 100000 in
set_option maxHeartbeats 2000000 in
theorem toStringS (A : Option Addr) (c : Nat) (l : List ByteArray) (w : World) (hl : l.length ≤ 1048576) (h : Rd 1 cS w A l) :
    Calls Tryd.prog 18 #[.slice A l.length c] w fun e w' => ∃ g, e = .returned (.slice (some ⟨g, 0, none⟩) l.length l.length) ∧ OwS w' w.heap.size (some ⟨g, 0, none⟩) l.length l ∧ Below w.heap.size w w' := by
  obtain ⟨i0, hi, hz0, hz1, hz2⟩ := info_parts infoStrS
  obtain ⟨w1, hmk, hown, hg1⟩ := run_make_full (P := Tryd.prog) w w.heap.size 30 9 i0 _ 1 Tryd.underlying30 hi hz0 hz1 .i64 .i64 l.length (by rw [hz2]; omega) (by unfold maxLen; omega) (Nat.le_refl _)
  have B1 := Below.of_none hg1
  have hx : l.length * 1 = ((madeCells (Value.string ⟨#[]⟩).cells (l.length * 1)).toList).length := by have := hown.1; omega
  generalize (madeCells (Value.string ⟨#[]⟩).cells (l.length * 1)).toList = xs at hown hx
  have HI := Lib.hid h
  have HX := Lib.hid (show l.length = xs.length by omega)
  have HO := Lib.hid hown
  have HB := Lib.hid B1
  clear h hx hown hg1 B1 hi hz0 hz1 hz2
  go_enter Tryd.func18, Tryd.ntmps18
  go_wp2
  go_loopw [4] (fun i wr => ∃ j : Nat, j ≤ l.length ∧ i = .int .i64 j ∧ Hid (wr.ownsRow w.heap.size 9 1 (.slice (some ⟨w.heap.size, 0, none⟩) l.length l.length) l.length ((l.take j).flatMap cS ++ xs.drop j)) ∧ Hid (w1.grownBy wr (some w.heap.size))) (fun i _ => l.length - (intOf i).toNat)
  case atStart => exact ⟨0, Nat.zero_le _, rfl, by simpa [Hid] using HO.out, World.grownBy.refl _ _⟩
  case round =>
    obtain ⟨j, hj, rfl, ho, hg⟩ := hrel
    by_cases hlt : j < l.length
    · obtain ⟨b, off, rfl, ca⟩ := HI.out j hlt
      have c0 : w.cell? ⟨b, off + j, none⟩ = some (.string l[j]) := by simpa using ca 0 _ rfl
      have c1 : wr.cell? ⟨b, off + j, none⟩ = some (.string l[j]) := hg.out.cell (cell_kept HB.out c0) (by have := World.block_lt_of_cell? w _ c0; simp at this ⊢; omega)
      have hlen : ((l.take j).flatMap cS).length = j := by rw [rows_length 1 cS (fun _ => rfl), List.length_take]; omega
      have e1 : (l.take (j + 1)).flatMap cS = (l.take j).flatMap cS ++ [.string l[j]] := by rw [List.take_succ_eq_append_getElem hlt, List.flatMap_append]; rfl
      have hf := fun p => ho.out.frozenAt p
      obtain ⟨u0, hu0⟩ : ∃ u, wr.cell? ⟨w.heap.size, j, none⟩ = some u := ⟨_, (ho.out.cellAt j (by omega)).trans (List.getElem?_eq_getElem (by have := HX.out; simp only [List.length_append, List.length_drop]; omega))⟩
      obtain ⟨s1, s2⟩ := store1 j (.string l[j]) hlen (by have := HX.out; omega) ho.out
      rw [← e1] at s1
      have S1 := Lib.hid s1
      have S2 := Lib.hid (grownBy_trans hg.out s2)
      clear s1 s2 ca c0 hlen e1
      generalize l[j] = x at c1 S1 S2
      have i0 : (0 : Int) ≤ (j : Int) := by omega
      have i1 : (j : Int) < (l.length : Int) := by omega
      go_wp2
      go_roundw
      case rel => exact ⟨j + 1, by omega, by go_num, S1.out, S2.out⟩
      case measure => (simp [intOf]; try omega)
    · have i1 : ¬ (j : Int) < (l.length : Int) := by omega
      obtain rfl : j = l.length := by omega
      have h9 := ho.out
      rw [List.take_length, List.drop_of_length_le (by have := HX.out; omega), List.append_nil] at h9
      have H9 := Lib.hid h9
      have HZ := Lib.hid (Below.trans HB.out (Below.of_grown hg.out HB.out.size (by rintro k hk; cases hk; omega)))
      clear h9 ho hg
      go_wp2
      go_light
      go_ret
      exact ⟨_, rfl, H9.out, HZ.out⟩

set_option maxRecDepth 100000 in
set_option maxHeartbeats 2000000 in
def SzD (n : Nat) (w : World) (e : Ending) (w' : World) : Prop := ∃ v : Int, e = .returned (.int .i64 v) ∧ (v < 0 ∨ n ≤ 1048576) ∧ w' = w
theorem szStringS (A : Option Addr) (c : Nat) (D : List ByteArray) (w : World) (hD : D.length ≤ maxLen) (hs : ∀ x ∈ D, x.size ≤ maxLen) (hr : Rd 1 cS w A D) :
    Calls Tryd.prog 16 #[.slice A D.length c, .int .i64 1048576] w (SzD D.length w) := by
  have HR := Lib.hid hr
  have HS := Lib.hid hs
  unfold maxLen at hD
  clear hr hs
  go_enter Tryd.func16, Tryd.ntmps16
  by_cases h1 : (1048576 : Int) - (D.length : Int) < 0
  · go_wp2
    go_light
    go_ret
    exact ⟨-1, rfl, .inl (by omega), rfl⟩
  have hle : D.length ≤ 1048576 := by omega
  go_wp2
  go_loopw [1, 5] (fun lv v wr => ∃ (j : Nat) (u : Int), j ≤ D.length ∧ v = .int .i64 (j : Int) ∧ lv = .int .i64 u ∧ 0 ≤ u ∧ u ≤ 1048576 ∧ wr = w) (fun _ v _ => D.length - (intOf v).toNat)
  case atStart => exact ⟨0, _, Nat.zero_le _, rfl, rfl, by omega, by omega, rfl⟩
  case round =>
    clear h1
    obtain ⟨j, u, hj, rfl, rfl, hu0, hu1, rfl⟩ := hrel
    by_cases hlt : j < D.length
    · have i0 : (0 : Int) ≤ (j : Int) := by omega
      have i1 : (j : Int) < (D.length : Int) := by omega
      have hx := HS.out _ (List.getElem_mem hlt)
      unfold maxLen at hx
      obtain ⟨g, o, rfl, ca⟩ := HR.out j hlt
      generalize D[j] = x at ca hx
      have xr0 : wr.cell? ⟨g, o + j, none⟩ = some (.string x) := by simpa using ca 0 _ rfl
      clear ca
      by_cases h2 : u - (x.size : Int) < 0
      · go_wp2
        go_light
        go_ret
        exact ⟨-1, rfl, .inl (by omega), rfl⟩
      · go_wp2
        go_roundw
        case rel => exact ⟨j + 1, u - x.size, by omega, by go_num, rfl, by omega, by omega, trivial⟩
        case measure => (simp [intOf]; try omega)
    · have i1 : ¬ (j : Int) < (D.length : Int) := by omega
      obtain rfl : j = D.length := by omega
      go_wp2
      go_light
      go_ret
      exact ⟨u, rfl, .inr hle, rfl⟩

section
variable {H : Type} {enc : TypeId × Value → H} {w : World} {base : Nat} {spare : Nat → Bool} {held : Bool}
set_option maxRecDepth 100000 in
theorem in_strings {r : Reach} {b0 : Nat} {v : Value} {d : DataW H} {p : List MemPlace} (hv : Value.okWide Tryd.prog w r b0 30 v) (h : DataW.Trod enc Tryd.prog w base spare held 30 v d p) :
    ∃ (A : Option Addr) (c : Nat) (l : List ByteArray), v = .slice A l.length c ∧ l.length ≤ maxLen ∧ Rd 1 cS w A l ∧ ∀ x ∈ l, x.size ≤ maxLen := by
  obtain ⟨fuel, hf⟩ := h
  obtain ⟨A, c, l, h1, h2, h3, h4, h5⟩ := in_rowsH (f := cS) (Q := fun b => b.size ≤ maxLen) (k := 1) Tryd.underlying30 (by kernel_rfl) (by omega) (fun _ => rfl) (fun n cl y hl h => by
    obtain ⟨b, hb, _, hz⟩ := DataW.trod_string Tryd.underlying9 h
    exact ⟨b, hb, hz⟩) hf
  obtain ⟨A0, c0, n0, rfl⟩ := okWide_slice Tryd.underlying30 hv
  have h1' : [Value.slice A0 c0 n0] = [.slice A l.length c] := h1
  injection h1' with h1' _
  exact ⟨A, c, l, h1', h2, h4, h5⟩
end

end Go.Proofs.YtmnephaechgffaaDoor
