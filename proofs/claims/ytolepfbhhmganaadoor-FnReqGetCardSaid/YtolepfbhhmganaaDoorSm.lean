/- A text cut at its blanks: the model's side. -/
import Derived.Test.YtolepfbhhmganaaDoorSl
import Derived.Laws.AppendOwn
namespace Go.Proofs.YtolepfbhhmganaaDoor
open Go.ChangeShapes Go.WideShapes Go.ChangeAt Go.RowKit
set_option linter.unusedVariables false
set_option linter.unusedSimpArgs false

theorem infoStr' : (Tryd.prog.info? 9).map (fun i => (i.zero, i.size, i.bytes)) = some (some (.string ⟨#[]⟩), 1, 16) := by kernel_rfl
theorem bs_eq {s t : ByteArray} (h : s.data.toList = t.data.toList) : s = t := by rw [bs_of (s := s) h]
theorem bt_get {s : ByteArray} {i : Nat} (h : i < s.size) : s.data.toList[i]? = some (s[i]'h) := Lib.data_getElem? s i h
theorem noB_seg {s : ByteArray} {j k : Nat} (hno : ∀ q, j ≤ q → q < k → bt s q ≠ 32) : noB ((s.data.toList.drop j).take (k - j)) := by
  intro c hc
  rintro rfl
  obtain ⟨i, hi, he⟩ := List.getElem_of_mem hc
  rw [List.length_take] at hi
  have h1 : j + i < k := by omega
  apply hno (j + i) (by omega) h1
  rw [List.getElem_take, List.getElem_drop] at he
  unfold bt
  rw [List.getD_eq_getElem?_getD, List.getElem?_eq_getElem (by rw [List.length_drop] at hi; omega), he]
  rfl
theorem seg_eq {s : ByteArray} {j k : Nat} (hj : j ≤ k) (hk : k < s.size) (h : bt s k = 32) : s.data.toList.drop j = (s.data.toList.drop j).take (k - j) ++ 32 :: s.data.toList.drop (k + 1) := by
  have hl : s.data.toList.length = s.size := by simp
  have hb : s.data.toList[k]'(by omega) = 32 := by
    unfold bt at h
    rw [List.getD_eq_getElem?_getD, List.getElem?_eq_getElem (by omega)] at h
    have h2 : ((s.data.toList[k]'(by omega)).toNat : Int) = 32 := h
    have h3 : (32 : UInt8).toNat = 32 := rfl
    exact UInt8.toNat_inj.1 (by omega)
  conv => lhs; rw [← List.take_append_drop (k - j) (s.data.toList.drop j)]
  congr 1
  rw [List.drop_drop, show j + (k - j) = k from by omega, List.drop_eq_getElem_cons (by omega), hb]
theorem cut_hit {s : ByteArray} {j k : Nat} (m : Nat) (hj : j ≤ k) (hk : k < s.size) (h : bt s k = 32) (hno : ∀ q, j ≤ q → q < k → bt s q ≠ 32) :
    Lib.splitB ⟨#[32]⟩ 0 (m + 1) (s.extract j s.size) = s.extract j k :: Lib.splitB ⟨#[32]⟩ 0 m (s.extract (k + 1) s.size) := by
  have hl : s.data.toList.length = s.size := by simp
  have hi : Lib.indexB (s.extract j s.size) ⟨#[32]⟩ = ((k - j : Nat) : Int) := by
    show Lib.index (s.extract j s.size).data.toList [32] = _
    rw [Lib.extract_to_end, seg_eq hj hk h, index_hit _ _ (noB_seg hno), List.length_take, List.length_drop]
    congr 1; omega
  rw [Lib.splitB_hit _ _ _ _ _ hi]
  congr 1
  · apply bs_eq
    rw [Lib.extract_data (s.extract j s.size), Lib.extract_to_end, Lib.extract_data]
    simp
  · congr 1
    apply bs_eq
    rw [Lib.extract_to_end, Lib.extract_to_end, Lib.extract_to_end, List.drop_drop]
    congr 1
    show j + (k - j + 1) = k + 1
    omega
theorem cut_end {s : ByteArray} {j : Nat} (m : Nat) (hj : j ≤ s.size) (hno : ∀ q, j ≤ q → q < s.size → bt s q ≠ 32) : Lib.splitB ⟨#[32]⟩ 0 m (s.extract j s.size) = [s.extract j s.size] := by
  have hl : s.data.toList.length = s.size := by simp
  refine Lib.splitB_miss _ _ _ _ ?_
  show Lib.index (s.extract j s.size).data.toList [32] = -1
  rw [Lib.extract_to_end]
  have := noB_seg hno
  rw [List.take_of_length_le (by rw [List.length_drop]; omega)] at this
  exact index_miss _ this
theorem cut_all (s : ByteArray) : s.extract 0 s.size = s := by
  apply bs_eq
  rw [Lib.extract_to_end]; rfl
abbrev strs (D : List ByteArray) : List Value := D.map Value.string
/-- What is left to be cut. -/
def CutR (s : ByteArray) (D : List ByteArray) (j k : Nat) : Prop := Lib.splitB ⟨#[32]⟩ 0 5 s = D ++ Lib.splitB ⟨#[32]⟩ 0 (5 - D.length) (s.extract j s.size) ∧ ∀ q, j ≤ q → q < k → bt s q ≠ 32
theorem CutR.start (s : ByteArray) : CutR s [] 0 0 := ⟨by rw [List.nil_append, cut_all]; rfl, fun q h1 h2 => by omega⟩
theorem CutR.hit {s : ByteArray} {D : List ByteArray} {j k : Nat} (h : CutR s D j k) (hj : j ≤ k) (hk : k < s.size) (hD : D.length < 5) (hb : bt s k = 32) : CutR s (D ++ [s.extract j k]) (k + 1) (k + 1) := by
  refine ⟨?_, fun q h1 h2 => by omega⟩
  rw [h.1, show 5 - D.length = (5 - (D ++ [s.extract j k]).length) + 1 from by simp; omega, cut_hit _ hj hk hb h.2, List.append_assoc]
  rfl
theorem CutR.miss {s : ByteArray} {D : List ByteArray} {j k : Nat} (h : CutR s D j k) (hb : bt s k ≠ 32) : CutR s D j (k + 1) :=
  ⟨h.1, fun q h1 h2 => by
    by_cases e : q = k
    · subst e; exact hb
    · exact h.2 q h1 (by omega)⟩
theorem CutR.fin {s : ByteArray} {D : List ByteArray} {j k : Nat} (h : CutR s D j k) (hj : j ≤ s.size) (hk : D.length = 5 ∨ k = s.size) (hD : D.length ≤ 5) : Lib.splitB ⟨#[32]⟩ 0 5 s = D ++ [s.extract j s.size] := by
  rw [h.1]
  rcases hk with hk | hk
  · rw [hk]; rfl
  · subst hk
    rw [cut_end _ hj h.2]

set_option maxRecDepth 100000 in
set_option maxHeartbeats 4000000 in
theorem l1Cut (s : ByteArray) (w : World) (hs : s.size ≤ 1048577) :
    Calls Tryd.prog 30 #[.string s, .int .u8 32, .int .i64 5] w fun e w' => ∃ B d, e = .returned (.slice B (Lib.splitB ⟨#[32]⟩ 0 5 s).length d) ∧ w'.ownsRow w.heap.size 9 1 (.slice B (Lib.splitB ⟨#[32]⟩ 0 5 s).length d) (Lib.splitB ⟨#[32]⟩ 0 5 s).length (strs (Lib.splitB ⟨#[32]⟩ 0 5 s)) ∧ Below w.heap.size w w' := by
  obtain ⟨ii, hi, hz0, hz1, hz2⟩ := info_parts infoStr'
  have I1 := Lib.hid hi
  have I2 := Lib.hid hz0
  have I3 := Lib.hid hz1
  have I4 := Lib.hid hz2
  have O0 : Hid ((w.alloc (.cells #[] 9)).ownsRow w.heap.size 9 1 (.slice (some ⟨w.heap.size, 0, none⟩) 0 0) 0 []) := World.ownsRow_lit (size := 1) w #[] 0 (Nat.le_refl _) (by unfold maxLen; omega) rfl
  have B0 : Hid (Below w.heap.size w (w.alloc (.cells #[] 9))) := (Below.refl _ _).alloc (Nat.le_refl _) _
  generalize hS : Lib.splitB ⟨#[32]⟩ 0 5 s = S
  have HS := Lib.hid hS
  clear hi hz0 hz1 hz2 hS
  go_enter Tryd.func30, Tryd.ntmps30
  go_wp2
  go_loopw [7, 8, 9] (fun vv f i wr => ∃ (k j : Nat) (D : List ByteArray), j ≤ k ∧ k ≤ s.size ∧ f = .int .i64 j ∧ i = .int .i64 k ∧ D.length ≤ 5 ∧ Hid (CutR s D j k) ∧ Hid (wr.ownsRow w.heap.size 9 1 vv D.length (strs D)) ∧ Hid (Below w.heap.size w wr)) (fun _ _ i _ => s.size - (intOf i).toNat)
  case atStart => exact ⟨0, 0, [], by omega, by omega, rfl, rfl, by simp, CutR.start s, O0.out, B0.out⟩
  case round =>
    clear O0 B0
    obtain ⟨k, j, D, hj, hk, rfl, rfl, hD, hC, OO, hb⟩ := hrel
    obtain ⟨B, d, hv, hm⟩ := own_form OO.out
    subst hv
    have j0 : (0 : Int) ≤ (j : Int) := by omega
    have j1 : (j : Int) ≤ (k : Int) := by omega
    have j2 : (k : Int) ≤ (s.size : Int) := by omega
    have j3 : (j : Int) ≤ (s.size : Int) := by omega
    have HBS := Lib.hid hb.out.size
    by_cases hlt : k < s.size ∧ D.length < 5
    · obtain ⟨hlt, hD5⟩ := hlt
      have n0 : (k : Int) < (s.size : Int) := by omega
      have n5 : (D.length : Int) < 5 := by omega
      have hbk : (((s[k]'hlt).toNat : Nat) : Int) = bt s k := bt_at s k hlt
      by_cases h32 : bt s k = 32
      · have e32 : (bt s k == 32) = true := by simpa using h32
        have HN := Lib.hid (hC.out.hit hj hlt hD5 h32)
        have HL : Hid ((D ++ [s.extract j k]).length ≤ 5) := by show (D ++ [s.extract j k]).length ≤ 5; simp; omega
        clear h32
        go_wp2_with (at_builtin; refine wpList_append_own _ rfl _ _ 43 rfl w.heap.size 9 ii (.string ⟨#[]⟩) 1 16 Tryd.underlying43 I1.out I2.out I3.out I4.out rfl (by decide) _ _ _ rfl (OO.out.alloc _) ⟨wr.heap.size, 0, none⟩ 1 1 [.string (s.extract j k)] rfl rfl ?c1a ?c2a ?c3a ?c4a ?c5a ?_)
        try
          case c1a =>
            intro j' u hu
            have h := (Bkk.new (t := 9) (cs := #[.string (s.extract j k)]) wr).cell j'
            rw [show Addr.add ⟨wr.heap.size, 0, none⟩ j' = ⟨wr.heap.size, j', none⟩ by simp [Addr.add]; intro h; exact h.symm, h]
            simpa using hu
        case c2a => intro u hu; simp at hu; rcases hu with rfl; rfl
        case c3a => unfold maxLen; omega
        case c4a => omega
        case c5a => have := HBS.out; simp; omega
        intro v' w3 ho3 hg3 _
        have BN := Lib.hid (Below.trans (hb.out.alloc hb.out.size (.cells #[.string (s.extract j k)] 9)) (Below.of_grown hg3 (by have := HBS.out; simp; omega) fun q hq => (own_block_ge OO.out q hq).1))
        have HO : Hid (w3.ownsRow w.heap.size 9 1 v' (D ++ [s.extract j k]).length (strs (D ++ [s.extract j k]))) := by
          have h := ho3
          show w3.ownsRow _ _ _ _ _ _
          rw [List.length_append, List.length_singleton, strs, List.map_append]
          exact h
        clear ho3 hg3
        go_wp2
        go_roundw
        case rel => exact ⟨k + 1, k + 1, D ++ [s.extract j k], by omega, by omega, by go_num, by go_num, HL.out, HN, HO, BN⟩
        case measure => simp [intOf]; omega
      · have e32 : (bt s k == 32) = false := by simpa using h32
        have HN := Lib.hid (hC.out.miss h32)
        clear h32
        go_wp2
        go_roundw
        case rel => exact ⟨k + 1, j, D, by omega, by omega, rfl, by go_num, hD, HN, OO, hb⟩
        case measure => simp [intOf]; omega
    · have HF := Lib.hid (hC.out.fin (by omega) (by omega) hD)
      have HE : Hid (S = D ++ [s.extract j s.size]) := HS.out.symm.trans HF.out
      by_cases hk' : k < s.size
      · have n0 : (k : Int) < (s.size : Int) := by omega
        have n5 : ¬ D.length < 5 := by omega
        have n5' : decide (D.length < 5) = false := by simp; omega
        go_wp2_with (at_builtin; refine wpList_append_own _ rfl _ _ 43 rfl w.heap.size 9 ii (.string ⟨#[]⟩) 1 16 Tryd.underlying43 I1.out I2.out I3.out I4.out rfl (by decide) _ _ _ rfl (OO.out.alloc _) ⟨wr.heap.size, 0, none⟩ 1 1 [.string (s.extract j s.size)] rfl rfl ?c1b ?c2b ?c3b ?c4b ?c5b ?_)
        try
          case c1b =>
            intro j' u hu
            have h := (Bkk.new (t := 9) (cs := #[.string (s.extract j s.size)]) wr).cell j'
            rw [show Addr.add ⟨wr.heap.size, 0, none⟩ j' = ⟨wr.heap.size, j', none⟩ by simp [Addr.add]; intro h; exact h.symm, h]
            simpa using hu
        case c2b => intro u hu; simp at hu; rcases hu with rfl; rfl
        case c3b => unfold maxLen; omega
        case c4b => omega
        case c5b => have := HBS.out; simp; omega
        intro v' w3 ho3 hg3 _
        have BN := Lib.hid (Below.trans (hb.out.alloc hb.out.size (.cells #[.string (s.extract j s.size)] 9)) (Below.of_grown hg3 (by have := HBS.out; simp; omega) fun q hq => (own_block_ge OO.out q hq).1))
        have HO : Hid (w3.ownsRow w.heap.size 9 1 v' (D ++ [s.extract j s.size]).length (strs (D ++ [s.extract j s.size]))) := by
          have h := ho3
          show w3.ownsRow _ _ _ _ _ _
          rw [List.length_append, List.length_singleton, strs, List.map_append]
          exact h
        clear ho3 hg3
        go_wp2
        go_ret
        obtain ⟨B', d', hv', _⟩ := own_form HO.out
        subst hv'
        rw [HE.out]
        exact ⟨B', d', rfl, HO.out, BN.out⟩
      · have n0 : decide (k < s.size) = false := by simp; omega
        go_wp2_with (at_builtin; refine wpList_append_own _ rfl _ _ 43 rfl w.heap.size 9 ii (.string ⟨#[]⟩) 1 16 Tryd.underlying43 I1.out I2.out I3.out I4.out rfl (by decide) _ _ _ rfl (OO.out.alloc _) ⟨wr.heap.size, 0, none⟩ 1 1 [.string (s.extract j s.size)] rfl rfl ?c1c ?c2c ?c3c ?c4c ?c5c ?_)
        try
          case c1c =>
            intro j' u hu
            have h := (Bkk.new (t := 9) (cs := #[.string (s.extract j s.size)]) wr).cell j'
            rw [show Addr.add ⟨wr.heap.size, 0, none⟩ j' = ⟨wr.heap.size, j', none⟩ by simp [Addr.add]; intro h; exact h.symm, h]
            simpa using hu
        case c2c => intro u hu; simp at hu; rcases hu with rfl; rfl
        case c3c => unfold maxLen; omega
        case c4c => omega
        case c5c => have := HBS.out; simp; omega
        intro v' w3 ho3 hg3 _
        have BN := Lib.hid (Below.trans (hb.out.alloc hb.out.size (.cells #[.string (s.extract j s.size)] 9)) (Below.of_grown hg3 (by have := HBS.out; simp; omega) fun q hq => (own_block_ge OO.out q hq).1))
        have HO : Hid (w3.ownsRow w.heap.size 9 1 v' (D ++ [s.extract j s.size]).length (strs (D ++ [s.extract j s.size]))) := by
          have h := ho3
          show w3.ownsRow _ _ _ _ _ _
          rw [List.length_append, List.length_singleton, strs, List.map_append]
          exact h
        clear ho3 hg3
        go_wp2
        go_ret
        obtain ⟨B', d', hv', _⟩ := own_form HO.out
        subst hv'
        rw [HE.out]
        exact ⟨B', d', rfl, HO.out, BN.out⟩

end Go.Proofs.YtolepfbhhmganaaDoor
