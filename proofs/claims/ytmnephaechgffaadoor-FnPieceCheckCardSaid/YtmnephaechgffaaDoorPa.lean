/- A text in pieces, both ways. -/
import Derived.Test.YtmnephaechgffaaDoorAp
import Derived.Test.YtmnephaechgffaaDoorBk
import Derived.Test.YtmnephaechgffaaDoorTa
namespace Go.Proofs.YtmnephaechgffaaDoor
open Go.ChangeShapes Go.WideShapes Go.ChangeAt Go.RowKit
set_option linter.unusedVariables false
set_option linter.unusedSimpArgs false

abbrev cS (b : ByteArray) : List Value := [.string b]
/-- The pieces of a text, n + 1 at most. -/
def pcsN : Nat → ByteArray → List ByteArray
  | 0, s => [s]
  | n + 1, s => if 12 < s.size then s.extract 0 12 :: pcsN n (s.extract 12 s.size) else [s]
def pcs (s : ByteArray) : List ByteArray := if 192 < s.size then [] else pcsN 16 s
theorem pcsN_len : ∀ (n : Nat) (s : ByteArray), (pcsN n s).length ≤ n + 1
  | 0, s => Nat.le_refl _
  | n + 1, s => by
    unfold pcsN
    split
    · simp only [List.length_cons]
      have := pcsN_len n (s.extract 12 s.size)
      omega
    · simp
theorem pcs_len (s : ByteArray) : (pcs s).length ≤ 17 := by
  unfold pcs
  split
  · simp
  · exact pcsN_len 16 s
theorem rest_size (s : ByteArray) (h : 12 < s.size) : (s.extract 12 s.size).size = s.size - 12 := by simp
def lenS : Value → Nat
  | .string b => b.size
  | _ => 0
def OwS (w : World) (lo : Nat) (B : Option Addr) (d : Nat) (D : List ByteArray) : Prop := w.ownsRow lo 9 1 (.slice B D.length d) D.length (D.flatMap cS)
theorem OwS.nil (w : World) (lo : Nat) : OwS w lo none 0 [] := World.ownsRow_nil _ _ _ _
theorem OwS.below {w w' : World} {lo : Nat} {B : Option Addr} {d : Nat} {D : List ByteArray} (h : OwS w lo B d D) (hb : Below w.heap.size w w') : OwS w' lo B d D := own_below (show w.ownsRow _ _ _ _ _ _ from h) hb
theorem OwS.rd {w : World} {lo : Nat} {B : Option Addr} {d : Nat} {D : List ByteArray} (h : OwS w lo B d D) : Rd 1 cS w B D := Rd.of_own (f := cS) (k := 1) (fun _ => rfl) (show w.ownsRow _ _ _ _ _ _ from h) rfl
theorem OwS.ge {w : World} {lo : Nat} {B : Option Addr} {d : Nat} {D : List ByteArray} (h : OwS w lo B d D) : ∀ x, (Value.slice B D.length d).ownBlock = some x → lo ≤ x ∧ x < w.heap.size := own_block_ge (show w.ownsRow _ _ _ _ _ _ from h)
theorem own_formS {w : World} {base : Nat} {e : TypeId} {size : Nat} {v : Value} {n : Nat} {xs : List Value} (h : w.ownsRow base e size v n xs) : ∃ A c, v = .slice A n c := by
  rcases h.2 with ⟨h1, h2⟩ | ⟨g, cap, cur, h1, _⟩
  · exact ⟨none, 0, by rw [h1, h2]⟩
  · exact ⟨_, _, h1⟩
theorem OwS.push {w' : World} {lo : Nat} {D : List ByteArray} {v' : Value} {b : ByteArray} (ho : w'.ownsRow lo 9 1 v' (D.length + 1) (D.flatMap cS ++ [b].flatMap cS)) :
    ∃ B' d', v' = .slice B' (D ++ [b]).length d' ∧ OwS w' lo B' d' (D ++ [b]) := by
  obtain ⟨A', a', rfl⟩ := own_formS ho
  have hl : D.length + 1 = (D ++ [b]).length := by simp
  rw [← List.flatMap_append, hl] at ho
  exact ⟨A', a', by rw [hl], ho⟩
theorem strs_one (D : List ByteArray) : ∀ u ∈ D.flatMap cS, u.oneCell' = true := by
  intro u hu
  simp only [List.mem_flatMap, cS, List.mem_singleton] at hu
  obtain ⟨a, _, rfl⟩ := hu
  rfl
theorem str_one (w : World) (b : ByteArray) : Rd 1 cS (w.alloc (.cells #[.string b] 9)) (some ⟨w.heap.size, 0, none⟩) [b] := by
  intro i h
  have hi : i = 0 := by simpa using h
  subst hi
  refine ⟨w.heap.size, 0, rfl, fun j u hu => ?_⟩
  have hb := cell_of_row _ _ j _ 9 (0, 0) (heap_alloc_new w (.cells #[.string b] 9))
  rw [show 0 + 0 * 1 + j = j by omega, hb]
  simpa [cS] using hu
theorem infoStrS : (Tryd.prog.info? 9).map (fun i => (i.zero, i.size, i.bytes)) = some (some (.string ⟨#[]⟩), 1, 16) := by kernel_rfl
theorem parts_ofS {P : Program} {t : TypeId} {z : Option Value} {n b : Nat} (h : (P.info? t).map (fun i => (i.zero, i.size, i.bytes)) = some (z, n, b)) : ∃ i, P.info? t = some i ∧ i.zero = z ∧ i.size = n ∧ i.bytes = b := by
  rcases hi : P.info? t with _ | i
  · rw [hi] at h; cases h
  · rw [hi] at h
    simp only [Option.map_some, Option.some.injEq, Prod.mk.injEq] at h
    exact ⟨i, rfl, h.1, h.2.1, h.2.2⟩
def DoSs (S : List ByteArray) (w : World) (e : Ending) (w' : World) : Prop := ∃ B d, e = .returned (.slice B S.length d) ∧ OwS w' w.heap.size B d S ∧ Below w.heap.size w w'

set_option maxRecDepth 100000 in
set_option maxHeartbeats 4000000 in
theorem implPieceOf (s : ByteArray) (w : World) (hs : s.size ≤ 1048576) :
    Calls Tryd.prog 36 #[.string s] w (DoSs (pcs s) w) := by
  obtain ⟨I, hi, hz0, hz1, hz2⟩ := parts_ofS infoStrS
  have I1 := Lib.hid hi
  have I2 := Lib.hid hz0
  have I3 := Lib.hid hz1
  have I4 := Lib.hid hz2
  clear hi hz0 hz1 hz2
  have O0 : Hid (OwS w w.heap.size none 0 []) := OwS.nil _ _
  have B0 : Hid (Below w.heap.size w w) := Below.refl _ _
  go_enter Tryd.func36, Tryd.ntmps36
  by_cases hbig : 192 < s.size
  · have HP := Lib.hid (show pcs s = [] by unfold pcs; rw [if_pos hbig])
    have i0 : (192 : Int) < (s.size : Int) := by omega
    clear hbig
    go_wp2
    go_light
    go_ret
    rw [HP.out]
    exact ⟨none, 0, rfl, O0.out, B0.out⟩
  have HP := Lib.hid (show pcs s = pcsN 16 s by unfold pcs; rw [if_neg hbig])
  have i0 : ¬ (192 : Int) < (s.size : Int) := by omega
  have h192 : s.size ≤ 192 := by omega
  clear hbig
  go_wp2
  go_loopw [0, 3] (fun sv lv wr => ∃ (n : Nat) (cur : ByteArray) (D : List ByteArray) (B : Option Addr) (d : Nat), sv = .string cur ∧ lv = .slice B D.length d ∧ D.length + n = 16 ∧ cur.size ≤ 12 * n ∧ Hid (pcs s = D ++ pcsN n cur) ∧ Hid (OwS wr w.heap.size B d D) ∧ Hid (Below w.heap.size w wr)) (fun sv _ _ => lenS sv)
  case atStart => exact ⟨16, s, [], none, 0, rfl, rfl, rfl, by omega, by simpa [Hid] using HP.out, O0.out, B0.out⟩
  case round =>
    clear O0 B0 HP
    obtain ⟨n, cur, D, B, d, rfl, rfl, hn, hc, HP, OO, BB⟩ := hrel
    by_cases hlt : 12 < cur.size
    · have i1 : (12 : Int) < (cur.size : Int) := by omega
      obtain ⟨m, rfl⟩ : ∃ m, n = m + 1 := ⟨n - 1, by omega⟩
      have HN := Lib.hid (show pcs s = (D ++ [cur.extract 0 12]) ++ pcsN m (cur.extract 12 cur.size) by
        rw [HP.out]
        show D ++ (if 12 < cur.size then _ else _) = _
        rw [if_pos hlt, List.append_assoc]
        rfl)
      have hr := rest_size cur hlt
      have hba : Below wr.heap.size wr (wr.alloc (.cells #[.string (cur.extract 0 12)] 9)) := (Below.refl _ _).alloc (Nat.le_refl _) _
      have OB := Lib.hid (OO.out.below hba)
      have BA := Lib.hid (Below.and BB.out hba)
      have HRd := Lib.hid (str_one wr (cur.extract 0 12))
      have hsz := BA.out.size
      go_wp2_with (at_builtin; go_loud (refine list_app (f := cS) (fun _ => rfl) rfl _ _ 30 rfl w.heap.size 9 I (.string ⟨#[]⟩) 16 Tryd.underlying30 I1.out I2.out I3.out I4.out rfl (by decide) _ D.length (D.flatMap cS) rfl (show World.ownsRow _ _ _ _ _ _ _ from OB.out) _ _ 1 [(cur.extract 0 12)] rfl rfl HRd.out (fun h => by cases h) (strs_one _) (by unfold maxLen; omega) (by omega) hsz ?_))
      intro v5 w5 ho hg hp
      have BB := Lib.hid (BA.out.grown hg BA.out.size (fun q hq => (OB.out.ge q hq).1))
      obtain ⟨B5, d5, rfl, oa⟩ := OwS.push ho
      have OO := Lib.hid oa
      clear ho hg hp oa hba OB BA HRd hsz
      have HR := Lib.hid hr
      clear hr
      go_wp2
      go_roundw
      case rel => exact ⟨m, cur.extract 12 cur.size, D ++ [cur.extract 0 12], B5, d5, rfl, rfl, by simp; omega, by have := HR.out; omega, HN.out, OO.out, BB.out⟩
      case measure => (simp only [lenS]; have := HR.out; omega)
    · have i1 : ¬ (12 : Int) < (cur.size : Int) := by omega
      have HN := Lib.hid (show pcs s = D ++ [cur] by
        rw [HP.out]
        rcases n with _ | n
        · rfl
        · show D ++ (if 12 < cur.size then _ else _) = _
          rw [if_neg hlt])
      have hba : Below wr.heap.size wr (wr.alloc (.cells #[.string cur] 9)) := (Below.refl _ _).alloc (Nat.le_refl _) _
      have OB := Lib.hid (OO.out.below hba)
      have BA := Lib.hid (Below.and BB.out hba)
      have HRd := Lib.hid (str_one wr cur)
      have hsz := BA.out.size
      go_wp2_with (at_builtin; go_loud (refine list_app (f := cS) (fun _ => rfl) rfl _ _ 30 rfl w.heap.size 9 I (.string ⟨#[]⟩) 16 Tryd.underlying30 I1.out I2.out I3.out I4.out rfl (by decide) _ D.length (D.flatMap cS) rfl (show World.ownsRow _ _ _ _ _ _ _ from OB.out) _ _ 1 [cur] rfl rfl HRd.out (fun h => by cases h) (strs_one _) (by unfold maxLen; omega) (by omega) hsz ?_))
      intro v5 w5 ho hg hp
      have BB := Lib.hid (BA.out.grown hg BA.out.size (fun q hq => (OB.out.ge q hq).1))
      obtain ⟨B5, d5, rfl, oa⟩ := OwS.push ho
      have OO := Lib.hid oa
      clear ho hg hp oa hba OB BA HRd hsz
      go_wp2
      go_light
      go_ret
      rw [HN.out]
      exact ⟨B5, d5, rfl, OO.out, BB.out⟩

set_option maxRecDepth 100000 in
set_option maxHeartbeats 4000000 in
theorem specPieceOf (s : ByteArray) (w : World) (hs : s.size ≤ 1048576) :
    Calls Tryd.prog 44 #[.string s] w (DoSs (pcs s) w) := by
  obtain ⟨I, hi, hz0, hz1, hz2⟩ := parts_ofS infoStrS
  have I1 := Lib.hid hi
  have I2 := Lib.hid hz0
  have I3 := Lib.hid hz1
  have I4 := Lib.hid hz2
  clear hi hz0 hz1 hz2
  have O0 : Hid (OwS (w.alloc (.cells #[] 9)) w.heap.size (some ⟨w.heap.size, 0, none⟩) 0 []) := World.ownsRow_lit (size := 1) w #[] 0 (Nat.le_refl _) (by unfold maxLen; omega) rfl
  have B0 : Hid (Below w.heap.size w (w.alloc (.cells #[] 9))) := (Below.refl _ _).alloc (Nat.le_refl _) _
  go_enter Tryd.func44, Tryd.ntmps44
  by_cases hbig : 192 < s.size
  · have HP := Lib.hid (show pcs s = [] by unfold pcs; rw [if_pos hbig])
    have i0 : (192 : Int) < (s.size : Int) := by omega
    clear hbig
    go_wp2
    go_light
    go_ret
    rw [HP.out]
    exact ⟨some ⟨w.heap.size, 0, none⟩, 0, rfl, O0.out, B0.out⟩
  have HP := Lib.hid (show pcs s = pcsN 16 s by unfold pcs; rw [if_neg hbig])
  have i0 : ¬ (192 : Int) < (s.size : Int) := by omega
  have h192 : s.size ≤ 192 := by omega
  clear hbig
  go_wp2
  go_loopw [0, 3] (fun sv lv wr => ∃ (n : Nat) (cur : ByteArray) (D : List ByteArray) (B : Option Addr) (d : Nat), sv = .string cur ∧ lv = .slice B D.length d ∧ D.length + n = 16 ∧ cur.size ≤ 12 * n ∧ Hid (pcs s = D ++ pcsN n cur) ∧ Hid (OwS wr w.heap.size B d D) ∧ Hid (Below w.heap.size w wr)) (fun sv _ _ => lenS sv)
  case atStart => exact ⟨16, s, [], some ⟨w.heap.size, 0, none⟩, 0, rfl, rfl, rfl, by omega, by simpa [Hid] using HP.out, O0.out, B0.out⟩
  case round =>
    clear O0 B0 HP
    obtain ⟨n, cur, D, B, d, rfl, rfl, hn, hc, HP, OO, BB⟩ := hrel
    by_cases hlt : 12 < cur.size
    · have i1 : (12 : Int) < (cur.size : Int) := by omega
      obtain ⟨m, rfl⟩ : ∃ m, n = m + 1 := ⟨n - 1, by omega⟩
      have HN := Lib.hid (show pcs s = (D ++ [cur.extract 0 12]) ++ pcsN m (cur.extract 12 cur.size) by
        rw [HP.out]
        show D ++ (if 12 < cur.size then _ else _) = _
        rw [if_pos hlt, List.append_assoc]
        rfl)
      have hr := rest_size cur hlt
      have hba : Below wr.heap.size wr (wr.alloc (.cells #[.string (cur.extract 0 12)] 9)) := (Below.refl _ _).alloc (Nat.le_refl _) _
      have OB := Lib.hid (OO.out.below hba)
      have BA := Lib.hid (Below.and BB.out hba)
      have HRd := Lib.hid (str_one wr (cur.extract 0 12))
      have hsz := BA.out.size
      go_wp2_with (at_builtin; go_loud (refine list_app (f := cS) (fun _ => rfl) rfl _ _ 30 rfl w.heap.size 9 I (.string ⟨#[]⟩) 16 Tryd.underlying30 I1.out I2.out I3.out I4.out rfl (by decide) _ D.length (D.flatMap cS) rfl (show World.ownsRow _ _ _ _ _ _ _ from OB.out) _ _ 1 [(cur.extract 0 12)] rfl rfl HRd.out (fun h => by cases h) (strs_one _) (by unfold maxLen; omega) (by omega) hsz ?_))
      intro v5 w5 ho hg hp
      have BB := Lib.hid (BA.out.grown hg BA.out.size (fun q hq => (OB.out.ge q hq).1))
      obtain ⟨B5, d5, rfl, oa⟩ := OwS.push ho
      have OO := Lib.hid oa
      clear ho hg hp oa hba OB BA HRd hsz
      have HR := Lib.hid hr
      clear hr
      go_wp2
      go_roundw
      case rel => exact ⟨m, cur.extract 12 cur.size, D ++ [cur.extract 0 12], B5, d5, rfl, rfl, by simp; omega, by have := HR.out; omega, HN.out, OO.out, BB.out⟩
      case measure => (simp only [lenS]; have := HR.out; omega)
    · have i1 : ¬ (12 : Int) < (cur.size : Int) := by omega
      have HN := Lib.hid (show pcs s = D ++ [cur] by
        rw [HP.out]
        rcases n with _ | n
        · rfl
        · show D ++ (if 12 < cur.size then _ else _) = _
          rw [if_neg hlt])
      have hba : Below wr.heap.size wr (wr.alloc (.cells #[.string cur] 9)) := (Below.refl _ _).alloc (Nat.le_refl _) _
      have OB := Lib.hid (OO.out.below hba)
      have BA := Lib.hid (Below.and BB.out hba)
      have HRd := Lib.hid (str_one wr cur)
      have hsz := BA.out.size
      go_wp2_with (at_builtin; go_loud (refine list_app (f := cS) (fun _ => rfl) rfl _ _ 30 rfl w.heap.size 9 I (.string ⟨#[]⟩) 16 Tryd.underlying30 I1.out I2.out I3.out I4.out rfl (by decide) _ D.length (D.flatMap cS) rfl (show World.ownsRow _ _ _ _ _ _ _ from OB.out) _ _ 1 [cur] rfl rfl HRd.out (fun h => by cases h) (strs_one _) (by unfold maxLen; omega) (by omega) hsz ?_))
      intro v5 w5 ho hg hp
      have BB := Lib.hid (BA.out.grown hg BA.out.size (fun q hq => (OB.out.ge q hq).1))
      obtain ⟨B5, d5, rfl, oa⟩ := OwS.push ho
      have OO := Lib.hid oa
      clear ho hg hp oa hba OB BA HRd hsz
      go_wp2
      go_light
      go_ret
      rw [HN.out]
      exact ⟨B5, d5, rfl, OO.out, BB.out⟩

end Go.Proofs.YtmnephaechgffaaDoor
