/- Texts of requests: what reads them back, as functions of bytes. No walk. -/
import Derived.Test.YtolepfbhhmganaaDoorSd
import Derived.Lib.Split
import Derived.Lib.AtoiAll
import Derived.Lib.IndexBytes
import Derived.Lib.CountLaws
namespace Go.Proofs.YtolepfbhhmganaaDoor
open Go.ChangeShapes Go.WideShapes Go.ChangeAt Go.RowKit
set_option linter.unusedVariables false
set_option linter.unusedSimpArgs false

/-! Blanks -/
def noB (l : List UInt8) : Prop := ∀ c ∈ l, c ≠ 32
theorem index_hit (l r : List UInt8) (h : noB l) : Lib.index (l ++ 32 :: r) [32] = (l.length : Int) := by
  rw [Lib.index_one]
  induction l with
  | nil => simp [Lib.indexByte]
  | cons c l ih =>
    have hc : c ≠ 32 := h c (by simp)
    have := ih (fun x hx => h x (by simp [hx]))
    simp only [List.cons_append, Lib.indexByte, List.length_cons]
    rw [if_neg (by simpa using hc), this, if_neg (by simp)]
    omega
theorem index_miss (l : List UInt8) (h : noB l) : Lib.index l [32] = -1 := by
  rw [Lib.index_one]
  induction l with
  | nil => rfl
  | cons c l ih =>
    have hc : c ≠ 32 := h c (by simp)
    have := ih (fun x hx => h x (by simp [hx]))
    simp only [Lib.indexByte]
    rw [if_neg (by simpa using hc), this]
    rfl
theorem splitK_hit (l r : List UInt8) (h : noB l) (k : Nat) : Lib.splitK [32] 0 (k + 1) (l ++ 32 :: r) = l :: Lib.splitK [32] 0 k r := by
  rw [Lib.splitK, index_hit l r h, if_neg (by simp)]
  simp
theorem splitK_miss (l : List UInt8) (h : noB l) (k : Nat) : Lib.splitK [32] 0 k l = [l] := by
  cases k with
  | zero => rfl
  | succ k => rw [Lib.splitK, index_miss l h]; rfl
theorem count_blank (l r : List UInt8) (h : noB l) : Lib.count (l ++ 32 :: r) [32] = 1 + Lib.count r [32] := by
  rw [Lib.count_hit (i := l.length) (by simp) (index_hit l r h)]
  simp
theorem count_none (l : List UInt8) (h : noB l) : Lib.count l [32] = 0 := Lib.count_miss (index_miss l h)
/-- The text of five words. -/
def five (a b c d e : List UInt8) : List UInt8 := a ++ 32 :: (b ++ 32 :: (c ++ 32 :: (d ++ 32 :: e)))
theorem split_five (a b c d e : List UInt8) (ha : noB a) (hb : noB b) (hc : noB c) (hd : noB d) (he : noB e) : Lib.split (five a b c d e) [32] = [a, b, c, d, e] := by
  unfold Lib.split five
  rw [count_blank _ _ ha, count_blank _ _ hb, count_blank _ _ hc, count_blank _ _ hd, count_none _ he]
  rw [show 1 + (1 + (1 + (1 + 0))) = 3 + 1 from rfl, splitK_hit _ _ ha, show (3 : Nat) = 2 + 1 from rfl, splitK_hit _ _ hb, show (2 : Nat) = 1 + 1 from rfl, splitK_hit _ _ hc, show (1 : Nat) = 0 + 1 from rfl, splitK_hit _ _ hd, splitK_miss _ he]
theorem cut_five (a b c d e : List UInt8) (ha : noB a) (hb : noB b) (hc : noB c) (hd : noB d) (he : noB e) : Lib.splitK [32] 0 5 (five a b c d e) = [a, b, c, d, e] := by
  unfold five
  rw [show (5 : Nat) = 4 + 1 from rfl, splitK_hit _ _ ha, show (4 : Nat) = 3 + 1 from rfl, splitK_hit _ _ hb, show (3 : Nat) = 2 + 1 from rfl, splitK_hit _ _ hc, show (2 : Nat) = 1 + 1 from rfl, splitK_hit _ _ hd, splitK_miss _ he]

/-! Figures -/
theorem dig_toNat {n : Nat} (h : n < 10) : (UInt8.ofNat (48 + n)).toNat = 48 + n := by
  rw [UInt8.toNat_ofNat']; exact Nat.mod_eq_of_lt (by omega)
theorem dec_dig : ∀ (u : Nat), ∀ c ∈ Lib.decDigits u, 48 ≤ c.toNat ∧ c.toNat ≤ 57 := by
  intro u
  induction u using Nat.strongRecOn with
  | ind u ih =>
    by_cases h : u < 10
    · rw [dec_small h]
      intro c hc
      rw [List.mem_singleton] at hc
      subst hc
      rw [dig_toNat h]; omega
    · rw [dec_big h]
      intro c hc
      rcases List.mem_append.1 hc with hc | hc
      · exact ih (u / 10) (by omega) c hc
      · rw [List.mem_singleton] at hc
        subst hc
        rw [dig_toNat (by omega)]; omega
theorem ne_blank {c : UInt8} (h : 33 ≤ c.toNat) : c ≠ 32 := by
  rintro rfl
  have : (32 : UInt8).toNat = 32 := rfl
  omega
theorem dec_noB (u : Nat) : noB (Lib.decDigits u) := fun c hc => ne_blank (by have := dec_dig u c hc; omega)
theorem itoa_noB (n : Int) : noB (Lib.itoa n) := by
  unfold Lib.itoa
  split
  · intro c hc
    rcases List.mem_cons.1 hc with rfl | hc
    · decide
    · exact dec_noB _ c hc
  · exact dec_noB _
theorem dec_ne (u : Nat) : Lib.decDigits u ≠ [] := by
  by_cases h : u < 10
  · rw [dec_small h]; simp
  · rw [dec_big h]; simp
theorem parse_app (l m : List UInt8) : ∀ acc, Lib.parseUint10 acc (l ++ m) = match Lib.parseUint10 acc l with | .ok v => Lib.parseUint10 v m | .«syntax» => .«syntax» | .range => .range := by
  induction l with
  | nil => intro acc; rfl
  | cons c l ih =>
    intro acc
    simp only [List.cons_append, Lib.parseUint10]
    split
    · split
      · rfl
      · split
        · rfl
        · exact ih _
    · rfl
theorem parse_dec (u : Nat) : u < 18446744073709551616 → Lib.parseUint10 0 (Lib.decDigits u) = .ok u := by
  induction u using Nat.strongRecOn with
  | ind u ih =>
    intro hu
    by_cases h : u < 10
    · rw [dec_small h]
      simp only [Lib.parseUint10]
      rw [dig_toNat h, if_pos (by omega), if_neg (by omega), if_neg (by omega)]
      congr 1; omega
    · rw [dec_big h, parse_app, ih (u / 10) (by omega) (by omega)]
      simp only [Lib.parseUint10]
      rw [dig_toNat (by omega), if_pos (by omega), if_neg (by omega), if_neg (by omega)]
      congr 1; omega
theorem atoi_itoa (n : Int) (h0 : -9223372036854775808 ≤ n) (h1 : n ≤ 9223372036854775807) : Lib.atoiAll (Lib.itoa n) = .ok n := by
  by_cases hn : 0 ≤ n
  · rw [itoa_nonneg hn]
    have hp := parse_dec n.toNat (by omega)
    have hd := dec_dig n.toNat
    rcases hl : Lib.decDigits n.toNat with _ | ⟨c, r⟩
    · exact absurd hl (dec_ne _)
    · rw [hl] at hp hd
      have hc := hd c (by simp)
      unfold Lib.atoiAll
      simp only
      rw [if_neg (by omega)]
      unfold Lib.parseMag
      rw [if_neg (by simp), hp]
      simp only
      rw [if_neg (by omega), if_neg (by omega), if_neg (by omega)]
      congr 1; omega
  · rw [itoa_neg' (by omega)]
    have hp := parse_dec n.natAbs (by omega)
    unfold Lib.atoiAll
    simp only [show (45 : UInt8).toNat = 45 from rfl, or_true, if_true, Lib.parseMag, if_neg (dec_ne _), hp]
    rw [if_neg (fun h => h.1 trivial), if_neg (fun h => by have := h.2; omega)]
    congr 1; omega

/-! What a text is read as -/
def numT (l : List UInt8) : Int := match Lib.atoiAll l with | .ok v => v | _ => 0
def opT (l : List UInt8) : Int := if l = wordN 1 then 1 else if l = wordN 2 then 2 else if l = wordN 3 then 3 else if l = wordN 4 then 4 else if l = wordN 5 then 5 else 0
def parseT (s : List UInt8) : Rq := match Lib.split s [32] with
  | [a, b, w, x, y] => ⟨numT a, numT b, opT w, numT x, numT y⟩
  | _ => ⟨0, 0, 0, 0, 0⟩
def goodB (s : List UInt8) (r : Rq) : Bool := rqB r && decide (putT r = s)
def getT (s : List UInt8) : Rq × Bool := if s = [110, 111, 110, 101] then (⟨0, 0, 0, 0, 0⟩, true) else if goodB s (parseT s) = true then (parseT s, true) else (⟨0, 0, 0, 0, 0⟩, false)
theorem word_noB (k : Nat) : noB (wordN k) := by
  unfold wordN
  split <;> (intro c hc; revert c; decide)
theorem putN_five (c n : Int) (k : Nat) (x y : Int) : putN c n k x y = five (Lib.itoa c) (Lib.itoa n) (wordN k) (Lib.itoa x) (Lib.itoa y) := by
  simp [putN, cat, five]
theorem opT_word (k : Nat) (h1 : 1 ≤ k) (h5 : k ≤ 5) : opT (wordN k) = (k : Int) := by
  have : k = 1 ∨ k = 2 ∨ k = 3 ∨ k = 4 ∨ k = 5 := by omega
  rcases this with rfl | rfl | rfl | rfl | rfl <;> decide
theorem good_put {s : List UInt8} {r : Rq} (h : goodB s r = true) : rqB r = true ∧ s = five (Lib.itoa r.c) (Lib.itoa r.n) (wordN r.o.toNat) (Lib.itoa r.x) (Lib.itoa r.y) := by
  unfold goodB at h
  rw [Bool.and_eq_true] at h
  obtain ⟨hq, hp⟩ := h
  refine ⟨hq, ?_⟩
  have hp := of_decide_eq_true hp
  have hn : nullB r = false := by
    rcases e : nullB r with _ | _
    · rfl
    · have := null_not e; rw [hq] at this; cases this
  rw [← hp]
  unfold putT
  rw [hn, hq, if_neg (by simp), if_pos rfl, putN_five]
/-- What is a request's text is read as that request. -/
theorem parse_good {s : List UInt8} {r : Rq} (h : goodB s r = true) : parseT s = r := by
  obtain ⟨hq, hs⟩ := good_put h
  obtain ⟨b1, b2, b3, b4, b5⟩ := rq_bd (show reqB r.c r.n r.o r.x r.y = true from hq)
  unfold parseT
  rw [hs, split_five _ _ _ _ _ (itoa_noB _) (itoa_noB _) (word_noB _) (itoa_noB _) (itoa_noB _)]
  simp only [numT]
  rw [atoi_itoa _ (by omega) (by omega), atoi_itoa _ (by omega) (by omega), atoi_itoa _ (by omega) (by omega), atoi_itoa _ (by omega) (by omega), opT_word _ (by omega) (by omega)]
  simp only
  obtain ⟨c, n, o, x, y⟩ := r
  simp only at b3 ⊢
  congr 1
  omega
theorem get_good {s : List UInt8} {r : Rq} (hs : s ≠ [110, 111, 110, 101]) (h : goodB s r = true) : getT s = (r, true) := by
  unfold getT
  rw [if_neg hs, parse_good h, if_pos h]
theorem get_bad {s : List UInt8} (hs : s ≠ [110, 111, 110, 101]) (h : ∀ r, goodB s r = false) : getT s = (⟨0, 0, 0, 0, 0⟩, false) := by
  unfold getT
  rw [if_neg hs, if_neg (by rw [h]; simp)]
theorem get_none : getT [110, 111, 110, 101] = (⟨0, 0, 0, 0, 0⟩, true) := by
  unfold getT
  rw [if_pos rfl]
end Go.Proofs.YtolepfbhhmganaaDoor
