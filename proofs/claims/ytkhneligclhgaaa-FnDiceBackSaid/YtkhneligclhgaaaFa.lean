/- Dice, as plain numbers and lists. -/
import Derived.Test.YtkhneligclhgaaaMB
import Derived.Test.YtkhneligclhgaaaMA
namespace Go.Proofs.Ytkhneligclhgaaa
open Go.ChangeShapes Go.WideShapes Go.ChangeAt Go.RowKit
set_option linter.unusedVariables false
set_option linter.unusedSimpArgs false

/-- The next number of a seed. -/
def dNx (s : Nat) : Nat := (s * 1103515245 + 12345) % 2147483648
def sdB (s : Int) : Bool := inB s 0 2147483647
def dNxI (s : Int) : Int := if sdB s = true then ((dNx s.toNat : Nat) : Int) else -1
def dRk (s n : Nat) : Nat := dNx s / 65536 % n
def rlB (s k : Int) : Bool := sdB s && inB k 1 20
def dRl (s k : Int) : Int × Int := if rlB s k = true then (((dRk s.toNat k.toNat : Nat) : Int), ((dNx s.toNat : Nat) : Int)) else (-1, -1)
def dIt (s : Nat) : Nat → Nat
  | 0 => s
  | k + 1 => dNx (dIt s k)
theorem dNx_lt (s : Nat) : dNx s ≤ 2147483647 := by unfold dNx; omega
theorem dIt_lt {s : Nat} (h : s ≤ 2147483647) : ∀ k, dIt s k ≤ 2147483647
  | 0 => h
  | k + 1 => dNx_lt _
theorem sdB_iff {s : Int} : sdB s = true ↔ 0 ≤ s ∧ s ≤ 2147483647 := by unfold sdB inB; simp
theorem sdB_nat {s : Int} (h : sdB s = true) : ∃ n : Nat, s = (n : Int) ∧ n ≤ 2147483647 := by
  have := sdB_iff.1 h
  exact ⟨s.toNat, by omega, by omega⟩
theorem sdB_of {n : Nat} (h : n ≤ 2147483647) : sdB (n : Int) = true := sdB_iff.2 (by omega)
theorem dNxI_nat {n : Nat} (h : n ≤ 2147483647) : dNxI (n : Int) = ((dNx n : Nat) : Int) := by unfold dNxI; rw [if_pos (sdB_of h)]; rfl
theorem rlB_of {s k : Nat} (h : s ≤ 2147483647) (h1 : 1 ≤ k) (h2 : k ≤ 20) : rlB (s : Int) (k : Int) = true := by
  unfold rlB inB; rw [sdB_of h]; simp; omega
theorem dRl_nat {s k : Nat} (h : s ≤ 2147483647) (h1 : 1 ≤ k) (h2 : k ≤ 20) : dRl (s : Int) (k : Int) = (((dRk s k : Nat) : Int), ((dNx s : Nat) : Int)) := by
  unfold dRl; rw [if_pos (rlB_of h h1 h2)]; rfl
theorem dRk_lt (s : Nat) {n : Nat} (h : 1 ≤ n) : dRk s n < n := Nat.mod_lt _ h
/-- Two numbers have two next ones. -/
theorem dNx_inj {a b : Nat} (ha : a ≤ 2147483647) (hb : b ≤ 2147483647) (h : dNx a = dNx b) : a = b := by
  have key : ∀ x : Nat, x ≤ 2147483647 → ((dNx x + 2147471303) * 1857678181) % 2147483648 = x := fun x hx => by
    unfold dNx
    omega
  rw [← key a ha, ← key b hb, h]

theorem xor31 {a b : Nat} (ha : a ≤ 2147483647) (hb : b ≤ 2147483647) : a ^^^ b ≤ 2147483647 := by
  have := Nat.xor_lt_two_pow (x := a) (y := b) (n := 31) (by omega) (by omega)
  omega
def mixN : List Int → Nat
  | [] => 0
  | s :: t => s.toNat ^^^ mixN t
def mixB (L : List Int) : Bool := L.all sdB
def mixI (L : List Int) : Int := if mixB L = true then ((mixN L : Nat) : Int) else -1
theorem mixN_app : ∀ A B : List Int, mixN (A ++ B) = mixN A ^^^ mixN B
  | [], B => by simp [mixN]
  | s :: t, B => by show s.toNat ^^^ mixN (t ++ B) = _; rw [mixN_app t B]; show _ = (s.toNat ^^^ mixN t) ^^^ mixN B; rw [Nat.xor_assoc]
theorem mixN_rev : ∀ A : List Int, mixN A.reverse = mixN A
  | [] => rfl
  | s :: t => by rw [List.reverse_cons, mixN_app, mixN_rev t]; show mixN t ^^^ (s.toNat ^^^ 0) = s.toNat ^^^ mixN t; rw [Nat.xor_zero, Nat.xor_comm]
theorem mixN_lt : ∀ A : List Int, mixB A = true → mixN A ≤ 2147483647
  | [], _ => by simp [mixN]
  | s :: t, h => by
    have h1 : sdB s = true ∧ mixB t = true := by simpa [mixB] using h
    have h2 := sdB_iff.1 h1.1
    exact xor31 (by omega) (mixN_lt t h1.2)
theorem mixB_app (A B : List Int) : mixB (A ++ B) = (mixB A && mixB B) := by simp [mixB]
theorem mixB_rev (A : List Int) : mixB A.reverse = mixB A := by simp [mixB, List.all_reverse]
theorem mixI_ge {L : List Int} (h : 0 ≤ mixI L) : mixB L = true := by
  unfold mixI at h
  split at h
  · assumption
  · omega
theorem mixI_yes {L : List Int} (h : mixB L = true) : mixI L = ((mixN L : Nat) : Int) := by unfold mixI; rw [if_pos h]
theorem mixI_rev (L : List Int) : mixI L.reverse = mixI L := by unfold mixI; rw [mixB_rev, mixN_rev]
theorem mixI_two {L : List Int} (h : mixB L = true) : mixI (L.reverse ++ L) = 0 := by
  rw [mixI_yes (by rw [mixB_app, mixB_rev, h]; rfl), mixN_app, mixN_rev, Nat.xor_self]; rfl
theorem mixI_one {L : List Int} (h : mixB L = true) : mixI [mixI L] = mixI L := by
  rw [mixI_yes h]
  have h1 : mixB [((mixN L : Nat) : Int)] = true := by simp [mixB, sdB_of (mixN_lt L h)]
  rw [mixI_yes h1]
  show (((mixN L : Int).toNat ^^^ 0 : Nat) : Int) = _
  rw [Nat.xor_zero]; rfl
theorem mixI_le {L : List Int} (h : mixB L = true) : mixI L ≤ 2147483647 := by rw [mixI_yes h]; have := mixN_lt L h; omega

/-- Two places of a list change. -/
def dSw (L : List Int) (p : Nat × Nat) : List Int := (L.set p.1 (L.getD p.2 0)).set p.2 (L.getD p.1 0)
theorem dSw_len (L : List Int) (p : Nat × Nat) : (dSw L p).length = L.length := by unfold dSw; simp
theorem dSw_at (L : List Int) (p : Nat × Nat) (h1 : p.1 < L.length) (h2 : p.2 < L.length) (j : Nat) (hj : j < L.length) : (dSw L p).getD j 0 = L.getD (if j = p.2 then p.1 else if j = p.1 then p.2 else j) 0 := by
  unfold dSw
  simp only [List.getD_eq_getElem?_getD, List.getElem?_set, List.length_set]
  by_cases e2 : j = p.2
  · subst e2; simp [h2]
  · rw [if_neg e2, if_neg (fun h : p.2 = j => e2 h.symm)]
    by_cases e1 : j = p.1
    · subst e1; simp [h1]
    · rw [if_neg e1, if_neg (fun h : p.1 = j => e1 h.symm)]
theorem ext_getD {A B : List Int} (hl : A.length = B.length) (h : ∀ j, j < A.length → A.getD j 0 = B.getD j 0) : A = B := by
  apply List.ext_getElem hl
  intro j h1 h2
  have := h j h1
  simpa [List.getD_eq_getElem?_getD, h1, h2] using this
theorem dSw_dSw (L : List Int) (p : Nat × Nat) (h1 : p.1 < L.length) (h2 : p.2 < L.length) : dSw (dSw L p) p = L := by
  refine ext_getD (by rw [dSw_len, dSw_len]) (fun j hj => ?_)
  rw [dSw_len, dSw_len] at hj
  rw [dSw_at _ p (by rw [dSw_len]; exact h1) (by rw [dSw_len]; exact h2) j (by rw [dSw_len]; exact hj)]
  by_cases e2 : j = p.2
  · rw [if_pos e2, dSw_at _ p h1 h2 _ h1]
    by_cases e : p.1 = p.2
    · rw [if_pos e, e2, e]
    · rw [if_neg e, if_pos rfl, e2]
  · rw [if_neg e2]
    by_cases e1 : j = p.1
    · rw [if_pos e1, dSw_at _ p h1 h2 _ h2, if_pos rfl, e1]
    · rw [if_neg e1, dSw_at _ p h1 h2 _ hj, if_neg e2, if_neg e1]
theorem dSw_map (R : List Int) (f : Int → Int) (p : Nat × Nat) (h1 : p.1 < R.length) (h2 : p.2 < R.length) : dSw (R.map f) p = (dSw R p).map f := by
  unfold dSw
  rw [List.map_set, List.map_set]
  congr 1
  · congr 1
    simp [List.getD_eq_getElem?_getD, h2]
  · simp [List.getD_eq_getElem?_getD, h1]
theorem dSw_count (L : List Int) (p : Nat × Nat) (h1 : p.1 < L.length) (h2 : p.2 < L.length) (v : Int) : (dSw L p).count v = L.count v := by
  unfold dSw
  have e1 : L.getD p.1 0 = L[p.1] := by simp [List.getD_eq_getElem?_getD, h1]
  have e2 : L.getD p.2 0 = L[p.2] := by simp [List.getD_eq_getElem?_getD, h2]
  rw [e1, e2]
  have hp := List.set_set_perm h1 h2
  exact hp.count_eq v
/-- Many pairs of places change, one behind the other. -/
def dRun (l : List (Nat × Nat)) (L : List Int) : List Int := l.foldl dSw L
def InP (m : Nat) (l : List (Nat × Nat)) : Prop := ∀ p ∈ l, p.1 < m ∧ p.2 < m
theorem dRun_app (a b : List (Nat × Nat)) (L : List Int) : dRun (a ++ b) L = dRun b (dRun a L) := List.foldl_append ..
theorem dRun_snoc (a : List (Nat × Nat)) (p : Nat × Nat) (L : List Int) : dRun (a ++ [p]) L = dSw (dRun a L) p := by rw [dRun_app]; rfl
theorem dRun_len : ∀ (l : List (Nat × Nat)) (L : List Int), (dRun l L).length = L.length
  | [], L => rfl
  | p :: t, L => by show (dRun t (dSw L p)).length = _; rw [dRun_len, dSw_len]
theorem dRun_back : ∀ (l : List (Nat × Nat)) (L : List Int), InP L.length l → dRun l.reverse (dRun l L) = L
  | [], L, _ => rfl
  | p :: t, L, h => by
    rw [List.reverse_cons, dRun_snoc]
    show dSw (dRun t.reverse (dRun t (dSw L p))) p = L
    rw [dRun_back t (dSw L p) (by rw [dSw_len]; exact fun q hq => h q (List.mem_cons_of_mem _ hq))]
    have := h p (by simp)
    exact dSw_dSw L p this.1 this.2
theorem InP.rev {m : Nat} {l : List (Nat × Nat)} (h : InP m l) : InP m l.reverse := fun p hp => h p (by simpa using hp)
theorem dRun_fwd (l : List (Nat × Nat)) (L : List Int) (h : InP L.length l) : dRun l (dRun l.reverse L) = L := by
  have := dRun_back l.reverse L h.rev
  rwa [List.reverse_reverse] at this
theorem dRun_map (f : Int → Int) : ∀ (l : List (Nat × Nat)) (R : List Int), InP R.length l → dRun l (R.map f) = (dRun l R).map f
  | [], R, _ => rfl
  | p :: t, R, h => by
    have := h p (by simp)
    show dRun t (dSw (R.map f) p) = (dRun t (dSw R p)).map f
    rw [dSw_map R f p this.1 this.2, dRun_map f t _ (by rw [dSw_len]; exact fun q hq => h q (List.mem_cons_of_mem _ hq))]
theorem dRun_count (v : Int) : ∀ (l : List (Nat × Nat)) (L : List Int), InP L.length l → (dRun l L).count v = L.count v
  | [], L, _ => rfl
  | p :: t, L, h => by
    have := h p (by simp)
    show (dRun t (dSw L p)).count v = _
    rw [dRun_count v t _ (by rw [dSw_len]; exact fun q hq => h q (List.mem_cons_of_mem _ hq)), dSw_count L p this.1 this.2]

/-- The place that is rolled behind j others, of m; the pairs of the first k rolls. -/
def dTo (m s j : Nat) : Nat := dRk (dIt s j) (m - j)
def dUps (m s : Nat) : Nat → List (Nat × Nat)
  | 0 => []
  | k + 1 => dUps m s k ++ [(m - 1 - k, dTo m s k)]
theorem dTo_lt {m s j : Nat} (h : j < m) : dTo m s j < m := Nat.lt_of_lt_of_le (dRk_lt _ (by omega)) (Nat.sub_le ..)
theorem dUps_in (m s : Nat) : ∀ k, k ≤ m - 1 → InP m (dUps m s k)
  | 0, _ => fun p hp => by cases hp
  | k + 1, h => fun p hp => by
    rcases List.mem_append.1 hp with h1 | h1
    · exact dUps_in m s k (by omega) p h1
    · rw [List.mem_singleton.1 h1]
      exact ⟨by show m - 1 - k < m; omega, dTo_lt (by omega)⟩
theorem dUps_len (m s : Nat) : ∀ k, (dUps m s k).length = k
  | 0 => rfl
  | k + 1 => by show (dUps m s k ++ _).length = _; rw [List.length_append, dUps_len]; rfl
def dAll (m s : Nat) : List (Nat × Nat) := dUps m s (m - 1)
theorem dAll_in (m s : Nat) : InP m (dAll m s) := dUps_in m s _ (Nat.le_refl _)
def shB (L : List Int) (s : Int) : Bool := decide (L.length ≤ 20) && sdB s
def shufI (L : List Int) (s : Int) : List Int := if shB L s = true then dRun (dAll L.length s.toNat) L else []
def backI (L : List Int) (s : Int) : List Int := if shB L s = true then dRun (dAll L.length s.toNat).reverse L else []
theorem shufI_no {L : List Int} {s : Int} (h : shB L s = false) : shufI L s = [] := by unfold shufI; rw [h]; rfl
theorem backI_no {L : List Int} {s : Int} (h : shB L s = false) : backI L s = [] := by unfold backI; rw [h]; rfl
theorem shufI_yes {L : List Int} {n : Nat} (h : shB L (n : Int) = true) : shufI L (n : Int) = dRun (dAll L.length n) L := by unfold shufI; rw [if_pos h]; rfl
theorem backI_yes {L : List Int} {n : Nat} (h : shB L (n : Int) = true) : backI L (n : Int) = dRun (dAll L.length n).reverse L := by unfold backI; rw [if_pos h]; rfl
theorem shB_nat {L : List Int} {s : Int} (h : shB L s = true) : ∃ n : Nat, s = (n : Int) ∧ n ≤ 2147483647 ∧ L.length ≤ 20 := by
  unfold shB at h
  simp only [Bool.and_eq_true, decide_eq_true_eq] at h
  obtain ⟨n, e, hn⟩ := sdB_nat h.2
  exact ⟨n, e, hn, h.1⟩
theorem shufI_len {L : List Int} {s : Int} (h : shB L s = true) : (shufI L s).length = L.length := by unfold shufI; rw [if_pos h, dRun_len]
theorem backI_len {L : List Int} {s : Int} (h : shB L s = true) : (backI L s).length = L.length := by unfold backI; rw [if_pos h, dRun_len]
theorem shB_len {L M : List Int} {s : Int} (h : L.length = M.length) : shB L s = shB M s := by unfold shB; rw [h]
theorem shufI_le (L : List Int) (s : Int) : (shufI L s).length ≤ L.length := by
  unfold shufI
  split
  · rw [dRun_len]; exact Nat.le_refl _
  · exact Nat.zero_le _
theorem backI_le (L : List Int) (s : Int) : (backI L s).length ≤ L.length := by
  unfold backI
  split
  · rw [dRun_len]; exact Nat.le_refl _
  · exact Nat.zero_le _
theorem back_shuf {L : List Int} {s : Int} (h : shB L s = true) : backI (shufI L s) s = L := by
  have h2 : shB (shufI L s) s = true := by rw [shB_len (shufI_len h)]; exact h
  have hl := shufI_len h
  unfold backI
  rw [if_pos h2, hl]
  unfold shufI
  rw [if_pos h]
  exact dRun_back _ L (dAll_in _ _)
theorem shuf_back {L : List Int} {s : Int} (h : shB L s = true) : shufI (backI L s) s = L := by
  have h2 : shB (backI L s) s = true := by rw [shB_len (backI_len h)]; exact h
  have hl := backI_len h
  unfold shufI
  rw [if_pos h2, hl]
  unfold backI
  rw [if_pos h]
  exact dRun_fwd _ L (dAll_in _ _)
theorem shuf_count {L : List Int} {s : Int} (h : shB L s = true) (v : Int) : (shufI L s).count v = L.count v := by
  unfold shufI
  rw [if_pos h]
  exact dRun_count v _ L (dAll_in _ _)
/-- The places of a list. -/
def upto (m : Nat) : List Int := (List.range m).map fun i : Nat => (i : Int)
theorem upto_len (m : Nat) : (upto m).length = m := by simp [upto]
theorem upto_at (m j : Nat) (h : j < m) : (upto m).getD j 0 = (j : Int) := by simp [upto, List.getD_eq_getElem?_getD, h]
theorem upto_mem (m : Nat) (x : Int) : x ∈ upto m ↔ ∃ i : Nat, i < m ∧ x = (i : Int) := by
  simp only [upto, List.mem_map, List.mem_range]
  exact ⟨fun ⟨i, h, e⟩ => ⟨i, h, e.symm⟩, fun ⟨i, h, e⟩ => ⟨i, h, e.symm⟩⟩
theorem map_upto (L : List Int) : (upto L.length).map (fun x => L.getD x.toNat 0) = L := by
  refine ext_getD (by simp [upto_len]) (fun j hj => ?_)
  have hj : j < L.length := by simpa [upto_len] using hj
  simp [upto, List.getD_eq_getElem?_getD, hj]
/-- The places shuffled tell where each element came from. -/
theorem from_place {L : List Int} {s : Int} (h : shB L s = true) (X : List Int) (hX : X = backI L s) (j : Nat) (hj : j < L.length) :
    ∃ k : Nat, (shufI (upto L.length) s).getD j 0 = (k : Int) ∧ k < L.length ∧ L.getD j 0 = X.getD k 0 := by
  obtain ⟨n, rfl, hn, h20⟩ := shB_nat h
  have hu : shB (upto L.length) (n : Int) = true := by rw [shB_len (upto_len _)]; exact h
  have hS := shufI_yes hu
  rw [upto_len] at hS
  have hXl : X.length = L.length := by rw [hX, backI_len h]
  have e : dRun (dAll L.length n) X = L := by
    have h2 : shB X (n : Int) = true := by rw [shB_len hXl]; exact h
    have := shuf_back h
    rw [← hX, shufI_yes h2, hXl] at this
    exact this
  have e2 : (dRun (dAll L.length n) (upto L.length)).map (fun x => X.getD x.toNat 0) = L := by
    rw [← dRun_map _ _ _ (by rw [upto_len]; exact dAll_in _ _)]
    rw [show (upto L.length).map (fun x => X.getD x.toNat 0) = X from by rw [← hXl]; exact map_upto X]
    exact e
  rw [hS]
  obtain ⟨S, hSd⟩ : ∃ S, dRun (dAll L.length n) (upto L.length) = S := ⟨_, rfl⟩
  have hSl : S.length = L.length := by rw [← hSd, dRun_len, upto_len]
  have hm : S.getD j 0 ∈ upto L.length := by
    have h1 : S.getD j 0 ∈ S := by
      have : j < S.length := by omega
      rw [List.getD_eq_getElem?_getD, List.getElem?_eq_getElem this]
      exact List.getElem_mem this
    have h2 : 0 < S.count (S.getD j 0) := List.count_pos_iff.2 h1
    rw [← hSd, dRun_count _ _ _ (by rw [upto_len]; exact dAll_in _ _), hSd] at h2
    exact List.count_pos_iff.1 h2
  obtain ⟨k, hk, hk2⟩ := (upto_mem _ _).1 hm
  refine ⟨k, by rw [hSd]; exact hk2, hk, ?_⟩
  rw [hSd] at e2
  have h3 := congrArg (fun M : List Int => M.getD j 0) e2
  have hj2 : j < S.length := by omega
  simp only [List.getD_eq_getElem?_getD, List.getElem?_map, List.getElem?_eq_getElem hj2, Option.map_some, Option.getD_some] at h3
  rw [List.getD_eq_getElem?_getD, ← h3]
  have hk3 : S[j] = (k : Int) := by rw [← hk2, List.getD_eq_getElem?_getD, List.getElem?_eq_getElem hj2]; rfl
  rw [hk3, List.getD_eq_getElem?_getD]
  rfl
theorem place_mem {L : List Int} {s : Int} (h : shB L s = true) (k : Nat) (hk : k < L.length) : ∃ j, j < L.length ∧ (shufI (upto L.length) s).getD j 0 = (k : Int) := by
  have hu : shB (upto L.length) s = true := by rw [shB_len (upto_len _)]; exact h
  have h1 : 0 < (upto L.length).count (k : Int) := List.count_pos_iff.2 ((upto_mem _ _).2 ⟨k, hk, rfl⟩)
  rw [← shuf_count hu] at h1
  obtain ⟨j, hj, e⟩ := List.getElem_of_mem (List.count_pos_iff.1 h1)
  refine ⟨j, ?_, ?_⟩
  · have := shufI_len hu
    rw [upto_len] at this
    omega
  · rw [List.getD_eq_getElem?_getD, List.getElem?_eq_getElem hj, e]; rfl
end Go.Proofs.Ytkhneligclhgaaa
