/- State checksums, as plain lists. -/
import Derived.Test.YtgbnoemoangofaaMB
import Derived.Test.YtgbnoemoangofaaMA
namespace Go.Proofs.Ytgbnoemoangofaa
open Go.ChangeShapes Go.WideShapes Go.ChangeAt Go.RowKit
set_option linter.unusedVariables false
set_option linter.unusedSimpArgs false

/-- A state checksum: from whom, at which place, the sum. -/
structure Ck where
  a : Int
  f : Int
  n : Int
  deriving DecidableEq
def Ck.cells (x : Ck) : List Value := [.int .i64 x.a, .int .i64 x.f, .int .i64 x.n]
abbrev Ck.val (x : Ck) : Value := .agg #[.int .i64 x.a, .int .i64 x.f, .int .i64 x.n]
abbrev ckCs (x : Ck) : Array Value := #[.int .i64 x.a, .int .i64 x.f, .int .i64 x.n]
theorem Ck.len (c : Ck) : c.cells.length = 3 := rfl
def ckB (x : Ck) : Bool := inB x.a 0 3 && (inB x.f 0 5 && inB x.n 0 4294967295)
def kyP (x : Ck) : Int × Int := (x.a, x.f)
def kyC (x : Ck) : Int × Int := (x.f, x.n)
structure OkC (L : List Ck) : Prop where
  len : L.length ≤ 24
  ok : ∀ x ∈ L, ckB x = true
  once : (L.map kyP).Nodup
instance (L : List Ck) : Decidable (OkC L) := decidable_of_iff (L.length ≤ 24 ∧ (∀ x ∈ L, ckB x = true) ∧ (L.map kyP).Nodup) ⟨fun h => ⟨h.1, h.2.1, h.2.2⟩, fun h => ⟨h.len, h.ok, h.once⟩⟩
def okC (L : List Ck) : Bool := decide (OkC L)
theorem okC_iff {L : List Ck} : okC L = true ↔ OkC L := by simp [okC]
theorem okC_nil : okC [] = true := okC_iff.2 ⟨by simp, by simp, by simp⟩
theorem ckB_le {x : Ck} (h : ckB x = true) : (0 ≤ x.a ∧ x.a ≤ 3) ∧ (0 ≤ x.f ∧ x.f ≤ 5) ∧ (0 ≤ x.n ∧ x.n ≤ 4294967295) := by
  unfold ckB inB at h
  simp only [Bool.and_eq_true, decide_eq_true_eq] at h
  exact ⟨h.1, h.2.1, h.2.2⟩
/-- How many have a sum at a place. -/
def manyC (L : List Ck) (k : Int × Int) : Nat := L.countP fun y => decide (kyC y = k)
theorem manyC_app (A B : List Ck) (k : Int × Int) : manyC (A ++ B) k = manyC A k + manyC B k := List.countP_append
theorem manyC_snoc (A : List Ck) (x : Ck) (k : Int × Int) : manyC (A ++ [x]) k = manyC A k + (if kyC x = k then 1 else 0) := by
  rw [manyC_app]
  congr 1
  by_cases h : kyC x = k <;> simp [manyC, h]
theorem manyC_rev (A : List Ck) (k : Int × Int) : manyC A.reverse k = manyC A k := List.countP_reverse
theorem manyC_pos {L : List Ck} {k : Int × Int} (h : 0 < manyC L k) : ∃ x ∈ L, kyC x = k := by
  obtain ⟨x, h1, h2⟩ := List.countP_pos_iff.1 h
  exact ⟨x, h1, by simpa using h2⟩
theorem one_key : ∀ {L : List Ck}, (L.map kyP).Nodup → ∀ k, L.countP (fun y => decide (kyP y = k)) ≤ 1
  | [], _, _ => by simp
  | x :: t, h, k => by
    rw [List.map_cons, List.nodup_cons] at h
    have ih := one_key h.2 k
    rw [List.countP_cons]
    by_cases e : kyP x = k
    · have h0 : t.countP (fun y => decide (kyP y = k)) = 0 := by
        rw [List.countP_eq_zero]
        intro y hy hk
        simp only [decide_eq_true_eq] at hk
        exact h.1 (by rw [e, ← hk]; exact List.mem_map_of_mem hy)
      rw [h0]; simp [e]
    · simp [e]; exact ih
theorem fourC : ∀ {L : List Ck}, (∀ x ∈ L, ckB x = true) → ∀ F : Int, L.countP (fun y => decide (y.f = F)) = L.countP (fun y => decide (kyP y = (0, F))) + L.countP (fun y => decide (kyP y = (1, F))) + L.countP (fun y => decide (kyP y = (2, F))) + L.countP (fun y => decide (kyP y = (3, F)))
  | [], _, _ => rfl
  | x :: t, h, F => by
    have ih := fourC (fun y hy => h y (List.mem_cons_of_mem _ hy)) F
    obtain ⟨⟨h0, h1⟩, _, _⟩ := ckB_le (h x (by simp))
    simp only [List.countP_cons, ih, kyP, Prod.mk.injEq, decide_eq_true_eq]
    by_cases e : x.f = F
    · have h4 : x.a = 0 ∨ x.a = 1 ∨ x.a = 2 ∨ x.a = 3 := by omega
      rcases h4 with h4 | h4 | h4 | h4 <;> simp [h4, e] <;> omega
    · simp [e]
theorem place_le {L : List Ck} (h : OkC L) (F : Int) : L.countP (fun y => decide (y.f = F)) ≤ 4 := by
  rw [fourC h.ok F]
  have h0 := one_key h.once (0, F)
  have h1 := one_key h.once (1, F)
  have h2 := one_key h.once (2, F)
  have h3 := one_key h.once (3, F)
  omega
theorem manyC_cons (x : Ck) (t : List Ck) (k : Int × Int) : manyC (x :: t) k = manyC t k + (if kyC x = k then 1 else 0) := by
  unfold manyC
  rw [List.countP_cons]
  simp
theorem many_two : ∀ (L : List Ck) (F n m : Int), n ≠ m → manyC L (F, n) + manyC L (F, m) ≤ L.countP (fun y => decide (y.f = F))
  | [], _, _, _, _ => by simp [manyC]
  | x :: t, F, n, m, h => by
    have ih := many_two t F n m h
    rw [manyC_cons, manyC_cons, List.countP_cons]
    have k1 : kyC x = (F, n) ↔ x.f = F ∧ x.n = n := by simp [kyC]
    have k2 : kyC x = (F, m) ↔ x.f = F ∧ x.n = m := by simp [kyC]
    by_cases e : x.f = F
    · by_cases e1 : x.n = n
      · rw [if_pos (k1.2 ⟨e, e1⟩), if_neg (fun hh => h (by rw [← e1, (k2.1 hh).2]))]
        simp [e]; omega
      · by_cases e2 : x.n = m
        · rw [if_neg (fun hh => e1 (k1.1 hh).2), if_pos (k2.2 ⟨e, e2⟩)]
          simp [e]; omega
        · rw [if_neg (fun hh => e1 (k1.1 hh).2), if_neg (fun hh => e2 (k2.1 hh).2)]
          simp [e]; omega
    · rw [if_neg (fun hh => e (k1.1 hh).1), if_neg (fun hh => e (k2.1 hh).1)]
      simp [e]; omega
/-- Two sums at one place cannot both be those of as many as must. -/
theorem sum_one {L : List Ck} (h : OkC L) {F n m : Int} (hn : 3 ≤ manyC L (F, n)) (hm : 3 ≤ manyC L (F, m)) : n = m := by
  by_cases e : n = m
  · exact e
  · have h1 := many_two L F n m e
    have h2 := place_le h F
    omega
/-- What is stable: the last place at which as many as must have one sum. -/
def BestC (L : List Ck) (r : Int × Int × Bool) : Prop :=
  (r = (0, 0, false) ∧ ∀ k, manyC L k < 3) ∨ (r.2.2 = true ∧ 3 ≤ manyC L (r.1, r.2.1) ∧ ∀ k, 3 ≤ manyC L k → k.1 ≤ r.1)
theorem best_one {L : List Ck} (h : OkC L) {r q : Int × Int × Bool} (hr : BestC L r) (hq : BestC L q) : r = q := by
  obtain ⟨rf, rn, rb⟩ := r
  obtain ⟨qf, qn, qb⟩ := q
  rcases hr with ⟨e, h1⟩ | ⟨e, h1, h2⟩
  · rcases hq with ⟨e', h1'⟩ | ⟨e', h1', h2'⟩
    · rw [e, e']
    · exact absurd (h1 (qf, qn)) (by dsimp only at h1'; omega)
  · rcases hq with ⟨e', h1'⟩ | ⟨e', h1', h2'⟩
    · exact absurd (h1' (rf, rn)) (by dsimp only at h1; omega)
    · dsimp only at e e' h1 h1' h2 h2'
      have h3 : rf = qf := by
        have a1 := h2 (qf, qn) h1'
        have a2 := h2' (rf, rn) h1
        dsimp only at a1 a2
        omega
      subst h3
      rw [sum_one h h1 h1', e, e']
theorem best_nil : BestC [] (0, 0, false) := .inl ⟨rfl, fun k => by simp [manyC]⟩
/-- One more sum is looked at. -/
def nextC (L : List Ck) (x : Ck) (r : Int × Int × Bool) : Int × Int × Bool := if 3 ≤ manyC (L ++ [x]) (kyC x) ∧ (r.2.2 = false ∨ r.1 < x.f) then (x.f, x.n, true) else r
theorem best_next {L : List Ck} {x : Ck} {r : Int × Int × Bool} (h : BestC L r) : BestC (L ++ [x]) (nextC L x r) := by
  obtain ⟨rf, rn, rb⟩ := r
  have grow : ∀ k, manyC L k ≤ manyC (L ++ [x]) k := fun k => by rw [manyC_snoc]; omega
  have same : ∀ k, kyC x ≠ k → manyC (L ++ [x]) k = manyC L k := fun k hk => by rw [manyC_snoc, if_neg hk]; rfl
  unfold nextC
  by_cases c : 3 ≤ manyC (L ++ [x]) (kyC x) ∧ (rb = false ∨ rf < x.f)
  · rw [if_pos c]
    refine .inr ⟨rfl, c.1, fun k hk => ?_⟩
    by_cases e : kyC x = k
    · rw [← e]; exact Int.le_refl _
    · rw [same k e] at hk
      rcases h with ⟨e1, h1⟩ | ⟨e1, h1, h2⟩
      · exact absurd hk (by have := h1 k; omega)
      · have h3 := h2 k hk
        dsimp only at h3 e1 ⊢
        rcases c.2 with c2 | c2
        · rw [e1] at c2; cases c2
        · omega
  · rw [if_neg c]
    rcases h with ⟨e1, h1⟩ | ⟨e1, h1, h2⟩
    · refine .inl ⟨e1, fun k => ?_⟩
      by_cases e : kyC x = k
      · subst e
        have h9 : rb = false := by injection e1 with _ e2; injection e2
        rcases Nat.lt_or_ge (manyC (L ++ [x]) (kyC x)) 3 with h8 | h8
        · exact h8
        · exact absurd ⟨h8, .inl h9⟩ c
      · rw [same k e]; exact h1 k
    · refine .inr ⟨e1, Nat.le_trans h1 (grow _), fun k hk => ?_⟩
      by_cases e : kyC x = k
      · subst e
        dsimp only
        show x.f ≤ rf
        rcases Int.lt_or_le rf x.f with h8 | h8
        · exact absurd ⟨hk, .inr h8⟩ c
        · exact h8
      · rw [same k e] at hk; exact h2 k hk
/-- The model's way: every sum against all. -/
def pickC (L : List Ck) (x : Ck) (r : Int × Int) : Int × Int := if r.1 < x.f ∧ 3 ≤ manyC L (kyC x) then (x.f, x.n) else r
def pickAllC (L : List Ck) (M : List Ck) : Int × Int := M.foldl (fun r x => pickC L x r) (-1, 0)
theorem pickAllC_snoc (L M : List Ck) (x : Ck) : pickAllC L (M ++ [x]) = pickC L x (pickAllC L M) := by unfold pickAllC; rw [List.foldl_append]; rfl
def PickP (L M : List Ck) (r : Int × Int) : Prop := (r = (-1, 0) ∧ ∀ x ∈ M, manyC L (kyC x) < 3) ∨ (0 ≤ r.1 ∧ 3 ≤ manyC L r ∧ ∀ x ∈ M, 3 ≤ manyC L (kyC x) → x.f ≤ r.1)
theorem pickP_next {L M : List Ck} {x : Ck} {r : Int × Int} (hx : 0 ≤ x.f) (h : PickP L M r) : PickP L (M ++ [x]) (pickC L x r) := by
  obtain ⟨rf, rn⟩ := r
  unfold pickC
  by_cases c : rf < x.f ∧ 3 ≤ manyC L (kyC x)
  · rw [if_pos c]
    refine .inr ⟨hx, c.2, fun y hy hq => ?_⟩
    rcases List.mem_append.1 hy with hy | hy
    · rcases h with ⟨e1, h1⟩ | ⟨e1, h1, h2⟩
      · exact absurd hq (by have := h1 y hy; omega)
      · have h3 := h2 y hy hq
        dsimp only at h3 ⊢
        omega
    · rw [List.mem_singleton.1 hy]; exact Int.le_refl _
  · rw [if_neg c]
    rcases h with ⟨e1, h1⟩ | ⟨e1, h1, h2⟩
    · refine .inl ⟨e1, fun y hy => ?_⟩
      rcases List.mem_append.1 hy with hy | hy
      · exact h1 y hy
      · rw [List.mem_singleton.1 hy]
        have h9 : rf = -1 := by injection e1
        rcases Nat.lt_or_ge (manyC L (kyC x)) 3 with h8 | h8
        · exact h8
        · exact absurd ⟨by omega, h8⟩ c
    · refine .inr ⟨e1, h1, fun y hy hq => ?_⟩
      rcases List.mem_append.1 hy with hy | hy
      · exact h2 y hy hq
      · rw [List.mem_singleton.1 hy] at hq ⊢
        dsimp only
        rcases Int.lt_or_le rf x.f with h8 | h8
        · exact absurd ⟨h8, hq⟩ c
        · exact h8
theorem pickP_nil (L : List Ck) : PickP L [] (-1, 0) := .inl ⟨rfl, fun x h => by cases h⟩
def outC (r : Int × Int) : Int × Int × Bool := if r.1 < 0 then (0, 0, false) else (r.1, r.2, true)
theorem best_pick {L : List Ck} {r : Int × Int} (h : PickP L L r) : BestC L (outC r) := by
  obtain ⟨rf, rn⟩ := r
  unfold outC
  rcases h with ⟨e1, h1⟩ | ⟨e1, h1, h2⟩
  · injection e1 with e2 e3
    subst e2 e3
    rw [if_pos (by decide)]
    refine .inl ⟨rfl, fun k => ?_⟩
    rcases Nat.lt_or_ge (manyC L k) 3 with h8 | h8
    · exact h8
    · obtain ⟨x, hx, rfl⟩ := manyC_pos (show 0 < manyC L k by omega)
      exact h1 x hx
  · dsimp only at e1
    rw [if_neg (by dsimp only; omega)]
    refine .inr ⟨rfl, h1, fun k hk => ?_⟩
    obtain ⟨x, hx, rfl⟩ := manyC_pos (show 0 < manyC L k by omega)
    exact h2 x hx hk
/-- The two ways are one. -/
def stC (L : List Ck) : Int × Int × Bool := if okC L = true then outC (pickAllC L L) else (0, 0, false)
theorem pickP_all {L : List Ck} (h : ∀ x ∈ L, ckB x = true) : PickP L L (pickAllC L L) := by
  have key : ∀ n, ∀ M : List Ck, M.length = n → (∀ x ∈ M, ckB x = true) → PickP L M (pickAllC L M) := by
    intro n
    induction n with
    | zero => intro M hM _; rw [List.eq_nil_of_length_eq_zero hM]; exact pickP_nil L
    | succ n ih =>
      intro M hM hk
      obtain ⟨M0, x, rfl⟩ : ∃ M0 x, M = M0 ++ [x] := by
        rcases List.eq_nil_or_concat M with h | ⟨a, b, h⟩
        · subst h; simp at hM
        · exact ⟨a, b, by rw [h, List.concat_eq_append]⟩
      rw [pickAllC_snoc]
      exact pickP_next (ckB_le (hk x (by simp))).2.1.1 (ih M0 (by simpa using hM) (fun y hy => hk y (List.mem_append_left _ hy)))
  exact key _ L rfl h
theorem stC_best {L : List Ck} (h : OkC L) : BestC L (stC L) := by
  unfold stC
  rw [if_pos (okC_iff.2 h)]
  exact best_pick (pickP_all h.ok)
theorem stC_eq {L : List Ck} (h : OkC L) {r : Int × Int × Bool} (hr : BestC L r) : stC L = r := best_one h (stC_best h) hr
theorem stC_no {L : List Ck} (h : okC L = false) : stC L = (0, 0, false) := by unfold stC; rw [h]; rfl
theorem OkC.rev {L : List Ck} (h : OkC L) : OkC L.reverse := ⟨by rw [List.length_reverse]; exact h.len, fun x hx => h.ok x (by simpa using hx), by rw [List.map_reverse]; exact List.pairwise_reverse.2 (List.Pairwise.imp (fun h e => h e.symm) (show (L.map kyP).Pairwise _ from h.once))⟩
theorem stC_rev {L : List Ck} (h : OkC L) : stC L.reverse = stC L := by
  refine stC_eq h.rev ?_
  rcases stC_best h with ⟨e, h1⟩ | ⟨e, h1, h2⟩
  · exact .inl ⟨e, fun k => by rw [manyC_rev]; exact h1 k⟩
  · exact .inr ⟨e, by rw [manyC_rev]; exact h1, fun k hk => h2 k (by rwa [manyC_rev] at hk)⟩
/-- One more. -/
def addC (L : List Ck) (x : Ck) : List Ck × Bool := if okC L = true then (if okC (L ++ [x]) = true then (L ++ [x], true) else (L, false)) else ([], false)
theorem addC_bad {L : List Ck} {x : Ck} (h : okC L = false) : addC L x = ([], false) := by unfold addC; rw [h]; rfl
theorem addC_no {L : List Ck} {x : Ck} (h : okC L = true) (h2 : okC (L ++ [x]) = false) : addC L x = (L, false) := by unfold addC; rw [h, h2]; rfl
theorem addC_yes {L : List Ck} {x : Ck} (h : okC L = true) (h2 : okC (L ++ [x]) = true) : addC L x = (L ++ [x], true) := by unfold addC; rw [h, h2]; rfl
theorem addC_len (L : List Ck) (x : Ck) : (addC L x).1.length ≤ L.length + 1 := by
  unfold addC
  split
  · split
    · simp
    · simp
  · simp
theorem add_again {L : List Ck} {x : Ck} (h : okC (L ++ [x]) = true) : addC (L ++ [x]) x = (L ++ [x], false) := by
  refine addC_no h ?_
  unfold okC
  refine decide_eq_false (fun hh => ?_)
  have h1 := hh.once
  rw [List.map_append, List.nodup_append] at h1
  exact h1.2.2 (kyP x) (by simp) (kyP x) (by simp) rfl
/-- What is stable stays, or goes on. -/
theorem add_stable {L : List Ck} {x : Ck} (h : OkC L) (h2 : OkC (L ++ [x])) : (stC L).2.2 = false ∨ ((stC (L ++ [x])).2.2 = true ∧ (stC L).1 ≤ (stC (L ++ [x])).1 ∧ ((stC L).1 < (stC (L ++ [x])).1 ∨ (stC (L ++ [x])).2.1 = (stC L).2.1)) := by
  have grow : ∀ k, manyC L k ≤ manyC (L ++ [x]) k := fun k => by rw [manyC_snoc]; omega
  have b1 := stC_best h
  have b2 := stC_best h2
  obtain ⟨⟨rf, rn, rb⟩, hr⟩ : ∃ r, stC L = r := ⟨_, rfl⟩
  obtain ⟨⟨qf, qn, qb⟩, hq⟩ : ∃ q, stC (L ++ [x]) = q := ⟨_, rfl⟩
  rw [hr] at b1 ⊢
  rw [hq] at b2 ⊢
  rcases b1 with ⟨e1, h1⟩ | ⟨e1, h1, h3⟩
  · left; injection e1 with _ e1; injection e1
  · right
    dsimp only at e1 h1 h3
    have h4 := Nat.le_trans h1 (grow (rf, rn))
    rcases b2 with ⟨e5, h5⟩ | ⟨e5, h5, h6⟩
    · exact absurd h4 (by have := h5 (rf, rn); omega)
    · dsimp only at e5 h5 h6 ⊢
      have h7 : rf ≤ qf := h6 (rf, rn) h4
      refine ⟨e5, h7, ?_⟩
      by_cases e : rf = qf
      · right
        subst e
        exact sum_one h2 h5 h4
      · left; omega
/-- Those of later places. -/
def cutC (L : List Ck) (s : Int) : List Ck := if okC L = true then L.filter (fun x => decide (s < x.f)) else []
theorem cutC_no {L : List Ck} {s : Int} (h : okC L = false) : cutC L s = [] := by unfold cutC; rw [h]; rfl
theorem cutC_yes {L : List Ck} {s : Int} (h : okC L = true) : cutC L s = L.filter (fun x => decide (s < x.f)) := by unfold cutC; rw [h]; rfl
theorem cutC_len (L : List Ck) (s : Int) : (cutC L s).length ≤ L.length := by
  unfold cutC
  split
  · exact List.length_filter_le _ _
  · simp
theorem OkC.cut {L : List Ck} (h : OkC L) (s : Int) : OkC (cutC L s) := by
  rw [cutC_yes (okC_iff.2 h)]
  refine ⟨Nat.le_trans (List.length_filter_le _ _) h.len, fun x hx => h.ok x (List.mem_filter.1 hx).1, ?_⟩
  exact List.Sublist.nodup (List.Sublist.map _ (List.filter_sublist (l := L))) h.once
theorem cut_later {L : List Ck} {s : Int} : ∀ x ∈ cutC L s, s < x.f := by
  intro x hx
  unfold cutC at hx
  split at hx
  · simpa using (List.mem_filter.1 hx).2
  · cases hx
theorem cut_cut {L : List Ck} (h : OkC L) (s : Int) : cutC (cutC L s) s = cutC L s := by
  rw [cutC_yes (okC_iff.2 (h.cut s))]
  exact List.filter_eq_self.2 (fun x hx => by simpa using cut_later x hx)
theorem many_cut {L : List Ck} (h : OkC L) (s : Int) (k : Int × Int) : manyC (cutC L s) k = if s < k.1 then manyC L k else 0 := by
  rw [cutC_yes (okC_iff.2 h)]
  unfold manyC
  rw [List.countP_filter]
  by_cases e : s < k.1
  · rw [if_pos e]
    refine List.countP_congr (fun x _ => ?_)
    simp only [Bool.and_eq_true, decide_eq_true_eq]
    exact ⟨fun h => h.1, fun h => ⟨h, by rw [← h] at e; exact e⟩⟩
  · rw [if_neg e, List.countP_eq_zero]
    intro x _ hx
    simp only [Bool.and_eq_true, decide_eq_true_eq] at hx
    rw [← hx.1] at e
    exact e hx.2
theorem cut_stable {L : List Ck} (h : OkC L) (s : Int) : (stC L).2.2 = false ∨ (stC L).1 ≤ s ∨ stC (cutC L s) = stC L := by
  have b1 := stC_best h
  obtain ⟨⟨rf, rn, rb⟩, hr⟩ : ∃ r, stC L = r := ⟨_, rfl⟩
  rw [hr] at b1 ⊢
  rcases b1 with ⟨e1, h1⟩ | ⟨e1, h1, h3⟩
  · left; injection e1 with _ e1; injection e1
  · right
    dsimp only at e1 h1 h3 ⊢
    by_cases e : rf ≤ s
    · exact .inl e
    · right
      refine stC_eq (h.cut s) (.inr ⟨e1, ?_, fun k hk => ?_⟩)
      · rw [many_cut h, if_pos (by dsimp only; omega)]; exact h1
      · rw [many_cut h] at hk
        split at hk
        · exact h3 k hk
        · omega
end Go.Proofs.Ytgbnoemoangofaa
