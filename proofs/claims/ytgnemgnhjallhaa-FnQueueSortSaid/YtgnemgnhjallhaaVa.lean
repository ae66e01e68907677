/- Things with times: their order, heaps as lists. Plain facts; no program. -/
import Derived.Test.YtgnemgnhjallhaaMB
import Derived.Test.YtgnemgnhjallhaaMA
namespace Go.Proofs.Ytgnemgnhjallhaa
open Go.ChangeShapes Go.WideShapes Go.ChangeAt Go.RowKit
set_option linter.unusedVariables false
set_option linter.unusedSimpArgs false

/-- A thing with a time. -/
structure Tm where
  a : Int
  f : Int
  n : Int
  deriving DecidableEq
def Tm.cells (x : Tm) : List Value := [.int .i64 x.a, .int .i64 x.f, .int .i64 x.n]
abbrev Tm.val (x : Tm) : Value := .agg #[.int .i64 x.a, .int .i64 x.f, .int .i64 x.n]
abbrev tmCs (x : Tm) : Array Value := #[.int .i64 x.a, .int .i64 x.f, .int .i64 x.n]
theorem Tm.len (c : Tm) : c.cells.length = 3 := rfl
def tmB (x : Tm) : Bool := inB x.a 0 999 && (inB x.f 0 4 && inB x.n 0 30)
def lessT (x y : Tm) : Bool := decide (x.a < y.a ∨ (x.a = y.a ∧ (x.f < y.f ∨ (x.f = y.f ∧ x.n < y.n))))
theorem lessT_iff (x y : Tm) : lessT x y = true ↔ (x.a < y.a ∨ (x.a = y.a ∧ (x.f < y.f ∨ (x.f = y.f ∧ x.n < y.n)))) := by simp [lessT]
theorem lessT_not (x y : Tm) : lessT x y = false ↔ ¬ (x.a < y.a ∨ (x.a = y.a ∧ (x.f < y.f ∨ (x.f = y.f ∧ x.n < y.n)))) := by
  rw [← lessT_iff]
  simp
theorem ge_trans {x y z : Tm} (h1 : lessT y x = false) (h2 : lessT z y = false) : lessT z x = false := by
  rw [lessT_not] at *
  omega
theorem less_ge {x y : Tm} (h : lessT x y = true) : lessT y x = false := by
  rw [lessT_iff] at h
  rw [lessT_not]
  omega
theorem less_irr (x : Tm) : lessT x x = false := by
  rw [lessT_not]
  omega
theorem ge_anti {x y : Tm} (h1 : lessT y x = false) (h2 : lessT x y = false) : x = y := by
  rw [lessT_not] at *
  obtain ⟨a, f, n⟩ := x
  obtain ⟨a', f', n'⟩ := y
  simp only [Tm.mk.injEq] at *
  omega
theorem less_trans {x y z : Tm} (h1 : lessT x y = true) (h2 : lessT y z = true) : lessT x z = true := by
  rw [lessT_iff] at *
  omega

/-- The element at i. -/
def at' (L : List Tm) (i : Nat) : Tm := L.getD i ⟨0, 0, 0⟩
theorem at_eq (L : List Tm) (i : Nat) (h : i < L.length) : at' L i = L[i] := by simp [at', List.getD, List.getElem?_eq_getElem h]
def swp (L : List Tm) (i j : Nat) : List Tm := (L.set i (at' L j)).set j (at' L i)
@[simp] theorem swp_len (L : List Tm) (i j : Nat) : (swp L i j).length = L.length := by simp [swp]
theorem swp_perm (L : List Tm) (i j : Nat) (hi : i < L.length) (hj : j < L.length) : (swp L i j).Perm L := by
  unfold swp
  rw [at_eq L i hi, at_eq L j hj]
  exact List.set_set_perm hi hj
theorem at_swp (L : List Tm) (i j k : Nat) (hi : i < L.length) (hj : j < L.length) : at' (swp L i j) k = if k = j then at' L i else if k = i then at' L j else at' L k := by
  unfold swp at' List.getD
  by_cases h1 : k = j
  · subst h1
    rw [if_pos rfl, List.getElem?_set_self (by simpa using hj)]
    rfl
  · rw [if_neg h1, List.getElem?_set_ne (fun e => h1 e.symm)]
    by_cases h2 : k = i
    · subst h2
      rw [if_pos rfl, List.getElem?_set_self hi]
      rfl
    · rw [if_neg h2, List.getElem?_set_ne (fun e => h2 e.symm)]

/-- The last one rises. -/
def riseT (L : List Tm) (i : Nat) : List Tm :=
  if h : 0 < i ∧ lessT (at' L i) (at' L ((i - 1) / 2)) = true then riseT (swp L i ((i - 1) / 2)) ((i - 1) / 2) else L
termination_by i
decreasing_by omega
theorem rise_go (L : List Tm) (i : Nat) (h0 : 0 < i) (h : lessT (at' L i) (at' L ((i - 1) / 2)) = true) : riseT L i = riseT (swp L i ((i - 1) / 2)) ((i - 1) / 2) := by
  rw [riseT, dif_pos ⟨h0, h⟩]
theorem rise_end (L : List Tm) (i : Nat) (h : 0 < i → lessT (at' L i) (at' L ((i - 1) / 2)) = false) : riseT L i = L := by
  rw [riseT, dif_neg]
  rintro ⟨h0, h1⟩
  rw [h h0] at h1
  cases h1

/-- The child that comes first. -/
def childT (L : List Tm) (i : Nat) : Nat := if 2 * i + 2 < L.length ∧ lessT (at' L (2 * i + 2)) (at' L (2 * i + 1)) = true then 2 * i + 2 else 2 * i + 1
theorem child_gt (L : List Tm) (i : Nat) : i < childT L i := by
  unfold childT
  split <;> omega
theorem child_lt (L : List Tm) (i : Nat) (h : 2 * i + 1 < L.length) : childT L i < L.length := by
  unfold childT
  split <;> omega
theorem child_par (L : List Tm) (i : Nat) : (childT L i - 1) / 2 = i := by
  unfold childT
  split <;> omega
/-- The first one sinks. -/
def sinkT (L : List Tm) (i : Nat) : List Tm :=
  if h : childT L i < L.length ∧ lessT (at' L (childT L i)) (at' L i) = true then sinkT (swp L i (childT L i)) (childT L i) else L
termination_by L.length - i
decreasing_by
  have := child_gt L i
  simp only [swp_len]
  omega
theorem sink_go (L : List Tm) (i : Nat) (h0 : childT L i < L.length) (h : lessT (at' L (childT L i)) (at' L i) = true) : sinkT L i = sinkT (swp L i (childT L i)) (childT L i) := by
  rw [sinkT, dif_pos ⟨h0, h⟩]
theorem sink_end (L : List Tm) (i : Nat) (h : childT L i < L.length → lessT (at' L (childT L i)) (at' L i) = false) : sinkT L i = L := by
  rw [sinkT, dif_neg]
  rintro ⟨h0, h1⟩
  rw [h h0] at h1
  cases h1

theorem rise_len : ∀ (i : Nat) (L : List Tm), (riseT L i).length = L.length := by
  intro i
  induction i using Nat.strongRecOn with
  | _ i ih =>
    intro L
    by_cases h : 0 < i ∧ lessT (at' L i) (at' L ((i - 1) / 2)) = true
    · rw [rise_go L i h.1 h.2, ih _ (by omega)]
      simp
    · rw [rise_end L i (fun h0 => by
        rcases h1 : lessT (at' L i) (at' L ((i - 1) / 2)) with _ | _
        · rfl
        · exact absurd ⟨h0, h1⟩ h)]
theorem sink_lenA : ∀ (m i : Nat) (L : List Tm), L.length - i ≤ m → (sinkT L i).length = L.length := by
  intro m
  induction m with
  | zero =>
    intro i L hm
    rw [sink_end L i (fun h => by have := child_gt L i; omega)]
  | succ m ih =>
    intro i L hm
    by_cases h : childT L i < L.length ∧ lessT (at' L (childT L i)) (at' L i) = true
    · have := child_gt L i
      rw [sink_go L i h.1 h.2, ih _ _ (by simp only [swp_len]; omega)]
      simp
    · rw [sink_end L i (fun h0 => by
        rcases h1 : lessT (at' L (childT L i)) (at' L i) with _ | _
        · rfl
        · exact absurd ⟨h0, h1⟩ h)]
@[simp] theorem sink_len (L : List Tm) (i : Nat) : (sinkT L i).length = L.length := sink_lenA _ i L (Nat.le_refl _)

/-- None is ahead of the one above it. -/
def heapT (L : List Tm) : Prop := ∀ k, 0 < k → k < L.length → lessT (at' L k) (at' L ((k - 1) / 2)) = false
structure OkQ (L : List Tm) : Prop where
  len : L.length ≤ 20
  ok : ∀ x ∈ L, tmB x = true
  once : L.Nodup
  heap : heapT L
instance (L : List Tm) : Decidable (heapT L) := decidable_of_iff (∀ k, k < L.length → 0 < k → lessT (at' L k) (at' L ((k - 1) / 2)) = false) ⟨fun h k h0 h1 => h k h1 h0, fun h k h1 h0 => h k h0 h1⟩
instance (L : List Tm) : Decidable (OkQ L) := decidable_of_iff (L.length ≤ 20 ∧ (∀ x ∈ L, tmB x = true) ∧ L.Nodup ∧ heapT L) ⟨fun ⟨a, b, c, d⟩ => ⟨a, b, c, d⟩, fun h => ⟨h.len, h.ok, h.once, h.heap⟩⟩
def okQ (L : List Tm) : Bool := decide (OkQ L)

/-- All is in order but for what is below i. -/
structure SinkI (L : List Tm) (i : Nat) : Prop where
  rest : ∀ k, 0 < k → k < L.length → (k - 1) / 2 ≠ i → lessT (at' L k) (at' L ((k - 1) / 2)) = false
  over : ∀ k, 0 < k → k < L.length → (k - 1) / 2 = i → 0 < i → lessT (at' L k) (at' L ((i - 1) / 2)) = false
theorem child_least (L : List Tm) (i k : Nat) (h0 : 0 < k) (h : k < L.length) (hp : (k - 1) / 2 = i) : lessT (at' L k) (at' L (childT L i)) = false := by
  unfold childT
  have hk : k = 2 * i + 1 ∨ k = 2 * i + 2 := by omega
  split
  · rename_i h1
    rcases hk with rfl | rfl
    · exact less_ge h1.2
    · exact less_irr _
  · rename_i h1
    rcases hk with rfl | rfl
    · exact less_irr _
    · rcases h2 : lessT (at' L (2 * i + 2)) (at' L (2 * i + 1)) with _ | _
      · rfl
      · exact absurd ⟨h, h2⟩ h1
theorem sink_step (L : List Tm) (i : Nat) (h : SinkI L i) (h0 : childT L i < L.length) (h1 : lessT (at' L (childT L i)) (at' L i) = true) : SinkI (swp L i (childT L i)) (childT L i) := by
  have hg := child_gt L i
  have hp := child_par L i
  have hl := child_least L i
  generalize childT L i = c at *
  have hi : i < L.length := by omega
  refine ⟨?_, ?_⟩
  · intro k hk0 hk hne
    simp only [swp_len] at hk
    rw [at_swp L i c k hi h0, at_swp L i c ((k - 1) / 2) hi h0, if_neg hne]
    by_cases e1 : k = c
    · rw [if_pos e1, e1, hp, if_pos rfl]
      exact less_ge h1
    · rw [if_neg e1]
      by_cases e2 : k = i
      · rw [if_pos e2]
        rw [if_neg (by omega)]
        subst e2
        exact h.over c (by omega) h0 hp hk0
      · rw [if_neg e2]
        by_cases e3 : (k - 1) / 2 = i
        · rw [if_pos e3]
          exact hl k hk0 hk e3
        · rw [if_neg e3]
          exact h.rest k hk0 hk e3
  · intro k hk0 hk hpk hc0
    simp only [swp_len] at hk
    rw [hp, at_swp L i c k hi h0, at_swp L i c i hi h0, if_neg (by omega), if_neg (by omega), if_neg (by omega), if_pos rfl]
    have := h.rest k hk0 hk (by omega)
    rwa [hpk] at this
theorem sink_heapA : ∀ (m i : Nat) (L : List Tm), L.length - i ≤ m → i < L.length ∨ L = [] → SinkI L i → heapT (sinkT L i) ∧ (sinkT L i).Perm L := by
  intro m
  induction m with
  | zero =>
    intro i L hm hi h
    rw [sink_end L i (fun h => by have := child_gt L i; omega)]
    refine ⟨fun k h0 hk => ?_, List.Perm.refl _⟩
    exact h.rest k h0 hk (by omega)
  | succ m ih =>
    intro i L hm hi h
    by_cases h2 : childT L i < L.length ∧ lessT (at' L (childT L i)) (at' L i) = true
    · have := child_gt L i
      rw [sink_go L i h2.1 h2.2]
      obtain ⟨a, b⟩ := ih _ _ (by simp only [swp_len]; omega) (.inl (by simp only [swp_len]; omega)) (sink_step L i h h2.1 h2.2)
      exact ⟨a, b.trans (swp_perm L _ _ (by omega) h2.1)⟩
    · have he : childT L i < L.length → lessT (at' L (childT L i)) (at' L i) = false := fun h0 => by
        rcases h1 : lessT (at' L (childT L i)) (at' L i) with _ | _
        · rfl
        · exact absurd ⟨h0, h1⟩ h2
      rw [sink_end L i he]
      refine ⟨fun k h0 hk => ?_, List.Perm.refl _⟩
      by_cases e : (k - 1) / 2 = i
      · rw [e]
        have h3 := child_least L i k h0 hk e
        have h4 : childT L i < L.length := child_lt L i (by omega)
        exact ge_trans (he h4) h3
      · exact h.rest k h0 hk e
theorem sink_heap (L : List Tm) (h : SinkI L 0) : heapT (sinkT L 0) ∧ (sinkT L 0).Perm L :=
  sink_heapA _ 0 L (Nat.le_refl _) (by cases L <;> simp) h

/-- All is in order but for what is at i against what is above it. -/
structure RiseI (L : List Tm) (i : Nat) : Prop where
  rest : ∀ k, 0 < k → k < L.length → k ≠ i → lessT (at' L k) (at' L ((k - 1) / 2)) = false
  over : ∀ k, 0 < k → k < L.length → (k - 1) / 2 = i → 0 < i → lessT (at' L k) (at' L ((i - 1) / 2)) = false
theorem rise_step (L : List Tm) (i : Nat) (h : RiseI L i) (hi : i < L.length) (h0 : 0 < i) (h1 : lessT (at' L i) (at' L ((i - 1) / 2)) = true) : RiseI (swp L i ((i - 1) / 2)) ((i - 1) / 2) := by
  obtain ⟨c, hc⟩ : ∃ c, c = (i - 1) / 2 := ⟨_, rfl⟩
  have hov := h.over
  rw [← hc] at h1 hov ⊢
  have hcl : c < L.length := by omega
  refine ⟨?_, ?_⟩
  · intro k hk0 hk hne
    simp only [swp_len] at hk
    rw [at_swp L i c k hi hcl, at_swp L i c ((k - 1) / 2) hi hcl, if_neg hne]
    by_cases e1 : k = i
    · rw [if_pos e1, e1, if_pos hc.symm]
      exact less_ge h1
    · rw [if_neg e1]
      by_cases e2 : (k - 1) / 2 = c
      · rw [if_pos e2]
        have h2 := h.rest k hk0 hk e1
        rw [e2] at h2
        exact ge_trans (less_ge h1) h2
      · rw [if_neg e2]
        by_cases e3 : (k - 1) / 2 = i
        · rw [if_pos e3]
          exact hov k hk0 hk e3 h0
        · rw [if_neg e3]
          exact h.rest k hk0 hk e1
  · intro k hk0 hk hpk hc0
    simp only [swp_len] at hk
    rw [at_swp L i c k hi hcl, at_swp L i c ((c - 1) / 2) hi hcl, if_neg (by omega), if_neg (by omega : ¬ (c - 1) / 2 = c), if_neg (by omega : ¬ (c - 1) / 2 = i)]
    have h3 := h.rest c hc0 hcl (by omega)
    by_cases e1 : k = i
    · rw [if_pos e1]
      exact h3
    · rw [if_neg e1]
      have h2 := h.rest k hk0 hk e1
      rw [hpk] at h2
      exact ge_trans h3 h2
theorem rise_heap : ∀ (i : Nat) (L : List Tm), i < L.length → RiseI L i → heapT (riseT L i) ∧ (riseT L i).Perm L := by
  intro i
  induction i using Nat.strongRecOn with
  | _ i ih =>
    intro L hi h
    by_cases h2 : 0 < i ∧ lessT (at' L i) (at' L ((i - 1) / 2)) = true
    · rw [rise_go L i h2.1 h2.2]
      obtain ⟨a, b⟩ := ih ((i - 1) / 2) (by omega) (swp L i ((i - 1) / 2)) (by simp only [swp_len]; omega) (rise_step L i h hi h2.1 h2.2)
      exact ⟨a, b.trans (swp_perm L _ _ hi (by omega))⟩
    · have he : 0 < i → lessT (at' L i) (at' L ((i - 1) / 2)) = false := fun h0 => by
        rcases h1 : lessT (at' L i) (at' L ((i - 1) / 2)) with _ | _
        · rfl
        · exact absurd ⟨h0, h1⟩ h2
      rw [rise_end L i he]
      refine ⟨fun k h0 hk => ?_, List.Perm.refl _⟩
      by_cases e : k = i
      · rw [e]
        exact he (by omega)
      · exact h.rest k h0 hk e

theorem at_append (L : List Tm) (x : Tm) (k : Nat) : at' (L ++ [x]) k = if k < L.length then at' L k else if k = L.length then x else ⟨0, 0, 0⟩ := by
  unfold at' List.getD
  by_cases h : k < L.length
  · rw [if_pos h, List.getElem?_append_left h]
  · rw [if_neg h, List.getElem?_append_right (by omega)]
    by_cases h2 : k = L.length
    · subst h2
      simp
    · rw [if_neg h2, List.getElem?_eq_none (by simp; omega)]
      rfl
/-- With one more. -/
def addT (L : List Tm) (x : Tm) : List Tm := riseT (L ++ [x]) L.length
theorem add_riseI (L : List Tm) (x : Tm) (h : heapT L) : RiseI (L ++ [x]) L.length := by
  refine ⟨fun k h0 hk hne => ?_, fun k h0 hk hp h1 => ?_⟩
  · simp only [List.length_append, List.length_singleton] at hk
    rw [at_append, at_append, if_pos (by omega), if_pos (by omega)]
    exact h k h0 (by omega)
  · simp only [List.length_append, List.length_singleton] at hk
    omega
theorem addT_heap (L : List Tm) (x : Tm) (h : heapT L) : heapT (addT L x) ∧ (addT L x).Perm (L ++ [x]) := rise_heap _ _ (by simp) (add_riseI L x h)
theorem OkQ.add {L : List Tm} (h : OkQ L) {x : Tm} (hx : tmB x = true) (hn : x ∉ L) (hl : L.length < 20) : OkQ (addT L x) := by
  obtain ⟨h1, h2⟩ := addT_heap L x h.heap
  refine ⟨?_, ?_, ?_, h1⟩
  · rw [h2.length_eq]
    simp
    omega
  · intro y hy
    rcases List.mem_append.1 (h2.mem_iff.1 hy) with h3 | h3
    · exact h.ok y h3
    · rw [List.mem_singleton.1 h3]
      exact hx
  · rw [h2.nodup_iff]
    refine List.nodup_append.2 ⟨h.once, by simp, fun a ha b hb e => ?_⟩
    rw [List.mem_singleton.1 hb] at e
    exact hn (e ▸ ha)

/-- The others, behind the first. -/
def nextT (L : List Tm) : List Tm := sinkT ((swp L 0 (L.length - 1)).take (L.length - 1)) 0
theorem nextT_len (L : List Tm) : (nextT L).length = L.length - 1 := by simp [nextT]
theorem at_take (L : List Tm) (m k : Nat) (h : k < m) : at' (L.take m) k = at' L k := by
  unfold at' List.getD
  rw [List.getElem?_take_of_lt h]
theorem next_sinkI (L : List Tm) (h : heapT L) : SinkI ((swp L 0 (L.length - 1)).take (L.length - 1)) 0 := by
  refine ⟨fun k h0 hk hne => ?_, fun k h0 hk hp h1 => by omega⟩
  simp only [List.length_take, swp_len] at hk
  rw [at_take _ _ _ (by omega), at_take _ _ _ (by omega), at_swp L 0 _ k (by omega) (by omega), at_swp L 0 _ ((k - 1) / 2) (by omega) (by omega), if_neg (by omega), if_neg (by omega), if_neg (by omega), if_neg hne]
  exact h k h0 (by omega)
theorem take_swp (L : List Tm) (h : 0 < L.length) : ((swp L 0 (L.length - 1)).take (L.length - 1) ++ [at' L 0]).Perm L := by
  have h1 : (swp L 0 (L.length - 1)).take (L.length - 1) ++ [at' L 0] = swp L 0 (L.length - 1) := by
    have h2 : at' L 0 = (swp L 0 (L.length - 1))[L.length - 1]'(by simp; omega) := by
      rw [← at_eq, at_swp L 0 _ _ h (by omega), if_pos rfl]
    rw [h2, ← List.take_succ_eq_append_getElem, List.take_of_length_le (by simp; omega)]
  rw [h1]
  exact swp_perm L _ _ h (by omega)
theorem nextT_perm (L : List Tm) (h : heapT L) (h0 : 0 < L.length) : heapT (nextT L) ∧ (nextT L ++ [at' L 0]).Perm L := by
  obtain ⟨h1, h2⟩ := sink_heap _ (next_sinkI L h)
  exact ⟨h1, (h2.append_right _).trans (take_swp L h0)⟩
theorem OkQ.next {L : List Tm} (h : OkQ L) (h0 : 0 < L.length) : OkQ (nextT L) := by
  obtain ⟨h1, h2⟩ := nextT_perm L h.heap h0
  refine ⟨?_, ?_, ?_, h1⟩
  · rw [nextT_len]
    have := h.len
    omega
  · intro y hy
    exact h.ok y (h2.mem_iff.1 (List.mem_append_left _ hy))
  · have := h2.nodup_iff.2 h.once
    exact (List.nodup_append.1 this).1
/-- The first is ahead of all. -/
theorem heap_first (L : List Tm) (h : heapT L) : ∀ k, k < L.length → lessT (at' L k) (at' L 0) = false := by
  intro k
  induction k using Nat.strongRecOn with
  | _ k ih =>
    intro hk
    by_cases h0 : k = 0
    · subst h0
      exact less_irr _
    · exact ge_trans (ih ((k - 1) / 2) (by omega) (by omega)) (h k (by omega) hk)
theorem heap_firstM (L : List Tm) (h : heapT L) : ∀ x ∈ L, lessT x (at' L 0) = false := by
  intro x hx
  obtain ⟨k, hk, rfl⟩ := List.getElem_of_mem hx
  rw [← at_eq L k hk]
  exact heap_first L h k hk

/-- All that come no later than t, in order, and the others. -/
def tillT (t : Int) : Nat → List Tm → List Tm → List Tm × List Tm
  | 0, L, D => (L, D)
  | m + 1, L, D => if 0 < L.length ∧ (at' L 0).a ≤ t then tillT t m (nextT L) (D ++ [at' L 0]) else (L, D)
theorem till_go (t : Int) (m : Nat) (L D : List Tm) (h0 : 0 < L.length) (h : (at' L 0).a ≤ t) : tillT t (m + 1) L D = tillT t m (nextT L) (D ++ [at' L 0]) := by
  rw [tillT, if_pos ⟨h0, h⟩]
theorem till_end (t : Int) (m : Nat) (L D : List Tm) (h : ¬ (0 < L.length ∧ (at' L 0).a ≤ t)) : tillT t m L D = (L, D) := by
  cases m with
  | zero => rfl
  | succ m => rw [tillT, if_neg h]

end Go.Proofs.Ytgnemgnhjallhaa
