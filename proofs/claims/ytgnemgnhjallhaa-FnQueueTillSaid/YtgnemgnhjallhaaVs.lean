/- What queues promise: plain facts; no program. -/
import Derived.Test.YtgnemgnhjallhaaVr
namespace Go.Proofs.Ytgnemgnhjallhaa
open Go.ChangeShapes Go.WideShapes Go.ChangeAt Go.RowKit
set_option linter.unusedVariables false
set_option linter.unusedSimpArgs false

theorem OkQ.nil : OkQ [] := ⟨by simp, fun x hx => by simp at hx, List.nodup_nil, fun k _ hk => by simp at hk⟩
theorem okQ_iff {L : List Tm} : okQ L = true ↔ OkQ L := by simp [okQ]
theorem addQ_iff {L R : List Tm} {x : Tm} (h : addQ L x = (R, true)) : OkQ L ∧ tmB x = true ∧ x ∉ L ∧ L.length < 20 ∧ R = addT L x := by
  unfold addQ at h
  split at h
  · rename_i h1
    split at h
    · rename_i h2
      simp only [Prod.mk.injEq, and_true] at h
      exact ⟨okQ_iff.1 h1, h2.1, h2.2.1, h2.2.2, h.symm⟩
    · simp at h
  · simp at h
theorem addQ_false {L R : List Tm} {x : Tm} (h : addQ L x = (R, false)) : okQ L = true → R = L := by
  intro hk
  unfold addQ at h
  rw [if_pos hk] at h
  split at h
  · simp at h
  · simp only [Prod.mk.injEq, and_true] at h
    exact h.symm
theorem addT_perm (L : List Tm) (x : Tm) (h : heapT L) : (addT L x).Perm (L ++ [x]) := (addT_heap L x h).2
theorem add_mem {L : List Tm} {x : Tm} (h : heapT L) : x ∈ addT L x := (addT_perm L x h).mem_iff.2 (by simp)
theorem add_count {L : List Tm} {x : Tm} (h : heapT L) (hn : x ∉ L) : (addT L x).countP (fun y => decide (y = x)) = 1 := by
  rw [(addT_perm L x h).countP_eq, List.countP_append]
  have h1 : L.countP (fun y => decide (y = x)) = 0 := by
    rw [List.countP_eq_zero]
    intro y hy
    simp only [decide_eq_true_eq]
    intro e
    exact hn (e ▸ hy)
  rw [h1]
  simp
theorem add_again {L : List Tm} {x : Tm} (h : OkQ L) (hx : tmB x = true) (hn : x ∉ L) (hl : L.length < 20) : addQ (addT L x) x = (addT L x, false) :=
  addQ_no (okQ_iff.2 (h.add hx hn hl)) (fun hh => hh.2.1 (add_mem h.heap))
theorem first_less {L : List Tm} (h : OkQ L) (h0 : 0 < L.length) : ∀ y ∈ nextT L, lessT (at' L 0) y = true := by
  intro y hy
  obtain ⟨_, hp⟩ := nextT_perm L h.heap h0
  have hyL : y ∈ L := hp.mem_iff.1 (List.mem_append_left _ hy)
  have h1 := heap_firstM L h.heap y hyL
  rcases h2 : lessT (at' L 0) y with _ | _
  · exfalso
    have he : y = at' L 0 := (ge_anti h1 h2).symm
    have hn := hp.nodup_iff.2 h.once
    exact (List.nodup_append.1 hn).2.2 y hy (at' L 0) (by simp) he
  · rfl
theorem first_not {L : List Tm} (h : OkQ L) (h0 : 0 < L.length) : at' L 0 ∉ nextT L := fun hm => by
  have := first_less h h0 _ hm
  rw [less_irr] at this
  cases this
theorem at_mem {L : List Tm} {k : Nat} (h : k < L.length) : at' L k ∈ L := by rw [at_eq L k h]; exact List.getElem_mem h
theorem back_first {L : List Tm} {x : Tm} (h : heapT L) (hl : ∀ y ∈ L, lessT x y = true) : at' (addT L x) 0 = x := by
  obtain ⟨h1, h2⟩ := addT_heap L x h
  have hm : at' (addT L x) 0 ∈ addT L x := at_mem (by rw [addT_len]; omega)
  have h3 := heap_firstM _ h1 x (add_mem h)
  rcases List.mem_append.1 (h2.mem_iff.1 hm) with h4 | h4
  · have := hl _ h4
    rw [h3] at this
    cases this
  · exact List.mem_singleton.1 h4
theorem back_add {L : List Tm} (h : OkQ L) (h0 : 0 < L.length) : addQ (nextT L) (at' L 0) = (addT (nextT L) (at' L 0), true) :=
  addQ_yes (okQ_iff.2 (h.next h0)) ⟨h.at_ok h0, first_not h h0, by have := h.len; rw [nextT_len]; omega⟩

/-- In order. -/
abbrev ascT (D : List Tm) : Prop := D.Pairwise fun x y => lessT x y = true
structure TillI (t : Int) (L D : List Tm) : Prop where
  ok : OkQ L
  asc : ascT D
  le : ∀ y ∈ D, y.a ≤ t
  ahead : ∀ y ∈ D, ∀ z ∈ L, lessT y z = true
theorem TillI.step {t : Int} {L D : List Tm} (h : TillI t L D) (h0 : 0 < L.length) (ht : (at' L 0).a ≤ t) : TillI t (nextT L) (D ++ [at' L 0]) := by
  obtain ⟨_, hp⟩ := nextT_perm L h.ok.heap h0
  refine ⟨h.ok.next h0, ?_, ?_, ?_⟩
  · refine List.pairwise_append.2 ⟨h.asc, by simp, fun y hy z hz => ?_⟩
    rw [List.mem_singleton.1 hz]
    exact h.ahead y hy _ (at_mem h0)
  · intro y hy
    rcases List.mem_append.1 hy with h1 | h1
    · exact h.le y h1
    · rw [List.mem_singleton.1 h1]
      exact ht
  · intro y hy z hz
    rcases List.mem_append.1 hy with h1 | h1
    · exact h.ahead y h1 z (hp.mem_iff.1 (List.mem_append_left _ hz))
    · rw [List.mem_singleton.1 h1]
      exact first_less h.ok h0 z hz
theorem till_all (t : Int) : ∀ (m : Nat) (L D : List Tm), L.length ≤ m → TillI t L D →
    TillI t (tillT t m L D).1 (tillT t m L D).2 ∧ (∀ z ∈ (tillT t m L D).1, t < z.a) ∧ ((tillT t m L D).2 ++ (tillT t m L D).1).Perm (D ++ L) := by
  intro m
  induction m with
  | zero =>
    intro L D hm h
    have : L = [] := List.eq_nil_of_length_eq_zero (by omega)
    subst this
    exact ⟨h, fun z hz => by simp [tillT] at hz, List.Perm.refl _⟩
  | succ m ih =>
    intro L D hm h
    by_cases hc : 0 < L.length ∧ (at' L 0).a ≤ t
    · rw [till_go t m L D hc.1 hc.2]
      obtain ⟨a, b, c⟩ := ih (nextT L) (D ++ [at' L 0]) (by rw [nextT_len]; omega) (h.step hc.1 hc.2)
      obtain ⟨_, hp⟩ := nextT_perm L h.ok.heap hc.1
      refine ⟨a, b, c.trans ?_⟩
      rw [List.append_assoc]
      exact (List.perm_append_comm.trans hp).append_left D
    · rw [till_end t _ L D hc]
      refine ⟨h, fun z hz => ?_, List.Perm.refl _⟩
      have h0 : 0 < L.length := List.length_pos_of_mem hz
      have h1 := heap_firstM L h.ok.heap z hz
      rw [lessT_not] at h1
      have h2 : ¬ (at' L 0).a ≤ t := fun hh => hc ⟨h0, hh⟩
      omega
theorem tillQ_facts {L X D : List Tm} {t : Int} (hk : OkQ L) (h : tillQ L t = (X, D)) : OkQ X ∧ ascT D ∧ (∀ y ∈ D, y.a ≤ t) ∧ (∀ z ∈ X, t < z.a) ∧ (D ++ X).Perm L := by
  rw [tillQ_ok (okQ_iff.2 hk)] at h
  obtain ⟨a, b, c⟩ := till_all t L.length L [] (Nat.le_refl _) ⟨hk, List.Pairwise.nil, fun y hy => by simp at hy, fun y hy => by simp at hy⟩
  rw [h] at a b c
  exact ⟨a.ok, a.asc, a.le, b, by simpa using c⟩
theorem sortS_some : ∀ (L q r : List Tm), OkQ q → sortS L q = some r → OkQ r ∧ r.Perm (q ++ L) := by
  intro L
  induction L with
  | nil =>
    intro q r hq h
    simp only [sortS, Option.some.injEq] at h
    subst h
    exact ⟨hq, by simp⟩
  | cons x L ih =>
    intro q r hq h
    simp only [sortS] at h
    split at h
    · rename_i h1
      obtain ⟨⟨R, u⟩, hY⟩ : ∃ Y, addQ q x = Y := ⟨_, rfl⟩
      rw [hY] at h h1
      simp only at h1
      subst h1
      obtain ⟨a, b, c, d, e⟩ := addQ_iff hY
      subst e
      obtain ⟨h2, h3⟩ := ih _ _ (a.add b c d) h
      refine ⟨h2, h3.trans ?_⟩
      have := (addT_perm q x a.heap).append_right L
      simpa using this
    · cases h
theorem sortS_can : ∀ (L q : List Tm), OkQ q → (∀ x ∈ L, tmB x = true) → (q ++ L).Nodup → (q ++ L).length ≤ 20 → ∃ r, sortS L q = some r := by
  intro L
  induction L with
  | nil =>
    intro q hq _ _ _
    exact ⟨q, rfl⟩
  | cons x L ih =>
    intro q hq hx hn hl
    have h1 : x ∉ q := fun hm => (List.nodup_append.1 hn).2.2 x hm x (by simp) rfl
    have hY : addQ q x = (addT q x, true) := addQ_yes (okQ_iff.2 hq) ⟨hx x (by simp), h1, by simp at hl; omega⟩
    have hp : (addT q x ++ L).Perm (q ++ x :: L) := by
      have := (addT_perm q x hq.heap).append_right L
      simpa using this
    obtain ⟨r, hr⟩ := ih (addT q x) (hq.add (hx x (by simp)) h1 (by simp at hl; omega)) (fun y hy => hx y (by simp [hy])) (hp.nodup_iff.2 hn) (by rw [hp.length_eq]; exact hl)
    refine ⟨r, ?_⟩
    simp only [sortS, hY]
    exact hr
theorem asc_unique : ∀ (X Y : List Tm), ascT X → ascT Y → X.Perm Y → X = Y := by
  intro X
  induction X with
  | nil =>
    intro Y _ _ hp
    exact hp.nil_eq
  | cons x X ih =>
    intro Y hX hY hp
    cases Y with
    | nil => exact absurd hp.symm.nil_eq (by simp)
    | cons y Y =>
      have hx := List.pairwise_cons.1 hX
      have hy := List.pairwise_cons.1 hY
      have he : x = y := by
        rcases List.mem_cons.1 (hp.mem_iff.1 (List.mem_cons_self)) with h | h
        · exact h
        · rcases List.mem_cons.1 (hp.mem_iff.2 (List.mem_cons_self)) with h2 | h2
          · exact h2.symm
          · have a := hy.1 x h
            have b := hx.1 y h2
            rw [less_ge a] at b
            cases b
      subst he
      rw [ih Y hx.2 hy.2 (List.Perm.cons_inv hp)]
theorem sortQ_facts {L q : List Tm} (h : sortS L [] = some q) : OkQ q ∧ q.Perm L ∧ ascT (sortQ L) ∧ (sortQ L).Perm L := by
  obtain ⟨h1, h2⟩ := sortS_some L [] q OkQ.nil h
  obtain ⟨⟨X, D⟩, hY⟩ : ∃ Y, tillQ q 999 = Y := ⟨_, rfl⟩
  obtain ⟨a, b, c, d, e⟩ := tillQ_facts h1 hY
  have hX : X = [] := by
    cases X with
    | nil => rfl
    | cons z X =>
      have h3 := d z (by simp)
      have h4 := h1.ok z (e.mem_iff.1 (by simp))
      have := (tmB_le h4).1
      omega
  subst hX
  have hs : sortQ L = D := by unfold sortQ; rw [h]; simp only [sortE, hY]
  rw [hs]
  exact ⟨h1, by simpa using h2, b, (by simpa using e : D.Perm q).trans (by simpa using h2)⟩
theorem sortQ_perm {L M q : List Tm} (h : sortS L [] = some q) (hp : M.Perm L) : sortQ M = sortQ L := by
  obtain ⟨a, b, c, d⟩ := sortQ_facts h
  have hq : q.Perm M := b.trans hp.symm
  obtain ⟨r, hr⟩ := sortS_can M [] OkQ.nil (fun x hx => a.ok x (hq.mem_iff.2 hx)) (by simpa using hq.nodup_iff.1 a.once) (by have := hq.length_eq; have := a.len; simp; omega)
  obtain ⟨_, _, e, f⟩ := sortQ_facts hr
  exact asc_unique _ _ e c (f.trans (hp.trans d.symm))
theorem sortQ_none {L : List Tm} (h : sortS L [] = none) : sortQ L = [] ∧ 0 < L.length := by
  refine ⟨by unfold sortQ; rw [h]; rfl, ?_⟩
  cases L with
  | nil => simp [sortS] at h
  | cons x L => simp

end Go.Proofs.Ytgnemgnhjallhaa
