/- The law of PickAll: what is picked was claimed, of the latest view. -/
import Derived.Test.YtlokhgnbcbnmpaaDb
import Derived.Test.YtlokhgnbcbnmpaaMD
namespace Go.Proofs.Ytlokhgnbcbnmpaa
open Go.ChangeShapes Go.WideShapes Go.ChangeAt Go.RowKit
set_option linter.unusedVariables false
set_option linter.unusedSimpArgs false

def bsStep (seq : Int) (r : Rq) (st : Int × Bool) (c : Cl) : Int × Bool := if (c.s == seq) = true then (if st.1 < c.v then (c.v, decide (c.r = r)) else (st.1, st.2 || ((c.v == st.1) && decide (c.r = r)))) else st
def bsC (seq : Int) (r : Rq) (st : Int × Bool) (l : List Cl) : Int × Bool := l.foldl (bsStep seq r) st
theorem bsC_append (seq : Int) (r : Rq) (st : Int × Bool) (a b : List Cl) : bsC seq r st (a ++ b) = bsC seq r (bsC seq r st a) b := List.foldl_append
/-- What the law's search and the pick have in common. -/
def Inv (r : Rq) (st : Int × Bool) (p : Pk) : Prop := (p.f = false → st.1 = -1) ∧ (p.f = true → st.1 = p.v ∧ 0 ≤ p.v ∧ (p.r = r → st.2 = true))
theorem inv_step {seq : Int} {r : Rq} {st : Int × Bool} {p : Pk} {c : Cl} (hc : 0 ≤ c.v) (h : Inv r st p) : Inv r (bsStep seq r st c) (if (c.s == seq && (!p.f || decide (p.v < c.v))) = true then ⟨true, c.v, c.r⟩ else p) := by
  obtain ⟨f, v, q⟩ := p
  obtain ⟨h0, h1⟩ := h
  unfold bsStep
  cases hs : (c.s == seq)
  · simp only [Bool.false_and, Bool.false_eq_true, if_false]; exact ⟨h0, h1⟩
  · cases f
    · have := h0 rfl
      rw [if_pos rfl, if_pos (show st.1 < c.v by omega), if_pos (by simp)]
      exact ⟨(fun e => by cases e), fun _ => ⟨rfl, hc, fun e => decide_eq_true e⟩⟩
    · obtain ⟨e1, e2, e3⟩ := h1 rfl
      simp only at e1 e2 e3
      rw [if_pos rfl]
      by_cases hv : v < c.v
      · rw [if_pos (show st.1 < c.v by omega), if_pos (by simp [hv])]
        exact ⟨(fun e => by cases e), fun _ => ⟨rfl, hc, fun e => decide_eq_true e⟩⟩
      · rw [if_neg (show ¬ st.1 < c.v by omega), if_neg (by simp; omega)]
        exact ⟨(fun e => by cases e), fun _ => ⟨e1, e2, fun e => by simp [e3 e]⟩⟩
theorem inv_all {seq : Int} {r : Rq} (l : List Cl) : ∀ (st : Int × Bool) (p : Pk), (∀ c ∈ l, 0 ≤ c.v) → Inv r st p → Inv r (bsC seq r st l) (pkC seq p l) := by
  induction l with
  | nil => intro st p _ h; exact h
  | cons c l ih => intro st p hc h; exact ih _ _ (fun x hx => hc x (by simp [hx])) (inv_step (hc c (by simp)) h)
theorem topC_mem (l : List Cl) : ∀ t, topC t l = t ∨ ∃ c ∈ l, c.s = topC t l := by
  induction l with
  | nil => intro t; exact .inl rfl
  | cons c l ih =>
    intro t
    rcases ih (if t < c.s then c.s else t) with h | ⟨x, hx, h⟩
    · by_cases ht : t < c.s
      · rw [if_pos ht] at h
        exact .inr ⟨c, by simp, by rw [topC, if_pos ht, h]⟩
      · rw [if_neg ht] at h
        exact .inl (by rw [topC, if_neg ht, h])
    · exact .inr ⟨x, by simp [hx], h⟩
theorem pkC_found {seq : Int} (l : List Cl) : ∀ p : Pk, (p.f = true ∨ ∃ c ∈ l, c.s = seq) → (pkC seq p l).f = true := by
  induction l with
  | nil => intro p h; rcases h with h | ⟨c, hc, _⟩; exact h; cases hc
  | cons c l ih =>
    intro p h
    refine ih _ ?_
    by_cases hp : p.f = true
    · left; split <;> simp [hp]
    · rcases h with h | ⟨x, hx, h⟩
      · exact absurd h hp
      · rcases List.mem_cons.1 hx with rfl | hx
        · left; simp at hp; simp [hp, h]
        · right; exact ⟨x, hx, h⟩
theorem pkC_none {seq : Int} (l : List Cl) : ∀ p : Pk, (pkC seq p l).f = false → pkC seq p l = p := by
  induction l with
  | nil => intro p _; rfl
  | cons c l ih =>
    intro p h
    have h1 := ih _ h
    rw [pkC] at h ⊢
    rw [h1] at h ⊢
    split at h
    · cases h
    · rename_i hn; rw [if_neg hn]
/-- Of valid votes: the law's verdict at one place. -/
theorem verdict {V : List VtP} (hv : vtsB (-1) V = true) {k T : Nat} (hT : topC 0 (allC V) = T) (hk : k < T) (b : Int) (i : Bool) (h : bsC ((k : Int) + 1) (pckR ((k : Int) + 1) V) (-1, false) (allC V) = (b, i)) :
    (0 ≤ b → i = true) ∧ (b < 0 → pckR ((k : Int) + 1) V = ⟨0, 0, 0, 0, 0⟩ ∧ k + 1 ≠ T) := by
  have hc : ∀ c ∈ allC V, 0 ≤ c.v := fun c hc => by
    obtain ⟨v, hv', hcv⟩ := List.mem_flatMap.1 hc
    have := cls_mem _ _ (vts_mem _ _ hv v hv') c hcv
    simp only [clB, inB, Bool.and_eq_true, decide_eq_true_eq] at this
    omega
  have hi := inv_all (seq := (k : Int) + 1) (r := pckR ((k : Int) + 1) V) (allC V) (-1, false) ⟨false, 0, ⟨0, 0, 0, 0, 0⟩⟩ hc ⟨fun _ => rfl, (fun e => by cases e)⟩
  rw [h] at hi
  obtain ⟨i0, i1⟩ := hi
  refine ⟨fun hb => ?_, fun hb => ?_⟩
  · cases hf : (pkC ((k : Int) + 1) ⟨false, 0, ⟨0, 0, 0, 0, 0⟩⟩ (allC V)).f
    · have := i0 hf; simp at this; omega
    · exact (i1 hf).2.2 rfl
  · cases hf : (pkC ((k : Int) + 1) ⟨false, 0, ⟨0, 0, 0, 0, 0⟩⟩ (allC V)).f
    · refine ⟨by unfold pckR; rw [pkC_none _ _ hf], fun e => ?_⟩
      rcases topC_mem (allC V) 0 with h0 | ⟨c, hc', h0⟩
      · omega
      · have := pkC_found (seq := (k : Int) + 1) (allC V) ⟨false, 0, ⟨0, 0, 0, 0, 0⟩⟩ (.inr ⟨c, hc', by omega⟩)
        rw [hf] at this
        cases this
    · have := (i1 hf); simp at this; omega

set_option maxRecDepth 100000 in
set_option maxHeartbeats 1000000 in
theorem wpReqs (A B : Option Addr) (c d : Nat) (L : List Rq) (w : World) (hL : L.length ≤ maxLen) (ha : Rd 5 Rq.cells w A L) (hb : Rd 5 Rq.cells w B L) :
    Calls Try.prog 38 #[.slice A L.length c, .slice B L.length d] w fun e w' => e = .returned (.bool true) ∧ Below w.heap.size w w' := by
  unfold maxLen at hL
  have HA := Lib.hid ha
  have HB := Lib.hid hb
  have hne : ((L.length : Int) != (L.length : Int)) = false := by simp
  clear ha hb
  go_enter Try.func38, Try.ntmps38
  go_wp2
  go_loopw [5] (fun i wr => ∃ k : Nat, k ≤ L.length ∧ i = .int .i64 k ∧ Hid (Below w.heap.size w wr)) (fun i _ => L.length - (intOf i).toNat)
  case atStart => exact ⟨0, Nat.zero_le _, rfl, Below.refl _ _⟩
  case round =>
    obtain ⟨k, hk, rfl, hb⟩ := hrel
    by_cases hlt : k < L.length
    · obtain ⟨g, o, rfl, ca⟩ := Rd.below HA.out hb.out k hlt
      obtain ⟨g', o', rfl, cb⟩ := Rd.below HB.out hb.out k hlt
      generalize L[k] = r at ca cb
      have a0 : wr.cell? ⟨g, o + k * 5, none⟩ = some (.int .i64 r.c) := ca 0 _ rfl
      have a1 : wr.cell? ⟨g, o + k * 5 + 1, none⟩ = some (.int .i64 r.n) := ca 1 _ rfl
      have a2 : wr.cell? ⟨g, o + k * 5 + 2, none⟩ = some (.int .i64 r.o) := ca 2 _ rfl
      have a3 : wr.cell? ⟨g, o + k * 5 + 3, none⟩ = some (.int .i64 r.x) := ca 3 _ rfl
      have a4 : wr.cell? ⟨g, o + k * 5 + 4, none⟩ = some (.int .i64 r.y) := ca 4 _ rfl
      have b0 : wr.cell? ⟨g', o' + k * 5, none⟩ = some (.int .i64 r.c) := cb 0 _ rfl
      have b1 : wr.cell? ⟨g', o' + k * 5 + 1, none⟩ = some (.int .i64 r.n) := cb 1 _ rfl
      have b2 : wr.cell? ⟨g', o' + k * 5 + 2, none⟩ = some (.int .i64 r.o) := cb 2 _ rfl
      have b3 : wr.cell? ⟨g', o' + k * 5 + 3, none⟩ = some (.int .i64 r.x) := cb 3 _ rfl
      have b4 : wr.cell? ⟨g', o' + k * 5 + 4, none⟩ = some (.int .i64 r.y) := cb 4 _ rfl
      clear ca cb
      have i0 : (0 : Int) ≤ (k : Int) := by omega
      have i1 : (k : Int) < (L.length : Int) := by omega
      have hq : ∀ W, (binOp .neq 30 (.agg #[.int .i64 r.c, .int .i64 r.n, .int .i64 r.o, .int .i64 r.x, .int .i64 r.y]) (.agg #[.int .i64 r.c, .int .i64 r.n, .int .i64 r.o, .int .i64 r.x, .int .i64 r.y])).run Try.prog W = .ok (.bool false) W := fun W => by have := neqReq r r W; simpa using this
      go_wp2_with (fail)
      go_quiet (fail)
      have BN := Lib.hid (Below.drewN hb.out (by assumption))
      go_wp2
      go_roundw
      case rel => exact ⟨k + 1, by omega, by go_num, BN.out⟩
      case measure => simp [intOf]; omega
    · go_wp2
      go_light
      go_ret
      exact ⟨rfl, hb.out⟩

end Go.Proofs.Ytlokhgnbcbnmpaa
