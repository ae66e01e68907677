/- An append behind which the old slice still reads as it read. Plain facts; no program. -/
import Derived.Test.YtgbnoemoangofaaAp
namespace Go.Proofs.Ytgbnoemoangofaa
open Go.ChangeShapes Go.WideShapes Go.ChangeAt Go.RowKit
set_option linter.unusedVariables false
set_option linter.unusedSimpArgs false

theorem own_prefix {w : World} {base : Nat} {e : TypeId} {size g n m cap : Nat} {xs news : List Value} (h : w.ownsRow base e size (.slice (some ⟨g, 0, none⟩) (n + m) cap) (n + m) (xs ++ news)) (hx : xs.length = n * size) : w.ownsRow base e size (.slice (some ⟨g, 0, none⟩) n cap) n xs := by
  rcases h.2 with ⟨h1, _⟩ | ⟨g', cap', cur, h1, h2, h3, h4, h5, h6, h7⟩
  · cases h1
  · simp only [Value.slice.injEq, Option.some.injEq, Addr.mk.injEq, and_true, true_and] at h1
    obtain ⟨rfl, rfl⟩ := h1
    refine ⟨hx, .inr ⟨g, cap, cur, rfl, h2, h3, by omega, h5, h6, ?_⟩⟩
    have h8 := congrArg (List.take (n * size)) h7
    rw [List.take_take, Nat.min_eq_left (by rw [Nat.add_mul]; omega), ← hx, List.take_left] at h8
    rw [← hx]
    exact h8
section
variable {α : Type} {f : α → List Value} {k : Nat} {P : Program}
theorem run_app2 (hf : ∀ a, (f a).length = k) (w : World) (base : Nat) (t ty e : TypeId) (i : TypeInfo) (z : Value) (bytes : Nat) (ht : P.underlying t = some (.slice e)) (hi : P.info? e = some i) (hz : i.zero = some z)
    (hsize : i.size = k) (hby : i.bytes = bytes) (hzs : z.cells.size = k) (hsz : 0 < k) (V : Option Addr) (cap n : Nat) (xs : List Value) (hown : w.ownsRow base e k (.slice V n cap) n xs)
    (A : Option Addr) (c m : Nat) (L : List α) (hm : L.length = m) (hr : Rd k f w A L) (hc : A = none → c = 0) (h1 : ∀ u ∈ L.flatMap f, u.oneCell' = true)
    (h63 : n + m ≤ maxLen) (hbytes : (n + m) * bytes ≤ 140737488355328) (hbase : base ≤ w.heap.size) :
    ∃ v' w', (Builtin.append_ #[t, t] ty #[.slice V n cap, .slice A m c]).run P w = .ok v' w' ∧ w'.ownsRow base e k v' (n + m) (xs ++ L.flatMap f) ∧ w'.ownsRow base e k (.slice V n cap) n xs ∧ Below base w w' ∧ w.grownBy w' (Value.slice V n cap).ownBlock := by
  obtain ⟨v', w', q1, q2, q3, q4⟩ := run_app (P := P) hf w base t ty e i z bytes ht hi hz hsize hby hzs hsz (.slice V n cap) n xs hown A c m L hm hr hc h1 h63 hbytes hbase
  have hB : Below base w w' := (Below.refl base w).grown q3 hbase (fun x hx => (own_block_ge hown x hx).1)
  refine ⟨v', w', q1, q2, ?_, hB, q3⟩
  rcases A with _ | ad
  · have hL := hr.none_nil
    subst hL
    have hc0 := hc rfl
    subst hc0 hm
    rw [List.length_nil] at q1
    rw [run_append_owned_none w base t ty e i k ht hi (.slice V n cap) n xs hown] at q1
    injection q1 with q1 q1'
    rw [← q1']
    exact hown
  · rcases V with _ | ga
    · rcases hown.2 with ⟨h2, h3⟩ | ⟨g, cap', cur, h2, _⟩
      · simp only [Value.slice.injEq, true_and] at h2
        obtain ⟨rfl, rfl⟩ := h2
        have hx : xs = [] := List.eq_nil_of_length_eq_zero (by simpa using hown.1)
        subst hx
        exact World.ownsRow_nil _ _ _ _
      · cases h2
    · rcases hown.2 with ⟨h2, h3⟩ | ⟨g, cap', cur, h2, h3, h4, h5, h6, h7, h8⟩
      · cases h2
      · simp only [Value.slice.injEq, Option.some.injEq, true_and] at h2
        obtain ⟨rfl, rfl⟩ := h2
        subst hm
        by_cases hroom : n + L.length ≤ cap
        · obtain ⟨w2, r1, r2, r3⟩ := run_append_fits (P := P) w base t ty e i k ht hi hsize g n cap xs hown ad L.length c (L.flatMap f) (rows_length k f hf L) (Rd.cells hf hr) h1 hroom
          rw [r1] at q1
          injection q1 with q1 q1'
          rw [← q1']
          exact own_prefix r2 hown.1
        · subst hsize hby
          have holds : ∀ j u, xs[j]? = some u → w.cell? ((⟨g, 0, none⟩ : Addr).add j) = some u := hown.cells (g := g) rfl
          have hn := run_append_grow (P := P) w t ty e i z ht hi hz ⟨g, 0, none⟩ n cap xs hown.1 holds ad L.length c (L.flatMap f) (rows_length i.size f hf L) (Rd.cells hf hr) (by omega) (by unfold maxLen at h63; omega) (growslice_fits (by omega) hbytes)
          rw [hn] at q1
          injection q1 with q1 q1'
          rw [← q1']
          exact own_below hown ⟨rfl, rfl, rfl, by simp, fun j hj => Below.heap_alloc w.drew _ j hj⟩
theorem list_app2 (hf : ∀ a, (f a).length = k) {w : World} {ops : Array Oper} {rest : List Oper} {o : Oper} {a : Act} {Q : Exit → Act → World → Prop} (hgd : o.guard = none) (s x : Operand) (t : TypeId)
    (hop : o.op = .call { callee := .builtin .append, args := #[s, x], argTypes := #[t, t] })
    (base : Nat) (e : TypeId) (i : TypeInfo) (z : Value) (bytes : Nat) (ht : P.underlying t = some (.slice e)) (hi : P.info? e = some i) (hz : i.zero = some z)
    (hsize : i.size = k) (hby : i.bytes = bytes) (hzs : z.cells.size = k) (hsz : 0 < k) (V : Option Addr) (cap n : Nat) (xs : List Value) (hs : a.eval s = .slice V n cap) (hown : w.ownsRow base e k (.slice V n cap) n xs)
    (A : Option Addr) (c m : Nat) (L : List α) (hm : L.length = m) (hx : a.eval x = .slice A m c) (hr : Rd k f w A L) (hc : A = none → c = 0) (h1 : ∀ u ∈ L.flatMap f, u.oneCell' = true)
    (h63 : n + m ≤ maxLen) (hbytes : (n + m) * bytes ≤ 140737488355328) (hbase : base ≤ w.heap.size)
    (h : ∀ v' w', w'.ownsRow base e k v' (n + m) (xs ++ L.flatMap f) → w'.ownsRow base e k (.slice V n cap) n xs → Below base w w' → w.grownBy w' (Value.slice V n cap).ownBlock → wpList P ops Q rest (a.put o.dst v') w') : wpList P ops Q (o :: rest) a w :=
  wpList_plain hgd fun _ hK => by
    obtain ⟨v', w', q1, q2, q3, q4, q5⟩ := run_app2 (P := P) hf w base t o.type e i z bytes ht hi hz hsize hby hzs hsz V cap n xs hown A c m L hm hr hc h1 h63 hbytes hbase
    unfold Oper.wp execOp
    simp only [hop, resolve, invoke, builtin, Sem.run_bind, Sem.run_pure, Result.andThen_ok, List.map_toArray, List.map_cons, List.map_nil, hs, hx, q1]
    exact hK _ _ (h v' w' q2 q3 q4 q5)
end
end Go.Proofs.Ytgbnoemoangofaa
