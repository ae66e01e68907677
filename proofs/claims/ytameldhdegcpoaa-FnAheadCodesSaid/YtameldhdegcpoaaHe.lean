import Derived.Test.YtameldhdegcpoaaHc
import Derived.Test.YtameldhdegcpoaaAp
import Derived.Deep.Cut
namespace Go.Proofs.Ytameldhdegcpoaa
open Go.ChangeShapes Go.WideShapes Go.ChangeAt Go.RowKit
set_option linter.unusedVariables false
set_option linter.unusedSimpArgs false
theorem apart_symmH {u v : Value} (h : ∀ x, u.ownBlock = some x → v.ownBlock ≠ some x) : ∀ x, v.ownBlock = some x → u.ownBlock ≠ some x := fun x hx e => h x e hx
theorem app_keepH {w w' : World} {base : Nat} {e : TypeId} {size : Nat} {u v : Value} {n : Nat} {xs : List Value} (h : w.ownsRow base e size v n xs) (hg : w.grownBy w' u.ownBlock) (D : ∀ x, u.ownBlock = some x → v.ownBlock ≠ some x) : w'.ownsRow base e size v n xs := by
 rcases hq : v.ownBlock with _ | x
 · exact h.kept hg (.inl hq)
 · exact h.kept hg (.inr (by rw [hq]; exact fun e => D x e.symm hq))
theorem app_apartH {w : World} {base : Nat} {e : TypeId} {size : Nat} {u u' v : Value} {n : Nat} {xs : List Value} (h : w.ownsRow base e size v n xs) (hp : u'.ownBlock = u.ownBlock ∨ u'.ownBlock = some w.heap.size) (D : ∀ x, u.ownBlock = some x → v.ownBlock ≠ some x) : ∀ x, u'.ownBlock = some x → v.ownBlock ≠ some x := by
 intro x hx e
 rcases hp with h1 | h1
 · exact D x (by rw [← h1]; exact hx) e
 · rw [h1] at hx
   injection hx with hx
   have := (h.lt x e).2
   omega
theorem own_nil_newH (w : World) (e : TypeId) (size : Nat) (h : (#[] : Array Value).size = 0 * size) : (w.alloc (.cells #[] e)).ownsRow w.heap.size e size (.slice (some ⟨w.heap.size, 0, none⟩) 0 0) 0 [] :=
 World.ownsRow_lit (size := size) w #[] 0 (Nat.le_refl _) (by unfold maxLen; omega) h
theorem parts_ofH {P : Program} {t : TypeId} {z : Option Value} {n b : Nat} (h : (P.info? t).map (fun i => (i.zero, i.size, i.bytes)) = some (z, n, b)) : ∃ i, P.info? t = some i ∧ i.zero = z ∧ i.size = n ∧ i.bytes = b := by
 rcases hi : P.info? t with _ | i
 · rw [hi] at h; cases h
 · rw [hi] at h
   simp only [Option.map_some, Option.some.injEq, Prod.mk.injEq] at h
   exact ⟨i, rfl, h.1, h.2.1, h.2.2⟩
theorem infoReqH : (Try.prog.info? 49).map (fun i => (i.zero, i.size, i.bytes)) = some (some (.agg #[.int .i64 0, .int .i64 0, .int .i64 0, .int .i64 0, .int .i64 0]), 5, 40) := by kernel_rfl
theorem reqs_oneH (L : List Rq) : ∀ u ∈ L.flatMap Rq.cells, u.oneCell' = true := by
 intro u hu
 simp only [List.mem_flatMap, Rq.cells] at hu
 obtain ⟨a, _, hu⟩ := hu
 simp at hu
 rcases hu with rfl | rfl | rfl | rfl | rfl <;> rfl
theorem own_formH {w : World} {base : Nat} {e : TypeId} {size : Nat} {v : Value} {n : Nat} {xs : List Value} (h : w.ownsRow base e size v n xs) : ∃ A c, v = .slice A n c := by
 rcases h.2 with ⟨h1, h2⟩ | ⟨g, cap, cur, h1, _⟩
 · exact ⟨none, 0, by rw [h1, h2]⟩
 · exact ⟨_, _, h1⟩
end Go.Proofs.Ytameldhdegcpoaa
