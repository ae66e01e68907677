import Derived.Test.YtameldhdegcpoaaHe
namespace Go.Proofs.Ytameldhdegcpoaa
open Go.ChangeShapes Go.WideShapes Go.ChangeAt Go.RowKit
set_option linter.unusedVariables false
set_option linter.unusedSimpArgs false
structure RdA (w : World) (A : Option Addr) (a : Nat) (B : Option Addr) (b : Nat) (D T : List Rq) : Prop where
 d : Rd 5 Rq.cells w A D
 t : Rd 5 Rq.cells w B T
 nA : A = none → a = 0
 nB : B = none → b = 0
theorem RdA.below {w w' : World} {A : Option Addr} {a : Nat} {B : Option Addr} {b : Nat} {D T : List Rq} (h : RdA w A a B b D T) (hb : Below w.heap.size w w') : RdA w' A a B b D T := ⟨Rd.below h.d hb, Rd.below h.t hb, h.nA, h.nB⟩
theorem own_nilH {w : World} {base : Nat} {e : TypeId} {size : Nat} {A : Option Addr} {c n : Nat} {xs : List Value} (h : w.ownsRow base e size (.slice A n c) n xs) : A = none → c = 0 := by
 rintro rfl
 rcases h.2 with ⟨h1, h2⟩ | ⟨g, cap, cur, h1, _⟩
 · simp only [Value.slice.injEq] at h1; exact h1.2.2
 · simp at h1
theorem OwA.rdA {w : World} {lo : Nat} {A : Option Addr} {a : Nat} {B : Option Addr} {b : Nat} {D T : List Rq} (h : OwA w lo A a B b D T) : RdA w A a B b D T := ⟨h.rd.1, h.rd.2, own_nilH h.d, own_nilH h.t⟩
theorem ahB_len {D T : List Rq} {k : Int} (h : ahB D T k = true) : D.length + T.length ≤ 60 := by
 unfold ahB at h
 simp only [Bool.and_eq_true, decide_eq_true_eq] at h
 exact h.1
theorem rq_oneH (w : World) (t : TypeId) (x : Rq) : Rd 5 Rq.cells (w.alloc (.cells #[.int .i64 x.c, .int .i64 x.n, .int .i64 x.o, .int .i64 x.x, .int .i64 x.y] t)) (some ⟨w.heap.size, 0, none⟩) [x] := by
 intro i h
 have hi : i = 0 := by simpa using h
 subst hi
 refine ⟨w.heap.size, 0, rfl, fun j u hu => ?_⟩
 have hb := cell_of_row _ _ j _ t (0, 0) (heap_alloc_new w (.cells #[.int .i64 x.c, .int .i64 x.n, .int .i64 x.o, .int .i64 x.x, .int .i64 x.y] t))
 rw [show 0 + 0 * 5 + j = j by omega, hb]
 simpa [Rq.cells] using hu
theorem OwA.push {W w' : World} {lo : Nat} {A : Option Addr} {a : Nat} {B : Option Addr} {b : Nat} {D T : List Rq} (h : OwA W lo A a B b D T) {v' : Value} {r : Rq} (ho : w'.ownsRow lo 49 5 v' (T.length + 1) (T.flatMap Rq.cells ++ [r].flatMap Rq.cells)) (hg : W.grownBy w' (Value.slice B T.length b).ownBlock) (hp : v'.ownBlock = (Value.slice B T.length b).ownBlock ∨ v'.ownBlock = some W.heap.size) :
 ∃ B' b', v' = .slice B' (T ++ [r]).length b' ∧ OwA w' lo A a B' b' D (T ++ [r]) := by
 have h1 := app_keepH h.d hg (apart_symmH h.dt)
 have h2 := apart_symmH (app_apartH h.d hp (apart_symmH h.dt))
 obtain ⟨B', b', rfl⟩ := own_formH ho
 have hl : T.length + 1 = (T ++ [r]).length := by simp
 rw [← List.flatMap_append, hl] at ho
 rw [hl] at h2
 exact ⟨B', b', by rw [hl], h1, ho, h2⟩
theorem own_typeH {w : World} {base p : Nat} {e t : TypeId} {size n : Nat} {v : Value} {xs : List Value} {cs : Array Value} (h : w.ownsRow base e size v n xs) (hG : w.heap[p]? = some (.cells cs t)) (hne : e ≠ t) : v.ownBlock ≠ some p := fun hv => by
 rcases h.2 with ⟨h1, h2⟩ | ⟨g, cap, cur, h1, _⟩
 · rw [h1] at hv; cases hv
 · subst h1
   simp only [Value.ownBlock, Option.some.injEq] at hv
   exact own_ne_block h hG hne hv.symm
theorem OwA.box {w : World} {lo : Nat} {A : Option Addr} {a : Nat} {B : Option Addr} {b : Nat} {D T : List Rq} (h : OwA w lo A a B b D T) {p : Nat} {u0 u1 u2 : Value} (hT : Three w p 33 u0 u1 u2) (o : Nat) (u : Value) : OwA (w.setCell ⟨p, o, none⟩ u) lo A a B b D T := by
 have put : ∀ {e : TypeId} {size n : Nat} {v : Value} {xs : List Value}, w.ownsRow lo e size v n xs → v.ownBlock ≠ some p → (w.setCell ⟨p, o, none⟩ u).ownsRow lo e size v n xs := fun h1 h2 => own_same h1 (fun k hk => heap_setCell_other w ⟨p, o, none⟩ k _ (by
  intro e
  subst e
  exact h2 hk))
 exact ⟨put h.d (own_typeH h.d hT (by decide)), put h.t (own_typeH h.t hT (by decide)), h.dt⟩
end Go.Proofs.Ytameldhdegcpoaa
