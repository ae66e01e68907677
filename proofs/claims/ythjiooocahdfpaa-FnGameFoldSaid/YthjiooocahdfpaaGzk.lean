/- A figure joins: the program's way. -/
import Derived.Test.YthjiooocahdfpaaGzj
namespace Go.Proofs.Ythjiooocahdfpaa
open Go.ChangeShapes Go.WideShapes Go.ChangeAt Go.RowKit
set_option linter.unusedVariables false
set_option linter.unusedSimpArgs false

theorem own_keepR {w w' : World} {base base' : Nat} {e e' : TypeId} {size : Nat} {v v' : Value} {n : Nat} {xs : List Value} (h : w.ownsRow base e size v n xs) (hg : w.grownBy w' v'.ownBlock) (hd : ∀ x, v'.ownBlock = some x → v.ownBlock ≠ some x) : w'.ownsRow base e size v n xs := by
  rcases hv : v.ownBlock with _ | x
  · exact h.kept hg (.inl hv)
  · exact h.kept hg (.inr (by rw [hv]; intro e; exact hd x e.symm hv))
/-- The figures of a board stored anew. -/
theorem Bd.newE {w : World} {p lo : Nat} {A : Option Addr} {a : Nat} {B : Option Addr} {b : Nat} {C : Option Addr} {d : Nat} {E : List Fig} {F L : List Int} (h : Bd w p lo A a B b C d E F L) {A' : Option Addr} {a' : Nat} {E' : List Fig} {w' : World} (hg : w.grownBy w' (Value.slice A E.length a).ownBlock) (ho : w'.ownsRow lo 74 5 (.slice A' E'.length a') E'.length (figs E'))
    (hn : (Value.slice A' E'.length a').ownBlock = (Value.slice A E.length a).ownBlock ∨ ∃ x, (Value.slice A' E'.length a').ownBlock = some x ∧ w.heap.size ≤ x) : Bd (w'.setCell ⟨p, 0, none⟩ (.slice A' E'.length a')) p lo A' a' B b C d E' F L := by
  have hp := h.at_.lt
  have pe' : (Value.slice A' E'.length a').ownBlock ≠ some p := by
    rcases hn with hn | ⟨x, hn, hx⟩
    · rw [hn]; exact h.pe
    · rw [hn]; intro e; injection e with e; omega
  have put : ∀ {e : TypeId} {size n : Nat} {v : Value} {xs : List Value}, w'.ownsRow lo e size v n xs → v.ownBlock ≠ some p → (w'.setCell ⟨p, 0, none⟩ (.slice A' E'.length a')).ownsRow lo e size v n xs := fun h1 h2 => own_same h1 (fun k hk => heap_setCell_other w' ⟨p, 0, none⟩ k _ (by
    intro e
    subst e
    exact h2 hk))
  refine ⟨(h.at_.grown hg (fun e => h.pe e.symm)).set0 _, put ho pe', put (own_keepR (base' := 0) (e' := 0) h.f hg (fun x hx => h.ef x hx)) h.pf, put (own_keepR (base' := 0) (e' := 0) h.l hg (fun x hx => h.el x hx)) h.pl, ?_, ?_, h.fl, pe', h.pf, h.pl, h.lo⟩
  · intro x hx e
    rcases hn with hn | ⟨y, hn, hy⟩
    · rw [hn] at hx; exact h.ef x hx e
    · rw [hn] at hx
      injection hx with hx
      have := (own_block_ge h.f x e).2
      omega
  · intro x hx e
    rcases hn with hn | ⟨y, hn, hy⟩
    · rw [hn] at hx; exact h.el x hx e
    · rw [hn] at hx
      injection hx with hx
      have := (own_block_ge h.l x e).2
      omega

/-- What comes back of a step upon a board: its figures may lie elsewhere. -/
def StepB (p lo : Nat) (B : Option Addr) (b : Nat) (C : Option Addr) (d : Nat) (L : List Int) (X : Gm × Int) (w : World) (e : Ending) (w' : World) : Prop :=
  e = .returned (.int .i64 X.2) ∧ (∃ A' a', Bd w' p lo A' a' B b C d X.1.1 X.1.2.1 L) ∧ Below lo w w'

theorem Bd.low {w : World} {p lo : Nat} {A : Option Addr} {a : Nat} {B : Option Addr} {b : Nat} {C : Option Addr} {d : Nat} {E : List Fig} {F L : List Int} (h : Bd w p lo A a B b C d E F L) : lo ≤ w.heap.size := by
  have := h.at_.lt
  have := h.lo
  omega

set_option maxRecDepth 100000 in
set_option maxHeartbeats 2000000 in
theorem joinNo {w : World} {p lo : Nat} {A : Option Addr} {a : Nat} {B : Option Addr} {b : Nat} {C : Option Addr} {d : Nat} {E : List Fig} {F L : List Int} (h : Bd w p lo A a B b C d E F L) (he : OkE E) (c : Int) (k : Nat) (hk : atF c E = some k) :
    Calls Try.prog 67 #[.pointer (some ⟨p, 0, none⟩), .int .i64 c] w (StepB p lo B b C d L ((E, F, L), 4) w) := by
  have PL := Lib.hid (placeOf A a E c w he (RdF.of_own h.e))
  have HB := Lib.hid h
  obtain ⟨y0, y1, y2⟩ := h.at_.cells
  have lp := h.at_.lt
  have LW := Lib.hid h.low
  rw [hk] at PL
  have PL : Hid (Calls Try.prog 82 #[.slice A E.length a, .int .i64 c] w fun e w' => e = .returned (.tuple #[.int .i64 (ltF c E), .bool true]) ∧ Below w.heap.size w w') := PL
  clear h hk
  go_enter Try.func67, Try.ntmps67
  go_wp2_with (fail)
  refine PL.out.mono ?_
  rintro e wa ⟨rfl, hb⟩
  clear PL
  have BA := Lib.hid hb
  clear hb
  go_wp2
  go_ret
  exact ⟨rfl, ⟨A, a, HB.out.below BA.out⟩, BA.out.mono LW.out⟩

set_option maxRecDepth 100000 in
set_option maxHeartbeats 4000000 in
theorem joinYes {w : World} {p lo : Nat} {A : Option Addr} {a : Nat} {B : Option Addr} {b : Nat} {C : Option Addr} {d : Nat} {E : List Fig} {F L : List Int} (h : Bd w p lo A a B b C d E F L) (he : OkE E) (c : Int) (hc : 1 ≤ c ∧ c ≤ 4) (hk : atF c E = none) :
    Calls Try.prog 67 #[.pointer (some ⟨p, 0, none⟩), .int .i64 c] w (StepB p lo B b C d L ((E.take (ltF c E) ++ ⟨c, c - 1, c - 1, 3, 0⟩ :: E.drop (ltF c E), F, L), 0) w) := by
  have PL := Lib.hid (placeOf A a E c w he (RdF.of_own h.e))
  have HB := Lib.hid h
  obtain ⟨y0, y1, y2⟩ := h.at_.cells
  have lp := h.at_.lt
  have LW := Lib.hid h.low
  rw [hk] at PL
  have PL : Hid (Calls Try.prog 82 #[.slice A E.length a, .int .i64 c] w fun e w' => e = .returned (.tuple #[.int .i64 (ltF c E), .bool false]) ∧ Below w.heap.size w w') := PL
  have HLT := Lib.hid (ltF_le c E)
  have HEL := Lib.hid he.len
  have q1 : IntKind.i64.wrap (c - 1) = c - 1 := IntWalk.i64_in _ (by omega)
  obtain ⟨k, hkk⟩ : ∃ k, k = ltF c E := ⟨_, rfl⟩
  rw [← hkk] at PL HLT ⊢
  clear h hk hkk he
  go_enter Try.func67, Try.ntmps67
  go_wp2_with (fail)
  refine PL.out.mono ?_
  rintro e wa ⟨rfl, hb⟩
  clear PL y0 y1 y2
  have BA := Lib.hid hb
  have HA := Lib.hid (HB.out.below hb)
  clear hb
  obtain ⟨y0, y1, y2⟩ := HA.out.at_.cells
  have lp2 := HA.out.at_.lt
  go_wp2_with (fail)
  have B2 : Below wa.heap.size wa (wa.alloc (.cells #[.int .i64 c, .int .i64 (c - 1), .int .i64 (c - 1), .int .i64 3, .int .i64 0] 74)) := (Below.refl _ _).alloc (Nat.le_refl _) _
  have H2 := Lib.hid (HA.out.below B2)
  have B2 := Lib.hid B2
  have lw2 : lo ≤ (wa.alloc (.cells #[.int .i64 c, .int .i64 (c - 1), .int .i64 (c - 1), .int .i64 3, .int .i64 0] 74)).heap.size := H2.out.low
  have hv : (wa.alloc (.cells #[.int .i64 c, .int .i64 (c - 1), .int .i64 (c - 1), .int .i64 3, .int .i64 0] 74)).ownsRow lo 74 5 (.slice (some ⟨wa.heap.size, 0, none⟩) 1 1) 1 (Fig.cells ⟨c, c - 1, c - 1, 3, 0⟩) :=
    ⟨rfl, .inr ⟨wa.heap.size, 1, _, rfl, HA.out.low, heap_alloc_new wa _, Nat.le_refl _, by unfold maxLen; omega, rfl, rfl⟩⟩
  have hq : (Value.slice A E.length a).ownBlock ≠ some wa.heap.size := fun e => by
    have := (own_block_ge HA.out.e _ e).2
    omega
  refine (insEnt (i := k) ⟨c, c - 1, c - 1, 3, 0⟩ HLT.out HEL.out lw2 H2.out.e hv hq).mono ?_
  clear hv hq lw2
  unfold InsR
  rintro e wb ⟨A', a', rfl, ho, hg, hn⟩
  have lw3 : (wa.alloc (.cells #[.int .i64 c, .int .i64 (c - 1), .int .i64 (c - 1), .int .i64 3, .int .i64 0] 74)).heap.size ≤ wb.heap.size := hg.size
  have hl : (E.take k ++ ⟨c, c - 1, c - 1, 3, 0⟩ :: E.drop k).length = E.length + 1 := by
    have := HLT.out
    simp; omega
  have T3 := Lib.hid (H2.out.at_.grown hg (fun e => H2.out.pe e.symm))
  obtain ⟨z0, z1, z2⟩ := T3.out.cells
  have zf := T3.out.frozen
  rw [← hl] at ho hn ⊢
  have N3 := Lib.hid (Bd.newE H2.out hg ho hn)
  have B3 := Lib.hid (Below.trans ((Below.and BA.out B2.out).mono LW.out) (Below.of_grown hg H2.out.low (fun x hx => (own_block_ge H2.out.e x hx).1)))
  obtain ⟨N, hN⟩ : ∃ N, N = (E.take k ++ ⟨c, c - 1, c - 1, 3, 0⟩ :: E.drop k).length := ⟨_, rfl⟩
  rw [← hN] at ⊢
  clear y0 y1 y2 ho hg hn hl lp2 lw3
  have HN := Lib.hid hN
  clear hN
  go_wp2
  go_ret
  exact ⟨rfl, ⟨A', a', by have := N3.out; rw [← HN.out] at this; exact this⟩, B3.out.setCell HB.out.lo _⟩

end Go.Proofs.Ythjiooocahdfpaa
