/- What the law of GameDo leans on. -/
import Derived.Test.YthjiooocahdfpaaGzo
namespace Go.Proofs.Ythjiooocahdfpaa
open Go.ChangeShapes Go.WideShapes Go.ChangeAt Go.RowKit
set_option linter.unusedVariables false
set_option linter.unusedSimpArgs false

theorem RdF.same {w w' : World} {A : Option Addr} {E : List Fig} (h : RdF w A E) (hk : ∀ x, A = some ⟨x, 0, none⟩ → w'.heap[x]? = w.heap[x]?) : RdF w' A E := fun i hi => by
  obtain ⟨g, hg, a0, a1, a2, a3, a4⟩ := h i hi
  have e := hk g hg
  exact ⟨g, hg, (World.cell?_of_block (a := ⟨g, _, none⟩) e).trans a0, (World.cell?_of_block (a := ⟨g, _, none⟩) e).trans a1, (World.cell?_of_block (a := ⟨g, _, none⟩) e).trans a2, (World.cell?_of_block (a := ⟨g, _, none⟩) e).trans a3, (World.cell?_of_block (a := ⟨g, _, none⟩) e).trans a4⟩
theorem RdI.same {w w' : World} {A : Option Addr} {l : List Int} (h : RdI w A l) (hk : ∀ x, A = some ⟨x, 0, none⟩ → w'.heap[x]? = w.heap[x]?) : RdI w' A l := fun i hi => by
  obtain ⟨g, hg, a0⟩ := h i hi
  exact ⟨g, hg, (World.cell?_of_block (a := ⟨g, _, none⟩) (hk g hg)).trans a0⟩
/-- A game's rows read, all of them in blocks below hi. -/
structure RdG (w : World) (hi : Nat) (A B C : Option Addr) (E : List Fig) (F L : List Int) : Prop where
  e : RdF w A E
  f : RdI w B F
  l : RdI w C L
  ae : ∀ x, A = some ⟨x, 0, none⟩ → x < hi
  bf : ∀ x, B = some ⟨x, 0, none⟩ → x < hi
  cl : ∀ x, C = some ⟨x, 0, none⟩ → x < hi
theorem GmR.rd {w : World} {A : Option Addr} {a : Nat} {B : Option Addr} {b : Nat} {C : Option Addr} {d : Nat} {E : List Fig} {F L : List Int} (h : GmR w A a B b C d E F L) : RdG w w.heap.size A B C E F L := ⟨h.rE, h.rF, h.rL, h.lA, h.lB, h.lC⟩
theorem RdG.below {w w' : World} {hi : Nat} {A B C : Option Addr} {E : List Fig} {F L : List Int} (h : RdG w hi A B C E F L) (hb : Below w.heap.size w w') : RdG w' hi A B C E F L := ⟨RdF.below h.e hb, RdI.below h.f hb, RdI.below h.l hb, h.ae, h.bf, h.cl⟩
theorem RdG.keeps {w w' : World} {hi lo' hi' : Nat} {A B C : Option Addr} {E : List Fig} {F L : List Int} (h : RdG w hi A B C E F L) (hw : hi ≤ w.heap.size) (hk : Keeps lo' hi' w w') (ho : hi ≤ lo') : RdG w' hi A B C E F L :=
  ⟨h.e.same fun x hx => hk.block x (by have := h.ae x hx; omega) (.inl (by have := h.ae x hx; omega)), h.f.same fun x hx => hk.block x (by have := h.bf x hx; omega) (.inl (by have := h.bf x hx; omega)), h.l.same fun x hx => hk.block x (by have := h.cl x hx; omega) (.inl (by have := h.cl x hx; omega)), h.ae, h.bf, h.cl⟩
theorem GameAt.gmR {w : World} {lo hi : Nat} {A : Option Addr} {a : Nat} {B : Option Addr} {b : Nat} {C : Option Addr} {d : Nat} {E : List Fig} {F L : List Int} (h : GameAt w lo hi A a B b C d E F L) : GmR w A a B b C d E F L :=
  ⟨RdF.of_own h.ents, RdI.of_own h.floor, RdI.of_own h.last, (own_cap h.ents).1, (own_cap h.floor).1, (own_cap h.last).1, (own_cap h.ents).2, (own_cap h.floor).2, (own_cap h.last).2, (fun x hx => (own_at h.ents x hx).2), (fun x hx => (own_at h.floor x hx).2), (fun x hx => (own_at h.last x hx).2)⟩
theorem OwG.game {w : World} {lo : Nat} {A : Option Addr} {a : Nat} {B : Option Addr} {b : Nat} {C : Option Addr} {d : Nat} {E : List Fig} {F L : List Int} (h : OwG w lo A a B b C d E F L) : GameAt w lo w.heap.size A a B b C d E F L :=
  ⟨h.e, h.f, h.l, h.fl, (fun g hg => (own_block_ge h.e g hg).2), (fun g hg => (own_block_ge h.f g hg).2), (fun g hg => (own_block_ge h.l g hg).2)⟩
/-- eqGame at two games that read alike. -/
theorem eqGame_rd {w : World} {hi hi' : Nat} {A B C A' B' C' : Option Addr} {a b c a' b' c' : Nat} {E : List Fig} {F L : List Int} (h : RdG w hi A B C E F L) (h' : RdG w hi' A' B' C' E F L) (hE : E.length ≤ 1048576) (hF : F.length ≤ 1048576) (hL : L.length ≤ 1048576) :
    Calls Try.prog 13 #[gameV A E.length a B F.length b C L.length c, gameV A' E.length a' B' F.length b' C' L.length c'] w fun e w' => e = .returned (.bool true) ∧ Below w.heap.size w w' := by
  have := eqGame A B C A' B' C' a b c a' b' c' E E F F L L w (by unfold maxLen; omega) (by unfold maxLen; omega) (by unfold maxLen; omega) (by unfold maxLen; omega) (by unfold maxLen; omega) h.e h.f h.l h'.e h'.f h'.l
  simpa using this
theorem GameAt.rd {w : World} {lo hi : Nat} {A : Option Addr} {a : Nat} {B : Option Addr} {b : Nat} {C : Option Addr} {d : Nat} {E : List Fig} {F L : List Int} (h : GameAt w lo hi A a B b C d E F L) : RdG w w.heap.size A B C E F L := h.gmR.rd
theorem Keeps.three {w w' : World} {lo hi g : Nat} {t : TypeId} {u0 u1 u2 : Value} (hk : Keeps lo hi w w') (h : Three w g t u0 u1 u2) (hg : g < lo ∨ hi ≤ g) : Three w' g t u0 u1 u2 := (hk.block g h.lt hg).trans h
theorem Keeps.bkk {w w' : World} {lo hi g : Nat} {t : TypeId} {cs : Array Value} (hk : Keeps lo hi w w') (h : Bkk w g t cs) (hs : g < w.heap.size) (hg : g < lo ∨ hi ≤ g) : Bkk w' g t cs := (hk.block g hs hg).trans h
theorem actG_len (E : List Fig) (F L : List Int) (k : Nat) (e : Fig) (r : Rq) : (actG E F L k e r).1.1.length ≤ E.length ∧ (actG E F L k e r).1.2.1.length = F.length ∧ (actG E F L k e r).1.2.2.length = L.length := by
  unfold actG
  repeat' split
  all_goals simp
  all_goals (rw [List.length_eraseIdx]; split <;> omega)
theorem stepG_len (E : List Fig) (F L : List Int) (r : Rq) : (stepG E F L r).1.1.length ≤ 5 ∧ (stepG E F L r).1.2.1.length ≤ 16 ∧ (stepG E F L r).1.2.2.length ≤ 4 := by
  unfold stepG
  split
  · rename_i h
    have hg := okG_of h.1
    have h1 := hg.e.len
    have h2 := hg.f
    have h3 := hg.l
    unfold doG
    split
    · simp; omega
    split
    · simp; omega
    simp only
    split
    · split
      · simp; omega
      · have := ltF_le r.c E
        simp; omega
    · split
      · simp; omega
      · split
        · simp; omega
        · rename_i e _
          have := actG_len E F (L.set (r.c - 1).toNat r.n) ‹_› e r
          simp at this ⊢; omega
  · simp

end Go.Proofs.Ythjiooocahdfpaa
