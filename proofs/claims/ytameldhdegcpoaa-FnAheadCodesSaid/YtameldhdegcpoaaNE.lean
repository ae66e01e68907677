import Derived.Test.YtameldhdegcpoaaGs
import Derived.Test.YtameldhdegcpoaaMH
namespace Go.Proofs.Ytameldhdegcpoaa
open Go.ChangeShapes Go.WideShapes Go.ChangeAt Go.RowKit
set_option linter.unusedVariables false
set_option linter.unusedSimpArgs false
theorem actR_same {f args} {A B C : Option Addr} {a b d : Nat} {E : List Fig} {F L : List Int} {code : Int} {w : World} (h : Calls Try.prog f args w fun e w' => e = .returned (.tuple #[gameV A E.length a B F.length b C L.length d, .int .i64 code]) ∧ Below w.heap.size w w') (hg : GmR w A a B b C d E F L) : Calls Try.prog f args w (ActR A B C d L E F code w) :=
 h.mono fun e w' h' => ⟨A, a, B, b, h'.1, hg.below h'.2, .inl rfl, .inl rfl, h'.2⟩
theorem actR_A {f args} {A B C : Option Addr} {b d : Nat} {E' : List Fig} {F L : List Int} {code : Int} {w : World} (h : Calls Try.prog f args w fun e w' => ∃ A' a', e = .returned (.tuple #[gameV A' E'.length a' B F.length b C L.length d, .int .i64 code]) ∧ GmR w' A' a' B b C d E' F L ∧ (∀ x, A' = some ⟨x, 0, none⟩ → w.heap.size ≤ x) ∧ Below w.heap.size w w') : Calls Try.prog f args w (ActR A B C d L E' F code w) :=
 h.mono fun e w' ⟨A', a', h1, h2, h3, h4⟩ => ⟨A', a', B, b, h1, h2, .inr h3, .inl rfl, h4⟩
theorem actR_AB {f args} {A B C : Option Addr} {d : Nat} {E' : List Fig} {F' L : List Int} {code : Int} {w : World} (h : Calls Try.prog f args w fun e w' => ∃ A' a' B' b', e = .returned (.tuple #[gameV A' E'.length a' B' F'.length b' C L.length d, .int .i64 code]) ∧ GmR w' A' a' B' b' C d E' F' L ∧ (∀ x, A' = some ⟨x, 0, none⟩ → w.heap.size ≤ x) ∧ (∀ x, B' = some ⟨x, 0, none⟩ → w.heap.size ≤ x) ∧ Below w.heap.size w w') : Calls Try.prog f args w (ActR A B C d L E' F' code w) :=
 h.mono fun e w' ⟨A', a', B', b', h1, h2, h3, h4, h5⟩ => ⟨A', a', B', b', h1, h2, .inr h3, .inr h4, h5⟩
theorem actR_H {f args} {A B C : Option Addr} {d : Nat} {E' : List Fig} {F' L : List Int} {code : Int} {w : World} (h : Calls Try.prog f args w fun e w' => ∃ A' a' B' b', e = .returned (.tuple #[gameV A' E'.length a' B' F'.length b' C L.length d, .int .i64 code]) ∧ GmR w' A' a' B' b' C d E' F' L ∧ (∀ x, A' = some ⟨x, 0, none⟩ → w.heap.size ≤ x) ∧ (B' = B ∨ ∀ x, B' = some ⟨x, 0, none⟩ → w.heap.size ≤ x) ∧ Below w.heap.size w w') : Calls Try.prog f args w (ActR A B C d L E' F' code w) :=
 h.mono fun e w' ⟨A', a', B', b', h1, h2, h3, h4, h5⟩ => ⟨A', a', B', b', h1, h2, .inr h3, h4, h5⟩
theorem erase_set (E : List Fig) (n : Nat) (f : Fig) : (E.set n f).take n ++ (E.set n f).drop (n + 1) = E.eraseIdx n := by
 rw [List.eraseIdx_eq_take_drop_succ]
 congr 1
 · apply List.ext_getElem? ; intro i; simp only [List.getElem?_take]; split
   · rw [List.getElem?_set_ne (by omega)]
   · rfl
 · apply List.ext_getElem? ; intro i; simp only [List.getElem?_drop]
   rw [List.getElem?_set_ne (by omega)]
theorem posF_none {c : Int} {E : List Fig} (h : atF c E = none) : posF c E = -1 := by unfold posF; rw [h]
theorem posF_some {c : Int} {E : List Fig} {n : Nat} (h : atF c E = some n) : posF c E = (n : Int) := by unfold posF; rw [h]
structure OkF (F : List Int) : Prop where
 f : F.length = 16
 fb : ∀ i (h : i < F.length), 0 ≤ F[i]'h ∧ F[i]'h ≤ 20
theorem OkF.at_ {F : List Int} (h : OkF F) {x y : Int} (hx : 0 ≤ x ∧ x ≤ 3) (hy : 0 ≤ y ∧ y ≤ 3) : ∃ (j : Nat) (v : Int) (hjl : j < F.length), y * 4 + x = (j : Int) ∧ F[j]'hjl = v ∧ 0 ≤ v ∧ v ≤ 20 ∧ (y * 4 + x).toNat = j ∧ F[j]?.getD 0 = v := by
 have hj : (y * 4 + x).toNat < F.length := by have := h.f; omega
 exact ⟨(y * 4 + x).toNat, _, hj, by omega, rfl, (h.fb _ hj).1, (h.fb _ hj).2, rfl, by rw [List.getElem?_eq_getElem hj]; rfl⟩
set_option maxRecDepth 100000 in
set_option maxHeartbeats 2000000 in
theorem hitAll (g : Nat) (a : Nat) (B : Option Addr) (b : Nat) (C : Option Addr) (d : Nat) (E : List Fig) (F L : List Int) (k : Nat) (rc rn rx ry : Int) (w : World) (he : OkE E) (hf : OkF F) (hk : k < E.length) (hg : GmR w (some ⟨g, 0, none⟩) a B b C d E F L) :
 Calls Try.prog 106 #[gameV (some ⟨g, 0, none⟩) E.length a B F.length b C L.length d, .int .i64 (k : Int), .int .i64 (posF rx E)] w (ActR (some ⟨g, 0, none⟩) B C d L (actG E F L k (E[k]'hk) ⟨rc, rn, 4, rx, ry⟩).1.1 (actG E F L k (E[k]'hk) ⟨rc, rn, 4, rx, ry⟩).1.2.1 (actG E F L k (E[k]'hk) ⟨rc, rn, 4, rx, ry⟩).2 w) := by
 obtain ⟨kc, kx, k_y, kl, kg, hfk⟩ : ∃ kc kx k_y kl kg, E[k]'hk = ⟨kc, kx, k_y, kl, kg⟩ := ⟨_, _, _, _, _, rfl⟩
 have bk := he.bd k hk
 rw [hfk] at bk ⊢
 simp only at bk
 rcases hat : atF rx E with _ | n
 · rw [posF_none hat]
   have hA : actG E F L k ⟨kc, kx, k_y, kl, kg⟩ ⟨rc, rn, 4, rx, ry⟩ = ((E, F, L), 8) := by simp [actG, hat]
   rw [hA]
   exact actR_same (l2HitNone g a B b C d E F L k _ w (by omega) hg) hg
 · obtain ⟨hn, _, _⟩ := atF_some hat
   rw [posF_some hat]
   obtain ⟨nc, nx, ny, nl, ng, hfn⟩ : ∃ nc nx ny nl ng, E[n]'hn = ⟨nc, nx, ny, nl, ng⟩ := ⟨_, _, _, _, _, rfl⟩
   have bn := he.bd n hn
   rw [hfn] at bn
   simp only at bn
   have hq : E[n]? = some ⟨nc, nx, ny, nl, ng⟩ := by rw [List.getElem?_eq_getElem hn, hfn]
   by_cases hnk : n = k
   · have hA : actG E F L k ⟨kc, kx, k_y, kl, kg⟩ ⟨rc, rn, 4, rx, ry⟩ = ((E, F, L), 8) := by subst hnk; simp [actG, hat, hq]
     rw [hA]
     exact actR_same (l2HitSelf g a B b C d E F L k _ w (by omega) (by rw [hnk]) hg) hg
   rcases hnr : nearB ⟨kc, kx, k_y, kl, kg⟩ ⟨nc, nx, ny, nl, ng⟩ with _ | _
   · have hA : actG E F L k ⟨kc, kx, k_y, kl, kg⟩ ⟨rc, rn, 4, rx, ry⟩ = ((E, F, L), 8) := by simp [actG, hat, hq, hnr]
     rw [hA]
     exact actR_same (l2HitFar g a B b C d E F L k n w hk hn hnk kc kx k_y kl kg nc nx ny nl ng hfk hfn (by omega) (by omega) (by omega) (by omega) hnr hg) hg
   by_cases hl : nl - 1 ≤ 0
   · obtain ⟨j, v, hjl, h1, h2, h3, h4, h5, h6⟩ := hf.at_ (x := nx) (y := ny) (by omega) (by omega)
     have hA : actG E F L k ⟨kc, kx, k_y, kl, kg⟩ ⟨rc, rn, 4, rx, ry⟩ = (((E.set n ⟨nc, nx, ny, nl - 1, ng⟩).take n ++ (E.set n ⟨nc, nx, ny, nl - 1, ng⟩).drop (n + 1), F.set j (v + ng), L), 0) := by
      have h7 : sq ⟨nc, nx, ny, nl, ng⟩ = j := h5
      rw [erase_set]; simp [actG, hat, hq, hnr, hnk, hl, h7, h6]
     rw [hA]
     exact actR_H (l2HitDrop g a B b C d E F L k n w hk hn hnk kc kx k_y kl kg nc nx ny nl ng hfk hfn (by omega) (by omega) (by omega) (by omega) hnr he.len (by omega) hl j v hf.f h1 hjl h2 ⟨h3, h4⟩ (by omega) hg)
   · have hA : actG E F L k ⟨kc, kx, k_y, kl, kg⟩ ⟨rc, rn, 4, rx, ry⟩ = ((E.set n ⟨nc, nx, ny, nl - 1, ng⟩, F, L), 0) := by simp [actG, hat, hq, hnr, hnk, hl]
     rw [hA]
     exact actR_H (l2HitLive g a B b C d E F L k n w hk hn hnk kc kx k_y kl kg nc nx ny nl ng hfk hfn (by omega) (by omega) (by omega) (by omega) hnr he.len (by omega) hl hg)
set_option maxRecDepth 100000 in
set_option maxHeartbeats 2000000 in
theorem actAll (g : Nat) (a : Nat) (B : Option Addr) (b : Nat) (C : Option Addr) (d : Nat) (E : List Fig) (F L : List Int) (k : Nat) (r : Rq) (w : World) (he : OkE E) (hf : OkF F) (hk : k < E.length) (hr : rqB r = true) (ho : r.o ≠ 1) (hg : GmR w (some ⟨g, 0, none⟩) a B b C d E F L) :
 Calls Try.prog 88 #[gameV (some ⟨g, 0, none⟩) E.length a B F.length b C L.length d, .int .i64 (k : Int), r.val] w (ActR (some ⟨g, 0, none⟩) B C d L (actG E F L k (E[k]'hk) r).1.1 (actG E F L k (E[k]'hk) r).1.2.1 (actG E F L k (E[k]'hk) r).2 w) := by
 obtain ⟨rc, rn, ro, rx, ry⟩ := r
 simp only at ho
 unfold rqB reqB at hr
 simp only [Bool.and_eq_true] at hr
 obtain ⟨_, _, hs⟩ := hr
 by_cases e4 : ro = 4
 · subst e4
   obtain ⟨kc, kx, k_y, kl, kg, hfk⟩ : ∃ kc kx k_y kl kg, E[k]'hk = ⟨kc, kx, k_y, kl, kg⟩ := ⟨_, _, _, _, _, rfl⟩
   have bk := he.bd k hk
   rw [hfk] at bk
   simp only at bk
   exact actHit g a B b C d E F L k rc rn rx ry kc kx k_y kl kg w he.len hk hfk (by omega) (by omega) (by omega) _ _ _ (fun wz hz => hitAll g a B b C d E F L k rc rn rx ry wz he hf hk hz) hg
 obtain ⟨kc, kx, k_y, kl, kg, hfk⟩ : ∃ kc kx k_y kl kg, E[k]'hk = ⟨kc, kx, k_y, kl, kg⟩ := ⟨_, _, _, _, _, rfl⟩
 have bk := he.bd k hk
 rw [hfk] at bk ⊢
 simp only at bk
 by_cases e2 : ro = 2
 · subst e2
   have hs' : (-1 ≤ rx ∧ rx ≤ 1) ∧ (-1 ≤ ry ∧ ry ≤ 1) := by simpa [shapeB, inB] using hs
   rcases h1 : inB (kx + rx) 0 3 with _ | _
   · have hA : actG E F L k ⟨kc, kx, k_y, kl, kg⟩ ⟨rc, rn, 2, rx, ry⟩ = ((E, F, L), 6) := by simp [actG, onB, h1]
     rw [hA]
     exact actR_same (actEdgeX g a B b C d E F L k rc rn 2 rx ry kc kx k_y kl kg w he.len hk hfk (by omega) (by omega) (by omega) rfl hs'.1 h1 hg) hg
   rcases h2 : inB (k_y + ry) 0 3 with _ | _
   · have hA : actG E F L k ⟨kc, kx, k_y, kl, kg⟩ ⟨rc, rn, 2, rx, ry⟩ = ((E, F, L), 6) := by simp [actG, onB, h1, h2]
     rw [hA]
     exact actR_same (actEdgeY g a B b C d E F L k rc rn 2 rx ry kc kx k_y kl kg w he.len hk hfk (by omega) (by omega) (by omega) rfl hs'.1 hs'.2 h1 h2 hg) hg
   have hA : actG E F L k ⟨kc, kx, k_y, kl, kg⟩ ⟨rc, rn, 2, rx, ry⟩ = ((E.set k ⟨kc, kx + rx, k_y + ry, kl, kg⟩, F, L), 0) := by simp [actG, onB, h1, h2]
   rw [hA]
   exact actR_A (actMove g a B b C d E F L k rc rn rx ry kc kx k_y kl kg w he.len hk hfk (by omega) (by omega) (by omega) hs'.1 hs'.2 h1 h2 hg)
 by_cases e3 : ro = 3
 · subst e3
   obtain ⟨j, v, hjl, h1, h2, h3, h4, h5, h6⟩ := hf.at_ (x := kx) (y := k_y) (by omega) (by omega)
   have h7 : sq ⟨kc, kx, k_y, kl, kg⟩ = j := h5
   by_cases hv : v = 0
   · have hA : actG E F L k ⟨kc, kx, k_y, kl, kg⟩ ⟨rc, rn, 3, rx, ry⟩ = ((E, F, L), 7) := by simp [actG, h7, h6, hv]
     rw [hA]
     exact actR_same (actPoor g a B b C d E F L k rc rn 3 rx ry kc kx k_y kl kg w he.len hk hfk (by omega) (by omega) (by omega) rfl j v hf.f h1 hjl h2 ⟨h3, h4⟩ hv hg) hg
   have hA : actG E F L k ⟨kc, kx, k_y, kl, kg⟩ ⟨rc, rn, 3, rx, ry⟩ = ((E.set k ⟨kc, kx, k_y, kl, kg + 1⟩, F.set j (v - 1), L), 0) := by simp [actG, h7, h6, hv]
   rw [hA]
   exact actR_AB (actTake g a B b C d E F L k rc rn rx ry kc kx k_y kl kg w he.len hk hfk (by omega) (by omega) (by omega) j v hf.f h1 hjl h2 ⟨h3, h4⟩ hv hg)
 have e5 : ro = 5 := by
  simp only [shapeB] at hs
  rw [if_neg (by omega), if_neg e2, if_neg e4] at hs
  split at hs
  · assumption
  · cases hs
 subst e5
 have hs' : (1 ≤ rx ∧ rx ≤ 4) ∧ (1 ≤ ry ∧ ry ≤ 9) := by simpa [shapeB, inB] using hs
 rcases hat : atF rx E with _ | n
 · have hA : actG E F L k ⟨kc, kx, k_y, kl, kg⟩ ⟨rc, rn, 5, rx, ry⟩ = ((E, F, L), 8) := by simp [actG, hat]
   rw [hA]
   exact actR_same (giveNone g a B b C d E F L k rc rn 5 rx ry kc kx k_y kl kg w he.len hk hfk (by omega) (by omega) (by omega) rfl rfl rfl (by rw [posF_none hat]; omega) hg) hg
 · obtain ⟨hn, _, _⟩ := atF_some hat
   have hp := posF_some hat
   obtain ⟨nc, nx, ny, nl, ng, hfn⟩ : ∃ nc nx ny nl ng, E[n]'hn = ⟨nc, nx, ny, nl, ng⟩ := ⟨_, _, _, _, _, rfl⟩
   have bn := he.bd n hn
   rw [hfn] at bn
   simp only at bn
   have hq : E[n]? = some ⟨nc, nx, ny, nl, ng⟩ := by rw [List.getElem?_eq_getElem hn, hfn]
   by_cases hnk : n = k
   · have hA : actG E F L k ⟨kc, kx, k_y, kl, kg⟩ ⟨rc, rn, 5, rx, ry⟩ = ((E, F, L), 8) := by subst hnk; simp [actG, hat, hq]
     rw [hA]
     exact actR_same (giveSelf g a B b C d E F L k rc rn 5 rx ry kc kx k_y kl kg w he.len hk hfk (by omega) (by omega) (by omega) rfl rfl rfl (by rw [hp, hnk]) hg) hg
   rcases hnr : nearB ⟨kc, kx, k_y, kl, kg⟩ ⟨nc, nx, ny, nl, ng⟩ with _ | _
   · have hA : actG E F L k ⟨kc, kx, k_y, kl, kg⟩ ⟨rc, rn, 5, rx, ry⟩ = ((E, F, L), 8) := by simp [actG, hat, hq, hnr]
     rw [hA]
     exact actR_same (giveFar g a B b C d E F L k rc rn 5 rx ry kc kx k_y kl kg w he.len hk hfk (by omega) (by omega) (by omega) rfl rfl rfl n hn hnk hp nc nx ny nl ng hfn (by omega) (by omega) hnr hg) hg
   by_cases hl : kg < ry
   · have hA : actG E F L k ⟨kc, kx, k_y, kl, kg⟩ ⟨rc, rn, 5, rx, ry⟩ = ((E, F, L), 7) := by simp [actG, hat, hq, hnr, hnk, hl]
     rw [hA]
     exact actR_same (givePoor g a B b C d E F L k rc rn 5 rx ry kc kx k_y kl kg w he.len hk hfk (by omega) (by omega) (by omega) rfl rfl rfl n hn hnk hp nc nx ny nl ng hfn (by omega) (by omega) hnr hl hg) hg
   · have hA : actG E F L k ⟨kc, kx, k_y, kl, kg⟩ ⟨rc, rn, 5, rx, ry⟩ = (((E.set n ⟨nc, nx, ny, nl, ng + ry⟩).set k ⟨kc, kx, k_y, kl, kg - ry⟩, F, L), 0) := by simp [actG, hat, hq, hnr, hnk, hl]
     rw [hA]
     exact actR_A (giveYes g a B b C d E F L k rc rn 5 rx ry kc kx k_y kl kg w he.len hk hfk (by omega) (by omega) (by omega) rfl rfl rfl n hn hnk hp nc nx ny nl ng hfn (by omega) (by omega) hnr (by omega) (by omega) hl hg)
theorem actG_L (E : List Fig) (F L : List Int) (k : Nat) (e : Fig) (r : Rq) : (actG E F L k e r).1.2.2 = L := by
 unfold actG
 repeat' split
 all_goals rfl
end Go.Proofs.Ytameldhdegcpoaa
namespace Go.Proofs.Ytameldhdegcpoaa
open Go.ChangeShapes Go.WideShapes Go.ChangeAt Go.RowKit
set_option linter.unusedVariables false
set_option linter.unusedSimpArgs false
def DoR (x : Gm × Int) (w : World) (e : Ending) (w' : World) : Prop :=
 ∃ A' a' B' b' C' d', e = .returned (.tuple #[gameV A' x.1.1.length a' B' x.1.2.1.length b' C' x.1.2.2.length d', .int .i64 x.2]) ∧ GmR w' A' a' B' b' C' d' x.1.1 x.1.2.1 x.1.2.2 ∧ Below w.heap.size w w'
def Src (w : World) (A A' : Option Addr) : Prop := A' = A ∨ ∀ x, A' = some ⟨x, 0, none⟩ → w.heap.size ≤ x
theorem Src.same (w : World) (A : Option Addr) : Src w A A := .inl rfl
theorem Src.late {w w' : World} {A A' : Option Addr} (h : A' = A ∨ ∀ x, A' = some ⟨x, 0, none⟩ → w'.heap.size ≤ x) (hl : w.heap.size ≤ w'.heap.size) : Src w A A' := h.imp id (fun h x hx => Nat.le_trans hl (h x hx))
theorem Src.new {w : World} {A : Option Addr} {q : Nat} (h : w.heap.size ≤ q) : Src w A (some ⟨q, 0, none⟩) := .inr (fun x hx => by cases hx; exact h)
def DoP (A B C : Option Addr) (x : Gm × Int) (w : World) (e : Ending) (w' : World) : Prop :=
 ∃ A' a' B' b' C' d', e = .returned (.tuple #[gameV A' x.1.1.length a' B' x.1.2.1.length b' C' x.1.2.2.length d', .int .i64 x.2]) ∧ (GmR w' A' a' B' b' C' d' x.1.1 x.1.2.1 x.1.2.2 ∧ Below w.heap.size w w') ∧ Src w A A' ∧ Src w B B' ∧ Src w C C'
theorem DoP.r {A B C : Option Addr} {x : Gm × Int} {w w' : World} {e : Ending} (h : DoP A B C x w e w') : DoR x w e w' := by
 obtain ⟨A', a', B', b', C', d', h1, h2, _⟩ := h
 exact ⟨A', a', B', b', C', d', h1, h2.1, h2.2⟩
set_option maxRecDepth 100000 in
set_option maxHeartbeats 4000000 in
theorem doNull (A : Option Addr) (a : Nat) (B : Option Addr) (b : Nat) (C : Option Addr) (d : Nat) (E : List Fig) (F L : List Int) (rc rn ro rx ry : Int) (w : World) (hn : nullB ⟨rc, rn, ro, rx, ry⟩ = true) (hg : GmR w A a B b C d E F L) :
 Calls Try.prog 56 #[gameV A E.length a B F.length b C L.length d, .agg #[.int .i64 rc, .int .i64 rn, .int .i64 ro, .int .i64 rx, .int .i64 ry]] w (DoP A B C ((E, F, L), 2) w) := by
 show Calls Try.prog 56 #[gameV A E.length a B F.length b C L.length d, .agg #[.int .i64 rc, .int .i64 rn, .int .i64 ro, .int .i64 rx, .int .i64 ry]] w fun e w' => ∃ A' a' B' b' C' d', e = .returned (.tuple #[gameV A' E.length a' B' F.length b' C' L.length d', .int .i64 2]) ∧ (GmR w' A' a' B' b' C' d' E F L ∧ Below w.heap.size w w') ∧ Src w A A' ∧ Src w B B' ∧ Src w C C'
 have BW : Hid (Below w.heap.size w (((w.alloc (.cells #[.slice A E.length a, .slice B F.length b, .slice C L.length d] 29)).alloc (.cells #[.int .i64 rc, .int .i64 rn, .int .i64 ro, .int .i64 rx, .int .i64 ry] 49)).alloc (.cells #[.slice none 0 0, .slice none 0 0, .slice none 0 0] 29))) := ((below_alloc2 w _ _).alloc (by simp; omega) _)
 have HSW : Hid ((((w.alloc (.cells #[.slice A E.length a, .slice B F.length b, .slice C L.length d] 29)).alloc (.cells #[.int .i64 rc, .int .i64 rn, .int .i64 ro, .int .i64 rx, .int .i64 ry] 49)).alloc (.cells #[.slice none 0 0, .slice none 0 0, .slice none 0 0] 29)).heap.size = w.heap.size + 3) := by show _ = _; simp
 have K0 : Hid (Three (((w.alloc (.cells #[.slice A E.length a, .slice B F.length b, .slice C L.length d] 29)).alloc (.cells #[.int .i64 rc, .int .i64 rn, .int .i64 ro, .int .i64 rx, .int .i64 ry] 49)).alloc (.cells #[.slice none 0 0, .slice none 0 0, .slice none 0 0] 29)) w.heap.size 29 (.slice A E.length a) (.slice B F.length b) (.slice C L.length d)) := ((Three.new w).alloc _).alloc _
 have KR : Hid (Bkk (((w.alloc (.cells #[.slice A E.length a, .slice B F.length b, .slice C L.length d] 29)).alloc (.cells #[.int .i64 rc, .int .i64 rn, .int .i64 ro, .int .i64 rx, .int .i64 ry] 49)).alloc (.cells #[.slice none 0 0, .slice none 0 0, .slice none 0 0] 29)) (w.heap.size + 1) 49 #[.int .i64 rc, .int .i64 rn, .int .i64 ro, .int .i64 rx, .int .i64 ry]) := by have := (Bkk.new (t := 49) (cs := #[.int .i64 rc, .int .i64 rn, .int .i64 ro, .int .i64 rx, .int .i64 ry]) (w.alloc (.cells #[.slice A E.length a, .slice B F.length b, .slice C L.length d] 29))).alloc (.cells #[.slice none 0 0, .slice none 0 0, .slice none 0 0] 29); simpa [Hid] using this
 have K1 : Hid (Three (((w.alloc (.cells #[.slice A E.length a, .slice B F.length b, .slice C L.length d] 29)).alloc (.cells #[.int .i64 rc, .int .i64 rn, .int .i64 ro, .int .i64 rx, .int .i64 ry] 49)).alloc (.cells #[.slice none 0 0, .slice none 0 0, .slice none 0 0] 29)) (w.heap.size + 1 + 1) 29 (.slice none 0 0) (.slice none 0 0) (.slice none 0 0)) := by have := Three.new (t := 29) (u0 := .slice none 0 0) (u1 := .slice none 0 0) (u2 := .slice none 0 0) ((w.alloc (.cells #[.slice A E.length a, .slice B F.length b, .slice C L.length d] 29)).alloc (.cells #[.int .i64 rc, .int .i64 rn, .int .i64 ro, .int .i64 rx, .int .i64 ry] 49)); simpa [Hid] using this
 have HG0 := Lib.hid hg
 have HN := Lib.hid hn
 clear hg hn
 unfold gameV
 go_enter Try.func56, Try.ntmps56
 go_wp2_with (fail)
 refine (l1None ⟨rc, rn, ro, rx, ry⟩ _).mono ?_
 rintro e wa ⟨rfl, hb⟩
 rw [HN.out]
 have BF := Lib.hid (Below.and BW.out hb)
 have T0 := Lib.hid (K0.out.below hb (by rw [HSW.out]; omega))
 have T1 := Lib.hid (K1.out.below hb (by rw [HSW.out]; omega))
 have TR := Lib.hid (KR.out.below hb)
 have SZ := Lib.hid (show w.heap.size + 3 ≤ wa.heap.size by have := hb.size; rw [HSW.out] at this; omega)
 clear hb K0 K1 KR BW HSW
 obtain ⟨y0, y1, y2⟩ := T0.out.cells
 obtain ⟨z0, z1, z2⟩ := T1.out.cells
 have zf := T1.out.frozen
 have l1 := T0.out.lt
 have BG : ∀ p0 p1 p2 : Value, Below w.heap.size w (((wa.setCell ⟨w.heap.size + 1 + 1, 0, none⟩ p0).setCell ⟨w.heap.size + 1 + 1, 1, none⟩ p1).setCell ⟨w.heap.size + 1 + 1, 2, none⟩ p2) := fun p0 p1 p2 => by
  iterate 3 (refine Below.setCell ?_ (by first | (simp; done) | (simp; omega)) _)
  exact BF.out
 go_wp2
 refine bodyPost_ret (v := .tuple #[.agg #[.slice A E.length a, .slice B F.length b, .slice C L.length d], .int .i64 2]) (by simp [results, Try.results56, go_sem, y0, y1, y2, z0, z1, z2]) rfl ⟨A, a, B, b, C, d, rfl, ⟨HG0.out.below (BG _ _ _), BG _ _ _⟩, Src.same _ _, Src.same _ _, Src.same _ _⟩
set_option maxRecDepth 100000 in
set_option maxHeartbeats 4000000 in
theorem doOld (A : Option Addr) (a : Nat) (B : Option Addr) (b : Nat) (C : Option Addr) (d : Nat) (E : List Fig) (F L : List Int) (rc rn ro rx ry : Int) (w : World) (hn : nullB ⟨rc, rn, ro, rx, ry⟩ = false) (j : Nat) (v : Int) (hj : rc - 1 = (j : Int)) (hjl : j < L.length) (hv : L[j]'hjl = v) (hc : 1 ≤ rc ∧ rc ≤ 4) (hle : rn ≤ v) (hg : GmR w A a B b C d E F L) :
 Calls Try.prog 56 #[gameV A E.length a B F.length b C L.length d, .agg #[.int .i64 rc, .int .i64 rn, .int .i64 ro, .int .i64 rx, .int .i64 ry]] w (DoP A B C ((E, F, L), 3) w) := by
 show Calls Try.prog 56 #[gameV A E.length a B F.length b C L.length d, .agg #[.int .i64 rc, .int .i64 rn, .int .i64 ro, .int .i64 rx, .int .i64 ry]] w fun e w' => ∃ A' a' B' b' C' d', e = .returned (.tuple #[gameV A' E.length a' B' F.length b' C' L.length d', .int .i64 3]) ∧ (GmR w' A' a' B' b' C' d' E F L ∧ Below w.heap.size w w') ∧ Src w A A' ∧ Src w B B' ∧ Src w C C'
 have BW : Hid (Below w.heap.size w (((w.alloc (.cells #[.slice A E.length a, .slice B F.length b, .slice C L.length d] 29)).alloc (.cells #[.int .i64 rc, .int .i64 rn, .int .i64 ro, .int .i64 rx, .int .i64 ry] 49)).alloc (.cells #[.slice none 0 0, .slice none 0 0, .slice none 0 0] 29))) := ((below_alloc2 w _ _).alloc (by simp; omega) _)
 have HSW : Hid ((((w.alloc (.cells #[.slice A E.length a, .slice B F.length b, .slice C L.length d] 29)).alloc (.cells #[.int .i64 rc, .int .i64 rn, .int .i64 ro, .int .i64 rx, .int .i64 ry] 49)).alloc (.cells #[.slice none 0 0, .slice none 0 0, .slice none 0 0] 29)).heap.size = w.heap.size + 3) := by show _ = _; simp
 have K0 : Hid (Three (((w.alloc (.cells #[.slice A E.length a, .slice B F.length b, .slice C L.length d] 29)).alloc (.cells #[.int .i64 rc, .int .i64 rn, .int .i64 ro, .int .i64 rx, .int .i64 ry] 49)).alloc (.cells #[.slice none 0 0, .slice none 0 0, .slice none 0 0] 29)) w.heap.size 29 (.slice A E.length a) (.slice B F.length b) (.slice C L.length d)) := ((Three.new w).alloc _).alloc _
 have KR : Hid (Bkk (((w.alloc (.cells #[.slice A E.length a, .slice B F.length b, .slice C L.length d] 29)).alloc (.cells #[.int .i64 rc, .int .i64 rn, .int .i64 ro, .int .i64 rx, .int .i64 ry] 49)).alloc (.cells #[.slice none 0 0, .slice none 0 0, .slice none 0 0] 29)) (w.heap.size + 1) 49 #[.int .i64 rc, .int .i64 rn, .int .i64 ro, .int .i64 rx, .int .i64 ry]) := by have := (Bkk.new (t := 49) (cs := #[.int .i64 rc, .int .i64 rn, .int .i64 ro, .int .i64 rx, .int .i64 ry]) (w.alloc (.cells #[.slice A E.length a, .slice B F.length b, .slice C L.length d] 29))).alloc (.cells #[.slice none 0 0, .slice none 0 0, .slice none 0 0] 29); simpa [Hid] using this
 have K1 : Hid (Three (((w.alloc (.cells #[.slice A E.length a, .slice B F.length b, .slice C L.length d] 29)).alloc (.cells #[.int .i64 rc, .int .i64 rn, .int .i64 ro, .int .i64 rx, .int .i64 ry] 49)).alloc (.cells #[.slice none 0 0, .slice none 0 0, .slice none 0 0] 29)) (w.heap.size + 1 + 1) 29 (.slice none 0 0) (.slice none 0 0) (.slice none 0 0)) := by have := Three.new (t := 29) (u0 := .slice none 0 0) (u1 := .slice none 0 0) (u2 := .slice none 0 0) ((w.alloc (.cells #[.slice A E.length a, .slice B F.length b, .slice C L.length d] 29)).alloc (.cells #[.int .i64 rc, .int .i64 rn, .int .i64 ro, .int .i64 rx, .int .i64 ry] 49)); simpa [Hid] using this
 have HG0 := Lib.hid hg
 have HN := Lib.hid hn
 have q1 : IntKind.i64.wrap (rc - 1) = (j : Int) := by rw [hj]; exact IntWalk.i64_in _ (by omega)
 have i2 : (0 : Int) ≤ (j : Int) := by omega
 have i3 : (j : Int) < (L.length : Int) := by omega
 have HV := Lib.hid hv
 clear hj hv
 have e3 : decide (rn ≤ v) = true := by simpa using hle
 clear hg hn
 unfold gameV
 go_enter Try.func56, Try.ntmps56
 go_wp2_with (fail)
 refine (l1None ⟨rc, rn, ro, rx, ry⟩ _).mono ?_
 rintro e wa ⟨rfl, hb⟩
 rw [HN.out]
 have BF := Lib.hid (Below.and BW.out hb)
 have T0 := Lib.hid (K0.out.below hb (by rw [HSW.out]; omega))
 have T1 := Lib.hid (K1.out.below hb (by rw [HSW.out]; omega))
 have TR := Lib.hid (KR.out.below hb)
 have SZ := Lib.hid (show w.heap.size + 3 ≤ wa.heap.size by have := hb.size; rw [HSW.out] at this; omega)
 clear hb K0 K1 KR BW HSW
 obtain ⟨qb, hqb, xb⟩ := (HG0.out.below BF.out).rL j hjl
 subst hqb
 rw [HV.out] at xb
 obtain ⟨y0, y1, y2⟩ := T0.out.cells
 have xr0 : wa.cell? ⟨w.heap.size + 1, 0, none⟩ = some (.int .i64 rc) := TR.out.cell 0
 have xr1 : wa.cell? ⟨w.heap.size + 1, 1, none⟩ = some (.int .i64 rn) := TR.out.cell 1
 have l1 : w.heap.size < wa.heap.size := by have := SZ.out; omega
 have l2 : w.heap.size + 1 < wa.heap.size := by have := SZ.out; omega
 have l3 : qb < wa.heap.size := by have := HG0.out.lC qb rfl; have := SZ.out; omega
 go_wp2_with (fail)
 refine wp_region_held_drew (S := fun w1 => Below wa.heap.size wa w1) (by kernel_rfl) ((Below.refl _ _).drew) (fun hq => ?_)
 refine tkI 0 10 (v := ?_) rfl rfl ?_ ?_
 rotate_left
 · intro w1 hSw; obtain ⟨hcS, hfS⟩ := bcell hSw; go_simp; (try with_reducible rfl)
 (try simp only [Act.put, pu1, pu2, pu3])
 refine tkI 1 11 (v := ?_) rfl rfl ?_ ?_
 rotate_left
 · intro w1 hSw; obtain ⟨hcS, hfS⟩ := bcell hSw; go_simp; (try with_reducible rfl)
 (try simp only [Act.put, pu1, pu2, pu3])
 refine tkI 2 12 (v := ?_) rfl rfl ?_ ?_
 rotate_left
 · intro w1 hSw; obtain ⟨hcS, hfS⟩ := bcell hSw; go_simp; (try with_reducible rfl)
 (try simp only [Act.put, pu1, pu2, pu3])
 refine tkI 3 13 (v := ?_) rfl rfl ?_ ?_
 rotate_left
 · intro w1 hSw; obtain ⟨hcS, hfS⟩ := bcell hSw; go_simp; (try with_reducible rfl)
 (try simp only [Act.put, pu1, pu2, pu3])
 refine tkI 4 14 (v := ?_) rfl rfl ?_ ?_
 rotate_left
 · intro w1 hSw; obtain ⟨hcS, hfS⟩ := bcell hSw; go_simp; (try with_reducible rfl)
 (try simp only [Act.put, pu1, pu2, pu3])
 refine tkI 5 15 (v := ?_) rfl rfl ?_ ?_
 rotate_left
 · intro w1 hSw; obtain ⟨hcS, hfS⟩ := bcell hSw; go_simp; (try with_reducible rfl)
 (try simp only [Act.put, pu1, pu2, pu3])
 refine tkI 6 16 (v := ?_) rfl rfl ?_ ?_
 rotate_left
 · intro w1 hSw; obtain ⟨hcS, hfS⟩ := bcell hSw; go_simp; (try with_reducible rfl)
 (try simp only [Act.put, pu1, pu2, pu3])
 refine tkI 7 17 (v := ?_) rfl rfl ?_ ?_
 rotate_left
 · intro w1 hSw; obtain ⟨hcS, hfS⟩ := bcell hSw; go_simp; (try with_reducible rfl)
 (try simp only [Act.put, pu1, pu2, pu3])
 refine tkI 8 18 (v := ?_) rfl rfl ?_ ?_
 rotate_left
 · intro w1 hSw; obtain ⟨hcS, hfS⟩ := bcell hSw; go_simp; (try with_reducible rfl)
 (try simp only [Act.put, pu1, pu2, pu3])
 refine tkI 9 19 (v := ?_) rfl rfl ?_ ?_
 rotate_left
 · intro w1 hSw; obtain ⟨hcS, hfS⟩ := bcell hSw; go_simp; (try with_reducible rfl)
 (try simp only [Act.put, pu1, pu2, pu3])
 refine wpAnyH_done (by kernel_rfl) ?_ _
 have BF := Lib.hid (Below.and BF.out hq)
 clear y0 y1 y2 xr0 xr1 l1 l2 l3 xb
 obtain ⟨y0, y1, y2⟩ := T0.out.cells
 obtain ⟨z0, z1, z2⟩ := T1.out.cells
 have zf := T1.out.frozen
 have l1 := T0.out.lt
 have BG : ∀ p0 p1 p2 : Value, Below w.heap.size w (((wa.drew.setCell ⟨w.heap.size + 1 + 1, 0, none⟩ p0).setCell ⟨w.heap.size + 1 + 1, 1, none⟩ p1).setCell ⟨w.heap.size + 1 + 1, 2, none⟩ p2) := fun p0 p1 p2 => by
  iterate 3 (refine Below.setCell ?_ (by first | (simp; done) | (simp; omega)) _)
  exact BF.out
 go_wp2
 refine bodyPost_ret (v := .tuple #[.agg #[.slice A E.length a, .slice B F.length b, .slice (some ⟨qb, 0, none⟩) L.length d], .int .i64 3]) (by simp [results, Try.results56, go_sem, y0, y1, y2, z0, z1, z2]) rfl ⟨A, a, B, b, some ⟨qb, 0, none⟩, d, rfl, ⟨HG0.out.below (BG _ _ _), BG _ _ _⟩, Src.same _ _, Src.same _ _, Src.same _ _⟩
end Go.Proofs.Ytameldhdegcpoaa
