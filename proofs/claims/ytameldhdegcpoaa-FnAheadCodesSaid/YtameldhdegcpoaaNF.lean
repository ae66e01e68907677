import Derived.Test.YtameldhdegcpoaaNC
import Derived.Test.YtameldhdegcpoaaNE
import Derived.Lib.SliceRun
import Derived.ArgAppend
namespace Go.Proofs.Ytameldhdegcpoaa
open Go.ChangeShapes Go.WideShapes Go.ChangeAt Go.RowKit
set_option linter.unusedVariables false
set_option linter.unusedSimpArgs false
def ActB (p lo : Nat) (A : Option Addr) (a : Nat) (B : Option Addr) (b : Nat) (C : Option Addr) (d : Nat) (L : List Int) (X : Gm × Int) (w : World) (e : Ending) (w' : World) : Prop :=
 e = .returned (.int .i64 X.2) ∧ Bd w' p lo A a B b C d X.1.1 X.1.2.1 L ∧ Below lo w w'
theorem moveAllI {w : World} {p lo : Nat} {A : Option Addr} {a : Nat} {B : Option Addr} {b : Nat} {C : Option Addr} {d : Nat} {E : List Fig} {F L : List Int} (h : Bd w p lo A a B b C d E F L) (he : OkE E) (k : Nat) (hk : k < E.length) (rc rn rx ry : Int) (hs : (-1 ≤ rx ∧ rx ≤ 1) ∧ (-1 ≤ ry ∧ ry ≤ 1)) : Calls Try.prog 100 #[.agg #[.pointer (some ⟨p, 0, none⟩), .int .i64 k], .agg #[.int .i64 rc, .int .i64 rn, .int .i64 2, .int .i64 rx, .int .i64 ry]] w (ActB p lo A a B b C d L (actG E F L k (E[k]'hk) ⟨rc, rn, 2, rx, ry⟩) w) := by
 obtain ⟨kc, kx, k_y, kl, kg, hfk⟩ : ∃ kc kx k_y kl kg, E[k]'hk = ⟨kc, kx, k_y, kl, kg⟩ := ⟨_, _, _, _, _, rfl⟩
 have bk := he.bd k hk
 rw [hfk] at bk ⊢
 simp only at bk
 rcases h1 : onB (kx + rx) (k_y + ry) with _ | _
 · have hA : actG E F L k ⟨kc, kx, k_y, kl, kg⟩ ⟨rc, rn, 2, rx, ry⟩ = ((E, F, L), 6) := by simp [actG, h1]
   rw [hA]
   exact moveNo h k hk kc kx k_y kl kg rc rn 2 rx ry hfk (by omega) (by omega) (by omega) (by omega) h1
 · have hA : actG E F L k ⟨kc, kx, k_y, kl, kg⟩ ⟨rc, rn, 2, rx, ry⟩ = ((E.set k ⟨kc, kx + rx, k_y + ry, kl, kg⟩, F, L), 0) := by simp [actG, h1]
   rw [hA]
   exact moveYes h k hk kc kx k_y kl kg rc rn 2 rx ry hfk (by omega) (by omega) (by omega) (by omega) h1
theorem takeAllI {w : World} {p lo : Nat} {A : Option Addr} {a : Nat} {B : Option Addr} {b : Nat} {C : Option Addr} {d : Nat} {E : List Fig} {F L : List Int} (h : Bd w p lo A a B b C d E F L) (he : OkE E) (k : Nat) (hk : k < E.length) (rc rn rx ry : Int) (hf : OkF F) : Calls Try.prog 101 #[.agg #[.pointer (some ⟨p, 0, none⟩), .int .i64 k], .agg #[.int .i64 rc, .int .i64 rn, .int .i64 3, .int .i64 rx, .int .i64 ry]] w (ActB p lo A a B b C d L (actG E F L k (E[k]'hk) ⟨rc, rn, 3, rx, ry⟩) w) := by
 obtain ⟨kc, kx, k_y, kl, kg, hfk⟩ : ∃ kc kx k_y kl kg, E[k]'hk = ⟨kc, kx, k_y, kl, kg⟩ := ⟨_, _, _, _, _, rfl⟩
 have bk := he.bd k hk
 rw [hfk] at bk ⊢
 simp only at bk
 obtain ⟨j, v, hjl, h1, h2, h3, h4, h5, h6⟩ := hf.at_ (x := kx) (y := k_y) (by omega) (by omega)
 have h7 : sq ⟨kc, kx, k_y, kl, kg⟩ = j := h5
 have h8 : F.getD (k_y * 4 + kx).toNat 0 = v := by rw [List.getD_eq_getElem?_getD, h5, h6]
 by_cases hv : v = 0
 · have hA : actG E F L k ⟨kc, kx, k_y, kl, kg⟩ ⟨rc, rn, 3, rx, ry⟩ = ((E, F, L), 7) := by simp [actG, h7, h6, hv]
   rw [hA]
   exact takeNo h k hk kc kx k_y kl kg rc rn 3 rx ry v hfk (by omega) (by omega) (by omega) (by have := hf.f; omega) h8 ⟨h3, h4⟩ hv
 · have hA : actG E F L k ⟨kc, kx, k_y, kl, kg⟩ ⟨rc, rn, 3, rx, ry⟩ = ((E.set k ⟨kc, kx, k_y, kl, kg + 1⟩, F.set j (v - 1), L), 0) := by simp [actG, h7, h6, hv]
   rw [hA]
   have := takeYes h k hk kc kx k_y kl kg rc rn 3 rx ry v hfk (by omega) (by omega) (by omega) (by have := hf.f; omega) h8 ⟨h3, h4⟩ hv
   rw [h5] at this
   exact this
set_option maxRecDepth 100000 in
set_option maxHeartbeats 1000000 in
theorem giveAllI {w : World} {p lo : Nat} {A : Option Addr} {a : Nat} {B : Option Addr} {b : Nat} {C : Option Addr} {d : Nat} {E : List Fig} {F L : List Int} (h : Bd w p lo A a B b C d E F L) (he : OkE E) (k : Nat) (hk : k < E.length) (rc rn rx ry : Int) (hs : 1 ≤ ry ∧ ry ≤ 9) : Calls Try.prog 103 #[.agg #[.pointer (some ⟨p, 0, none⟩), .int .i64 k], .agg #[.int .i64 rc, .int .i64 rn, .int .i64 5, .int .i64 rx, .int .i64 ry]] w (ActB p lo A a B b C d L (actG E F L k (E[k]'hk) ⟨rc, rn, 5, rx, ry⟩) w) := by
 have hlw : lo ≤ w.heap.size := by
  obtain ⟨g, hg, _⟩ := own_some h.e (by omega)
  have := own_block_ge h.e g (by rw [hg]; rfl)
  omega
 obtain ⟨kc, kx, k_y, kl, kg, hfk⟩ : ∃ kc kx k_y kl kg, E[k]'hk = ⟨kc, kx, k_y, kl, kg⟩ := ⟨_, _, _, _, _, rfl⟩
 have bk := he.bd k hk
 rw [hfk] at bk ⊢
 simp only at bk
 rcases hat : atF rx E with _ | n
 · have hA : actG E F L k ⟨kc, kx, k_y, kl, kg⟩ ⟨rc, rn, 5, rx, ry⟩ = ((E, F, L), 8) := by simp [actG, hat]
   rw [hA]
   exact (giveOffI h k none 0 rc rn 5 rx ry (fun wz hz => otherNone hz he k rx hat)).mono fun e w' h' => ⟨h'.1, h'.2.1, h'.2.2.mono hlw⟩
 obtain ⟨hn, _, _⟩ := atF_some hat
 obtain ⟨nc, nx, ny, nl, ng, hfn⟩ : ∃ nc nx ny nl ng, E[n]'hn = ⟨nc, nx, ny, nl, ng⟩ := ⟨_, _, _, _, _, rfl⟩
 have bn := he.bd n hn
 rw [hfn] at bn
 simp only at bn
 have hq : E[n]? = some ⟨nc, nx, ny, nl, ng⟩ := by rw [List.getElem?_eq_getElem hn, hfn]
 by_cases hnk : n = k
 · have hA : actG E F L k ⟨kc, kx, k_y, kl, kg⟩ ⟨rc, rn, 5, rx, ry⟩ = ((E, F, L), 8) := by subst hnk; simp [actG, hat, hq]
   rw [hA]
   exact (giveOffI h k none 0 rc rn 5 rx ry (fun wz hz => otherSame hz he k rx n hat hnk)).mono fun e w' h' => ⟨h'.1, h'.2.1, h'.2.2.mono hlw⟩
 have ek : (E[k]'hk).x = kx ∧ (E[k]'hk).y = k_y := by rw [hfk]; exact ⟨rfl, rfl⟩
 have en : (E[n]'hn).x = nx ∧ (E[n]'hn).y = ny := by rw [hfn]; exact ⟨rfl, rfl⟩
 rcases h1 : inB (kx - nx) (-1) 1 with _ | _
 · have hA : actG E F L k ⟨kc, kx, k_y, kl, kg⟩ ⟨rc, rn, 5, rx, ry⟩ = ((E, F, L), 8) := by simp [actG, hat, hq, nearB, h1]
   rw [hA]
   exact (giveOffI h k (some ⟨p, 0, none⟩) n rc rn 5 rx ry (fun wz hz => otherFarX hz he k n rx hk hn hat hnk kx k_y nx ny ek en (by omega) (by omega) (by omega) (by omega) h1)).mono fun e w' h' => ⟨h'.1, h'.2.1, h'.2.2.mono hlw⟩
 rcases h2 : inB (k_y - ny) (-1) 1 with _ | _
 · have hA : actG E F L k ⟨kc, kx, k_y, kl, kg⟩ ⟨rc, rn, 5, rx, ry⟩ = ((E, F, L), 8) := by simp [actG, hat, hq, nearB, h1, h2]
   rw [hA]
   exact (giveOffI h k (some ⟨p, 0, none⟩) n rc rn 5 rx ry (fun wz hz => otherFarY hz he k n rx hk hn hat hnk kx k_y nx ny ek en (by omega) (by omega) (by omega) (by omega) h1 h2)).mono fun e w' h' => ⟨h'.1, h'.2.1, h'.2.2.mono hlw⟩
 have hnr : nearB ⟨kc, kx, k_y, kl, kg⟩ ⟨nc, nx, ny, nl, ng⟩ = true := by simp [nearB, h1, h2]
 have ho : ∀ wz : World, Bd wz p lo A a B b C d E F L → Calls Try.prog 114 #[.agg #[.pointer (some ⟨p, 0, none⟩), .int .i64 k], .int .i64 rx] wz fun e w' => e = .returned (.tuple #[.agg #[.pointer (some ⟨p, 0, none⟩), .int .i64 n], .bool true]) ∧ Below wz.heap.size wz w' := fun wz hz => otherYes hz he k n rx hk hn hat hnk kx k_y nx ny ek en (by omega) (by omega) (by omega) (by omega) h1 h2
 by_cases hl : kg < ry
 · have hA : actG E F L k ⟨kc, kx, k_y, kl, kg⟩ ⟨rc, rn, 5, rx, ry⟩ = ((E, F, L), 7) := by simp [actG, hat, hq, hnr, hnk, hl]
   rw [hA]
   exact (givePoorI h k n hk hn hnk kc kx k_y kl kg nc nx ny nl ng hfk hfn rc rn 5 rx ry ho hl).mono fun e w' h' => ⟨h'.1, h'.2.1, h'.2.2.mono hlw⟩
 · have hA : actG E F L k ⟨kc, kx, k_y, kl, kg⟩ ⟨rc, rn, 5, rx, ry⟩ = (((E.set k ⟨kc, kx, k_y, kl, kg - ry⟩).set n ⟨nc, nx, ny, nl, ng + ry⟩, F, L), 0) := by
    rw [List.set_comm _ _ (show k ≠ n from fun e => hnk e.symm)]
    simp [actG, hat, hq, hnr, hnk, hl]
   rw [hA]
   exact giveYesI h k n hk hn hnk kc kx k_y kl kg nc nx ny nl ng hfk hfn rc rn 5 rx ry ho hl (by omega) (by omega) (by omega)
theorem hitAllI {w : World} {p lo : Nat} {A : Option Addr} {a : Nat} {B : Option Addr} {b : Nat} {C : Option Addr} {d : Nat} {E : List Fig} {F L : List Int} (h : Bd w p lo A a B b C d E F L) (he : OkE E) (k : Nat) (hk : k < E.length) (rc rn rx ry : Int) (hf : OkF F) (hrm : ∀ (E1 : List Fig) (n : Nat) (hn : n < E1.length) (f : Fig), E1[n]'hn = f → E1.length ≤ 4 → (0 ≤ f.x ∧ f.x ≤ 3) → (0 ≤ f.y ∧ f.y ≤ 3) → (0 ≤ f.g ∧ f.g ≤ 20) → ∀ wz : World, Bd wz p lo A a B b C d E1 F L → Calls Try.prog 115 #[.agg #[.pointer (some ⟨p, 0, none⟩), .int .i64 n]] wz fun e w' => e = .returned (.tuple #[]) ∧ Bd w' p lo A a B b C d (E1.eraseIdx n) (F.set (sq f) (F.getD (sq f) 0 + f.g)) L ∧ Below lo wz w') : Calls Try.prog 102 #[.agg #[.pointer (some ⟨p, 0, none⟩), .int .i64 k], .agg #[.int .i64 rc, .int .i64 rn, .int .i64 4, .int .i64 rx, .int .i64 ry]] w (ActB p lo A a B b C d L (actG E F L k (E[k]'hk) ⟨rc, rn, 4, rx, ry⟩) w) := by
 have hlw : lo ≤ w.heap.size := by
  obtain ⟨g, hg, _⟩ := own_some h.e (by omega)
  have := own_block_ge h.e g (by rw [hg]; rfl)
  omega
 obtain ⟨kc, kx, k_y, kl, kg, hfk⟩ : ∃ kc kx k_y kl kg, E[k]'hk = ⟨kc, kx, k_y, kl, kg⟩ := ⟨_, _, _, _, _, rfl⟩
 have bk := he.bd k hk
 rw [hfk] at bk ⊢
 simp only at bk
 rcases hat : atF rx E with _ | n
 · have hA : actG E F L k ⟨kc, kx, k_y, kl, kg⟩ ⟨rc, rn, 4, rx, ry⟩ = ((E, F, L), 8) := by simp [actG, hat]
   rw [hA]
   exact (hitOffI h k none 0 rc rn 4 rx ry (fun wz hz => otherNone hz he k rx hat)).mono fun e w' h' => ⟨h'.1, h'.2.1, h'.2.2.mono hlw⟩
 obtain ⟨hn, _, _⟩ := atF_some hat
 obtain ⟨nc, nx, ny, nl, ng, hfn⟩ : ∃ nc nx ny nl ng, E[n]'hn = ⟨nc, nx, ny, nl, ng⟩ := ⟨_, _, _, _, _, rfl⟩
 have bn := he.bd n hn
 rw [hfn] at bn
 simp only at bn
 have hq : E[n]? = some ⟨nc, nx, ny, nl, ng⟩ := by rw [List.getElem?_eq_getElem hn, hfn]
 by_cases hnk : n = k
 · have hA : actG E F L k ⟨kc, kx, k_y, kl, kg⟩ ⟨rc, rn, 4, rx, ry⟩ = ((E, F, L), 8) := by subst hnk; simp [actG, hat, hq]
   rw [hA]
   exact (hitOffI h k none 0 rc rn 4 rx ry (fun wz hz => otherSame hz he k rx n hat hnk)).mono fun e w' h' => ⟨h'.1, h'.2.1, h'.2.2.mono hlw⟩
 have ek : (E[k]'hk).x = kx ∧ (E[k]'hk).y = k_y := by rw [hfk]; exact ⟨rfl, rfl⟩
 have en : (E[n]'hn).x = nx ∧ (E[n]'hn).y = ny := by rw [hfn]; exact ⟨rfl, rfl⟩
 rcases h1 : inB (kx - nx) (-1) 1 with _ | _
 · have hA : actG E F L k ⟨kc, kx, k_y, kl, kg⟩ ⟨rc, rn, 4, rx, ry⟩ = ((E, F, L), 8) := by simp [actG, hat, hq, nearB, h1]
   rw [hA]
   exact (hitOffI h k (some ⟨p, 0, none⟩) n rc rn 4 rx ry (fun wz hz => otherFarX hz he k n rx hk hn hat hnk kx k_y nx ny ek en (by omega) (by omega) (by omega) (by omega) h1)).mono fun e w' h' => ⟨h'.1, h'.2.1, h'.2.2.mono hlw⟩
 rcases h2 : inB (k_y - ny) (-1) 1 with _ | _
 · have hA : actG E F L k ⟨kc, kx, k_y, kl, kg⟩ ⟨rc, rn, 4, rx, ry⟩ = ((E, F, L), 8) := by simp [actG, hat, hq, nearB, h1, h2]
   rw [hA]
   exact (hitOffI h k (some ⟨p, 0, none⟩) n rc rn 4 rx ry (fun wz hz => otherFarY hz he k n rx hk hn hat hnk kx k_y nx ny ek en (by omega) (by omega) (by omega) (by omega) h1 h2)).mono fun e w' h' => ⟨h'.1, h'.2.1, h'.2.2.mono hlw⟩
 have hnr : nearB ⟨kc, kx, k_y, kl, kg⟩ ⟨nc, nx, ny, nl, ng⟩ = true := by simp [nearB, h1, h2]
 have ho : ∀ wz : World, Bd wz p lo A a B b C d E F L → Calls Try.prog 114 #[.agg #[.pointer (some ⟨p, 0, none⟩), .int .i64 k], .int .i64 rx] wz fun e w' => e = .returned (.tuple #[.agg #[.pointer (some ⟨p, 0, none⟩), .int .i64 n], .bool true]) ∧ Below wz.heap.size wz w' := fun wz hz => otherYes hz he k n rx hk hn hat hnk kx k_y nx ny ek en (by omega) (by omega) (by omega) (by omega) h1 h2
 by_cases hl : nl - 1 ≤ 0
 · have hA : actG E F L k ⟨kc, kx, k_y, kl, kg⟩ ⟨rc, rn, 4, rx, ry⟩ = ((E.eraseIdx n, F.set (sq ⟨nc, nx, ny, nl, ng⟩) (F.getD (sq ⟨nc, nx, ny, nl, ng⟩) 0 + ng), L), 0) := by simp [actG, hat, hq, hnr, hnk, hl]
   rw [hA]
   refine hitDieI h k n hn nc nx ny nl ng hfn (by omega) rc rn 4 rx ry ho hl _ _ (fun wz hz => ?_)
   have h9 := hrm (E.set n ⟨nc, nx, ny, nl - 1, ng⟩) n (by rw [List.length_set]; exact hn) ⟨nc, nx, ny, nl - 1, ng⟩ (by rw [List.getElem_set_self]) (by rw [List.length_set]; exact he.len) ⟨by simp only; omega, by simp only; omega⟩ ⟨by simp only; omega, by simp only; omega⟩ ⟨by simp only; omega, by simp only; omega⟩ wz hz
   rw [← erase_set E n ⟨nc, nx, ny, nl - 1, ng⟩, ← List.eraseIdx_eq_take_drop_succ]
   exact h9
 · have hA : actG E F L k ⟨kc, kx, k_y, kl, kg⟩ ⟨rc, rn, 4, rx, ry⟩ = ((E.set n ⟨nc, nx, ny, nl - 1, ng⟩, F, L), 0) := by simp [actG, hat, hq, hnr, hnk, hl]
   rw [hA]
   exact hitLiveI h k n hn nc nx ny nl ng hfn (by omega) rc rn 4 rx ry ho hl
end Go.Proofs.Ytameldhdegcpoaa
namespace Go.Proofs.Ytameldhdegcpoaa
open Go.ChangeShapes Go.WideShapes Go.ChangeAt Go.RowKit
set_option linter.unusedVariables false
set_option linter.unusedSimpArgs false
theorem own_trunc {w : World} {base : Nat} {e : TypeId} {size g c n : Nat} {xs : List Value} (h : w.ownsRow base e size (.slice (some ⟨g, 0, none⟩) n c) n xs) (k : Nat) (hk : k ≤ n) : w.ownsRow base e size (.slice (some ⟨g, 0, none⟩) k c) k (xs.take (k * size)) := by
 have hm : k * size ≤ n * size := Nat.mul_le_mul_right _ hk
 refine ⟨by rw [List.length_take, h.1]; omega, .inr ?_⟩
 rcases h.2 with ⟨h1, _⟩ | ⟨g', cap, cur, h1, h2, h3, h4, h5, h6, h7⟩
 · cases h1
 · simp only [Value.slice.injEq] at h1
   obtain ⟨h8, _, h9⟩ := h1
   cases h8
   subst h9
   exact ⟨g, c, cur, rfl, h2, h3, by omega, h5, h6, by rw [← h7, List.take_take, Nat.min_eq_left hm]⟩
theorem run_clear_one {P : Program} (w : World) (t e ty : TypeId) (z : Value) (ht : P.underlying t = some (.slice e)) (hv : ∀ w, (zeroValue e).run P w = .ok z w) (h1 : ∀ u ∈ z.cells.toList, u.oneCell' = true) (b o c : Nat)
 (hc : ∀ j, j < z.cells.toList.length → (w.cell? ⟨b, o + j, none⟩).isSome = true) (hf : ∀ j, j < z.cells.toList.length → w.frozen? ⟨b, o + j, none⟩ = false) :
 (Builtin.clear_ #[t] ty #[.slice (some ⟨b, o, none⟩) 1 c]).run P w = .ok (.tuple #[]) (w.setCells b o z.cells.toList) := by
 have hzc : (Builtin.zeroCells z.cells 1).toList = z.cells.toList := by
  apply List.ext_getElem
  · simp [Builtin.zeroCells]
  · intro i q1 q2
    have q3 : i < z.cells.size := by simpa using q2
    simp [Builtin.zeroCells, Nat.mod_eq_of_lt q3]
    exact getElem!_pos z.cells i q3
 have hst := run_storeCells_cells (P := P) b o z.cells.toList 0 w (by simpa using hc) (by simpa using hf) h1
 simp only [Nat.add_zero] at hst
 simp [Builtin.clear_, run_underlying ht, hv, hzc, hst]
end Go.Proofs.Ytameldhdegcpoaa
namespace Go.Proofs.Ytameldhdegcpoaa
open Go.ChangeShapes Go.WideShapes Go.ChangeAt Go.RowKit
set_option linter.unusedVariables false
set_option linter.unusedSimpArgs false
theorem grown_trans {w w1 w2 : World} {row : Option Nat} (h1 : w.grownBy w1 row) (h2 : w1.grownBy w2 row) : w.grownBy w2 row :=
 ⟨h2.os.trans h1.os, h2.tape.trans h1.tape, h2.output.trans h1.output, Nat.le_trans h1.size h2.size, fun k hk hr => (h2.block k (Nat.lt_of_lt_of_le hk h1.size) hr).trans (h1.block k hk hr)⟩
theorem grown_refl (w : World) (row : Option Nat) : w.grownBy w row := ⟨rfl, rfl, rfl, Nat.le_refl _, fun _ _ _ => rfl⟩
def setsL : List Value → Nat → List Value → List Value
 | xs, _, [] => xs
 | xs, o, v :: r => setsL (xs.set o v) (o + 1) r
theorem setsL_len : ∀ (vs xs : List Value) (o : Nat), (setsL xs o vs).length = xs.length
 | [], _, _ => rfl
 | v :: r, xs, o => by rw [setsL, setsL_len r]; simp
theorem setsL_get : ∀ (vs xs : List Value) (o j : Nat), o + vs.length ≤ xs.length → (setsL xs o vs)[j]? = if o ≤ j ∧ j < o + vs.length then vs[j - o]? else xs[j]?
 | [], xs, o, j, _ => by rw [setsL, if_neg (by intro hh; simp at hh; omega)]
 | v :: r, xs, o, j, h => by
  rw [setsL, setsL_get r (xs.set o v) (o + 1) j (by simp at h ⊢; omega)]
  simp only [List.length_cons] at h ⊢
  by_cases h1 : o = j
  · subst h1
    rw [if_neg (by omega), if_pos (by omega), List.getElem?_set_self (by omega)]
    simp
  · rw [List.getElem?_set_ne h1]
    by_cases h2 : o + 1 ≤ j ∧ j < o + 1 + r.length
    · rw [if_pos h2, if_pos (by omega), show j - o = (j - (o + 1)) + 1 by omega, List.getElem?_cons_succ]
    · rw [if_neg h2, if_neg (by omega)]
theorem setsL_eq (vs xs : List Value) (o : Nat) (h : o + vs.length ≤ xs.length) : setsL xs o vs = xs.take o ++ vs ++ xs.drop (o + vs.length) := by
 apply List.ext_getElem?
 intro j
 rw [setsL_get vs xs o j h]
 have hl : (xs.take o).length = o := by rw [List.length_take]; omega
 by_cases h1 : j < o
 · rw [if_neg (by omega), List.append_assoc, List.getElem?_append_left (by omega), List.getElem?_take_of_lt h1]
 · by_cases h2 : j < o + vs.length
   · rw [if_pos (by omega), List.getElem?_append_left (by simp; omega), List.getElem?_append_right (by omega), hl]
   · rw [if_neg (by omega), List.getElem?_append_right (by simp; omega), List.getElem?_drop]
     congr 1
     simp
     omega
theorem own_sets {base : Nat} {e : TypeId} {size g n c : Nat} : ∀ (vs xs : List Value) (o : Nat) (w : World), o + vs.length ≤ xs.length → w.ownsRow base e size (.slice (some ⟨g, 0, none⟩) n c) n xs →
 (w.setCells g o vs).ownsRow base e size (.slice (some ⟨g, 0, none⟩) n c) n (setsL xs o vs) ∧ w.grownBy (w.setCells g o vs) (some g)
 | [], xs, o, w, _, h => ⟨h, grown_refl _ _⟩
 | v :: r, xs, o, w, hl, h => by
  simp only [List.length_cons] at hl
  obtain ⟨h1, h2⟩ := own_set1 o v (by omega) h
  obtain ⟨h3, h4⟩ := own_sets r (xs.set o v) (o + 1) (w.setCell ⟨g, o, none⟩ v) (by simp; omega) h1
  exact ⟨h3, grown_trans h2 h4⟩
end Go.Proofs.Ytameldhdegcpoaa
namespace Go.Proofs.Ytameldhdegcpoaa
open Go.ChangeShapes Go.WideShapes Go.ChangeAt Go.RowKit
set_option linter.unusedVariables false
set_option linter.unusedSimpArgs false
theorem rows_take {α : Type} (f : α → List Value) (k : Nat) (hf : ∀ a, (f a).length = k) : ∀ (L : List α) (i : Nat), (L.flatMap f).take (i * k) = (L.take i).flatMap f
 | [], i => by simp
 | a :: L, 0 => by simp
 | a :: L, i + 1 => by
  rw [List.flatMap_cons, List.take_succ_cons, List.flatMap_cons, ← rows_take f k hf L i, Nat.add_mul, Nat.one_mul, Nat.add_comm, ← hf a, List.take_length_add_append]
theorem rows_drop {α : Type} (f : α → List Value) (k : Nat) (hf : ∀ a, (f a).length = k) : ∀ (L : List α) (i : Nat), (L.flatMap f).drop (i * k) = (L.drop i).flatMap f
 | [], i => by simp
 | a :: L, 0 => by simp
 | a :: L, i + 1 => by
  rw [List.flatMap_cons, List.drop_succ_cons, ← rows_drop f k hf L i, Nat.add_mul, Nat.one_mul, Nat.add_comm, ← hf a, List.drop_length_add_append]
theorem figs_erase (E : List Fig) (i m : Nat) (hi : i < E.length) (hm : E.length = m + 1) (Z : List Value) (hZ : Z.length = 5) : (setsL (setsL (figs E) (i * 5) ((figs E).drop ((i + 1) * 5))) (m * 5) Z).take (m * 5) = figs (E.eraseIdx i) := by
 have hfl : (figs E).length = E.length * 5 := figs_length E
 have hN : ((figs E).drop ((i + 1) * 5)).length = (m - i) * 5 := by rw [List.length_drop, hfl]; omega
 have hA : (setsL (figs E) (i * 5) ((figs E).drop ((i + 1) * 5))).length = E.length * 5 := by rw [setsL_len, hfl]
 rw [setsL_eq Z _ _ (by rw [hA]; omega), List.append_assoc, List.take_append_of_le_length (by rw [List.length_take, hA]; omega), List.take_take, Nat.min_self]
 rw [setsL_eq _ _ _ (by rw [hN, hfl]; omega)]
 rw [List.take_append_of_le_length (by rw [List.length_append, List.length_take, hN, hfl]; omega)]
 rw [List.take_of_length_le (by rw [List.length_append, List.length_take, hN, hfl]; omega)]
 have h1 : (figs E).take (i * 5) = (E.take i).flatMap Fig.cells := rows_take Fig.cells 5 Fig.len E i
 have h2 : (figs E).drop ((i + 1) * 5) = (E.drop (i + 1)).flatMap Fig.cells := rows_drop Fig.cells 5 Fig.len E (i + 1)
 rw [h1, h2, ← List.flatMap_append, ← List.eraseIdx_eq_take_drop_succ]
 rfl
theorem step_room {P : Program} {w : World} {ops : Array Oper} {o : Oper} {a : Act} {K : Act → World → Prop} {Q : Exit → Act → World → Prop} {E : Prop} (hgd : o.guard = none) (s x : Operand) (t : TypeId)
 (hop : o.op = .call { callee := .builtin .append, args := #[s, x], argTypes := #[t, t] }) (e : TypeId) (i : TypeInfo) (ht : P.underlying t = some (.slice e)) (hi : P.info? e = some i) (size : Nat) (hsize : i.size = size)
 (b n cap : Nat) (A : Option Addr) (c m : Nat) (news : List Value) (hs : a.eval s = .slice (some ⟨b, 0, none⟩) n cap) (hx : a.eval x = .slice A m c) (hl : news.length = m * size) (hnews : ∃ ad : Addr, A = some ad ∧ ∀ j u, news[j]? = some u → w.cell? (ad.add j) = some u)
 (h1 : ∀ u ∈ news, u.oneCell' = true) (hroom : n + m ≤ cap) (hc : ∀ j, j < news.length → (w.cell? ⟨b, n * size + j, none⟩).isSome = true) (hf : ∀ j, j < news.length → w.frozen? ⟨b, n * size + j, none⟩ = false)
 (h : K (a.put o.dst (.slice (some ⟨b, 0, none⟩) (n + m) cap)) (w.setCells b (n * size) news)) :
 if Region.wanted o (yielded ops a.tmps) = true then Oper.wp P o a w K Q else E := by
 obtain ⟨ad, rfl, hn⟩ := hnews
 have hw : Region.wanted o (yielded ops a.tmps) = true := by simp [Region.wanted, hgd]
 rw [if_pos hw]
 subst hsize
 have hrun := run_append_room_cells (P := P) w t o.type e i ht hi b 0 n cap ad m c news hl hn h1 hroom (by simpa using hc) (by simpa using hf)
 simp only [Nat.zero_add] at hrun
 unfold Oper.wp execOp
 simp only [hop, resolve, invoke, builtin, Sem.run_bind, Sem.run_pure, Result.andThen_ok, List.map_toArray, List.map_cons, List.map_nil, hs, hx, hrun]
 exact h
set_option maxRecDepth 100000 in
set_option maxHeartbeats 4000000 in
theorem delEnt2 {w : World} {lo g c : Nat} {E : List Fig} (i : Nat) (hci : ¬ c = i + 1) (hi : i < E.length) (hE : E.length ≤ 4) (ho : w.ownsRow lo 72 5 (.slice (some ⟨g, 0, none⟩) E.length c) E.length (figs E)) :
 Calls Try.prog 122 #[.slice (some ⟨g, 0, none⟩) E.length c, .int .i64 (i : Int), .int .i64 ((i : Int) + 1)] w fun e w' => e = .returned (.slice (some ⟨g, 0, none⟩) (E.length - 1) c) ∧
  w'.ownsRow lo 72 5 (.slice (some ⟨g, 0, none⟩) (E.length - 1) c) (E.length - 1) (figs (E.eraseIdx i)) ∧ w.grownBy w' (some g) := by
 obtain ⟨I, hi, hz0, hz1, hz2⟩ := parts_of infoEnt'
 have I1 := Lib.hid hi
 have I2 := Lib.hid hz0
 have I3 := Lib.hid hz1
 have I4 := Lib.hid hz2
 clear hi hz0 hz1 hz2
 have HO := Lib.hid ho
 have hc := (own_cap ho).1
 have i0 : (0 : Int) ≤ (i : Int) := by omega
 have i1 : (i : Int) < (E.length : Int) := by omega
 have i2 : ((i : Int) == (i : Int) + 1) = false := by simp; try omega
 have i3 : (i : Int) ≤ (i : Int) + 1 := by omega
 have i4 : (i : Int) + 1 ≤ (E.length : Int) := by omega
 have i5 : ((i : Int) + 1).toNat = i + 1 := by omega
 have hfl : (figs E).length = E.length * 5 := figs_length E
 have NL : Hid (((figs E).drop ((i + 1) * 5)).length = (E.length - (i + 1)) * 5) := by show _ = _; rw [List.length_drop, hfl]; omega
 have N1 : Hid (∀ u ∈ ((figs E).drop ((i + 1) * 5)), u.oneCell' = true) := fun u hu => figs_one E u (by have := List.mem_of_mem_drop hu; simpa [figs] using this)
 have NC : Hid (∀ j, j < ((figs E).drop ((i + 1) * 5)).length → (w.drew.cell? ⟨g, i * 5 + j, none⟩).isSome = true) := fun j hj => by
  have hj' : i * 5 + j < (figs E).length := by rw [NL.out] at hj; omega
  have : w.drew.cell? ⟨g, i * 5 + j, none⟩ = _ := ho.cellAt (i * 5 + j) (by omega)
  rw [this]; simp [hj']
 have NF : Hid (∀ j, j < ((figs E).drop ((i + 1) * 5)).length → w.drew.frozen? ⟨g, i * 5 + j, none⟩ = false) := fun j _ => ho.frozenAt _
 have NH : Hid (∃ ad : Addr, (some ⟨g, (i + 1) * 5, none⟩ : Option Addr) = some ad ∧ ∀ j u, ((figs E).drop ((i + 1) * 5))[j]? = some u → w.drew.cell? (ad.add j) = some u) := ⟨_, rfl, fun j u hj => by
  rw [List.getElem?_drop] at hj
  have h2 := (List.getElem?_eq_some_iff.1 hj).1
  have : w.drew.cell? ⟨g, (i + 1) * 5 + j, none⟩ = _ := ho.cellAt ((i + 1) * 5 + j) (by omega)
  rw [← hj, ← this, Addr.add_lit]⟩
 have j1 : i ≤ c := by omega
 have j2 : i + 1 ≤ E.length := by omega
 have j3 : i + 1 ≤ c := by omega
 have j4 : (0 : Int) ≤ (i : Int) + 1 := by omega
 obtain ⟨m, hm⟩ : ∃ m, E.length = m + 1 := ⟨E.length - 1, by omega⟩
 have JN : Hid (i + (E.length - (i + 1)) = m) := by show _ = _; omega
 have HM := Lib.hid hm
 clear ho hfl hm
 go_enter Try.func122, Try.ntmps122
 go_wp2_with (fail)
 refine wp_region_held_drew (S := fun _ => True) (by kernel_rfl) trivial (fun hS0 => ?_)
 refine tkI 0 20 (v := ?_) rfl rfl ?_ ?_
 rotate_left
 · intro w1 hSw; go_simp; (try with_reducible rfl)
 (try simp only [Act.put, pu1, pu2, pu3])
 refine tkI 1 21 (v := ?_) rfl rfl ?_ ?_
 rotate_left
 · intro w1 hSw; go_simp; (try with_reducible rfl)
 (try simp only [Act.put, pu1, pu2, pu3])
 refine tkI 2 22 (v := ?_) rfl rfl ?_ ?_
 rotate_left
 · intro w1 hSw; go_simp; (try with_reducible rfl)
 (try simp only [Act.put, pu1, pu2, pu3])
 refine tkI 3 23 (v := ?_) rfl rfl ?_ ?_
 rotate_left
 · intro w1 hSw; go_simp; (try with_reducible rfl)
 (try simp only [Act.put, pu1, pu2, pu3])
 refine tkI 4 24 (v := ?_) rfl rfl ?_ ?_
 rotate_left
 · intro w1 hSw; go_simp; (try with_reducible rfl)
 (try simp only [Act.put, pu1, pu2, pu3])
 refine tkI 5 25 (v := ?_) rfl rfl ?_ ?_
 rotate_left
 · intro w1 hSw; go_simp; (try with_reducible rfl)
 (try simp only [Act.put, pu1, pu2, pu3])
 refine wpAnyH_ready (rs := [6]) (by kernel_rfl) (by simp) ?_
 refine AllReadyH.cons rfl (fun K hK => ?_) AllReadyH.nil
 refine step_room (by rfl) _ _ 26 (by rfl) 72 I Try.underlying26 I1.out 5 I3.out g i c _ _ (E.length - (i + 1)) ((figs E).drop ((i + 1) * 5)) (by rfl) (by rfl) ?hl ?hn ?h1 ?hr ?hc ?hf ?_
 case hl => exact NL.out
 case hn => exact NH.out
 case h1 => exact N1.out
 case hr => omega
 case hc => exact NC.out
 case hf => exact NF.out
 rw [JN.out]
 refine hK.out _ _ trivial (fun hS1 => ?_)
 clear hK K
 (try simp only [Act.put, pu1, pu2, pu3])
 refine tkI 7 0 (v := ?_) rfl rfl ?_ ?_
 rotate_left
 · intro w1 hSw; go_simp; (try with_reducible rfl)
 (try simp only [Act.put, pu1, pu2, pu3])
 refine wpAnyH_done (by kernel_rfl) ?_ _
 have HOd : w.drew.ownsRow lo 72 5 (.slice (some ⟨g, 0, none⟩) E.length c) E.length (figs E) := HO.out
 obtain ⟨S1, G1⟩ := own_sets ((figs E).drop ((i + 1) * 5)) (figs E) (i * 5) w.drew (by rw [NL.out, figs_length]; omega) HOd
 have S1 := Lib.hid S1
 have G1 := Lib.hid (grown_trans (Below.grownBy (Below.refl w.heap.size w).drew (some g)) G1)
 obtain ⟨W1, hW⟩ : ∃ X, X = w.drew.setCells g (i * 5) ((figs E).drop ((i + 1) * 5)) := ⟨_, rfl⟩
 rw [← hW] at S1 G1 ⊢
 have hm := HM.out
 have SL : (setsL (figs E) (i * 5) ((figs E).drop ((i + 1) * 5))).length = E.length * 5 := by rw [setsL_len, figs_length]
 have zv : ∀ wz : World, (zeroValue 72).run Try.prog wz = .ok (.agg #[.int .i64 0, .int .i64 0, .int .i64 0, .int .i64 0, .int .i64 0]) wz := fun wz => by simp [zeroValue, typeInfo, I1.out, I2.out]
 have hcl : ∀ ty, (Builtin.clear_ #[26] ty #[.slice (some ⟨g, m * 5, none⟩) 1 (c - m)]).run Try.prog W1 = .ok (.tuple #[]) (W1.setCells g (m * 5) (.agg #[.int .i64 0, .int .i64 0, .int .i64 0, .int .i64 0, .int .i64 0] : Value).cells.toList) := fun ty =>
  run_clear_one W1 26 72 ty (.agg #[.int .i64 0, .int .i64 0, .int .i64 0, .int .i64 0, .int .i64 0]) Try.underlying26 zv (by intro u hu; simp [Value.cells] at hu; subst hu; rfl) g (m * 5) (c - m)
   (fun j hj => by
    have hj5 : j < 5 := hj
    rw [S1.out.cellAt (m * 5 + j) (by omega)]
    simp [SL]; omega)
   (fun j _ => S1.out.frozenAt _)
 have k1 : m ≤ E.length := by omega
 have k2 : E.length - m = 1 := by omega
 have k3 : ¬ c = m := by omega
 have k4 : m ≤ c := by omega
 obtain ⟨S2, G2⟩ := own_sets (.agg #[.int .i64 0, .int .i64 0, .int .i64 0, .int .i64 0, .int .i64 0] : Value).cells.toList _ (m * 5) W1 (by rw [SL]; show m * 5 + 5 ≤ _; omega) S1.out
 have S3 := Lib.hid (own_trunc S2 m k1)
 rw [figs_erase E i m hi hm _ rfl] at S3
 have G2 := Lib.hid (grown_trans G1.out G2)
 have HM2 := Lib.hid (show E.length - 1 = m by omega)
 clear hW HO HOd S1 G1 S2 SL NL N1 NC NF NH hm zv
 go_wp2
 go_light
 go_ret
 rw [HM2.out]
 exact ⟨rfl, S3.out, G2.out⟩
set_option maxRecDepth 100000 in
set_option maxHeartbeats 4000000 in
theorem delEnt1 {w : World} {lo g : Nat} {E : List Fig} (i : Nat)  (hi : i < E.length) (hE : E.length ≤ 4) (ho : w.ownsRow lo 72 5 (.slice (some ⟨g, 0, none⟩) E.length (i + 1)) E.length (figs E)) :
 Calls Try.prog 122 #[.slice (some ⟨g, 0, none⟩) E.length (i + 1), .int .i64 (i : Int), .int .i64 ((i : Int) + 1)] w fun e w' => e = .returned (.slice (some ⟨g, 0, none⟩) (E.length - 1) (i + 1)) ∧
  w'.ownsRow lo 72 5 (.slice (some ⟨g, 0, none⟩) (E.length - 1) (i + 1)) (E.length - 1) (figs (E.eraseIdx i)) ∧ w.grownBy w' (some g) := by
 obtain ⟨I, hi, hz0, hz1, hz2⟩ := parts_of infoEnt'
 have I1 := Lib.hid hi
 have I2 := Lib.hid hz0
 have I3 := Lib.hid hz1
 have I4 := Lib.hid hz2
 clear hi hz0 hz1 hz2
 have HO := Lib.hid ho
 have hc := (own_cap ho).1
 have i0 : (0 : Int) ≤ (i : Int) := by omega
 have i1 : (i : Int) < (E.length : Int) := by omega
 have i2 : ((i : Int) == (i : Int) + 1) = false := by simp; try omega
 have i3 : (i : Int) ≤ (i : Int) + 1 := by omega
 have i4 : (i : Int) + 1 ≤ (E.length : Int) := by omega
 have i5 : ((i : Int) + 1).toNat = i + 1 := by omega
 have hfl : (figs E).length = E.length * 5 := figs_length E
 have NL : Hid (((figs E).drop ((i + 1) * 5)).length = 0 * 5) := by show _ = _; rw [List.length_drop, hfl]; omega
 have N1 : Hid (∀ u ∈ ((figs E).drop ((i + 1) * 5)), u.oneCell' = true) := fun u hu => figs_one E u (by have := List.mem_of_mem_drop hu; simpa [figs] using this)
 have NC : Hid (∀ j, j < ((figs E).drop ((i + 1) * 5)).length → (w.drew.cell? ⟨g, i * 5 + j, none⟩).isSome = true) := fun j hj => by
  have hj' : i * 5 + j < (figs E).length := by rw [NL.out] at hj; omega
  have : w.drew.cell? ⟨g, i * 5 + j, none⟩ = _ := ho.cellAt (i * 5 + j) (by omega)
  rw [this]; simp [hj']
 have NF : Hid (∀ j, j < ((figs E).drop ((i + 1) * 5)).length → w.drew.frozen? ⟨g, i * 5 + j, none⟩ = false) := fun j _ => ho.frozenAt _
 have NH : Hid (∃ ad : Addr, (some ⟨g, 0, none⟩ : Option Addr) = some ad ∧ ∀ j u, ((figs E).drop ((i + 1) * 5))[j]? = some u → w.drew.cell? (ad.add j) = some u) := ⟨_, rfl, fun j u hj => by
  have := (List.getElem?_eq_some_iff.1 hj).1
  rw [NL.out] at this
  omega⟩
 have j1 : i ≤ i + 1 := by omega
 have j2 : i + 1 ≤ E.length := by omega
 have j3 : i + 1 ≤ i + 1 := by omega
 have j4 : (0 : Int) ≤ (i : Int) + 1 := by omega
 obtain ⟨m, hm⟩ : ∃ m, E.length = m + 1 := ⟨E.length - 1, by omega⟩
 have JN : Hid (i + 0 = m) := by show _ = _; omega
 have HM := Lib.hid hm
 clear ho hfl hm
 go_enter Try.func122, Try.ntmps122
 go_wp2_with (fail)
 refine wp_region_held_drew (S := fun _ => True) (by kernel_rfl) trivial (fun hS0 => ?_)
 refine tkI 0 20 (v := ?_) rfl rfl ?_ ?_
 rotate_left
 · intro w1 hSw; go_simp; (try with_reducible rfl)
 (try simp only [Act.put, pu1, pu2, pu3])
 refine tkI 1 21 (v := ?_) rfl rfl ?_ ?_
 rotate_left
 · intro w1 hSw; go_simp; (try with_reducible rfl)
 (try simp only [Act.put, pu1, pu2, pu3])
 refine tkI 2 22 (v := ?_) rfl rfl ?_ ?_
 rotate_left
 · intro w1 hSw; go_simp; (try with_reducible rfl)
 (try simp only [Act.put, pu1, pu2, pu3])
 refine tkI 3 23 (v := ?_) rfl rfl ?_ ?_
 rotate_left
 · intro w1 hSw; go_simp; (try with_reducible rfl)
 (try simp only [Act.put, pu1, pu2, pu3])
 refine tkI 4 24 (v := ?_) rfl rfl ?_ ?_
 rotate_left
 · intro w1 hSw; go_simp; (try with_reducible rfl)
 (try simp only [Act.put, pu1, pu2, pu3])
 refine tkI 5 25 (v := ?_) rfl rfl ?_ ?_
 rotate_left
 · intro w1 hSw; go_simp; (try with_reducible rfl)
 (try simp only [Act.put, pu1, pu2, pu3])
 refine wpAnyH_ready (rs := [6]) (by kernel_rfl) (by simp) ?_
 refine AllReadyH.cons rfl (fun K hK => ?_) AllReadyH.nil
 refine step_room (by rfl) _ _ 26 (by rfl) 72 I Try.underlying26 I1.out 5 I3.out g i (i + 1) _ _ 0 ((figs E).drop ((i + 1) * 5)) (by rfl) (by rfl) ?hl ?hn ?h1 ?hr ?hc ?hf ?_
 case hl => exact NL.out
 case hn => exact NH.out
 case h1 => exact N1.out
 case hr => omega
 case hc => exact NC.out
 case hf => exact NF.out
 rw [JN.out]
 refine hK.out _ _ trivial (fun hS1 => ?_)
 clear hK K
 (try simp only [Act.put, pu1, pu2, pu3])
 refine tkI 7 0 (v := ?_) rfl rfl ?_ ?_
 rotate_left
 · intro w1 hSw; go_simp; (try with_reducible rfl)
 (try simp only [Act.put, pu1, pu2, pu3])
 refine wpAnyH_done (by kernel_rfl) ?_ _
 have HOd : w.drew.ownsRow lo 72 5 (.slice (some ⟨g, 0, none⟩) E.length (i + 1)) E.length (figs E) := HO.out
 obtain ⟨S1, G1⟩ := own_sets ((figs E).drop ((i + 1) * 5)) (figs E) (i * 5) w.drew (by rw [NL.out, figs_length]; omega) HOd
 have S1 := Lib.hid S1
 have G1 := Lib.hid (grown_trans (Below.grownBy (Below.refl w.heap.size w).drew (some g)) G1)
 obtain ⟨W1, hW⟩ : ∃ X, X = w.drew.setCells g (i * 5) ((figs E).drop ((i + 1) * 5)) := ⟨_, rfl⟩
 rw [← hW] at S1 G1 ⊢
 have hm := HM.out
 have SL : (setsL (figs E) (i * 5) ((figs E).drop ((i + 1) * 5))).length = E.length * 5 := by rw [setsL_len, figs_length]
 have zv : ∀ wz : World, (zeroValue 72).run Try.prog wz = .ok (.agg #[.int .i64 0, .int .i64 0, .int .i64 0, .int .i64 0, .int .i64 0]) wz := fun wz => by simp [zeroValue, typeInfo, I1.out, I2.out]
 have hcl : ∀ ty, (Builtin.clear_ #[26] ty #[.slice (some ⟨g, m * 5, none⟩) 1 ((i + 1) - m)]).run Try.prog W1 = .ok (.tuple #[]) (W1.setCells g (m * 5) (.agg #[.int .i64 0, .int .i64 0, .int .i64 0, .int .i64 0, .int .i64 0] : Value).cells.toList) := fun ty =>
  run_clear_one W1 26 72 ty (.agg #[.int .i64 0, .int .i64 0, .int .i64 0, .int .i64 0, .int .i64 0]) Try.underlying26 zv (by intro u hu; simp [Value.cells] at hu; subst hu; rfl) g (m * 5) ((i + 1) - m)
   (fun j hj => by
    have hj5 : j < 5 := hj
    rw [S1.out.cellAt (m * 5 + j) (by omega)]
    simp [SL]; omega)
   (fun j _ => S1.out.frozenAt _)
 have k1 : m ≤ E.length := by omega
 have k2 : E.length - m = 1 := by omega
 have k3 : ¬ i + 1 = m := by omega
 have k4 : m ≤ i + 1 := by omega
 obtain ⟨S2, G2⟩ := own_sets (.agg #[.int .i64 0, .int .i64 0, .int .i64 0, .int .i64 0, .int .i64 0] : Value).cells.toList _ (m * 5) W1 (by rw [SL]; show m * 5 + 5 ≤ _; omega) S1.out
 have S3 := Lib.hid (own_trunc S2 m k1)
 rw [figs_erase E i m hi hm _ rfl] at S3
 have G2 := Lib.hid (grown_trans G1.out G2)
 have HM2 := Lib.hid (show E.length - 1 = m by omega)
 clear hW HO HOd S1 G1 S2 SL NL N1 NC NF NH hm zv
 go_wp2
 go_light
 go_ret
 rw [HM2.out]
 exact ⟨rfl, S3.out, G2.out⟩
theorem delEnt {w : World} {lo g c : Nat} {E : List Fig} (i : Nat) (hi : i < E.length) (hE : E.length ≤ 4) (ho : w.ownsRow lo 72 5 (.slice (some ⟨g, 0, none⟩) E.length c) E.length (figs E)) :
 Calls Try.prog 122 #[.slice (some ⟨g, 0, none⟩) E.length c, .int .i64 (i : Int), .int .i64 ((i : Int) + 1)] w fun e w' => e = .returned (.slice (some ⟨g, 0, none⟩) (E.length - 1) c) ∧
  w'.ownsRow lo 72 5 (.slice (some ⟨g, 0, none⟩) (E.length - 1) c) (E.length - 1) (figs (E.eraseIdx i)) ∧ w.grownBy w' (some g) := by
 by_cases hci : c = i + 1
 · subst hci
   exact delEnt1 i hi hE ho
 · exact delEnt2 i hci hi hE ho
end Go.Proofs.Ytameldhdegcpoaa
