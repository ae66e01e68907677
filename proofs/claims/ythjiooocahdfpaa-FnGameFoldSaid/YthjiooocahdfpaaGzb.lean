/- The program's acts give actG's lists (a removal taken on trust of its own contract). -/
import Derived.Test.YthjiooocahdfpaaGza
import Derived.Test.YthjiooocahdfpaaGt
namespace Go.Proofs.Ythjiooocahdfpaa
open Go.ChangeShapes Go.WideShapes Go.ChangeAt Go.RowKit
set_option linter.unusedVariables false
set_option linter.unusedSimpArgs false

/-- What comes back of an act upon a board. -/
def ActB (p lo : Nat) (A : Option Addr) (a : Nat) (B : Option Addr) (b : Nat) (C : Option Addr) (d : Nat) (L : List Int) (X : Gm × Int) (w : World) (e : Ending) (w' : World) : Prop :=
  e = .returned (.int .i64 X.2) ∧ Bd w' p lo A a B b C d X.1.1 X.1.2.1 L ∧ Below lo w w'

theorem moveAllI {w : World} {p lo : Nat} {A : Option Addr} {a : Nat} {B : Option Addr} {b : Nat} {C : Option Addr} {d : Nat} {E : List Fig} {F L : List Int} (h : Bd w p lo A a B b C d E F L) (he : OkE E) (k : Nat) (hk : k < E.length) (rc rn rx ry : Int) (hs : (-1 ≤ rx ∧ rx ≤ 1) ∧ (-1 ≤ ry ∧ ry ≤ 1)) : Calls Try.prog 69 #[.agg #[.pointer (some ⟨p, 0, none⟩), .int .i64 k], .agg #[.int .i64 rc, .int .i64 rn, .int .i64 2, .int .i64 rx, .int .i64 ry]] w (ActB p lo A a B b C d L (actG E F L k (E[k]'hk) ⟨rc, rn, 2, rx, ry⟩) w) := by
  obtain ⟨kc, kx, k_y, kl, kg, hfk⟩ : ∃ kc kx k_y kl kg, E[k]'hk = ⟨kc, kx, k_y, kl, kg⟩ := ⟨_, _, _, _, _, rfl⟩
  have bk := he.bd k hk
  rw [hfk] at bk ⊢
  simp only at bk
  rcases h1 : onB (kx + rx) (k_y + ry) with _ | _
  · have hA : actG E F L k ⟨kc, kx, k_y, kl, kg⟩ ⟨rc, rn, 2, rx, ry⟩ = ((E, F, L), 6) := by simp [actG, h1]
    rw [hA]
    exact moveNo h k hk kc kx k_y kl kg rc rn 2 rx ry hfk (by omega) (by omega) (by omega) (by omega) h1
  · have hA : actG E F L k ⟨kc, kx, k_y, kl, kg⟩ ⟨rc, rn, 2, rx, ry⟩ = ((E.set k ⟨kc, kx + rx, k_y + ry, kl, kg⟩, F, L), 0) := by simp [actG, h1]
    rw [hA]
    exact moveYes h k hk kc kx k_y kl kg rc rn 2 rx ry hfk (by omega) (by omega) (by omega) (by omega) h1

theorem takeAllI {w : World} {p lo : Nat} {A : Option Addr} {a : Nat} {B : Option Addr} {b : Nat} {C : Option Addr} {d : Nat} {E : List Fig} {F L : List Int} (h : Bd w p lo A a B b C d E F L) (he : OkE E) (k : Nat) (hk : k < E.length) (rc rn rx ry : Int) (hf : OkF F) : Calls Try.prog 70 #[.agg #[.pointer (some ⟨p, 0, none⟩), .int .i64 k], .agg #[.int .i64 rc, .int .i64 rn, .int .i64 3, .int .i64 rx, .int .i64 ry]] w (ActB p lo A a B b C d L (actG E F L k (E[k]'hk) ⟨rc, rn, 3, rx, ry⟩) w) := by
  obtain ⟨kc, kx, k_y, kl, kg, hfk⟩ : ∃ kc kx k_y kl kg, E[k]'hk = ⟨kc, kx, k_y, kl, kg⟩ := ⟨_, _, _, _, _, rfl⟩
  have bk := he.bd k hk
  rw [hfk] at bk ⊢
  simp only at bk
  obtain ⟨j, v, hjl, h1, h2, h3, h4, h5, h6⟩ := hf.at_ (x := kx) (y := k_y) (by omega) (by omega)
  have h7 : sq ⟨kc, kx, k_y, kl, kg⟩ = j := h5
  have h8 : F.getD (k_y * 4 + kx).toNat 0 = v := by rw [List.getD_eq_getElem?_getD, h5, h6]
  by_cases hv : v = 0
  · have hA : actG E F L k ⟨kc, kx, k_y, kl, kg⟩ ⟨rc, rn, 3, rx, ry⟩ = ((E, F, L), 7) := by simp [actG, h7, h6, hv]
    rw [hA]
    exact takeNo h k hk kc kx k_y kl kg rc rn 3 rx ry v hfk (by omega) (by omega) (by omega) (by have := hf.f; omega) h8 ⟨h3, h4⟩ hv
  · have hA : actG E F L k ⟨kc, kx, k_y, kl, kg⟩ ⟨rc, rn, 3, rx, ry⟩ = ((E.set k ⟨kc, kx, k_y, kl, kg + 1⟩, F.set j (v - 1), L), 0) := by simp [actG, h7, h6, hv]
    rw [hA]
    have := takeYes h k hk kc kx k_y kl kg rc rn 3 rx ry v hfk (by omega) (by omega) (by omega) (by have := hf.f; omega) h8 ⟨h3, h4⟩ hv
    rw [h5] at this
    exact this

set_option maxRecDepth 100000 in
set_option maxHeartbeats 1000000 in
theorem giveAllI {w : World} {p lo : Nat} {A : Option Addr} {a : Nat} {B : Option Addr} {b : Nat} {C : Option Addr} {d : Nat} {E : List Fig} {F L : List Int} (h : Bd w p lo A a B b C d E F L) (he : OkE E) (k : Nat) (hk : k < E.length) (rc rn rx ry : Int) (hs : 1 ≤ ry ∧ ry ≤ 9) : Calls Try.prog 72 #[.agg #[.pointer (some ⟨p, 0, none⟩), .int .i64 k], .agg #[.int .i64 rc, .int .i64 rn, .int .i64 5, .int .i64 rx, .int .i64 ry]] w (ActB p lo A a B b C d L (actG E F L k (E[k]'hk) ⟨rc, rn, 5, rx, ry⟩) w) := by
  have hlw : lo ≤ w.heap.size := by
    obtain ⟨g, hg, _⟩ := own_some h.e (by omega)
    have := own_block_ge h.e g (by rw [hg]; rfl)
    omega
  obtain ⟨kc, kx, k_y, kl, kg, hfk⟩ : ∃ kc kx k_y kl kg, E[k]'hk = ⟨kc, kx, k_y, kl, kg⟩ := ⟨_, _, _, _, _, rfl⟩
  have bk := he.bd k hk
  rw [hfk] at bk ⊢
  simp only at bk
  rcases hat : atF rx E with _ | n
  · have hA : actG E F L k ⟨kc, kx, k_y, kl, kg⟩ ⟨rc, rn, 5, rx, ry⟩ = ((E, F, L), 8) := by simp [actG, hat]
    rw [hA]
    exact (giveOffI h k none 0 rc rn 5 rx ry (fun wz hz => otherNone hz he k rx hat)).mono fun e w' h' => ⟨h'.1, h'.2.1, h'.2.2.mono hlw⟩
  obtain ⟨hn, _, _⟩ := atF_some hat
  obtain ⟨nc, nx, ny, nl, ng, hfn⟩ : ∃ nc nx ny nl ng, E[n]'hn = ⟨nc, nx, ny, nl, ng⟩ := ⟨_, _, _, _, _, rfl⟩
  have bn := he.bd n hn
  rw [hfn] at bn
  simp only at bn
  have hq : E[n]? = some ⟨nc, nx, ny, nl, ng⟩ := by rw [List.getElem?_eq_getElem hn, hfn]
  by_cases hnk : n = k
  · have hA : actG E F L k ⟨kc, kx, k_y, kl, kg⟩ ⟨rc, rn, 5, rx, ry⟩ = ((E, F, L), 8) := by subst hnk; simp [actG, hat, hq]
    rw [hA]
    exact (giveOffI h k none 0 rc rn 5 rx ry (fun wz hz => otherSame hz he k rx n hat hnk)).mono fun e w' h' => ⟨h'.1, h'.2.1, h'.2.2.mono hlw⟩
  have ek : (E[k]'hk).x = kx ∧ (E[k]'hk).y = k_y := by rw [hfk]; exact ⟨rfl, rfl⟩
  have en : (E[n]'hn).x = nx ∧ (E[n]'hn).y = ny := by rw [hfn]; exact ⟨rfl, rfl⟩
  rcases h1 : inB (kx - nx) (-1) 1 with _ | _
  · have hA : actG E F L k ⟨kc, kx, k_y, kl, kg⟩ ⟨rc, rn, 5, rx, ry⟩ = ((E, F, L), 8) := by simp [actG, hat, hq, nearB, h1]
    rw [hA]
    exact (giveOffI h k (some ⟨p, 0, none⟩) n rc rn 5 rx ry (fun wz hz => otherFarX hz he k n rx hk hn hat hnk kx k_y nx ny ek en (by omega) (by omega) (by omega) (by omega) h1)).mono fun e w' h' => ⟨h'.1, h'.2.1, h'.2.2.mono hlw⟩
  rcases h2 : inB (k_y - ny) (-1) 1 with _ | _
  · have hA : actG E F L k ⟨kc, kx, k_y, kl, kg⟩ ⟨rc, rn, 5, rx, ry⟩ = ((E, F, L), 8) := by simp [actG, hat, hq, nearB, h1, h2]
    rw [hA]
    exact (giveOffI h k (some ⟨p, 0, none⟩) n rc rn 5 rx ry (fun wz hz => otherFarY hz he k n rx hk hn hat hnk kx k_y nx ny ek en (by omega) (by omega) (by omega) (by omega) h1 h2)).mono fun e w' h' => ⟨h'.1, h'.2.1, h'.2.2.mono hlw⟩
  have hnr : nearB ⟨kc, kx, k_y, kl, kg⟩ ⟨nc, nx, ny, nl, ng⟩ = true := by simp [nearB, h1, h2]
  have ho : ∀ wz : World, Bd wz p lo A a B b C d E F L → Calls Try.prog 86 #[.agg #[.pointer (some ⟨p, 0, none⟩), .int .i64 k], .int .i64 rx] wz fun e w' => e = .returned (.tuple #[.agg #[.pointer (some ⟨p, 0, none⟩), .int .i64 n], .bool true]) ∧ Below wz.heap.size wz w' := fun wz hz => otherYes hz he k n rx hk hn hat hnk kx k_y nx ny ek en (by omega) (by omega) (by omega) (by omega) h1 h2
  by_cases hl : kg < ry
  · have hA : actG E F L k ⟨kc, kx, k_y, kl, kg⟩ ⟨rc, rn, 5, rx, ry⟩ = ((E, F, L), 7) := by simp [actG, hat, hq, hnr, hnk, hl]
    rw [hA]
    exact (givePoorI h k n hk hn hnk kc kx k_y kl kg nc nx ny nl ng hfk hfn rc rn 5 rx ry ho hl).mono fun e w' h' => ⟨h'.1, h'.2.1, h'.2.2.mono hlw⟩
  · have hA : actG E F L k ⟨kc, kx, k_y, kl, kg⟩ ⟨rc, rn, 5, rx, ry⟩ = (((E.set k ⟨kc, kx, k_y, kl, kg - ry⟩).set n ⟨nc, nx, ny, nl, ng + ry⟩, F, L), 0) := by
      rw [List.set_comm _ _ (show k ≠ n from fun e => hnk e.symm)]
      simp [actG, hat, hq, hnr, hnk, hl]
    rw [hA]
    exact giveYesI h k n hk hn hnk kc kx k_y kl kg nc nx ny nl ng hfk hfn rc rn 5 rx ry ho hl (by omega) (by omega) (by omega)

theorem hitAllI {w : World} {p lo : Nat} {A : Option Addr} {a : Nat} {B : Option Addr} {b : Nat} {C : Option Addr} {d : Nat} {E : List Fig} {F L : List Int} (h : Bd w p lo A a B b C d E F L) (he : OkE E) (k : Nat) (hk : k < E.length) (rc rn rx ry : Int) (hf : OkF F) (hrm : ∀ (E1 : List Fig) (n : Nat) (hn : n < E1.length) (f : Fig), E1[n]'hn = f → E1.length ≤ 4 → (0 ≤ f.x ∧ f.x ≤ 3) → (0 ≤ f.y ∧ f.y ≤ 3) → (0 ≤ f.g ∧ f.g ≤ 20) → ∀ wz : World, Bd wz p lo A a B b C d E1 F L → Calls Try.prog 87 #[.agg #[.pointer (some ⟨p, 0, none⟩), .int .i64 n]] wz fun e w' => e = .returned (.tuple #[]) ∧ Bd w' p lo A a B b C d (E1.eraseIdx n) (F.set (sq f) (F.getD (sq f) 0 + f.g)) L ∧ Below lo wz w') : Calls Try.prog 71 #[.agg #[.pointer (some ⟨p, 0, none⟩), .int .i64 k], .agg #[.int .i64 rc, .int .i64 rn, .int .i64 4, .int .i64 rx, .int .i64 ry]] w (ActB p lo A a B b C d L (actG E F L k (E[k]'hk) ⟨rc, rn, 4, rx, ry⟩) w) := by
  have hlw : lo ≤ w.heap.size := by
    obtain ⟨g, hg, _⟩ := own_some h.e (by omega)
    have := own_block_ge h.e g (by rw [hg]; rfl)
    omega
  obtain ⟨kc, kx, k_y, kl, kg, hfk⟩ : ∃ kc kx k_y kl kg, E[k]'hk = ⟨kc, kx, k_y, kl, kg⟩ := ⟨_, _, _, _, _, rfl⟩
  have bk := he.bd k hk
  rw [hfk] at bk ⊢
  simp only at bk
  rcases hat : atF rx E with _ | n
  · have hA : actG E F L k ⟨kc, kx, k_y, kl, kg⟩ ⟨rc, rn, 4, rx, ry⟩ = ((E, F, L), 8) := by simp [actG, hat]
    rw [hA]
    exact (hitOffI h k none 0 rc rn 4 rx ry (fun wz hz => otherNone hz he k rx hat)).mono fun e w' h' => ⟨h'.1, h'.2.1, h'.2.2.mono hlw⟩
  obtain ⟨hn, _, _⟩ := atF_some hat
  obtain ⟨nc, nx, ny, nl, ng, hfn⟩ : ∃ nc nx ny nl ng, E[n]'hn = ⟨nc, nx, ny, nl, ng⟩ := ⟨_, _, _, _, _, rfl⟩
  have bn := he.bd n hn
  rw [hfn] at bn
  simp only at bn
  have hq : E[n]? = some ⟨nc, nx, ny, nl, ng⟩ := by rw [List.getElem?_eq_getElem hn, hfn]
  by_cases hnk : n = k
  · have hA : actG E F L k ⟨kc, kx, k_y, kl, kg⟩ ⟨rc, rn, 4, rx, ry⟩ = ((E, F, L), 8) := by subst hnk; simp [actG, hat, hq]
    rw [hA]
    exact (hitOffI h k none 0 rc rn 4 rx ry (fun wz hz => otherSame hz he k rx n hat hnk)).mono fun e w' h' => ⟨h'.1, h'.2.1, h'.2.2.mono hlw⟩
  have ek : (E[k]'hk).x = kx ∧ (E[k]'hk).y = k_y := by rw [hfk]; exact ⟨rfl, rfl⟩
  have en : (E[n]'hn).x = nx ∧ (E[n]'hn).y = ny := by rw [hfn]; exact ⟨rfl, rfl⟩
  rcases h1 : inB (kx - nx) (-1) 1 with _ | _
  · have hA : actG E F L k ⟨kc, kx, k_y, kl, kg⟩ ⟨rc, rn, 4, rx, ry⟩ = ((E, F, L), 8) := by simp [actG, hat, hq, nearB, h1]
    rw [hA]
    exact (hitOffI h k (some ⟨p, 0, none⟩) n rc rn 4 rx ry (fun wz hz => otherFarX hz he k n rx hk hn hat hnk kx k_y nx ny ek en (by omega) (by omega) (by omega) (by omega) h1)).mono fun e w' h' => ⟨h'.1, h'.2.1, h'.2.2.mono hlw⟩
  rcases h2 : inB (k_y - ny) (-1) 1 with _ | _
  · have hA : actG E F L k ⟨kc, kx, k_y, kl, kg⟩ ⟨rc, rn, 4, rx, ry⟩ = ((E, F, L), 8) := by simp [actG, hat, hq, nearB, h1, h2]
    rw [hA]
    exact (hitOffI h k (some ⟨p, 0, none⟩) n rc rn 4 rx ry (fun wz hz => otherFarY hz he k n rx hk hn hat hnk kx k_y nx ny ek en (by omega) (by omega) (by omega) (by omega) h1 h2)).mono fun e w' h' => ⟨h'.1, h'.2.1, h'.2.2.mono hlw⟩
  have hnr : nearB ⟨kc, kx, k_y, kl, kg⟩ ⟨nc, nx, ny, nl, ng⟩ = true := by simp [nearB, h1, h2]
  have ho : ∀ wz : World, Bd wz p lo A a B b C d E F L → Calls Try.prog 86 #[.agg #[.pointer (some ⟨p, 0, none⟩), .int .i64 k], .int .i64 rx] wz fun e w' => e = .returned (.tuple #[.agg #[.pointer (some ⟨p, 0, none⟩), .int .i64 n], .bool true]) ∧ Below wz.heap.size wz w' := fun wz hz => otherYes hz he k n rx hk hn hat hnk kx k_y nx ny ek en (by omega) (by omega) (by omega) (by omega) h1 h2
  by_cases hl : nl - 1 ≤ 0
  · have hA : actG E F L k ⟨kc, kx, k_y, kl, kg⟩ ⟨rc, rn, 4, rx, ry⟩ = ((E.eraseIdx n, F.set (sq ⟨nc, nx, ny, nl, ng⟩) (F.getD (sq ⟨nc, nx, ny, nl, ng⟩) 0 + ng), L), 0) := by simp [actG, hat, hq, hnr, hnk, hl]
    rw [hA]
    refine hitDieI h k n hn nc nx ny nl ng hfn (by omega) rc rn 4 rx ry ho hl _ _ (fun wz hz => ?_)
    have h9 := hrm (E.set n ⟨nc, nx, ny, nl - 1, ng⟩) n (by rw [List.length_set]; exact hn) ⟨nc, nx, ny, nl - 1, ng⟩ (by rw [List.getElem_set_self]) (by rw [List.length_set]; exact he.len) ⟨by simp only; omega, by simp only; omega⟩ ⟨by simp only; omega, by simp only; omega⟩ ⟨by simp only; omega, by simp only; omega⟩ wz hz
    rw [← erase_set E n ⟨nc, nx, ny, nl - 1, ng⟩, ← List.eraseIdx_eq_take_drop_succ]
    exact h9
  · have hA : actG E F L k ⟨kc, kx, k_y, kl, kg⟩ ⟨rc, rn, 4, rx, ry⟩ = ((E.set n ⟨nc, nx, ny, nl - 1, ng⟩, F, L), 0) := by simp [actG, hat, hq, hnr, hnk, hl]
    rw [hA]
    exact hitLiveI h k n hn nc nx ny nl ng hfn (by omega) rc rn 4 rx ry ho hl

end Go.Proofs.Ythjiooocahdfpaa
