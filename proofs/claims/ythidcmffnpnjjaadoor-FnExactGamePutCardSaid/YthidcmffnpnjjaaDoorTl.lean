/- Whether a game is ok: the program's own check. -/
import Derived.Test.YthidcmffnpnjjaaDoorTk
namespace Go.Proofs.YthidcmffnpnjjaaDoor
open Go.ChangeShapes Go.WideShapes Go.ChangeAt Go.RowKit
set_option linter.unusedVariables false

def onB (x y : Int) : Bool := inB x 0 3 && inB y 0 3
def entB (e : Fig) : Bool := inB e.c 1 4 && (onB e.x e.y && (inB e.l 0 3 && inB e.g 0 20))
def entsB : Int → List Fig → Bool
  | _, [] => true
  | p, e :: t => decide (p < e.c) && (entB e && entsB e.c t)
def allB (l : List Int) (hi : Int) : Bool := l.all fun n => inB n 0 hi
def goldE (E : List Fig) : Int := (E.map fun e => e.g).sum

theorem onBoard (x y : Int) (w : World) :
    Calls Tryd.prog 35 #[.int .i64 x, .int .i64 y] w fun e w' => e = .returned (.bool (onB x y)) ∧ w = w' := by
  rcases h1 : inB x 0 3 with _ | _
  all_goals rcases h2 : inB y 0 3 with _ | _
  all_goals go_enter Tryd.func35, Tryd.ntmps35
  all_goals go_wp2_with (first | (go_at_call 36; refine (implIn _ _ _ _).mono ?_; rintro e w' ⟨rfl, rfl⟩; first | rw [h1] | rw [h2]))
  all_goals go_ret
  all_goals unfold onB
  all_goals rw [h1, h2]
  all_goals exact ⟨rfl, rfl⟩

set_option maxRecDepth 100000 in
theorem entsOk (A : Option Addr) (c : Nat) (E : List Fig) (w : World) (hE : E.length ≤ maxLen) (hr : RdF w A E) :
    Calls Tryd.prog 27 #[.slice A E.length c] w fun e w' => e = .returned (.bool (entsB 0 E)) ∧ Below w.heap.size w w' := by
  unfold maxLen at hE
  have HA := Lib.hid hr
  clear hr
  go_enter Tryd.func27, Tryd.ntmps27
  go_wp2
  go_loopw [3, 8] (fun pv i wr => ∃ (k : Nat) (p : Int), k ≤ E.length ∧ i = .int .i64 k ∧ pv = .int .i64 p ∧ 0 ≤ p ∧ Hid (entsB 0 E = entsB p (E.drop k)) ∧ Hid (Below w.heap.size w wr)) (fun _ i _ => E.length - (intOf i).toNat)
  case atStart => exact ⟨0, 0, Nat.zero_le _, rfl, rfl, by omega, by simp [Hid], Below.refl _ _⟩
  case round =>
    obtain ⟨k, p, hk, rfl, rfl, hp, he, hb⟩ := hrel
    by_cases hlt : k < E.length
    · obtain ⟨g, rfl, a0, a1, a2, a3, a4⟩ := RdF.below HA.out hb.out k hlt
      have HD := Lib.hid (List.drop_eq_getElem_cons hlt)
      generalize E[k] = f at a0 a1 a2 a3 a4 HD
      have i0 : (0 : Int) ≤ (k : Int) := by omega
      have i1 : (k : Int) < (E.length : Int) := by omega
      have BB := Lib.hid (Below.trans hb.out ((Below.refl wr.heap.size wr).alloc (Nat.le_refl _) (.cells #[.int .i64 f.c, .int .i64 f.x, .int .i64 f.y, .int .i64 f.l, .int .i64 f.g] 48) |>.mono hb.out.size))
      by_cases h1 : f.c ≤ p
      · go_wp2
        go_light
        go_ret
        exact ⟨ret_bool (by rw [he.out, HD.out, entsB, decide_eq_false (by omega)]; rfl), BB.out⟩
      by_cases h2 : 4 < f.c
      · go_wp2
        go_light
        go_ret
        exact ⟨ret_bool (by rw [he.out, HD.out, entsB, entB, inB, decide_eq_false (show ¬ f.c ≤ 4 by omega)]; simp), BB.out⟩
      have hc : inB f.c 1 4 = true := by simp [inB]; omega
      have HC := Lib.hid hc
      clear hc
      rcases h3 : onB f.x f.y with _ | _
      · go_wp2_with (first | (go_at_call 35; refine (onBoard _ _ _).mono ?_; rintro e w' ⟨rfl, rfl⟩; rw [h3]))
        go_light
        go_ret
        exact ⟨ret_bool (by rw [he.out, HD.out, entsB, entB, h3]; simp), BB.out⟩
      rcases h4 : inB f.l 0 3 with _ | _
      · go_wp2_with (first | (go_at_call 35; refine (onBoard _ _ _).mono ?_; rintro e w' ⟨rfl, rfl⟩; rw [h3]) | (go_at_call 36; refine (implIn _ _ _ _).mono ?_; rintro e w' ⟨rfl, rfl⟩; first | rw [h4]))
        go_light
        go_ret
        exact ⟨ret_bool (by rw [he.out, HD.out, entsB, entB, h4]; simp), BB.out⟩
      rcases h5 : inB f.g 0 20 with _ | _
      · go_wp2_with (first | (go_at_call 35; refine (onBoard _ _ _).mono ?_; rintro e w' ⟨rfl, rfl⟩; rw [h3]) | (go_at_call 36; refine (implIn _ _ _ _).mono ?_; rintro e w' ⟨rfl, rfl⟩; first | rw [h4] | rw [h5]))
        go_light
        go_ret
        exact ⟨ret_bool (by rw [he.out, HD.out, entsB, entB, h5]; simp), BB.out⟩
      have HF := Lib.hid (show entsB p (E.drop k) = entsB f.c (E.drop (k + 1)) by rw [HD.out, entsB, entB, HC.out, h3, h4, h5, decide_eq_true (show p < f.c by omega)]; rfl)
      go_wp2_with (first | (go_at_call 35; refine (onBoard _ _ _).mono ?_; rintro e w' ⟨rfl, rfl⟩; rw [h3]) | (go_at_call 36; refine (implIn _ _ _ _).mono ?_; rintro e w' ⟨rfl, rfl⟩; first | rw [h4] | rw [h5]))
      go_roundw
      case rel => exact ⟨k + 1, f.c, by omega, by go_num, rfl, by omega, he.out.trans HF.out, BB.out⟩
      case measure => simp [intOf]; omega
    · have hz : k = E.length := by omega
      have HZ := Lib.hid hz
      clear hz
      go_wp2
      go_ret
      exact ⟨ret_bool (by rw [he.out, HZ.out, List.drop_length]; rfl), hb.out⟩

set_option maxRecDepth 100000 in
theorem allWithin (A : Option Addr) (c : Nat) (l : List Int) (hi : Int) (w : World) (hl : l.length ≤ maxLen) (hr : RdI w A l) :
    Calls Tryd.prog 28 #[.slice A l.length c, .int .i64 hi] w fun e w' => e = .returned (.bool (allB l hi)) ∧ w = w' := by
  unfold maxLen at hl
  have HA := Lib.hid hr
  clear hr
  go_enter Tryd.func28, Tryd.ntmps28
  go_wp2
  go_loop [9] (fun i => ∃ k : Nat, k ≤ l.length ∧ i = .int .i64 k ∧ Hid (allB l hi = allB (l.drop k) hi)) (fun i => l.length - (intOf i).toNat)
  case atStart => exact ⟨0, Nat.zero_le _, rfl, by simp [Hid]⟩
  case round =>
    obtain ⟨k, hk, rfl, he⟩ := hrel
    by_cases hlt : k < l.length
    · obtain ⟨g, rfl, a0⟩ := HA.out k hlt
      have HD := Lib.hid (List.drop_eq_getElem_cons hlt)
      generalize l[k] = v at a0 HD
      have i0 : (0 : Int) ≤ (k : Int) := by omega
      have i1 : (k : Int) < (l.length : Int) := by omega
      rcases h1 : inB v 0 hi with _ | _
      · go_wp2_with (go_at_call 36; refine (implIn _ _ _ _).mono ?_; rintro e w' ⟨rfl, rfl⟩; rw [h1])
        go_light
        go_ret
        exact ⟨ret_bool (by rw [he.out, HD.out, allB, List.all_cons, h1]; rfl), rfl⟩
      · have HF := Lib.hid (show allB (l.drop k) hi = allB (l.drop (k + 1)) hi by rw [HD.out, allB, List.all_cons, h1, Bool.true_and]; rfl)
        go_wp2_with (go_at_call 36; refine (implIn _ _ _ _).mono ?_; rintro e w' ⟨rfl, rfl⟩; rw [h1])
        go_round
        case rel => exact ⟨k + 1, by omega, by go_num, he.out.trans HF.out⟩
        case measure => simp [intOf]; omega
    · have hz : k = l.length := by omega
      have HZ := Lib.hid hz
      clear hz
      go_wp2
      go_ret
      exact ⟨ret_bool (by rw [he.out, HZ.out, List.drop_length]; rfl), rfl⟩

theorem sum_step (l : List Int) (k : Nat) (h : k < l.length) : (l.take (k + 1)).sum = (l.take k).sum + l[k] := by
  rw [List.take_succ_eq_append_getElem h, List.sum_append]
  simp

theorem gold_step (E : List Fig) (k : Nat) (h : k < E.length) : goldE (E.take (k + 1)) = goldE (E.take k) + E[k].g := by
  unfold goldE
  rw [List.take_succ_eq_append_getElem h, List.map_append, List.sum_append]
  simp

theorem gold_bd : ∀ (E : List Fig), (∀ (i : Nat) (h : i < E.length), 0 ≤ (E[i]'h).g ∧ (E[i]'h).g ≤ 20) → 0 ≤ goldE E ∧ goldE E ≤ 20 * (E.length : Int) := by
  intro E
  induction E with
  | nil => intro _; simp [goldE]
  | cons e t ih =>
    intro h
    have h0 := h 0 (by simp)
    simp only [List.getElem_cons_zero] at h0
    have h1 := ih (fun i hi => by have := h (i + 1) (by simp; omega); simpa using this)
    have e1 : goldE (e :: t) = e.g + goldE t := by simp [goldE]
    rw [e1, List.length_cons]
    omega
theorem sum_bd : ∀ (F : List Int), (∀ (i : Nat) (h : i < F.length), 0 ≤ F[i]'h ∧ F[i]'h ≤ 20) → 0 ≤ F.sum ∧ F.sum ≤ 20 * (F.length : Int) := by
  intro F
  induction F with
  | nil => intro _; simp
  | cons e t ih =>
    intro h
    have h0 := h 0 (by simp)
    simp only [List.getElem_cons_zero] at h0
    have h1 := ih (fun i hi => by have := h (i + 1) (by simp; omega); simpa using this)
    rw [List.sum_cons, List.length_cons]
    omega
theorem allWithinB (A : Option Addr) (c : Nat) (l : List Int) (hi : Int) (w : World) (hl : l.length ≤ maxLen) (hr : RdI w A l) :
    Calls Tryd.prog 28 #[.slice A l.length c, .int .i64 hi] w fun e w' => e = .returned (.bool (allB l hi)) ∧ Below w.heap.size w w' :=
  (allWithin A c l hi w hl hr).mono (fun _ _ h => ⟨h.1, h.2 ▸ Below.refl _ _⟩)

set_option maxRecDepth 100000 in
theorem goldOfFloor (B : Option Addr) (b : Nat) (F : List Int) (w : World) (hF : F.length ≤ 1048576) (gF : ∀ (i : Nat) (h : i < F.length), 0 ≤ F[i]'h ∧ F[i]'h ≤ 20) (rF : RdI w B F) :
    Calls Tryd.prog 30 #[.slice B F.length b] w fun e w' => e = .returned (.int .i64 F.sum) ∧ Below w.heap.size w w' := by
  have HF := Lib.hid rF
  have GF := Lib.hid gF
  clear rF gF
  go_enter Tryd.func30, Tryd.ntmps30
  go_wp2
  go_loop [3, 8] (fun sv i => ∃ (k : Nat) (s : Int), k ≤ F.length ∧ i = .int .i64 k ∧ sv = .int .i64 s ∧ 0 ≤ s ∧ s ≤ 20 * k ∧ Hid (s = (F.take k).sum)) (fun _ i => F.length - (intOf i).toNat)
  case atStart => exact ⟨0, 0, Nat.zero_le _, rfl, rfl, by omega, by omega, by simp [Hid]⟩
  case round =>
    obtain ⟨k, s, hk, rfl, rfl, hs0, hs1, he⟩ := hrel
    by_cases hlt : k < F.length
    · obtain ⟨g, rfl, a0⟩ := HF.out k hlt
      obtain ⟨v0, v1⟩ := GF.out k hlt
      have HS := Lib.hid (sum_step F k hlt)
      generalize F[k] = v at a0 v0 v1 HS
      have i0 : (0 : Int) ≤ (k : Int) := by omega
      have i1 : (k : Int) < (F.length : Int) := by omega
      go_wp2
      go_round
      case rel => exact ⟨k + 1, s + v, by omega, by go_num, rfl, by omega, by omega, by rw [Hid, HS.out, ← he.out]⟩
      case measure => simp [intOf]; omega
    · have hz : k = F.length := by omega
      have HS : Hid (s = F.sum) := by have := he.out; rw [hz, List.take_length] at this; exact this
      clear hz
      go_wp2
      go_ret
      exact ⟨ret_int (by rw [HS.out]), Below.refl _ _⟩

set_option maxRecDepth 100000 in
theorem goldOfEnts (A : Option Addr) (a : Nat) (E : List Fig) (w : World) (hE : E.length ≤ 1048576) (gE : ∀ (i : Nat) (h : i < E.length), 0 ≤ (E[i]'h).g ∧ (E[i]'h).g ≤ 20) (rE : RdF w A E) :
    Calls Tryd.prog 29 #[.slice A E.length a] w fun e w' => e = .returned (.int .i64 (goldE E)) ∧ Below w.heap.size w w' := by
  have HE := Lib.hid rE
  have GE := Lib.hid gE
  clear rE gE
  go_enter Tryd.func29, Tryd.ntmps29
  go_wp2
  go_loopw [3, 8] (fun sv i wr => ∃ (j : Nat) (t : Int), j ≤ E.length ∧ i = .int .i64 j ∧ sv = .int .i64 t ∧ 0 ≤ t ∧ t ≤ 20 * j ∧ Hid (t = goldE (E.take j)) ∧ Hid (Below w.heap.size w wr)) (fun _ i _ => E.length - (intOf i).toNat)
  case atStart => exact ⟨0, 0, Nat.zero_le _, rfl, rfl, by omega, by omega, by simp [Hid, goldE], Below.refl _ _⟩
  case round =>
    obtain ⟨j, t, hj, rfl, rfl, ht0, ht1, hte, hb⟩ := hrel
    by_cases hlt2 : j < E.length
    · obtain ⟨g, rfl, a0, a1, a2, a3, a4⟩ := RdF.below HE.out hb.out j hlt2
      obtain ⟨v0, v1⟩ := GE.out j hlt2
      have HS := Lib.hid (gold_step E j hlt2)
      generalize E[j] = f at a0 a1 a2 a3 a4 v0 v1 HS
      have i0 : (0 : Int) ≤ (j : Int) := by omega
      have i1 : (j : Int) < (E.length : Int) := by omega
      have BB := Lib.hid (Below.trans hb.out ((Below.refl wr.heap.size wr).alloc (Nat.le_refl _) (.cells #[.int .i64 f.c, .int .i64 f.x, .int .i64 f.y, .int .i64 f.l, .int .i64 f.g] 48) |>.mono hb.out.size))
      go_wp2
      go_roundw
      case rel => exact ⟨j + 1, t + f.g, by omega, by go_num, rfl, by omega, by omega, by rw [Hid, HS.out, hte.out], BB.out⟩
      case measure => simp [intOf]; omega
    · have hz2 : j = E.length := by omega
      have HZ2 := Lib.hid hz2
      clear hz2
      go_wp2
      go_ret
      exact ⟨ret_int (by rw [hte.out, HZ2.out, List.take_length]), hb.out⟩
end Go.Proofs.YthidcmffnpnjjaaDoor
