/- The model's: near, and a figure's place. -/
import Derived.Test.YthjiooocahdfpaaGb
namespace Go.Proofs.Ythjiooocahdfpaa
open Go.ChangeShapes Go.WideShapes Go.ChangeAt Go.RowKit
set_option linter.unusedVariables false
set_option linter.unusedSimpArgs false

theorem l2Near (a b : Fig) (w : World) (h1 : 0 ≤ a.x ∧ a.x ≤ 3) (h2 : 0 ≤ a.y ∧ a.y ≤ 3) (h3 : 0 ≤ b.x ∧ b.x ≤ 3) (h4 : 0 ≤ b.y ∧ b.y ≤ 3) :
    Calls Try.prog 80 #[a.val, b.val] w fun e w' => e = .returned (.bool (nearB a b)) ∧ Below w.heap.size w w' := by
  obtain ⟨ac, ax, ay, al, ag⟩ := a
  obtain ⟨bc, bx, b_y, bl, bg⟩ := b
  unfold nearB
  simp only at h1 h2 h3 h4 ⊢
  unfold Fig.val
  have q1 : IntKind.i64.wrap (ax - bx) = ax - bx := IntWalk.i64_in _ (by omega)
  have q2 : IntKind.i64.wrap (ay - b_y) = ay - b_y := IntWalk.i64_in _ (by omega)
  have BB : Hid (Below w.heap.size w ((w.alloc (.cells #[.int .i64 ac, .int .i64 ax, .int .i64 ay, .int .i64 al, .int .i64 ag] 74)).alloc (.cells #[.int .i64 bc, .int .i64 bx, .int .i64 b_y, .int .i64 bl, .int .i64 bg] 74))) := below_alloc2 w _ _
  rcases e1 : inB (ax - bx) (-1) 1 with _ | _
  · clear h1 h2 h3 h4
    go_enter Try.func80, Try.ntmps80
    go_wp2_with (go_at_call 61; refine (specIn _ _ _ _).mono ?_; rintro e w' ⟨rfl, rfl⟩; rw [e1])
    go_light
    go_ret
    exact ⟨rfl, BB.out⟩
  · rcases e2 : inB (ay - b_y) (-1) 1 with _ | _
    all_goals clear h1 h2 h3 h4
    all_goals go_enter Try.func80, Try.ntmps80
    all_goals go_wp2_with (go_at_call 61; refine (specIn _ _ _ _).mono ?_; rintro e w' ⟨rfl, rfl⟩; first | rw [e1] | rw [e2])
    all_goals go_light
    all_goals go_ret
    all_goals exact ⟨rfl, BB.out⟩
/-- A figure's place, or -1. -/
def posF (c : Int) (E : List Fig) : Int := match atF c E with | some k => (k : Int) | none => -1
theorem posF_of {c : Int} {E : List Fig} {k : Nat} (hk : k < E.length) (hc : (E[k]'hk).c = c) (hn : ∀ q (hq : q < E.length), q < k → (E[q]'hq).c ≠ c) : posF c E = k := by
  have : atF c E = some k := by
    unfold atF
    rw [List.findIdx?_eq_some_iff_getElem]
    exact ⟨hk, by simpa using hc, fun j hj => by simpa using hn j (by omega) hj⟩
  unfold posF; rw [this]
theorem posF_no {c : Int} {E : List Fig} (hn : ∀ q (hq : q < E.length), (E[q]'hq).c ≠ c) : posF c E = -1 := by
  have : atF c E = none := by
    unfold atF
    rw [List.findIdx?_eq_none_iff]
    intro x hx
    obtain ⟨q, hq, rfl⟩ := List.getElem_of_mem hx
    simpa using hn q hq
  unfold posF; rw [this]

set_option maxRecDepth 100000 in
set_option maxHeartbeats 4000000 in
theorem l2At (A : Option Addr) (a : Nat) (B : Option Addr) (b : Nat) (C : Option Addr) (d : Nat) (E : List Fig) (F L : List Int) (c : Int) (w : World) (hE : E.length ≤ 1048576) (rE : RdF w A E) :
    Calls Try.prog 62 #[gameV A E.length a B F.length b C L.length d, .int .i64 c] w fun e w' => e = .returned (.int .i64 (posF c E)) ∧ Below w.heap.size w w' := by
  have BW : Hid (Below w.heap.size w (w.alloc (.cells #[.slice A E.length a, .slice B F.length b, .slice C L.length d] 31))) := (Below.refl _ _).alloc (Nat.le_refl _) _
  have HE := Lib.hid (RdF.below rE BW.out)
  have K0 : Hid ((w.alloc (.cells #[.slice A E.length a, .slice B F.length b, .slice C L.length d] 31)).heap[w.heap.size]? = some (.cells #[.slice A E.length a, .slice B F.length b, .slice C L.length d] 31)) := heap_alloc_new w _
  clear rE
  unfold gameV
  go_enter Try.func62, Try.ntmps62
  go_wp2
  go_loopw [5] (fun i wr => ∃ k : Nat, k ≤ E.length ∧ i = .int .i64 k ∧ Hid (∀ q (hq : q < E.length), q < k → (E[q]'hq).c ≠ c) ∧ Hid (Below (w.alloc (.cells #[.slice A E.length a, .slice B F.length b, .slice C L.length d] 31)).heap.size (w.alloc (.cells #[.slice A E.length a, .slice B F.length b, .slice C L.length d] 31)) wr)) (fun i _ => E.length - (intOf i).toNat)
  case atStart => exact ⟨0, Nat.zero_le _, rfl, fun q hq h => by omega, Below.refl _ _⟩
  case round =>
    obtain ⟨k, hk, rfl, hn, hb⟩ := hrel
    have x0 : wr.cell? ⟨w.heap.size, 0, none⟩ = some (.slice A E.length a) := cell_kept hb.out (cell_of_row _ _ 0 _ 31 (0, 0) K0.out)
    by_cases hlt : k < E.length
    · obtain ⟨g, rfl, a0, a1, a2, a3, a4⟩ := RdF.below HE.out hb.out k hlt
      have i0 : (0 : Int) ≤ (k : Int) := by omega
      have i1 : (k : Int) < (E.length : Int) := by omega
      by_cases hc : (E[k]'hlt).c = c
      · have HP := Lib.hid (posF_of hlt hc hn.out)
        have e1 : ((E[k]'hlt).c == c) = true := by simpa using hc
        clear hc
        go_wp2
        go_light
        go_ret
        exact ⟨by rw [HP.out]; rfl, Below.and BW.out hb.out⟩
      · have e1 : ((E[k]'hlt).c == c) = false := by simpa using hc
        have HN : Hid (∀ q (hq : q < E.length), q < k + 1 → (E[q]'hq).c ≠ c) := fun q hq h => by
          rcases Nat.lt_or_ge q k with h1 | h1
          · exact hn.out q hq h1
          · obtain rfl : q = k := by omega
            exact hc
        clear hc
        go_wp2
        go_roundw
        case rel => exact ⟨k + 1, by omega, by go_num, HN.out, hb.out⟩
        case measure => simp [intOf]; omega
    · have i1 : ¬ (k : Int) < (E.length : Int) := by omega
      have HP := Lib.hid (posF_no (c := c) (E := E) fun q hq => hn.out q hq (by omega))
      go_wp2
      go_light
      go_ret
      exact ⟨by rw [HP.out]; rfl, Below.and BW.out hb.out⟩

end Go.Proofs.Ythjiooocahdfpaa
