/- A heap in memory: whether all is in order, how one sinks, how one is added. -/
import Derived.Test.YtgnemgnhjallhaaVd
namespace Go.Proofs.Ytgnemgnhjallhaa
open Go.ChangeShapes Go.WideShapes Go.ChangeAt Go.RowKit
set_option linter.unusedVariables false
set_option linter.unusedSimpArgs false

theorem parentOfC (m c : Nat) (hc : c = m / 2) (w : World) (hm : m < 4611686018427387904) :
    Calls Try.prog 55 #[.int .i64 ((m : Int) + 1)] w fun e w' => e = .returned (.int .i64 (c : Int)) ∧ w' = w := by
  subst hc
  exact parentOf m w hm
theorem precedesC (lo p : Nat) (A : Option Addr) (a : Nat) (L : List Tm) (i j : Nat) (vi vj : Int) (hvi : vi = (i : Int)) (hvj : vj = (j : Int)) (w : World) (hL : L.length ≤ maxLen) (h : Hp w lo p A a L) (hi : i < L.length) (hj : j < L.length) (b : Bool) (hb : lessT (at' L i) (at' L j) = b) :
    Calls Try.prog 54 #[.pointer (some ⟨p, 0, none⟩), .int .i64 vi, .int .i64 vj] w fun e w' => e = .returned (.bool b) ∧ Below w.heap.size w w' := by
  subst hvi hvj hb
  exact precedes lo p A a L i j w hL h hi hj
theorem swapC (lo p : Nat) (A : Option Addr) (a : Nat) (L : List Tm) (i j : Nat) (vi vj : Int) (hvi : vi = (i : Int)) (hvj : vj = (j : Int)) (w : World) (hL : L.length ≤ maxLen) (h : Hp w lo p A a L) (hi : i < L.length) (hj : j < L.length) :
    Calls Try.prog 56 #[.pointer (some ⟨p, 0, none⟩), .int .i64 vi, .int .i64 vj] w fun e w' => e = .returned (.tuple #[]) ∧ Hp w' lo p A a (swp L i j) ∧ Below lo w w' ∧ w.grownBy w' (Value.slice A L.length a).ownBlock := by
  subst hvi hvj
  exact swapH lo p A a L i j w hL h hi hj
theorem smallerC (lo p : Nat) (A : Option Addr) (a : Nat) (L : List Tm) (i c : Nat) (u : Bool) (hc : childT L i = c) (hu : decide (c < L.length) = u) (w : World) (hL : L.length ≤ 2097152) (h : Hp w lo p A a L) (hi : i ≤ 2097152) :
    Calls Try.prog 63 #[.pointer (some ⟨p, 0, none⟩), .int .i64 (i : Int)] w fun e w' => e = .returned (.tuple #[.int .i64 (c : Int), .bool u]) ∧ Below w.heap.size w w' := by
  subst hc hu
  exact smallerChild lo p A a L i w hL h hi
theorem Below.lo {lo : Nat} {w w' : World} (h : Below w.heap.size w w') (hl : lo ≤ w.heap.size) : Below lo w w' := h.mono hl

set_option maxRecDepth 100000 in
set_option maxHeartbeats 2000000 in
theorem inOrder (lo p : Nat) (A : Option Addr) (a : Nat) (L : List Tm) (w : World) (hL : L.length ≤ 2097152) (h : Hp w lo p A a L) :
    Calls Try.prog 47 #[.pointer (some ⟨p, 0, none⟩)] w fun e w' => e = .returned (.bool (decide (heapT L))) ∧ Below w.heap.size w w' := by
  have hL0 := Lib.hid (show L.length ≤ maxLen by unfold maxLen; omega)
  have HH0 := Lib.hid h
  clear h
  go_enter Try.func47, Try.ntmps47
  go_wp2
  go_loopw [3] (fun v wr => ∃ m : Nat, m ≤ L.length ∧ v = .int .i64 ((m : Int) + 1) ∧ Hid (∀ k, 0 < k → k < m + 1 → lessT (at' L k) (at' L ((k - 1) / 2)) = false) ∧ Hid (Below w.heap.size w wr)) (fun v _ => L.length + 1 - (intOf v).toNat)
  case atStart => exact ⟨0, Nat.zero_le _, rfl, fun k h0 h1 => by omega, Below.refl _ _⟩
  case round =>
    obtain ⟨m, hm, rfl, ha, hB⟩ := hrel
    have HH := Lib.hid (HH0.out.below hB.out)
    have q0 : wr.cell? ⟨p, 0, none⟩ = some (.slice A L.length a) := HH.out.box.cell 0
    have lp := HH.out.box.lt
    by_cases hlt : m + 1 < L.length
    · have i1 : (m : Int) + 1 < (L.length : Int) := by omega
      obtain ⟨c, hc⟩ : ∃ c, c = m / 2 := ⟨_, rfl⟩
      have PO := Lib.hid (fun wx => parentOfC m c hc wx (by omega))
      have hcl : c < L.length := by omega
      obtain ⟨b, hb⟩ : ∃ b, lessT (at' L (m + 1)) (at' L c) = b := ⟨_, rfl⟩
      have PR := Lib.hid (fun wx hx => precedesC lo p A a L (m + 1) c ((m : Int) + 1) (c : Int) (by omega) rfl wx hL0.out hx hlt hcl b hb)
      have HC := Lib.hid (show (m + 1 - 1) / 2 = c by omega)
      clear hc
      have HB2 := Lib.hid hb
      clear hb
      go_wp2_with (fail)
      refine (PO.out _).mono ?_
      rintro e w1 ⟨rfl, rfl⟩
      go_wp2_with (fail)
      refine (PR.out _ HH.out).mono ?_
      rintro e w2 ⟨rfl, h2⟩
      have hB := Lib.hid (Below.and hB.out h2)
      clear h2 q0 lp PO PR
      rcases b with _ | _
      · have HA : Hid (∀ k, 0 < k → k < (m + 1) + 1 → lessT (at' L k) (at' L ((k - 1) / 2)) = false) := fun k h0 h1 => by
          by_cases e : k = m + 1
          · subst e
            rw [HC.out]
            exact HB2.out
          · exact ha.out k h0 (by omega)
        clear HB2 HC ha
        go_wp2
        go_roundw
        case rel => exact ⟨m + 1, by omega, by go_num, HA.out, hB.out⟩
        case measure => (simp [intOf]; omega)
      · have HN := Lib.hid (show ¬ heapT L from fun hh => by
          have := hh (m + 1) (by omega) hlt
          rw [HC.out, HB2.out] at this
          cases this)
        clear HB2 HC ha
        go_wp2
        go_light
        go_ret
        exact ⟨ret_bool (decide_eq_false HN.out).symm, hB.out⟩
    · have i1 : ¬ (m : Int) + 1 < (L.length : Int) := by omega
      have HN := Lib.hid (show heapT L from fun k h0 h1 => ha.out k h0 (by omega))
      go_wp2
      go_light
      go_ret
      exact ⟨ret_bool (decide_eq_true HN.out).symm, hB.out⟩

set_option maxRecDepth 100000 in
set_option maxHeartbeats 2000000 in
theorem sinkH (lo p : Nat) (A : Option Addr) (a : Nat) (L : List Tm) (w : World) (hL : L.length ≤ 2097152) (h : Hp w lo p A a L) :
    Calls Try.prog 60 #[.pointer (some ⟨p, 0, none⟩)] w fun e w' => e = .returned (.tuple #[]) ∧ Hp w' lo p A a (sinkT L 0) ∧ Below lo w w' ∧ w.grownBy w' (Value.slice A L.length a).ownBlock := by
  have HH0 := Lib.hid h
  have HLO := Lib.hid (show lo ≤ w.heap.size from Nat.le_trans h.lop (Nat.le_of_lt h.box.lt))
  clear h
  obtain ⟨n, hn⟩ : ∃ n, L.length = n := ⟨_, rfl⟩
  have HN0 := Lib.hid hn
  rw [hn] at hL
  rw [hn]
  clear hn
  obtain ⟨R, hR⟩ : ∃ R, sinkT L 0 = R := ⟨_, rfl⟩
  have HR0 := Lib.hid hR
  rw [hR]
  clear hR
  go_enter Try.func60, Try.ntmps60
  go_wp2
  go_loopw [2] (fun v wr => ∃ (i : Nat) (L' : List Tm), i ≤ n ∧ v = .int .i64 (i : Int) ∧ Hid (L'.length = n) ∧ Hid (Hp wr lo p A a L') ∧ Hid (sinkT L' i = R) ∧ Hid (Below lo w wr) ∧ Hid (w.grownBy wr (Value.slice A n a).ownBlock)) (fun v _ => n - (intOf v).toNat)
  case atStart => exact ⟨0, L, Nat.zero_le _, rfl, HN0.out, HH0.out, HR0.out, Below.refl _ _, World.grownBy.refl _ _⟩
  case round =>
    clear HN0 HH0 HR0
    obtain ⟨i, L', hi, rfl, HN, HH, HR, hB, hF⟩ := hrel
    obtain ⟨c, hc⟩ : ∃ c, childT L' i = c := ⟨_, rfl⟩
    obtain ⟨u, hu⟩ : ∃ u, decide (c < L'.length) = u := ⟨_, rfl⟩
    have SM := Lib.hid (fun wx hx => smallerC lo p A a L' i c u hc hu wx (by rw [HN.out]; exact hL) hx (by omega))
    have HG := Lib.hid (show i < c by rw [← hc]; exact child_gt L' i)
    have HCC := Lib.hid hc
    have HU := Lib.hid hu
    clear hc hu
    go_wp2_with (fail)
    refine (SM.out _ HH.out).mono ?_
    rintro e w1 ⟨rfl, h1⟩
    have HH := Lib.hid (HH.out.below h1)
    have hB := Lib.hid (hB.out.trans (h1.mono (Nat.le_trans HLO.out hB.out.size)))
    have hF := Lib.hid (grownBy_trans hF.out (Below.grownBy h1 _))
    clear h1 SM
    rcases u with _ | _
    · have HE := Lib.hid (show L' = R by
        rw [← HR.out, sink_end L' i (fun h0 => by
          rw [HCC.out] at h0
          have := HU.out
          simp at this
          omega)])
      go_wp2
      refine bodyPost_ret (results_none rfl _ _ _) rfl ?_
      exact ⟨rfl, HE.out ▸ HH.out, hB.out, hF.out⟩
    · have hc2 : c < n := by have := HU.out; have := HN.out; simp at *; omega
      obtain ⟨b, hb⟩ : ∃ b, lessT (at' L' c) (at' L' i) = b := ⟨_, rfl⟩
      have PR := Lib.hid (fun wx hx => precedesC lo p A a L' c i (c : Int) (i : Int) rfl rfl wx (by rw [HN.out]; unfold maxLen; omega) hx (by rw [HN.out]; omega) (by have := HG.out; rw [HN.out]; omega) b hb)
      have HB2 := Lib.hid hb
      clear hb
      go_wp2_with (fail)
      refine (PR.out _ HH.out).mono ?_
      rintro e w2 ⟨rfl, h1⟩
      have HH := Lib.hid (HH.out.below h1)
      have hB := Lib.hid (hB.out.trans (h1.mono (Nat.le_trans HLO.out hB.out.size)))
      have hF := Lib.hid (grownBy_trans hF.out (Below.grownBy h1 _))
      clear h1 PR
      rcases b with _ | _
      · have HE := Lib.hid (show L' = R by
          rw [← HR.out, sink_end L' i (fun h0 => by rw [HCC.out]; exact HB2.out)])
        go_wp2
        refine bodyPost_ret (results_none rfl _ _ _) rfl ?_
        exact ⟨rfl, HE.out ▸ HH.out, hB.out, hF.out⟩
      · have HE := Lib.hid (show sinkT (swp L' i c) c = R by
          rw [← HR.out, sink_go L' i (by rw [HCC.out, HN.out]; exact hc2) (by rw [HCC.out]; exact HB2.out), HCC.out])
        have SW := Lib.hid (fun wx hx => swapC lo p A a L' i c (i : Int) (c : Int) rfl rfl wx (by rw [HN.out]; unfold maxLen; omega) hx (by have := HG.out; rw [HN.out]; omega) (by rw [HN.out]; omega))
        have HN2 := Lib.hid (show (swp L' i c).length = n by rw [swp_len]; exact HN.out)
        have hg := HG.out
        have HL9 := Lib.hid HN.out
        clear HB2 HCC HU HG HR HN
        go_wp2_with (fail)
        refine (SW.out _ HH.out).mono ?_
        rintro e w3 ⟨rfl, h1, h2, h3⟩
        have HH := Lib.hid h1
        have hB := Lib.hid (hB.out.trans h2)
        have hF := Lib.hid (grownBy_trans hF.out (by rw [HL9.out] at h3; exact h3))
        clear h1 h2 h3 SW
        generalize swp L' i c = L2 at HE HN2 HH
        go_wp2
        go_roundw
        case rel => exact ⟨c, L2, by omega, by go_num, HN2.out, HH.out, HE.out, hB.out, hF.out⟩
        case measure => (simp [intOf]; omega)

end Go.Proofs.Ytgnemgnhjallhaa
