/- The exact law of PickAll, walked. -/
import Derived.Test.YtlokhgnbcbnmpaaJd
import Derived.Test.YtlokhgnbcbnmpaaMk
import Derived.Test.YtlokhgnbcbnmpaaUm
namespace Go.Proofs.Ytlokhgnbcbnmpaa
open Go.ChangeShapes Go.WideShapes Go.ChangeAt Go.RowKit
set_option linter.unusedVariables false
set_option linter.unusedSimpArgs false

theorem szR_nn {left : Int} {n : Nat} (h0 : 0 ≤ left) (h : ¬ szR left n < 0) : (n : Int) ≤ left ∧ szR left n = left - n := by
  unfold szR at h ⊢
  split at h
  · rename_i h1; exact ⟨h1, if_pos h1⟩
  · omega
theorem picks_len (P : List VtP) : (picks P).length ≤ 5 := by
  unfold picks
  split
  · rename_i h
    have := top_ok h
    rw [picksN_len]
    omega
  · simp
theorem cntV_sz (Q : List VtP) : cntV Q ≤ 7 * szV Q := by
  unfold cntV szV
  induction Q with
  | nil => simp
  | cons a Q ih => simp only [List.map_cons, List.sum_cons, List.length_cons] at ih ⊢; omega
theorem szV_congr {P Q : List VtP} (h : P.map VtP.vt = Q.map VtP.vt) : szV P = szV Q := by
  have e : ∀ X : List VtP, szV X = (X.map VtP.vt).length + ((X.map VtP.vt).map fun v => v.cl.length).sum := fun X => by
    unfold szV
    rw [List.length_map, List.map_map]
    rfl
  rw [e, e, h]
theorem pickAll_spec (A : Option Addr) (c : Nat) (P : List VtP) (w : World) (hn : P.length ≤ maxLen) (hr : RdV w A P) (L : List Rq) (hL : picks P = L) :
    Calls Try.prog 16 #[.slice A P.length c] w fun e w' => ∃ B d, e = .returned (.slice B L.length d) ∧ w'.ownsRow w.heap.size 30 5 (.slice B L.length d) L.length (L.flatMap Rq.cells) ∧ Below w.heap.size w w' := by
  subst hL
  exact specPickAll A c P w hn hr
theorem pickAll_impl (A : Option Addr) (c : Nat) (P : List VtP) (w : World) (hn : P.length ≤ maxLen) (hr : RdV w A P) (L : List Rq) (hL : picks P = L) :
    Calls Try.prog 18 #[.slice A P.length c] w fun e w' => ∃ B d, e = .returned (.slice B L.length d) ∧ w'.ownsRow w.heap.size 30 5 (.slice B L.length d) L.length (L.flatMap Rq.cells) ∧ Below w.heap.size w w' := by
  subst hL
  exact implPickAll A c P w hn hr
theorem eqSame (A B : Option Addr) (c d : Nat) (L : List Rq) (w : World) (hL : L.length ≤ 5) (ha : Rd 5 Rq.cells w A L) (hb : Rd 5 Rq.cells w B L) :
    Calls Try.prog 19 #[.slice A L.length c, .slice B L.length d] w fun e w' => e = .returned (.bool true) ∧ Below w.heap.size w w' :=
  (eqReqS A B c d L L w (by unfold maxLen; omega) ha hb).mono fun _ _ h => ⟨h.1.trans (by rw [decide_eq_true rfl]), h.2⟩

set_option maxRecDepth 100000 in
set_option maxHeartbeats 4000000 in
theorem exactPickAll (A : Option Addr) (c : Nat) (P : List VtP) (w : World) (hn : P.length ≤ maxLen) (hr : RdV w A P) :
    Calls Try.prog 4 #[.slice A P.length c] w fun e w' => e = .returned (.bool true) ∧ Below w.heap.size w w' := by
  have HR := Lib.hid hr
  obtain ⟨L, hL⟩ : ∃ L, L = picks P := ⟨_, rfl⟩
  have hl5 : L.length ≤ 5 := by rw [hL]; exact picks_len P
  have HL5 := Lib.hid hl5
  have HL := Lib.hid hL
  have HN := Lib.hid hn
  clear hr hL hn hl5
  go_enter Try.func4, Try.ntmps4
  go_wp2_with (fail)
  refine (szVoteS A c P 1048576 _ HN.out (by omega) (by omega) HR.out).mono ?_
  rintro e w1 ⟨rfl, hb⟩
  have BW := Lib.hid hb
  clear hb
  by_cases hz : szR 1048576 (szW P) < 0
  · generalize szR 1048576 (szW P) = z at hz
    go_wp2
    go_light
    go_ret
    exact ⟨rfl, BW.out⟩
  obtain ⟨sp0, sp1⟩ := szR_nn (by omega) hz
  have spv : szV P ≤ 1048576 := by have : szV P = szW P := szV_eq P; omega
  rw [sp1]
  have nz : ¬ 1048576 - (szW P : Int) < 0 := by omega
  clear hz sp1 sp0
  have sp1 : P.length ≤ 1048576 := by unfold szV at spv; omega
  have sp2 : ∀ p ∈ P, p.cl.length ≤ 1048576 := fun p hp => by have := szV_mem hp; omega
  have SP := Lib.hid spv
  have SP1 := Lib.hid sp1
  have SP2 := Lib.hid sp2
  clear spv sp1 sp2
  go_wp2_with (fail)
  refine (toVoteS A c P _ SP1.out SP2.out (HR.out.below BW.out)).mono ?_
  rintro e w2 ⟨Q1, rfl, hm, ho, hb⟩
  have MQ1 := Lib.hid hm
  have OQ1 := Lib.hid ho
  have HSQ1 := Lib.hid hb.size
  have BW := Lib.hid (Below.and BW.out hb)
  clear hm ho hb
  go_wp2_with (fail)
  refine (pickAll_spec _ _ Q1 _ OQ1.out.len OQ1.out.rd L ((picks_congr MQ1.out).trans HL.out.symm)).mono ?_
  rintro e w3 ⟨B0, d0, rfl, ho, hb⟩
  have R0 := Lib.hid ho
  have HS3 := Lib.hid hb.size
  have BW := Lib.hid (Below.and BW.out hb)
  have R0' := Lib.hid ho
  have hs3 : w.heap.size ≤ w3.heap.size := BW.out.size
  clear ho hb
  go_wp2_with (fail)
  refine (toVoteS A c P _ SP1.out SP2.out (HR.out.below BW.out)).mono ?_
  rintro e w4 ⟨Q2, rfl, hm, ho, hb⟩
  have MQ2 := Lib.hid hm
  have OQ2 := Lib.hid ho
  have HSQ2 := Lib.hid hb.size
  have BW := Lib.hid (Below.and BW.out hb)
  have hs4 := hb.size
  have R0 := Lib.hid (own_below R0.out hb)
  clear hm ho hb
  go_wp2_with (fail)
  refine (pickAll_impl _ _ Q2 _ OQ2.out.len OQ2.out.rd L ((picks_congr MQ2.out).trans HL.out.symm)).mono ?_
  rintro e w5 ⟨B1, d1, rfl, ho, hb⟩
  have R1 := Lib.hid ho
  have BX := Lib.hid hb
  have B0L : Hid (∀ q, (Value.slice B0 L.length d0).ownBlock = some q → q < w3.heap.size) := fun q hq => (own_block_ge R0'.out q hq).2
  have R0 := Lib.hid (own_below R0.out hb)
  have BW := Lib.hid (Below.and BW.out hb)
  clear ho hb
  go_wp2_with (fail)
  refine (eqSame B1 B0 d1 d0 L _ HL5.out (Rd.of_own Rq.len R1.out rfl) (Rd.of_own Rq.len R0.out rfl)).mono ?_
  rintro e w6 ⟨rfl, hb⟩
  have BX := Lib.hid (Below.and BX.out hb)
  have R0 := Lib.hid (own_below R0.out hb)
  have R1 := Lib.hid (own_below R1.out hb)
  have BW := Lib.hid (Below.and BW.out hb)
  clear hb
  go_wp2_with (fail)
  refine (toVoteS A c P _ SP1.out SP2.out (HR.out.below BW.out)).mono ?_
  rintro e w7 ⟨Q3, rfl, hm, ho, hb⟩
  have MQ3 := Lib.hid hm
  have OQ3 := Lib.hid ho
  have HSQ3 := Lib.hid hb.size
  have BW := Lib.hid (Below.and BW.out hb)
  have BX := Lib.hid (Below.and BX.out hb)
  have R0 := Lib.hid (own_below R0.out hb)
  have R1 := Lib.hid (own_below R1.out hb)
  clear hm ho hb
  go_wp2_with (fail)
  refine (eqVoteS _ _ _ _ Q2 Q3 _ OQ2.out.len (OQ2.out.below BX.out).rd OQ3.out.rd).mono ?_
  rintro e w8 ⟨he, hb⟩
  obtain rfl := he.trans (show _ = Ending.returned (.bool true) by rw [MQ2.out, MQ3.out, decide_eq_true rfl])
  have BX := Lib.hid (Below.and BX.out hb)
  have R0 := Lib.hid (own_below R0.out hb)
  have R1 := Lib.hid (own_below R1.out hb)
  have BW := Lib.hid (Below.and BW.out hb)
  clear hb he
  have hcq : cntV Q2 ≤ 7340032 := by have h1 := cntV_sz Q2; have h2 := szV_congr MQ2.out; have h3 := SP.out; omega
  go_wp2_with (fail)
  refine (markVoteS w3.heap.size w4.heap.size Q2 1 w4 w8 (by omega) (by omega) OQ2.out BX.out (Nat.le_refl _)).mono ?_
  rintro e w9 ⟨rfl, hs⟩
  have h83 : w.heap.size ≤ w8.heap.size := BW.out.size
  have R0 := Lib.hid (own_same R0.out fun q hq => hs.keeps.block q (own_block_ge R0.out q hq).2 (.inl (B0L.out q hq)))
  have R1 := Lib.hid (own_same R1.out fun q hq => hs.keeps.block q (own_block_ge R1.out q hq).2 (.inr (own_block_ge R1.out q hq).1))
  have BW := Lib.hid (Below.trans BW.out (hs.below hs3 h83))
  clear hs h83
  have nk : ¬ 1 + (cntV Q2 : Int) < 0 := by omega
  have nk' : decide (1 + (cntV Q2 : Int) < 0) = false := decide_eq_false nk
  go_wp2_with (fail)
  refine (eqSame B1 B0 d1 d0 L _ HL5.out (Rd.of_own Rq.len R1.out rfl) (Rd.of_own Rq.len R0.out rfl)).mono ?_
  rintro e w10 ⟨rfl, hb⟩
  have R0 := Lib.hid (own_below R0.out hb)
  have R1 := Lib.hid (own_below R1.out hb)
  have BW := Lib.hid (Below.and BW.out hb)
  clear hb nk nk'
  have hL5 := HL5.out
  go_wp2_with (fail)
  refine (markReqS w4.heap.size B1 d1 L.length _ 1 w10 (by omega) (by omega) (by unfold maxLen; omega) R1.out).mono ?_
  rintro e w11 ⟨rfl, ho, hg⟩
  have hne : (Value.slice B0 L.length d0).ownBlock = none ∨ (Value.slice B0 L.length d0).ownBlock ≠ (Value.slice B1 L.length d1).ownBlock := by
    rcases hq : (Value.slice B0 L.length d0).ownBlock with _ | q
    · exact .inl rfl
    · exact .inr fun e => by have h1 := B0L.out q hq; have h2 := (own_block_ge R1.out q e.symm).1; omega
  have R0 := Lib.hid (R0.out.kept hg hne)
  have BW := Lib.hid (Below.trans BW.out (Below.of_grown hg BW.out.size fun q hq => by have := (own_block_ge R1.out q hq).1; omega))
  have RM := Lib.hid (RdM.of_own ho)
  clear hg ho hne
  go_wp2_with (fail)
  refine (heldReqS B1 d1 L.length 1 _ (by omega) (by omega) (by unfold maxLen; omega) RM.out).mono ?_
  rintro e w12 ⟨rfl, rfl⟩
  have nk : ¬ 1 + 5 * (L.length : Int) < 0 := by omega
  have nb : ((1 + 5 * (L.length : Int)) != (1 + 5 * (L.length : Int))) = false := by simp
  go_wp2_with (fail)
  refine (toVoteS A c P _ SP1.out SP2.out (HR.out.below BW.out)).mono ?_
  rintro e w13 ⟨Q4, rfl, hm, ho, hb⟩
  have MQ4 := Lib.hid hm
  have OQ4 := Lib.hid ho
  have HSQ4 := Lib.hid hb.size
  have BW := Lib.hid (Below.and BW.out hb)
  have R0 := Lib.hid (own_below R0.out hb)
  have RM := Lib.hid (RM.out.below hb)
  clear hm ho hb
  go_wp2_with (fail)
  refine (pickAll_impl _ _ Q4 _ OQ4.out.len OQ4.out.rd L ((picks_congr MQ4.out).trans HL.out.symm)).mono ?_
  rintro e w14 ⟨B2, d2, rfl, ho, hb⟩
  have R2 := Lib.hid ho
  have R0 := Lib.hid (own_below R0.out hb)
  have RM := Lib.hid (RM.out.below hb)
  have BW := Lib.hid (Below.and BW.out hb)
  clear ho hb
  go_wp2_with (fail)
  refine (eqSame B2 B0 d2 d0 L _ HL5.out (Rd.of_own Rq.len R2.out rfl) (Rd.of_own Rq.len R0.out rfl)).mono ?_
  rintro e w15 ⟨rfl, hb⟩
  have RM := Lib.hid (RM.out.below hb)
  have BW := Lib.hid (Below.and BW.out hb)
  clear hb
  go_wp2_with (fail)
  refine (heldReqS B1 d1 L.length 1 _ (by omega) (by omega) (by unfold maxLen; omega) RM.out).mono ?_
  rintro e w16 ⟨rfl, rfl⟩
  go_wp2
  go_light
  go_ret
  exact ⟨rfl, BW.out⟩

end Go.Proofs.Ytlokhgnbcbnmpaa
