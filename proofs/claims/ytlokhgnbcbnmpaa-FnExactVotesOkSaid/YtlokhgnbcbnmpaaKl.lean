/- The exact law of VotesOk, walked. -/
import Derived.Test.YtlokhgnbcbnmpaaKj
import Derived.Test.YtlokhgnbcbnmpaaUn
import Derived.Test.YtlokhgnbcbnmpaaMG
namespace Go.Proofs.Ytlokhgnbcbnmpaa
open Go.ChangeShapes Go.WideShapes Go.ChangeAt Go.RowKit
set_option linter.unusedVariables false
set_option linter.unusedSimpArgs false

theorem szR_nv {left : Int} {n : Nat} (h0 : 0 ≤ left) (h : ¬ szR left n < 0) : (n : Int) ≤ left ∧ szR left n = left - n := by
  unfold szR at h ⊢
  split at h
  · rename_i h1; exact ⟨h1, if_pos h1⟩
  · omega
theorem turnB_congr (view : Int) (v : Vt) (m m' : MgP) (h : m.mg = m'.mg) : turnB view v m = turnB view v m' := by
  simp only [MgP.mg, Mg.mk.injEq] at h
  obtain ⟨h1, h2, h3, h4, h5, h6, h7⟩ := h
  unfold turnB
  rw [h1, h2, h3, h6]
theorem votesB_congr {P Q : List MgP} {V U : List VtP} (h : P.map MgP.mg = Q.map MgP.mg) (g : V.map VtP.vt = U.map VtP.vt) (view : Int) : votesB P view V = votesB Q view U := by
  have e1 : V.length = U.length := by have := congrArg List.length g; simpa using this
  have e2 : vtsB (-1) V = vtsB (-1) U := by rw [vtsB_eq, vtsB_eq, g]
  have e3 : ∀ (X : List VtP) (R : List MgP), allV (vM R view) X = (X.map VtP.vt).all (fun v => sentV R view v && befM R view v.cl) := fun X R => by
    unfold allV vM
    rw [List.all_map]
    rfl
  have e4 : ∀ v : Vt, sentV P view v = sentV Q view v := fun v => any_congr (turnB_congr view v) P Q h
  have e5 : ∀ l : List Cl, befM P view l = befM Q view l := fun l => by
    unfold befM
    simp only [readyM_congr h]
  unfold votesB
  rw [e1, e2, e3, e3, g]
  simp only [e4, e5]

set_option maxRecDepth 100000 in
set_option maxHeartbeats 4000000 in
theorem exactVotesOk (A : Option Addr) (c : Nat) (P : List MgP) (view : Int) (B : Option Addr) (b : Nat) (V : List VtP) (w : World) (hn : P.length ≤ maxLen) (hp : RdMs w A P) (hm : V.length ≤ maxLen) (hv : RdV w B V) :
    Calls Try.prog 7 #[.slice A P.length c, .int .i64 view, .slice B V.length b] w fun e w' => e = .returned (.bool true) ∧ Below w.heap.size w w' := by
  have SR := Lib.hid hp
  have VR := Lib.hid hv
  clear hp hv
  go_enter Try.func7, Try.ntmps7
  go_wp2_with (fail)
  refine (szMsgS A c P 1048576 _ hn (by omega) (by omega) SR.out).mono ?_
  rintro e w1 ⟨rfl, hb⟩
  have BW := Lib.hid hb
  clear hb
  by_cases hz : szR 1048576 (szMs P) < 0
  · generalize szR 1048576 (szMs P) = z at hz
    go_wp2
    go_light
    go_ret
    exact ⟨rfl, BW.out⟩
  obtain ⟨sp0, sp1⟩ := szR_nv (by omega) hz
  have ss : szMs P ≤ 1048576 := by omega
  rw [sp1]
  have nz : ¬ 1048576 - (szMs P : Int) < 0 := by omega
  have SS := Lib.hid ss
  clear hz sp1 sp0
  go_wp2_with (fail)
  refine (szVoteS B b V (1048576 - (szMs P : Int)) _ hm (by omega) (by omega) (VR.out.below BW.out)).mono ?_
  rintro e w2 ⟨rfl, hb⟩
  have BW := Lib.hid (Below.and BW.out hb)
  clear hb
  by_cases hz : szR (1048576 - (szMs P : Int)) (szW V) < 0
  · generalize szR (1048576 - (szMs P : Int)) (szW V) = z at hz
    go_wp2
    go_light
    go_ret
    exact ⟨rfl, BW.out⟩
  obtain ⟨sq0, sq1⟩ := szR_nv (by omega) hz
  have spv : szV V ≤ 1048576 := by have : szV V = szW V := szV_eq V; omega
  rw [sq1]
  have nz : ¬ 1048576 - (szMs P : Int) - (szW V : Int) < 0 := by omega
  clear hz sq1 sq0
  have sp1 : V.length ≤ 1048576 := by unfold szV at spv; omega
  have sp2 : ∀ p ∈ V, p.cl.length ≤ 1048576 := fun p hp => by have := szV_mem hp; omega
  have SP1 := Lib.hid sp1
  have SP2 := Lib.hid sp2
  clear spv sp1 sp2 ss
  go_wp2_with (fail)
  refine (toMsgS A c P _ SS.out (RdMs.below SR.out BW.out)).mono ?_
  rintro e w3 ⟨P1, rfl, hm, ho, hb⟩
  have BW := Lib.hid (Below.and BW.out hb)
  have MP1 := Lib.hid hm
  have OP1 := Lib.hid ho
  clear hm ho
  clear hb
  go_wp2_with (fail)
  refine (toVoteS B b V _ SP1.out SP2.out (VR.out.below BW.out)).mono ?_
  rintro e w4 ⟨V1, rfl, hm, ho, hb⟩
  have BW := Lib.hid (Below.and BW.out hb)
  have MV1 := Lib.hid hm
  have OV1 := Lib.hid ho
  clear hm ho
  have OP1 := Lib.hid (OP1.out.below hb)
  clear hb
  go_wp2_with (fail)
  refine (specVotesOk _ _ P1 view _ _ V1 _ OP1.out.len OP1.out.rd OV1.out.len OV1.out.rd).mono ?_
  rintro e w5 ⟨he, hb⟩
  obtain rfl := he.trans (ret_bool (votesB_congr MP1.out MV1.out view))
  have BW := Lib.hid (Below.and BW.out hb)
  clear hb he OP1 OV1
  generalize hD : votesB P view V = D
  have HD := Lib.hid hD
  clear hD
  go_wp2_with (fail)
  refine (toMsgS A c P _ SS.out (RdMs.below SR.out BW.out)).mono ?_
  rintro e w6 ⟨X0, rfl, hm, ho, hb⟩
  have BW := Lib.hid (Below.and BW.out hb)
  have MX0 := Lib.hid hm
  have OX0 := Lib.hid ho
  clear hm ho
  clear hb
  go_wp2_with (fail)
  refine (toVoteS B b V _ SP1.out SP2.out (VR.out.below BW.out)).mono ?_
  rintro e w7 ⟨X2, rfl, hm, ho, hb⟩
  have BW := Lib.hid (Below.and BW.out hb)
  have MX2 := Lib.hid hm
  have OX2 := Lib.hid ho
  clear hm ho
  have OX0 := Lib.hid (OX0.out.below hb)
  clear hb
  go_wp2_with (fail)
  refine (implVotesOk _ _ X0 view _ _ X2 _ OX0.out.len OX0.out.rd OX2.out.len OX2.out.rd).mono ?_
  rintro e w8 ⟨he, hb⟩
  obtain rfl := he.trans (ret_bool ((votesB_congr MX0.out MX2.out view).trans HD.out))
  have BW := Lib.hid (Below.and BW.out hb)
  have OX0 := Lib.hid (OX0.out.below hb)
  have OX2 := Lib.hid (OX2.out.below hb)
  clear hb he
  have bb : (D != D) = false := by simp
  go_wp2_with (fail)
  refine (toMsgS A c P _ SS.out (RdMs.below SR.out BW.out)).mono ?_
  rintro e w9 ⟨P2, rfl, hm, ho, hb⟩
  have BW := Lib.hid (Below.and BW.out hb)
  have MP2 := Lib.hid hm
  have OP2 := Lib.hid ho
  clear hm ho
  have OX0 := Lib.hid (OX0.out.below hb)
  have OX2 := Lib.hid (OX2.out.below hb)
  clear hb
  go_wp2_with (fail)
  refine (eqMsgS _ _ _ _ X0 P2 _ OX0.out.len OX0.out.rd OP2.out.rd).mono ?_
  rintro e w10 ⟨he, hb⟩
  obtain rfl := he.trans (ret_bool (show decide (X0.map MgP.mg = P2.map MgP.mg) = true by rw [MX0.out, MP2.out]; exact decide_eq_true rfl))
  have BW := Lib.hid (Below.and BW.out hb)
  have OX2 := Lib.hid (OX2.out.below hb)
  clear hb he bb
  go_wp2_with (fail)
  refine (toVoteS B b V _ SP1.out SP2.out (VR.out.below BW.out)).mono ?_
  rintro e w11 ⟨V2, rfl, hm, ho, hb⟩
  have BW := Lib.hid (Below.and BW.out hb)
  have MV2 := Lib.hid hm
  have OV2 := Lib.hid ho
  clear hm ho
  have OX2 := Lib.hid (OX2.out.below hb)
  clear hb
  go_wp2_with (fail)
  refine (eqVoteS _ _ _ _ X2 V2 _ OX2.out.len OX2.out.rd OV2.out.rd).mono ?_
  rintro e w12 ⟨he, hb⟩
  obtain rfl := he.trans (ret_bool (show decide (X2.map VtP.vt = V2.map VtP.vt) = true by rw [MX2.out, MV2.out]; exact decide_eq_true rfl))
  have BW := Lib.hid (Below.and BW.out hb)
  clear hb he
  go_wp2
  go_light
  go_ret
  exact ⟨rfl, BW.out⟩

end Go.Proofs.Ytlokhgnbcbnmpaa
