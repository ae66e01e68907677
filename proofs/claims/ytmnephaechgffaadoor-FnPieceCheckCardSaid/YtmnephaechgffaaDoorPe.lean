/- Whether texts are pieces, the model's way; pieces joined, both ways. -/
import Derived.Test.YtmnephaechgffaaDoorPd
import Derived.Test.YtmnephaechgffaaDoorShelf
import Derived.Lib.Join
namespace Go.Proofs.YtmnephaechgffaaDoor
open Go.ChangeShapes Go.WideShapes Go.ChangeAt Go.RowKit
set_option linter.unusedVariables false
set_option linter.unusedSimpArgs false

set_option maxRecDepth 100000 in
set_option maxHeartbeats 4000000 in
theorem specL12 (D : List ByteArray) (A : Option Addr) (a : Nat) (w : World) (hD : D.length ≤ 1048576) (hr : Rd 1 cS w A D) :
    Calls Tryd.prog 48 #[.slice A D.length a] w fun e w' => e = .returned (.bool (wfB D)) ∧ Below w.heap.size w w' := by
  rcases split_last D with rfl | ⟨I, x, rfl⟩
  · clear hr
    go_enter Tryd.func48, Tryd.ntmps48
    go_wp2
    go_loopw [3] (fun v wr => v = .int .i64 0 ∧ wr = w) (fun v _ => 0)
    case atStart => exact ⟨rfl, rfl⟩
    case round =>
      obtain ⟨rfl, rfl⟩ := hrel
      go_wp2_with (fail)
      refine (specIn _ _ _ _).mono ?_
      rintro e w1 ⟨rfl, rfl⟩
      rw [show inB 0 1 16 = false from rfl]
      go_wp2
      go_light
      go_ret
      exact ⟨rfl, Below.refl _ _⟩
  have HR := Lib.hid hr
  have hk : (I ++ [x]).length = I.length + 1 := by simp
  rw [hk] at hD ⊢
  obtain ⟨k, hkk⟩ : ∃ k, k = I.length := ⟨_, rfl⟩
  rw [← hkk] at hD ⊢
  have HK := Lib.hid hkk
  have HL := Lib.hid hk
  clear hr hk hkk
  have ew : IntKind.i64.wrap (k : Int) = (k : Int) := IntWalk.i64_in _ (by omega)
  have i9 : (0 : Int) ≤ (k : Int) := by omega
  have BB : Hid (Below w.heap.size w w) := Below.refl _ _
  obtain ⟨gx, ox, rfl, cx⟩ := HR.out k (by rw [HL.out]; have := HK.out; omega)
  have HX := Lib.hid (show (I ++ [x])[k]'(by rw [HL.out]; have := HK.out; omega) = x by have := HK.out; subst this; simp)
  rw [HX.out] at cx
  have CX := Lib.hid (show w.cell? ⟨gx, ox + k, none⟩ = some (.string x) by simpa using cx 0 _ rfl)
  clear cx HX
  go_enter Tryd.func48, Tryd.ntmps48
  go_wp2
  go_loopw [3] (fun v wr => ∃ j : Nat, j ≤ k + 1 ∧ v = .int .i64 (j : Int) ∧ wr = w ∧ Hid ((I.take j).all (fun y => y.size == 12) = true) ∧ Hid (j = k + 1 → x.size ≤ 12)) (fun v _ => k + 1 - (intOf v).toNat)
  case atStart => exact ⟨0, Nat.zero_le _, rfl, rfl, by simp [Hid], fun h => by omega⟩
  case round =>
    obtain ⟨j, hj, rfl, rfl, ha, hx⟩ := hrel
    have j0 : (0 : Int) ≤ (j : Int) := by omega
    by_cases hlt : j < k
    · have i1 : (j : Int) < (k : Int) := by omega
      have i2 : (j : Int) < (k : Int) + 1 := by omega
      have hjI : j < I.length := by have := HK.out; omega
      obtain ⟨g, o, hgo, ca⟩ := HR.out j (by rw [HL.out]; omega)
      cases hgo
      have hy : (I ++ [x])[j]'(by rw [HL.out]; omega) = I[j] := List.getElem_append_left hjI
      rw [hy] at ca
      have xr0 : wr.cell? ⟨gx, ox + j, none⟩ = some (.string I[j]) := by simpa using ca 0 _ rfl
      clear ca hy
      have HA := Lib.hid (fun h => all_take hjI ha.out h)
      have HN := Lib.hid (fun h => all_not hjI h)
      generalize I[j] = y at xr0 HA HN
      by_cases h13 : 12 < y.size
      · have e13 : (12 : Int) < (y.size : Int) := by omega
        have HN2 := Lib.hid (HN.out (by simp; omega))
        clear h13
        have HW := Lib.hid (show wfI I x = false by unfold wfI; rw [HN2.out]; simp)
        go_wp2
        go_light
        go_ret
        exact ⟨ret_bool (by rw [wfB_app, HW.out]), BB.out⟩
      · have e13 : ¬ (12 : Int) < (y.size : Int) := by omega
        by_cases h12 : y.size < 12
        · have e12 : (y.size : Int) < 12 := by omega
          have HN2 := Lib.hid (HN.out (by simp; omega))
          clear h12
          have HW := Lib.hid (show wfI I x = false by unfold wfI; rw [HN2.out]; simp)
          go_wp2
          go_light
          go_ret
          exact ⟨ret_bool (by rw [wfB_app, HW.out]), BB.out⟩
        · have e12 : ¬ (y.size : Int) < 12 := by omega
          have HA2 := Lib.hid (HA.out (by simp; omega))
          have HX3 : Hid (j + 1 = k + 1 → x.size ≤ 12) := fun h => by omega
          clear h12 h13
          go_wp2
          go_roundw
          case rel => exact ⟨j + 1, by omega, by go_num, trivial, HA2.out, HX3.out⟩
          case measure => (simp [intOf]; try omega)
    · by_cases hjk : j = k
      · subst hjk
        have xr0 := CX.out
        have i2 : (j : Int) < (j : Int) + 1 := by omega
        have HA2 : Hid ((I.take (j + 1)).all (fun y => y.size == 12) = true) := by
          have := ha.out
          rw [HK.out, List.take_length] at this
          show _ = _
          rw [List.take_of_length_le (by have := HK.out; omega)]
          exact this
        by_cases h13 : 12 < x.size
        · have e13 : (12 : Int) < (x.size : Int) := by omega
          have H13 := Lib.hid (show ¬ x.size ≤ 12 by omega)
          clear h13
          have HW := Lib.hid (show wfI I x = false by unfold wfI; rw [decide_eq_false H13.out]; simp)
          go_wp2
          go_light
          go_ret
          exact ⟨ret_bool (by rw [wfB_app, HW.out]), BB.out⟩
        · have e13 : ¬ (12 : Int) < (x.size : Int) := by omega
          have H13 := Lib.hid (show x.size ≤ 12 by omega)
          clear h13
          go_wp2
          go_roundw
          case rel => exact ⟨j + 1, by omega, by go_num, trivial, HA2.out, fun _ => H13.out⟩
          case measure => (simp [intOf]; try omega)
      · obtain rfl : j = k + 1 := by omega
        have H13 := Lib.hid (hx.out rfl)
        have HALL := Lib.hid (show I.all (fun y => y.size == 12) = true by have := ha.out; rw [List.take_of_length_le (by have := HK.out; omega)] at this; exact this)
        have i2 : ¬ ((k : Int) + 1) < (k : Int) + 1 := by omega
        clear hx ha
        have hcx := CX.out
        go_wp2_with (fail)
        refine (specIn _ _ _ _).mono ?_
        rintro e w1 ⟨rfl, rfl⟩
        rcases h1 : inB ((k : Int) + 1) 1 16 with _ | _
        · have hk16 : ¬ k ≤ 15 := by
            intro h
            simp [inB] at h1
            omega
          clear h1
          have HW := Lib.hid (show wfI I x = false by unfold wfI; rw [← HK.out, decide_eq_false hk16]; rfl)
          go_wp2
          go_light
          go_ret
          exact ⟨ret_bool (by rw [wfB_app, HW.out]), BB.out⟩
        have hk16 : k ≤ 15 := by
          simp [inB] at h1
          omega
        clear h1
        have i3 : (k : Int) < (k : Int) + 1 := by omega
        by_cases hk0 : k = 0
        · have ek : (((k : Int) + 1) == 1) = true := by rw [hk0]; rfl
          have HK0 := Lib.hid (show (k == 0) = true by rw [hk0]; rfl)
          clear hk0
          have HW := Lib.hid (show wfI I x = true by unfold wfI; rw [HALL.out, ← HK.out, HK0.out, decide_eq_true hk16, decide_eq_true H13.out]; simp)
          go_wp2
          go_light
          go_ret
          exact ⟨ret_bool (by rw [wfB_app, HW.out]), BB.out⟩
        · have ek : (((k : Int) + 1) == 1) = false := by simp; omega
          have HK0 := Lib.hid (show (k == 0) = false by simpa using hk0)
          by_cases hz : x.size = 0
          · obtain rfl := bs_empty hz
            clear hz hk0
            have HW := Lib.hid (show wfI I ⟨#[]⟩ = false by unfold wfI; rw [HALL.out, ← HK.out, HK0.out, decide_eq_true hk16]; rfl)
            go_wp2
            go_light
            go_ret
            exact ⟨ret_bool (by rw [wfB_app, HW.out]), BB.out⟩
          · have e14 := bs_ne hz
            have HZ := Lib.hid hz
            clear hz hk0
            have HW := Lib.hid (show wfI I x = true by unfold wfI; rw [HALL.out, ← HK.out, HK0.out, decide_eq_true hk16, decide_eq_true H13.out]; simp [HZ.out])
            go_wp2
            go_light
            go_ret
            exact ⟨ret_bool (by rw [wfB_app, HW.out]), BB.out⟩

end Go.Proofs.YtmnephaechgffaaDoor
