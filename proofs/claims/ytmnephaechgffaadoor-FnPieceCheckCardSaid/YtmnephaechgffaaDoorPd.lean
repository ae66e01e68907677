/- Whether texts are pieces, both ways. -/
import Derived.Test.YtmnephaechgffaaDoorPa
namespace Go.Proofs.YtmnephaechgffaaDoor
open Go.ChangeShapes Go.WideShapes Go.ChangeAt Go.RowKit
set_option linter.unusedVariables false
set_option linter.unusedSimpArgs false

def wfI (I : List ByteArray) (x : ByteArray) : Bool := decide (I.length ≤ 15) && (I.all (fun y => y.size == 12) && (decide (x.size ≤ 12) && (!(x.size == 0) || I.length == 0)))
def wfB (D : List ByteArray) : Bool :=
  match D.reverse with
  | [] => false
  | x :: r => wfI r.reverse x
theorem wfB_app (I : List ByteArray) (x : ByteArray) : wfB (I ++ [x]) = wfI I x := by simp [wfB]
theorem split_last (D : List ByteArray) : D = [] ∨ ∃ I x, D = I ++ [x] := by
  rcases hD : D.reverse with _ | ⟨x, r⟩
  · exact .inl (by simpa using hD)
  · exact .inr ⟨r.reverse, x, by have := congrArg List.reverse hD; simpa using this⟩
theorem bs_empty {x : ByteArray} (h : x.size = 0) : x = ⟨#[]⟩ := by
  apply ByteArray.ext
  exact Array.eq_empty_of_size_eq_zero h
theorem bs_ne {x : ByteArray} (h : x.size ≠ 0) : x.toList.isEmpty = false := by
  rcases hx : x.toList.isEmpty with _ | _
  · rfl
  · exfalso
    apply h
    have h1 : x.toList = [] := List.isEmpty_iff.1 hx
    rw [ByteArray.toList_eq] at h1
    have h2 := congrArg List.length h1
    show x.data.size = 0
    simpa using h2
theorem all_take {I : List ByteArray} {j : Nat} (h : j < I.length) (ha : (I.take j).all (fun y => y.size == 12) = true) (hx : (I[j].size == 12) = true) : (I.take (j + 1)).all (fun y => y.size == 12) = true := by
  rw [List.take_succ_eq_append_getElem h, List.all_append, ha]
  simpa using hx
theorem all_not {I : List ByteArray} {j : Nat} (h : j < I.length) (hx : (I[j].size == 12) = false) : I.all (fun y => y.size == 12) = false := by
  rw [List.all_eq_false]
  exact ⟨I[j], List.getElem_mem h, by rw [hx]; simp⟩

set_option maxRecDepth 100000 in
set_option maxHeartbeats 4000000 in
theorem implWell (D : List ByteArray) (A : Option Addr) (a : Nat) (w : World) (hD : D.length ≤ 1048576) (hc : D.length ≤ a) (hr : Rd 1 cS w A D) :
    Calls Tryd.prog 51 #[.slice A D.length a] w fun e w' => e = .returned (.bool (wfB D)) ∧ Below w.heap.size w w' := by
  rcases split_last D with rfl | ⟨I, x, rfl⟩
  · have ew : IntKind.i64.wrap (-1 : Int) = -1 := IntWalk.i64_in _ (by omega)
    clear hr
    go_enter Tryd.func51, Tryd.ntmps51
    go_wp2_with (fail)
    refine (implIn _ _ _ _).mono ?_
    rintro e w1 ⟨rfl, rfl⟩
    rw [show inB (-1) 0 15 = false from rfl]
    go_wp2
    go_light
    go_ret
    exact ⟨rfl, Below.refl _ _⟩
  have HR := Lib.hid hr
  have hk : (I ++ [x]).length = I.length + 1 := by simp
  rw [hk] at hD hc ⊢
  obtain ⟨k, hkk⟩ : ∃ k, k = I.length := ⟨_, rfl⟩
  rw [← hkk] at hD hc ⊢
  have HK := Lib.hid hkk
  have HL := Lib.hid hk
  clear hr hk hkk
  have ew : IntKind.i64.wrap (k : Int) = (k : Int) := IntWalk.i64_in _ (by omega)
  have i9 : (0 : Int) ≤ (k : Int) := by omega
  have i8 : (k : Int) ≤ (a : Int) := by omega
  have BB : Hid (Below w.heap.size w w) := Below.refl _ _
  go_enter Tryd.func51, Tryd.ntmps51
  go_wp2_with (fail)
  refine (implIn _ _ _ _).mono ?_
  rintro e w1 ⟨rfl, rfl⟩
  rcases h1 : inB (k : Int) 0 15 with _ | _
  · have hk16 : ¬ k ≤ 15 := by
      intro h
      simp [inB] at h1
      omega
    clear h1
    have HW := Lib.hid (show wfI I x = false by unfold wfI; rw [← HK.out, decide_eq_false hk16]; rfl)
    go_wp2
    go_light
    go_ret
    exact ⟨ret_bool (by rw [wfB_app, HW.out]), BB.out⟩
  have hk16 : k ≤ 15 := by
    simp [inB] at h1
    omega
  clear h1
  obtain ⟨gx, ox, rfl, cx⟩ := HR.out k (by rw [HL.out]; have := HK.out; omega)
  have HX := Lib.hid (show (I ++ [x])[k]'(by rw [HL.out]; have := HK.out; omega) = x by have := HK.out; subst this; simp)
  rw [HX.out] at cx
  have CX := Lib.hid (show w.cell? ⟨gx, ox + k, none⟩ = some (.string x) by simpa using cx 0 _ rfl)
  clear cx HX
  go_wp2
  go_loopw [16] (fun v wr => ∃ j : Nat, j ≤ k ∧ v = .int .i64 (j : Int) ∧ wr = w ∧ Hid ((I.take j).all (fun y => y.size == 12) = true)) (fun v _ => k - (intOf v).toNat)
  case atStart => exact ⟨0, Nat.zero_le _, rfl, rfl, by simp [Hid]⟩
  case round =>
    obtain ⟨j, hj, rfl, rfl, ha⟩ := hrel
    by_cases hlt : j < k
    · have i1 : (j : Int) < (k : Int) := by omega
      have i0 : (0 : Int) ≤ (j : Int) := by omega
      have hjI : j < I.length := by have := HK.out; omega
      obtain ⟨g, o, hgo, ca⟩ := HR.out j (by rw [HL.out]; omega)
      cases hgo
      have hy : (I ++ [x])[j]'(by rw [HL.out]; omega) = I[j] := List.getElem_append_left hjI
      rw [hy] at ca
      have xr0 : wr.cell? ⟨gx, ox + j, none⟩ = some (.string I[j]) := by simpa using ca 0 _ rfl
      clear ca hy
      have HA := Lib.hid (fun h => all_take hjI ha.out h)
      have HN := Lib.hid (fun h => all_not hjI h)
      generalize I[j] = y at xr0 HA HN
      by_cases h12 : y.size = 12
      · have e12 : ((y.size : Int) != 12) = false := by simp [h12]
        have HA2 := Lib.hid (HA.out (by simp [h12]))
        clear h12
        go_wp2
        go_roundw
        case rel => exact ⟨j + 1, by omega, by go_num, trivial, HA2.out⟩
        case measure => (simp [intOf]; try omega)
      · have e12 : ((y.size : Int) != 12) = true := by simp; omega
        have HN2 := Lib.hid (HN.out (by simpa using h12))
        clear h12
        have HW := Lib.hid (show wfI I x = false by unfold wfI; rw [HN2.out]; simp)
        go_wp2
        go_light
        go_ret
        exact ⟨ret_bool (by rw [wfB_app, HW.out]), BB.out⟩
    · have i1 : ¬ (j : Int) < (k : Int) := by omega
      obtain rfl : j = k := by omega
      have HALL := Lib.hid (show I.all (fun y => y.size == 12) = true by have := ha.out; rw [HK.out, List.take_length] at this; exact this)
      have hcx := CX.out
      clear ha
      have i2 : (j : Int) < (j : Int) + 1 := by omega
      by_cases h13 : x.size ≤ 12
      · have e13 : (x.size : Int) ≤ 12 := by omega
        by_cases hz : x.size = 0
        · obtain rfl := bs_empty hz
          rcases hj0 : (j == 0) with _ | _
          · have ej : ((j : Int) == 0) = false := by simp at hj0 ⊢; omega
            have HJ := Lib.hid hj0
            clear hj0 hz
            have HW := Lib.hid (show wfI I ⟨#[]⟩ = false by unfold wfI; rw [HALL.out, ← HK.out, HJ.out, decide_eq_true hk16]; rfl)
            go_wp2
            go_light
            go_ret
            exact ⟨ret_bool (by rw [wfB_app, HW.out]), BB.out⟩
          · have hj1 : j = 0 := by simpa using hj0
            have ej : ((j : Int) == 0) = true := by rw [hj1]; rfl
            clear hj1
            have HJ := Lib.hid hj0
            clear hj0 hz
            have HW := Lib.hid (show wfI I ⟨#[]⟩ = true by unfold wfI; rw [HALL.out, ← HK.out, HJ.out, decide_eq_true hk16]; rfl)
            go_wp2
            go_light
            go_ret
            exact ⟨ret_bool (by rw [wfB_app, HW.out]), BB.out⟩
        · have e14 := bs_ne hz
          have HZ := Lib.hid hz
          clear hz
          have HW := Lib.hid (show wfI I x = true by unfold wfI; rw [HALL.out, ← HK.out, decide_eq_true hk16, decide_eq_true h13]; simp [HZ.out])
          go_wp2
          go_light
          go_ret
          exact ⟨ret_bool (by rw [wfB_app, HW.out]), BB.out⟩
      · have e13 : ¬ (x.size : Int) ≤ 12 := by omega
        have H13 := Lib.hid h13
        clear h13
        have HW := Lib.hid (show wfI I x = false by unfold wfI; rw [HALL.out, decide_eq_false H13.out]; simp)
        go_wp2
        go_light
        go_ret
        exact ⟨ret_bool (by rw [wfB_app, HW.out]), BB.out⟩

end Go.Proofs.YtmnephaechgffaaDoor
