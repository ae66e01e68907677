/- A text drawn, and what is read is what would be written: the law. -/
import Derived.Test.YtolepfbhhmganaaDoorSy
namespace Go.Proofs.YtolepfbhhmganaaDoor
open Go.ChangeShapes Go.WideShapes Go.ChangeAt Go.RowKit
set_option linter.unusedVariables false
set_option linter.unusedSimpArgs false

theorem put_small (r : Rq) : (putT r).length ≤ 200 := by
  rcases hn : nullB r with _ | _
  · rcases hq : rqB r with _ | _
    · have : putT r = [] := by unfold putT; rw [hn, hq]; rfl
      rw [this]; decide
    · rw [put_ok hq]
      obtain ⟨b1, b2, b3, b4, b5⟩ := rq_bd (show reqB r.c r.n r.o r.x r.y = true from hq)
      have h1 := itoa_len r.c (by omega) (by omega)
      have h2 := itoa_len r.n (by omega) (by omega)
      have h3 := itoa_len r.x (by omega) (by omega)
      have h4 := itoa_len r.y (by omega) (by omega)
      have h5 : (wordN r.o.toNat).length ≤ 4 := by
        have : r.o.toNat = 1 ∨ r.o.toNat = 2 ∨ r.o.toNat = 3 ∨ r.o.toNat = 4 ∨ r.o.toNat = 5 := by omega
        rcases this with e | e | e | e | e <;> rw [e] <;> decide
      rw [putN_five]
      unfold five
      simp only [List.length_append, List.length_cons]
      omega
  · have : putT r = [110, 111, 110, 101] := by unfold putT; rw [hn]; rfl
    rw [this]; decide
/-- What is read as a request is that request's text. -/
theorem get_put {l : List UInt8} {r : Rq} (h : getT l = (r, true)) : putT r = l := by
  unfold getT at h
  split at h
  · rename_i e
    cases h
    rw [e]; rfl
  · split at h
    · rename_i e
      cases h
      unfold goodB at e
      rw [Bool.and_eq_true] at e
      exact of_decide_eq_true e.2
    · cases h

set_option maxRecDepth 100000 in
set_option maxHeartbeats 2000000 in
theorem drawReqGet {w : World} {A : Option Addr} {n c : Nat} (hn : n ≤ 1048576) (hc : n ≤ c) (hb : InB w A n) :
    Calls Tryd.prog 16 #[.slice A n c] w fun e w' => ∃ z : ByteArray, e = .returned (.string z) ∧ z.size ≤ 2000 ∧ Below w.heap.size w w' := by
  have HB := Lib.hid hb
  clear hb
  go_enter Tryd.func16, Tryd.ntmps16
  go_wp2_with (fail)
  refine (l20Open hn hc HB.out).mono ?_
  rintro e w1 ⟨m, rfl, hr, hbl⟩
  have RD := Lib.hid hr
  have BL := Lib.hid hbl
  have RLT := Lib.hid hr.lt
  clear hr hbl
  go_wp2_with (fail)
  refine (l20AnyReq RD.out (by omega)).mono ?_
  rintro e w2 ⟨v0, v1, v2, v3, v4, rfl, q, q0, q1, hr, hgr⟩
  have BL := Lib.hid (BL.out.grown hgr BL.out.size (by simp))
  have RD := Lib.hid hr
  clear hr hgr
  unfold req
  go_wp2_with (fail)
  refine (specReqPut ⟨v0, v1, v2, v3, v4⟩ _).mono ?_
  rintro e w3 ⟨rfl, hb⟩
  have HS := Lib.hid (put_small ⟨v0, v1, v2, v3, v4⟩)
  obtain ⟨L, hL⟩ : ∃ L, putT ⟨v0, v1, v2, v3, v4⟩ = L := ⟨_, rfl⟩
  rw [hL] at HS ⊢
  clear hL
  have HZ : Hid (ByteArray.size ⟨L.toArray⟩ ≤ 900) := by have h1 := HS.out; have : ByteArray.size ⟨L.toArray⟩ = L.length := by simp [ByteArray.size]
                                                         show _ ≤ _; omega
  have BL := Lib.hid (Below.and BL.out hb)
  have RD := Lib.hid (RD.out.below hb)
  clear hb HS
  go_wp2_with (fail)
  refine (pickR 2 RD.out (by omega) (by omega) (by omega)).mono ?_
  rintro e w4 ⟨d, d0, d1, rfl, q2, q20, q21, hr, hgr⟩
  have BL := Lib.hid (BL.out.grown hgr BL.out.size (by simp))
  have RD := Lib.hid hr
  clear hr hgr
  have hd : d = 0 ∨ d = 1 := by omega
  clear d0 d1
  rcases hd with rfl | rfl
  · go_wp2
    go_light
    go_ret
    exact ⟨_, rfl, Nat.le_trans HZ.out (by omega), BL.out⟩
  · go_wp2_with (fail)
    refine (l20Bent ⟨L.toArray⟩ HZ.out RD.out (by omega)).mono ?_
    rintro e w5 ⟨z, rfl, hz, q3, q30, q31, hr, hgr⟩
    have BL := Lib.hid (BL.out.grown hgr BL.out.size (by simp))
    have HZ2 := Lib.hid hz
    clear hr hgr hz
    go_wp2
    go_light
    go_ret
    exact ⟨z, rfl, HZ2.out, BL.out⟩

set_option maxRecDepth 100000 in
set_option maxHeartbeats 8000000 in
theorem lawReqGet {w : World} {A : Option Addr} {m c : Nat} (hm : m ≤ maxLen) (hc : m ≤ c) (hb : InB w A m) (E : Env w) :
    Calls Tryd.prog 6 #[.slice A m c] w fun e w' => e = .returned (.bool true) ∧ Below w.heap.size w w' := by
  unfold maxLen at hm
  have HB := Lib.hid hb
  have E0 := Lib.hid E
  clear hb E
  go_enter Tryd.func6, Tryd.ntmps6
  by_cases hn : 1048576 < m
  · have e0 : (decide ((1048576 : Int) < (m : Int))) = true := by simp; omega
    go_wp2
    go_light
    go_ret
    exact ⟨rfl, Below.refl _ _⟩
  have e0 : (decide ((1048576 : Int) < (m : Int))) = false := by simp; omega
  go_wp2_with (fail)
  refine (drawReqGet (by omega) hc HB.out).mono ?_
  rintro e w1 ⟨z, rfl, hz, hbl⟩
  obtain ⟨L, rfl⟩ : ∃ L : List UInt8, z = ⟨L.toArray⟩ := ⟨z.data.toList, by simp⟩
  have BW := Lib.hid hbl
  have HZ : Hid (ByteArray.size ⟨L.toArray⟩ ≤ 1048576) := Nat.le_trans hz (by omega)
  obtain ⟨⟨⟨v0, v1, v2, v3, v4⟩, b⟩, hg⟩ : ∃ p, getT L = p := ⟨_, rfl⟩
  have HG := Lib.hid (getV_of hg)
  have HP : Hid (b = true → putT ⟨v0, v1, v2, v3, v4⟩ = L) := fun e => get_put (by rw [hg, e])
  have E1 := Lib.hid (E0.out.below BW.out)
  clear hbl e0 hn hz hg
  go_wp2_with (fail)
  refine (implReqGet ⟨L.toArray⟩ _ HZ.out E1.out).mono ?_
  rintro e w2 ⟨rfl, hb⟩
  rw [HG.out]
  have BW : Hid (Below w.heap.size w (w2.alloc (.cells #[.int .i64 v0, .int .i64 v1, .int .i64 v2, .int .i64 v3, .int .i64 v4] 25))) := (Below.and BW.out hb).alloc (Below.and BW.out hb).size _
  have K : Hid (Bkk (w2.alloc (.cells #[.int .i64 v0, .int .i64 v1, .int .i64 v2, .int .i64 v3, .int .i64 v4] 25)) w2.heap.size 25 #[.int .i64 v0, .int .i64 v1, .int .i64 v2, .int .i64 v3, .int .i64 v4]) := Bkk.new w2
  clear hb E1
  go_wp2_with (fail)
  refine (specReqGet ⟨L.toArray⟩ _ HZ.out).mono ?_
  rintro e w3 ⟨rfl, hb⟩
  rw [HG.out]
  have BW : Hid (Below w.heap.size w (w3.alloc (.cells #[.int .i64 v0, .int .i64 v1, .int .i64 v2, .int .i64 v3, .int .i64 v4] 25))) := (Below.and BW.out hb).alloc (Below.and BW.out hb).size _
  have K : Hid (Bkk (w3.alloc (.cells #[.int .i64 v0, .int .i64 v1, .int .i64 v2, .int .i64 v3, .int .i64 v4] 25)) w2.heap.size 25 #[.int .i64 v0, .int .i64 v1, .int .i64 v2, .int .i64 v3, .int .i64 v4]) := (K.out.below hb).alloc _
  have lk : w2.heap.size < w3.heap.size := by have := hb.size; simp at this; omega
  clear hb
  have x0 : (w3.alloc (.cells #[.int .i64 v0, .int .i64 v1, .int .i64 v2, .int .i64 v3, .int .i64 v4] 25)).cell? ⟨w2.heap.size, 0, none⟩ = some (.int .i64 v0) := K.out.cell 0
  have x1 : (w3.alloc (.cells #[.int .i64 v0, .int .i64 v1, .int .i64 v2, .int .i64 v3, .int .i64 v4] 25)).cell? ⟨w2.heap.size, 1, none⟩ = some (.int .i64 v1) := K.out.cell 1
  have x2 : (w3.alloc (.cells #[.int .i64 v0, .int .i64 v1, .int .i64 v2, .int .i64 v3, .int .i64 v4] 25)).cell? ⟨w2.heap.size, 2, none⟩ = some (.int .i64 v2) := K.out.cell 2
  have x3 : (w3.alloc (.cells #[.int .i64 v0, .int .i64 v1, .int .i64 v2, .int .i64 v3, .int .i64 v4] 25)).cell? ⟨w2.heap.size, 3, none⟩ = some (.int .i64 v3) := K.out.cell 3
  have x4 : (w3.alloc (.cells #[.int .i64 v0, .int .i64 v1, .int .i64 v2, .int .i64 v3, .int .i64 v4] 25)).cell? ⟨w2.heap.size, 4, none⟩ = some (.int .i64 v4) := K.out.cell 4
  have hEq := fun W => eqlReq ⟨v0, v1, v2, v3, v4⟩ ⟨v0, v1, v2, v3, v4⟩ W
  have hNe := fun W => neqReq ⟨v0, v1, v2, v3, v4⟩ ⟨v0, v1, v2, v3, v4⟩ W
  simp only [decide_true, Bool.not_true] at hEq hNe
  rcases b with _ | _
  · clear HP
    go_wp2
    go_light
    go_ret
    exact ⟨rfl, BW.out⟩
  · have HQ : Hid (putT ⟨v0, v1, v2, v3, v4⟩ = L) := HP.out rfl
    clear HP
    go_wp2_with (fail)
    refine (implReqPut ⟨v0, v1, v2, v3, v4⟩ _ (E0.out.below BW.out).tab).mono ?_
    rintro e w4 ⟨rfl, hb⟩
    rw [HQ.out]
    have BW := Lib.hid (Below.and BW.out hb)
    clear hb
    go_wp2
    go_light
    go_ret
    exact ⟨rfl, BW.out⟩

end Go.Proofs.YtolepfbhhmganaaDoor
