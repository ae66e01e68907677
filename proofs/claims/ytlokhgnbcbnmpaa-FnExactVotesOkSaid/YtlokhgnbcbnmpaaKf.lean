/- What is proved to be ready, and done: both ways. -/
import Derived.Test.YtlokhgnbcbnmpaaKe
namespace Go.Proofs.Ytlokhgnbcbnmpaa
open Go.ChangeShapes Go.WideShapes Go.ChangeAt Go.RowKit
set_option linter.unusedVariables false
set_option linter.unusedSimpArgs false

def readyM (P : List MgP) (c : Cl) : Bool := offB P c && decide (2 ≤ cntTo P 3 c 4)
def doneM (P : List MgP) (c : Cl) : Bool := readyM P c && decide (3 ≤ cntTo P 4 c 4)
theorem any_congr {f : MgP → Bool} (hf : ∀ m m' : MgP, m.mg = m'.mg → f m = f m') : ∀ P Q : List MgP, P.map MgP.mg = Q.map MgP.mg → P.any f = Q.any f := by
  intro P
  induction P with
  | nil => intro Q h; cases Q with
    | nil => rfl
    | cons b Q => simp at h
  | cons a P ih => intro Q h; cases Q with
    | nil => simp at h
    | cons b Q =>
      simp only [List.map_cons, List.cons.injEq] at h
      rw [List.any_cons, List.any_cons, hf a b h.1, ih Q h.2]
theorem propB_congr (c : Cl) (m m' : MgP) (h : m.mg = m'.mg) : propB m c = propB m' c := by
  simp only [MgP.mg, Mg.mk.injEq] at h
  obtain ⟨h1, h2, h3, h4, h5, h6, h7⟩ := h
  unfold propB pickR
  rw [h1, h2, h3, h4, h5, allC_congr h7]
theorem sB_congr (kind k : Int) (c : Cl) (m m' : MgP) (h : m.mg = m'.mg) : sB kind k c m = sB kind k c m' := by
  simp only [MgP.mg, Mg.mk.injEq] at h
  obtain ⟨h1, h2, h3, h4, h5, h6, h7⟩ := h
  unfold sB
  rw [h1, h2, h3, h4, h5]
theorem cntTo_congr {P Q : List MgP} (h : P.map MgP.mg = Q.map MgP.mg) (kind : Int) (c : Cl) (j : Nat) : cntTo P kind c j = cntTo Q kind c j := by
  have e : ∀ k : Int, cntK P kind c k = cntK Q kind c k := fun k => by
    unfold cntK sayB
    rw [any_congr (sB_congr kind k c) P Q h]
  unfold cntTo
  simp only [e]
theorem readyM_congr {P Q : List MgP} (h : P.map MgP.mg = Q.map MgP.mg) (c : Cl) : readyM P c = readyM Q c := by
  unfold readyM offB
  rw [any_congr (propB_congr c) P Q h, cntTo_congr h]
theorem doneM_congr {P Q : List MgP} (h : P.map MgP.mg = Q.map MgP.mg) (c : Cl) : doneM P c = doneM Q c := by
  unfold doneM
  rw [readyM_congr h, cntTo_congr h]

set_option maxRecDepth 100000 in
set_option maxHeartbeats 1000000 in
theorem implClaimReady (A : Option Addr) (a : Nat) (P : List MgP) (c : Cl) (w : World) (hn : P.length ≤ maxLen) (hr : RdMs w A P) :
    Calls Try.prog 28 #[.slice A P.length a, c.val] w fun e w' => e = .returned (.bool (clB c && readyM P c)) ∧ Below w.heap.size w w' := by
  have BW : Hid (Below w.heap.size w (w.alloc (.cells #[.int .i64 c.s, .int .i64 c.v, .int .i64 c.r.c, .int .i64 c.r.n, .int .i64 c.r.o, .int .i64 c.r.x, .int .i64 c.r.y] 55))) := (Below.refl _ _).alloc (Nat.le_refl _) _
  have KC : Hid (Blk (w.alloc (.cells #[.int .i64 c.s, .int .i64 c.v, .int .i64 c.r.c, .int .i64 c.r.n, .int .i64 c.r.o, .int .i64 c.r.x, .int .i64 c.r.y] 55)) w.heap.size 55 #[.int .i64 c.s, .int .i64 c.v, .int .i64 c.r.c, .int .i64 c.r.n, .int .i64 c.r.o, .int .i64 c.r.x, .int .i64 c.r.y]) := Blk.new w
  have HR := Lib.hid (RdMs.below hr BW.out)
  clear hr
  go_enter Try.func28, Try.ntmps28
  go_wp2_with (fail)
  refine (claimValid c _).mono ?_
  rintro e w1 ⟨rfl, hb⟩
  have BW := Lib.hid (Below.and BW.out hb)
  have KC := Lib.hid (KC.out.below hb)
  have HR := Lib.hid (HR.out.below hb)
  clear hb
  have y0 : w1.cell? ⟨w.heap.size, 0, none⟩ = some (.int .i64 c.s) := KC.out.cell 0
  have y1 : w1.cell? ⟨w.heap.size, 1, none⟩ = some (.int .i64 c.v) := KC.out.cell 1
  have y2 : w1.cell? ⟨w.heap.size, 2, none⟩ = some (.int .i64 c.r.c) := KC.out.cell 2
  have y3 : w1.cell? ⟨w.heap.size, 3, none⟩ = some (.int .i64 c.r.n) := KC.out.cell 3
  have y4 : w1.cell? ⟨w.heap.size, 4, none⟩ = some (.int .i64 c.r.o) := KC.out.cell 4
  have y5 : w1.cell? ⟨w.heap.size, 5, none⟩ = some (.int .i64 c.r.x) := KC.out.cell 5
  have y6 : w1.cell? ⟨w.heap.size, 6, none⟩ = some (.int .i64 c.r.y) := KC.out.cell 6
  rcases h1 : clB c with _ | _
  ·
    go_wp2
    go_light
    go_ret
    exact ⟨ret_bool (by rw [h1]; rfl), BW.out⟩
  have hv : inB c.v 0 6 = true := by simp only [clB, Bool.and_eq_true] at h1; exact h1.2.1
  have HV := Lib.hid hv
  clear hv
  go_wp2_with (fail)
  refine (proposed A a P c _ hn HR.out HV.out).mono ?_
  rintro e w2 ⟨rfl, hb⟩
  clear y0 y1 y2 y3 y4 y5 y6
  have BW := Lib.hid (Below.and BW.out hb)
  have KC := Lib.hid (KC.out.below hb)
  have HR := Lib.hid (HR.out.below hb)
  clear hb
  have y0 : w2.cell? ⟨w.heap.size, 0, none⟩ = some (.int .i64 c.s) := KC.out.cell 0
  have y1 : w2.cell? ⟨w.heap.size, 1, none⟩ = some (.int .i64 c.v) := KC.out.cell 1
  have y2 : w2.cell? ⟨w.heap.size, 2, none⟩ = some (.int .i64 c.r.c) := KC.out.cell 2
  have y3 : w2.cell? ⟨w.heap.size, 3, none⟩ = some (.int .i64 c.r.n) := KC.out.cell 3
  have y4 : w2.cell? ⟨w.heap.size, 4, none⟩ = some (.int .i64 c.r.o) := KC.out.cell 4
  have y5 : w2.cell? ⟨w.heap.size, 5, none⟩ = some (.int .i64 c.r.x) := KC.out.cell 5
  have y6 : w2.cell? ⟨w.heap.size, 6, none⟩ = some (.int .i64 c.r.y) := KC.out.cell 6
  rcases h2 : offB P c with _ | _
  ·
    go_wp2
    go_light
    go_ret
    exact ⟨ret_bool (by unfold readyM; rw [h1, h2]; rfl), BW.out⟩
  go_wp2_with (fail)
  refine (enoughYes A a P c _ hn HR.out HV.out).mono ?_
  rintro e w3 ⟨rfl, hb⟩
  clear y0 y1 y2 y3 y4 y5 y6
  have BW := Lib.hid (Below.and BW.out hb)
  clear hb
  go_wp2
  go_light
  go_ret
  exact ⟨ret_bool (by unfold readyM; rw [h1, h2]; rfl), BW.out⟩

set_option maxRecDepth 100000 in
set_option maxHeartbeats 1000000 in
theorem implClaimDone (A : Option Addr) (a : Nat) (P : List MgP) (c : Cl) (w : World) (hn : P.length ≤ maxLen) (hr : RdMs w A P) :
    Calls Try.prog 31 #[.slice A P.length a, c.val] w fun e w' => e = .returned (.bool (clB c && doneM P c)) ∧ Below w.heap.size w w' := by
  have BW : Hid (Below w.heap.size w (w.alloc (.cells #[.int .i64 c.s, .int .i64 c.v, .int .i64 c.r.c, .int .i64 c.r.n, .int .i64 c.r.o, .int .i64 c.r.x, .int .i64 c.r.y] 55))) := (Below.refl _ _).alloc (Nat.le_refl _) _
  have KC : Hid (Blk (w.alloc (.cells #[.int .i64 c.s, .int .i64 c.v, .int .i64 c.r.c, .int .i64 c.r.n, .int .i64 c.r.o, .int .i64 c.r.x, .int .i64 c.r.y] 55)) w.heap.size 55 #[.int .i64 c.s, .int .i64 c.v, .int .i64 c.r.c, .int .i64 c.r.n, .int .i64 c.r.o, .int .i64 c.r.x, .int .i64 c.r.y]) := Blk.new w
  have HR := Lib.hid (RdMs.below hr BW.out)
  clear hr
  go_enter Try.func31, Try.ntmps31
  go_wp2_with (fail)
  refine (implClaimReady A a P c _ hn HR.out).mono ?_
  rintro e w1 ⟨rfl, hb⟩
  have BW := Lib.hid (Below.and BW.out hb)
  have KC := Lib.hid (KC.out.below hb)
  have HR := Lib.hid (HR.out.below hb)
  clear hb
  have y0 : w1.cell? ⟨w.heap.size, 0, none⟩ = some (.int .i64 c.s) := KC.out.cell 0
  have y1 : w1.cell? ⟨w.heap.size, 1, none⟩ = some (.int .i64 c.v) := KC.out.cell 1
  have y2 : w1.cell? ⟨w.heap.size, 2, none⟩ = some (.int .i64 c.r.c) := KC.out.cell 2
  have y3 : w1.cell? ⟨w.heap.size, 3, none⟩ = some (.int .i64 c.r.n) := KC.out.cell 3
  have y4 : w1.cell? ⟨w.heap.size, 4, none⟩ = some (.int .i64 c.r.o) := KC.out.cell 4
  have y5 : w1.cell? ⟨w.heap.size, 5, none⟩ = some (.int .i64 c.r.x) := KC.out.cell 5
  have y6 : w1.cell? ⟨w.heap.size, 6, none⟩ = some (.int .i64 c.r.y) := KC.out.cell 6
  have HE := Lib.hid (show (clB c && doneM P c) = ((clB c && readyM P c) && decide (3 ≤ cntTo P 4 c 4)) by unfold doneM; rw [Bool.and_assoc])
  rcases h1 : (clB c && readyM P c) with _ | _
  ·
    go_wp2
    go_light
    go_ret
    exact ⟨ret_bool (by rw [HE.out, h1]; rfl), BW.out⟩
  go_wp2_with (fail)
  refine (enoughSure A a P c _ hn HR.out).mono ?_
  rintro e w2 ⟨rfl, hb⟩
  clear y0 y1 y2 y3 y4 y5 y6
  have BW := Lib.hid (Below.and BW.out hb)
  clear hb
  go_wp2
  go_light
  go_ret
  exact ⟨ret_bool (by rw [HE.out, h1]; rfl), BW.out⟩

set_option maxRecDepth 100000 in
set_option maxHeartbeats 1000000 in
theorem l4Ready (A : Option Addr) (a : Nat) (P : List MgP) (c : Cl) (w : World) (hn : P.length ≤ maxLen) (hr : RdMs w A P) :
    Calls Try.prog 57 #[.slice A P.length a, c.val] w fun e w' => e = .returned (.bool (readyM P c)) ∧ Below w.heap.size w w' := by
  have BW : Hid (Below w.heap.size w (w.alloc (.cells #[.int .i64 c.s, .int .i64 c.v, .int .i64 c.r.c, .int .i64 c.r.n, .int .i64 c.r.o, .int .i64 c.r.x, .int .i64 c.r.y] 55))) := (Below.refl _ _).alloc (Nat.le_refl _) _
  have KC : Hid (Blk (w.alloc (.cells #[.int .i64 c.s, .int .i64 c.v, .int .i64 c.r.c, .int .i64 c.r.n, .int .i64 c.r.o, .int .i64 c.r.x, .int .i64 c.r.y] 55)) w.heap.size 55 #[.int .i64 c.s, .int .i64 c.v, .int .i64 c.r.c, .int .i64 c.r.n, .int .i64 c.r.o, .int .i64 c.r.x, .int .i64 c.r.y]) := Blk.new w
  have HR := Lib.hid (RdMs.below hr BW.out)
  clear hr
  go_enter Try.func57, Try.ntmps57
  go_wp2_with (fail)
  refine (l4Offered A a P c _ hn HR.out).mono ?_
  rintro e w1 ⟨rfl, hb⟩
  have BW := Lib.hid (Below.and BW.out hb)
  have KC := Lib.hid (KC.out.below hb)
  have HR := Lib.hid (HR.out.below hb)
  clear hb
  have y0 : w1.cell? ⟨w.heap.size, 0, none⟩ = some (.int .i64 c.s) := KC.out.cell 0
  have y1 : w1.cell? ⟨w.heap.size, 1, none⟩ = some (.int .i64 c.v) := KC.out.cell 1
  have y2 : w1.cell? ⟨w.heap.size, 2, none⟩ = some (.int .i64 c.r.c) := KC.out.cell 2
  have y3 : w1.cell? ⟨w.heap.size, 3, none⟩ = some (.int .i64 c.r.n) := KC.out.cell 3
  have y4 : w1.cell? ⟨w.heap.size, 4, none⟩ = some (.int .i64 c.r.o) := KC.out.cell 4
  have y5 : w1.cell? ⟨w.heap.size, 5, none⟩ = some (.int .i64 c.r.x) := KC.out.cell 5
  have y6 : w1.cell? ⟨w.heap.size, 6, none⟩ = some (.int .i64 c.r.y) := KC.out.cell 6
  rcases h1 : offB P c with _ | _
  ·
    go_wp2
    go_light
    go_ret
    exact ⟨ret_bool (by unfold readyM; rw [h1]; rfl), BW.out⟩
  go_wp2_with (fail)
  refine (l4Count A a P 3 c _ hn HR.out).mono ?_
  rintro e w2 ⟨rfl, hb⟩
  clear y0 y1 y2 y3 y4 y5 y6
  have BW := Lib.hid (Below.and BW.out hb)
  clear hb
  obtain ⟨z, hz⟩ : ∃ z, z = cntTo P 3 c 4 := ⟨_, rfl⟩
  rw [← hz]
  have HE := Lib.hid (show readyM P c = decide (2 ≤ z) by unfold readyM; rw [h1, hz]; rfl)
  clear hz
  rcases hd : decide (2 ≤ z) with _ | _
  · have hl : ¬ 2 ≤ z := of_decide_eq_false hd
    go_wp2
    go_light
    go_ret
    exact ⟨ret_bool (by rw [HE.out, hd]; simp; omega), BW.out⟩
  · have hl : 2 ≤ z := of_decide_eq_true hd
    go_wp2
    go_light
    go_ret
    exact ⟨ret_bool (by rw [HE.out, hd]; simp; omega), BW.out⟩

set_option maxRecDepth 100000 in
set_option maxHeartbeats 1000000 in
theorem l4Done (A : Option Addr) (a : Nat) (P : List MgP) (c : Cl) (w : World) (hn : P.length ≤ maxLen) (hr : RdMs w A P) :
    Calls Try.prog 61 #[.slice A P.length a, c.val] w fun e w' => e = .returned (.bool (doneM P c)) ∧ Below w.heap.size w w' := by
  have BW : Hid (Below w.heap.size w (w.alloc (.cells #[.int .i64 c.s, .int .i64 c.v, .int .i64 c.r.c, .int .i64 c.r.n, .int .i64 c.r.o, .int .i64 c.r.x, .int .i64 c.r.y] 55))) := (Below.refl _ _).alloc (Nat.le_refl _) _
  have KC : Hid (Blk (w.alloc (.cells #[.int .i64 c.s, .int .i64 c.v, .int .i64 c.r.c, .int .i64 c.r.n, .int .i64 c.r.o, .int .i64 c.r.x, .int .i64 c.r.y] 55)) w.heap.size 55 #[.int .i64 c.s, .int .i64 c.v, .int .i64 c.r.c, .int .i64 c.r.n, .int .i64 c.r.o, .int .i64 c.r.x, .int .i64 c.r.y]) := Blk.new w
  have HR := Lib.hid (RdMs.below hr BW.out)
  clear hr
  go_enter Try.func61, Try.ntmps61
  go_wp2_with (fail)
  refine (l4Ready A a P c _ hn HR.out).mono ?_
  rintro e w1 ⟨rfl, hb⟩
  have BW := Lib.hid (Below.and BW.out hb)
  have KC := Lib.hid (KC.out.below hb)
  have HR := Lib.hid (HR.out.below hb)
  clear hb
  have y0 : w1.cell? ⟨w.heap.size, 0, none⟩ = some (.int .i64 c.s) := KC.out.cell 0
  have y1 : w1.cell? ⟨w.heap.size, 1, none⟩ = some (.int .i64 c.v) := KC.out.cell 1
  have y2 : w1.cell? ⟨w.heap.size, 2, none⟩ = some (.int .i64 c.r.c) := KC.out.cell 2
  have y3 : w1.cell? ⟨w.heap.size, 3, none⟩ = some (.int .i64 c.r.n) := KC.out.cell 3
  have y4 : w1.cell? ⟨w.heap.size, 4, none⟩ = some (.int .i64 c.r.o) := KC.out.cell 4
  have y5 : w1.cell? ⟨w.heap.size, 5, none⟩ = some (.int .i64 c.r.x) := KC.out.cell 5
  have y6 : w1.cell? ⟨w.heap.size, 6, none⟩ = some (.int .i64 c.r.y) := KC.out.cell 6
  rcases h1 : readyM P c with _ | _
  ·
    go_wp2
    go_light
    go_ret
    exact ⟨ret_bool (by unfold doneM; rw [h1]; rfl), BW.out⟩
  go_wp2_with (fail)
  refine (l4Count A a P 4 c _ hn HR.out).mono ?_
  rintro e w2 ⟨rfl, hb⟩
  clear y0 y1 y2 y3 y4 y5 y6
  have BW := Lib.hid (Below.and BW.out hb)
  clear hb
  obtain ⟨z, hz⟩ : ∃ z, z = cntTo P 4 c 4 := ⟨_, rfl⟩
  rw [← hz]
  have HE := Lib.hid (show doneM P c = decide (3 ≤ z) by unfold doneM; rw [h1, hz]; rfl)
  clear hz
  rcases hd : decide (3 ≤ z) with _ | _
  · have hl : ¬ 3 ≤ z := of_decide_eq_false hd
    go_wp2
    go_light
    go_ret
    exact ⟨ret_bool (by rw [HE.out, hd]; simp; omega), BW.out⟩
  · have hl : 3 ≤ z := of_decide_eq_true hd
    go_wp2
    go_light
    go_ret
    exact ⟨ret_bool (by rw [HE.out, hd]; simp; omega), BW.out⟩

set_option maxRecDepth 100000 in
set_option maxHeartbeats 1000000 in
theorem specClaimReady (A : Option Addr) (a : Nat) (P : List MgP) (c : Cl) (w : World) (hn : P.length ≤ maxLen) (hr : RdMs w A P) :
    Calls Try.prog 25 #[.slice A P.length a, c.val] w fun e w' => e = .returned (.bool (clB c && readyM P c)) ∧ Below w.heap.size w w' := by
  have BW : Hid (Below w.heap.size w (w.alloc (.cells #[.int .i64 c.s, .int .i64 c.v, .int .i64 c.r.c, .int .i64 c.r.n, .int .i64 c.r.o, .int .i64 c.r.x, .int .i64 c.r.y] 55))) := (Below.refl _ _).alloc (Nat.le_refl _) _
  have KC : Hid (Blk (w.alloc (.cells #[.int .i64 c.s, .int .i64 c.v, .int .i64 c.r.c, .int .i64 c.r.n, .int .i64 c.r.o, .int .i64 c.r.x, .int .i64 c.r.y] 55)) w.heap.size 55 #[.int .i64 c.s, .int .i64 c.v, .int .i64 c.r.c, .int .i64 c.r.n, .int .i64 c.r.o, .int .i64 c.r.x, .int .i64 c.r.y]) := Blk.new w
  have HR := Lib.hid (RdMs.below hr BW.out)
  clear hr
  go_enter Try.func25, Try.ntmps25
  go_wp2_with (fail)
  refine (l3ClaimOk c _).mono ?_
  rintro e w1 ⟨rfl, hb⟩
  have BW := Lib.hid (Below.and BW.out hb)
  have KC := Lib.hid (KC.out.below hb)
  have HR := Lib.hid (HR.out.below hb)
  clear hb
  have y0 : w1.cell? ⟨w.heap.size, 0, none⟩ = some (.int .i64 c.s) := KC.out.cell 0
  have y1 : w1.cell? ⟨w.heap.size, 1, none⟩ = some (.int .i64 c.v) := KC.out.cell 1
  have y2 : w1.cell? ⟨w.heap.size, 2, none⟩ = some (.int .i64 c.r.c) := KC.out.cell 2
  have y3 : w1.cell? ⟨w.heap.size, 3, none⟩ = some (.int .i64 c.r.n) := KC.out.cell 3
  have y4 : w1.cell? ⟨w.heap.size, 4, none⟩ = some (.int .i64 c.r.o) := KC.out.cell 4
  have y5 : w1.cell? ⟨w.heap.size, 5, none⟩ = some (.int .i64 c.r.x) := KC.out.cell 5
  have y6 : w1.cell? ⟨w.heap.size, 6, none⟩ = some (.int .i64 c.r.y) := KC.out.cell 6
  rcases h1 : clB c with _ | _
  ·
    go_wp2
    go_light
    go_ret
    exact ⟨ret_bool (by rw [h1]; rfl), BW.out⟩
  go_wp2_with (fail)
  refine (l4Ready A a P c _ hn HR.out).mono ?_
  rintro e w2 ⟨rfl, hb⟩
  clear y0 y1 y2 y3 y4 y5 y6
  have BW := Lib.hid (Below.and BW.out hb)
  clear hb
  go_wp2
  go_light
  go_ret
  exact ⟨ret_bool (by rw [h1]; rfl), BW.out⟩

set_option maxRecDepth 100000 in
set_option maxHeartbeats 1000000 in
theorem specClaimDone (A : Option Addr) (a : Nat) (P : List MgP) (c : Cl) (w : World) (hn : P.length ≤ maxLen) (hr : RdMs w A P) :
    Calls Try.prog 30 #[.slice A P.length a, c.val] w fun e w' => e = .returned (.bool (clB c && doneM P c)) ∧ Below w.heap.size w w' := by
  have BW : Hid (Below w.heap.size w (w.alloc (.cells #[.int .i64 c.s, .int .i64 c.v, .int .i64 c.r.c, .int .i64 c.r.n, .int .i64 c.r.o, .int .i64 c.r.x, .int .i64 c.r.y] 55))) := (Below.refl _ _).alloc (Nat.le_refl _) _
  have KC : Hid (Blk (w.alloc (.cells #[.int .i64 c.s, .int .i64 c.v, .int .i64 c.r.c, .int .i64 c.r.n, .int .i64 c.r.o, .int .i64 c.r.x, .int .i64 c.r.y] 55)) w.heap.size 55 #[.int .i64 c.s, .int .i64 c.v, .int .i64 c.r.c, .int .i64 c.r.n, .int .i64 c.r.o, .int .i64 c.r.x, .int .i64 c.r.y]) := Blk.new w
  have HR := Lib.hid (RdMs.below hr BW.out)
  clear hr
  go_enter Try.func30, Try.ntmps30
  go_wp2_with (fail)
  refine (l3ClaimOk c _).mono ?_
  rintro e w1 ⟨rfl, hb⟩
  have BW := Lib.hid (Below.and BW.out hb)
  have KC := Lib.hid (KC.out.below hb)
  have HR := Lib.hid (HR.out.below hb)
  clear hb
  have y0 : w1.cell? ⟨w.heap.size, 0, none⟩ = some (.int .i64 c.s) := KC.out.cell 0
  have y1 : w1.cell? ⟨w.heap.size, 1, none⟩ = some (.int .i64 c.v) := KC.out.cell 1
  have y2 : w1.cell? ⟨w.heap.size, 2, none⟩ = some (.int .i64 c.r.c) := KC.out.cell 2
  have y3 : w1.cell? ⟨w.heap.size, 3, none⟩ = some (.int .i64 c.r.n) := KC.out.cell 3
  have y4 : w1.cell? ⟨w.heap.size, 4, none⟩ = some (.int .i64 c.r.o) := KC.out.cell 4
  have y5 : w1.cell? ⟨w.heap.size, 5, none⟩ = some (.int .i64 c.r.x) := KC.out.cell 5
  have y6 : w1.cell? ⟨w.heap.size, 6, none⟩ = some (.int .i64 c.r.y) := KC.out.cell 6
  rcases h1 : clB c with _ | _
  ·
    go_wp2
    go_light
    go_ret
    exact ⟨ret_bool (by rw [h1]; rfl), BW.out⟩
  go_wp2_with (fail)
  refine (l4Done A a P c _ hn HR.out).mono ?_
  rintro e w2 ⟨rfl, hb⟩
  clear y0 y1 y2 y3 y4 y5 y6
  have BW := Lib.hid (Below.and BW.out hb)
  clear hb
  go_wp2
  go_light
  go_ret
  exact ⟨ret_bool (by rw [h1]; rfl), BW.out⟩

end Go.Proofs.Ytlokhgnbcbnmpaa
