/- Small contracts. -/
import Derived.Test.YtephmhgjhjheaaaRows
import Derived.WalkKit
import Derived.ProofKit
import Derived.Outline
import Derived.Lib.Hide
import Derived.Deep.Light
import Derived.BigQuiet
import Derived.Deep.QuietTactic
namespace Go.Proofs.Ytephmhgjhjheaaa
open Go.ChangeShapes Go.WideShapes Go.ChangeAt Go.RowKit

def inB (n lo hi : Int) : Bool := decide (lo ≤ n) && decide (n ≤ hi)

theorem specIn (n lo hi : Int) (w : World) :
    Calls Try.prog 101 #[.int .i64 n, .int .i64 lo, .int .i64 hi] w fun e w' => e = .returned (.bool (inB n lo hi)) ∧ w = w' := by
  go_enter Try.func101, Try.ntmps101
  by_cases h1 : lo ≤ n
  all_goals by_cases h2 : n ≤ hi
  all_goals go_wp2
  all_goals go_ret
  all_goals simp [inB]; omega

theorem implIn (n lo hi : Int) (w : World) :
    Calls Try.prog 166 #[.int .i64 n, .int .i64 lo, .int .i64 hi] w fun e w' => e = .returned (.bool (inB n lo hi)) ∧ w = w' := by
  go_enter Try.func166, Try.ntmps166
  by_cases h1 : lo ≤ n
  all_goals by_cases h2 : n ≤ hi
  all_goals go_wp2
  all_goals go_ret
  all_goals simp [inB]; omega

abbrev req (c n o x y : Int) : Value := .agg #[.int .i64 c, .int .i64 n, .int .i64 o, .int .i64 x, .int .i64 y]

theorem toReq (c n o x y : Int) (w : World) :
    Calls Try.prog 48 #[req c n o x y] w fun e w' => e = .returned (req c n o x y) ∧ Below w.heap.size w w' := by
  unfold req
  go_enter Try.func48, Try.ntmps48
  go_wp2
  exact bodyPost_ret (v := .agg #[.int .i64 c, .int .i64 n, .int .i64 o, .int .i64 x, .int .i64 y]) (by simp [results, Try.results48, go_sem]) rfl ⟨rfl, (((Below.refl _ _).alloc (Nat.le_refl _) _).alloc (by simp) _).alloc (by simp; omega) _⟩

def shapeB (o x y : Int) : Bool :=
  if o = 1 ∨ o = 3 then inB x 0 0 && inB y 0 0
  else if o = 2 then inB x (-1) 1 && inB y (-1) 1
  else if o = 4 then inB x 1 4 && inB y 0 0
  else if o = 5 then inB x 1 4 && inB y 1 9
  else false

def reqB (c n o x y : Int) : Bool := inB c 1 4 && (inB n 1 30 && shapeB o x y)

theorem ret_bool {a b : Bool} (h : a = b) : Ending.returned (.bool a) = .returned (.bool b) := by rw [h]

theorem l1Ok (c n o x y : Int) (w : World) :
    Calls Try.prog 83 #[req c n o x y] w fun e w' => e = .returned (.bool (reqB c n o x y)) ∧ Below w.heap.size w w' := by
  unfold req
  go_enter Try.func83, Try.ntmps83
  go_wp2
  all_goals go_ret
  all_goals refine ⟨ret_bool ?_, (Below.refl _ _).alloc (Nat.le_refl _) _⟩
  all_goals unfold reqB shapeB inB
  all_goals go_light
  all_goals first | (simp_all; done) | (simp_all; omega) | (rw [Bool.eq_iff_iff]; simp_all; omega)

def deedT (o : Int) : Value :=
  if o = 1 then .iface 209 (.agg #[]) else if o = 2 then .iface 210 (.agg #[]) else if o = 3 then .iface 211 (.agg #[]) else if o = 4 then .iface 212 (.agg #[]) else if o = 5 then .iface 213 (.agg #[]) else .nilIface

theorem deedOf (o : Int) (w : World) :
    Calls Try.prog 188 #[.int .i64 o] w fun e w' => e = .returned (.tuple #[deedT o, .bool (inB o 1 5)]) ∧ w = w' := by
  go_enter Try.func188, Try.ntmps188
  go_wp2
  all_goals go_light
  all_goals go_ret2
  all_goals refine ⟨?_, rfl⟩
  all_goals unfold deedT inB
  all_goals (simp_all; try omega)

theorem fits1 (x y : Int) (w : World) :
    Calls Try.prog 228 #[.agg #[], .int .i64 x, .int .i64 y] w fun e w' => e = .returned (.bool (shapeB 1 x y)) ∧ Below w.heap.size w w' := by
  go_enter Try.func228, Try.ntmps228
  go_wp2
  all_goals go_light
  all_goals go_ret
  all_goals refine ⟨ret_bool ?_, (Below.refl _ _).alloc (Nat.le_refl _) _⟩
  all_goals simp only [shapeB, inB]
  all_goals (rw [Bool.eq_iff_iff]; simp_all; try omega)

theorem fits2 (x y : Int) (w : World) :
    Calls Try.prog 230 #[.agg #[], .int .i64 x, .int .i64 y] w fun e w' => e = .returned (.bool (shapeB 2 x y)) ∧ Below w.heap.size w w' := by
  go_enter Try.func230, Try.ntmps230
  go_wp2
  all_goals go_light
  all_goals go_ret
  all_goals refine ⟨ret_bool ?_, (Below.refl _ _).alloc (Nat.le_refl _) _⟩
  all_goals simp only [shapeB, inB]
  all_goals (rw [Bool.eq_iff_iff]; simp_all; try omega)

theorem fits3 (x y : Int) (w : World) :
    Calls Try.prog 232 #[.agg #[], .int .i64 x, .int .i64 y] w fun e w' => e = .returned (.bool (shapeB 3 x y)) ∧ Below w.heap.size w w' := by
  go_enter Try.func232, Try.ntmps232
  go_wp2
  all_goals go_light
  all_goals go_ret
  all_goals refine ⟨ret_bool ?_, (Below.refl _ _).alloc (Nat.le_refl _) _⟩
  all_goals simp only [shapeB, inB]
  all_goals (rw [Bool.eq_iff_iff]; simp_all; try omega)

theorem fits4 (x y : Int) (w : World) :
    Calls Try.prog 234 #[.agg #[], .int .i64 x, .int .i64 y] w fun e w' => e = .returned (.bool (shapeB 4 x y)) ∧ Below w.heap.size w w' := by
  go_enter Try.func234, Try.ntmps234
  go_wp2
  all_goals go_light
  all_goals go_ret
  all_goals refine ⟨ret_bool ?_, (Below.refl _ _).alloc (Nat.le_refl _) _⟩
  all_goals simp only [shapeB, inB]
  all_goals (rw [Bool.eq_iff_iff]; simp_all; try omega)

theorem fits5 (x y : Int) (w : World) :
    Calls Try.prog 236 #[.agg #[], .int .i64 x, .int .i64 y] w fun e w' => e = .returned (.bool (shapeB 5 x y)) ∧ Below w.heap.size w w' := by
  go_enter Try.func236, Try.ntmps236
  go_wp2
  all_goals go_light
  all_goals go_ret
  all_goals refine ⟨ret_bool ?_, (Below.refl _ _).alloc (Nat.le_refl _) _⟩
  all_goals simp only [shapeB, inB]
  all_goals (rw [Bool.eq_iff_iff]; simp_all; try omega)

theorem method_fits1 (w : World) : (method 338 209 (.agg #[]) "loop.example/wapentake/impl.fits").run Try.prog w = .ok (228, .agg #[]) w := by kernel_rfl

set_option maxRecDepth 100000 in
theorem implReqOk1 (c n x y : Int) (w : World) :
    Calls Try.prog 154 #[req c n 1 x y] w fun e w' => e = .returned (.bool (reqB c n 1 x y)) ∧ Below w.heap.size w w' := by
  unfold req
  have hd : deedT 1 = .iface 209 (.agg #[]) := rfl
  have hi : inB 1 1 5 = true := rfl
  have hm := method_fits1
  rcases hc : inB c 1 4 with _ | _
  all_goals rcases hn : inB n 1 30 with _ | _
  all_goals go_enter Try.func154, Try.ntmps154
  all_goals go_wp2_with (first | (go_at_call 188; refine (deedOf _ _).mono ?_; rintro e w' ⟨rfl, rfl⟩; rw [hd, hi]) | (go_at_call 166; refine (implIn _ _ _ _).mono ?_; rintro e w' ⟨rfl, rfl⟩; first | rw [hc] | rw [hn]) | (go_at_call 228; refine (fits1 _ _ _).mono ?_; rintro e w' ⟨rfl, hb⟩))
  all_goals go_light
  all_goals go_ret
  all_goals unfold reqB
  all_goals simp only [hc, hn]
  all_goals first | exact ⟨rfl, (Below.refl _ _).alloc (Nat.le_refl _) _⟩ | exact ⟨by simp, ((Below.refl _ _).alloc (Nat.le_refl _) _).trans (hb.mono (by simp))⟩

theorem method_fits2 (w : World) : (method 338 210 (.agg #[]) "loop.example/wapentake/impl.fits").run Try.prog w = .ok (230, .agg #[]) w := by kernel_rfl

set_option maxRecDepth 100000 in
theorem implReqOk2 (c n x y : Int) (w : World) :
    Calls Try.prog 154 #[req c n 2 x y] w fun e w' => e = .returned (.bool (reqB c n 2 x y)) ∧ Below w.heap.size w w' := by
  unfold req
  have hd : deedT 2 = .iface 210 (.agg #[]) := rfl
  have hi : inB 2 1 5 = true := rfl
  have hm := method_fits2
  rcases hc : inB c 1 4 with _ | _
  all_goals rcases hn : inB n 1 30 with _ | _
  all_goals go_enter Try.func154, Try.ntmps154
  all_goals go_wp2_with (first | (go_at_call 188; refine (deedOf _ _).mono ?_; rintro e w' ⟨rfl, rfl⟩; rw [hd, hi]) | (go_at_call 166; refine (implIn _ _ _ _).mono ?_; rintro e w' ⟨rfl, rfl⟩; first | rw [hc] | rw [hn]) | (go_at_call 230; refine (fits2 _ _ _).mono ?_; rintro e w' ⟨rfl, hb⟩))
  all_goals go_light
  all_goals go_ret
  all_goals unfold reqB
  all_goals simp only [hc, hn]
  all_goals first | exact ⟨rfl, (Below.refl _ _).alloc (Nat.le_refl _) _⟩ | exact ⟨by simp, ((Below.refl _ _).alloc (Nat.le_refl _) _).trans (hb.mono (by simp))⟩

theorem method_fits3 (w : World) : (method 338 211 (.agg #[]) "loop.example/wapentake/impl.fits").run Try.prog w = .ok (232, .agg #[]) w := by kernel_rfl

set_option maxRecDepth 100000 in
theorem implReqOk3 (c n x y : Int) (w : World) :
    Calls Try.prog 154 #[req c n 3 x y] w fun e w' => e = .returned (.bool (reqB c n 3 x y)) ∧ Below w.heap.size w w' := by
  unfold req
  have hd : deedT 3 = .iface 211 (.agg #[]) := rfl
  have hi : inB 3 1 5 = true := rfl
  have hm := method_fits3
  rcases hc : inB c 1 4 with _ | _
  all_goals rcases hn : inB n 1 30 with _ | _
  all_goals go_enter Try.func154, Try.ntmps154
  all_goals go_wp2_with (first | (go_at_call 188; refine (deedOf _ _).mono ?_; rintro e w' ⟨rfl, rfl⟩; rw [hd, hi]) | (go_at_call 166; refine (implIn _ _ _ _).mono ?_; rintro e w' ⟨rfl, rfl⟩; first | rw [hc] | rw [hn]) | (go_at_call 232; refine (fits3 _ _ _).mono ?_; rintro e w' ⟨rfl, hb⟩))
  all_goals go_light
  all_goals go_ret
  all_goals unfold reqB
  all_goals simp only [hc, hn]
  all_goals first | exact ⟨rfl, (Below.refl _ _).alloc (Nat.le_refl _) _⟩ | exact ⟨by simp, ((Below.refl _ _).alloc (Nat.le_refl _) _).trans (hb.mono (by simp))⟩

theorem method_fits4 (w : World) : (method 338 212 (.agg #[]) "loop.example/wapentake/impl.fits").run Try.prog w = .ok (234, .agg #[]) w := by kernel_rfl

set_option maxRecDepth 100000 in
theorem implReqOk4 (c n x y : Int) (w : World) :
    Calls Try.prog 154 #[req c n 4 x y] w fun e w' => e = .returned (.bool (reqB c n 4 x y)) ∧ Below w.heap.size w w' := by
  unfold req
  have hd : deedT 4 = .iface 212 (.agg #[]) := rfl
  have hi : inB 4 1 5 = true := rfl
  have hm := method_fits4
  rcases hc : inB c 1 4 with _ | _
  all_goals rcases hn : inB n 1 30 with _ | _
  all_goals go_enter Try.func154, Try.ntmps154
  all_goals go_wp2_with (first | (go_at_call 188; refine (deedOf _ _).mono ?_; rintro e w' ⟨rfl, rfl⟩; rw [hd, hi]) | (go_at_call 166; refine (implIn _ _ _ _).mono ?_; rintro e w' ⟨rfl, rfl⟩; first | rw [hc] | rw [hn]) | (go_at_call 234; refine (fits4 _ _ _).mono ?_; rintro e w' ⟨rfl, hb⟩))
  all_goals go_light
  all_goals go_ret
  all_goals unfold reqB
  all_goals simp only [hc, hn]
  all_goals first | exact ⟨rfl, (Below.refl _ _).alloc (Nat.le_refl _) _⟩ | exact ⟨by simp, ((Below.refl _ _).alloc (Nat.le_refl _) _).trans (hb.mono (by simp))⟩

theorem method_fits5 (w : World) : (method 338 213 (.agg #[]) "loop.example/wapentake/impl.fits").run Try.prog w = .ok (236, .agg #[]) w := by kernel_rfl

set_option maxRecDepth 100000 in
theorem implReqOk5 (c n x y : Int) (w : World) :
    Calls Try.prog 154 #[req c n 5 x y] w fun e w' => e = .returned (.bool (reqB c n 5 x y)) ∧ Below w.heap.size w w' := by
  unfold req
  have hd : deedT 5 = .iface 213 (.agg #[]) := rfl
  have hi : inB 5 1 5 = true := rfl
  have hm := method_fits5
  rcases hc : inB c 1 4 with _ | _
  all_goals rcases hn : inB n 1 30 with _ | _
  all_goals go_enter Try.func154, Try.ntmps154
  all_goals go_wp2_with (first | (go_at_call 188; refine (deedOf _ _).mono ?_; rintro e w' ⟨rfl, rfl⟩; rw [hd, hi]) | (go_at_call 166; refine (implIn _ _ _ _).mono ?_; rintro e w' ⟨rfl, rfl⟩; first | rw [hc] | rw [hn]) | (go_at_call 236; refine (fits5 _ _ _).mono ?_; rintro e w' ⟨rfl, hb⟩))
  all_goals go_light
  all_goals go_ret
  all_goals unfold reqB
  all_goals simp only [hc, hn]
  all_goals first | exact ⟨rfl, (Below.refl _ _).alloc (Nat.le_refl _) _⟩ | exact ⟨by simp, ((Below.refl _ _).alloc (Nat.le_refl _) _).trans (hb.mono (by simp))⟩

set_option maxRecDepth 100000 in
theorem implReqOk_no (k : Int) (hd : deedT k = .nilIface) (hi : inB k 1 5 = false) (hs : ∀ x y, shapeB k x y = false)
    (c n x y : Int) (w : World) :
    Calls Try.prog 154 #[req c n k x y] w fun e w' => e = .returned (.bool (reqB c n k x y)) ∧ Below w.heap.size w w' := by
  unfold req
  have H := Lib.hid hs
  clear hs
  go_enter Try.func154, Try.ntmps154
  go_wp2_with (first | (go_at_call 188; refine (deedOf _ _).mono ?_; rintro e w' ⟨rfl, rfl⟩; rw [hd, hi]))
  go_light
  go_ret
  unfold reqB
  rw [H.out]
  exact ⟨by simp, (Below.refl _ _).alloc (Nat.le_refl _) _⟩

theorem implReqOk (c n o x y : Int) (w : World) :
    Calls Try.prog 154 #[req c n o x y] w fun e w' => e = .returned (.bool (reqB c n o x y)) ∧ Below w.heap.size w w' := by
  by_cases h1 : o = 1
  · subst h1; exact implReqOk1 c n x y w
  by_cases h2 : o = 2
  · subst h2; exact implReqOk2 c n x y w
  by_cases h3 : o = 3
  · subst h3; exact implReqOk3 c n x y w
  by_cases h4 : o = 4
  · subst h4; exact implReqOk4 c n x y w
  by_cases h5 : o = 5
  · subst h5; exact implReqOk5 c n x y w
  refine implReqOk_no o (by simp [deedT, h1, h2, h3, h4, h5]) ?_ (fun x y => by simp [shapeB, h1, h2, h3, h4, h5]) c n x y w
  simp only [inB]
  rw [Bool.eq_false_iff]
  simp
  omega

theorem boxed {w w1 : World} {o : Obj} (hb : Below (w.alloc o).heap.size (w.alloc o) w1) (k : Nat) : w1.cell? ⟨w.heap.size, k, none⟩ = (w.alloc o).cell? ⟨w.heap.size, k, none⟩ := hb.cell (by simp)

theorem Below.then {a b c : World} (h : Below a.heap.size a b) (k : Below b.heap.size b c) : Below a.heap.size a c := h.trans (k.mono h.size)

theorem below_box {w w1 : World} {o : Obj} (hb : Below (w.alloc o).heap.size (w.alloc o) w1) : Below w.heap.size w w1 := ((Below.refl _ _).alloc (Nat.le_refl _) _).trans (hb.mono (by simp))

end Go.Proofs.Ytephmhgjhjheaaa
