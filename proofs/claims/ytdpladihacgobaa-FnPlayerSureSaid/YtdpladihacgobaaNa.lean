/- Answers: whether one is ok, both ways; how many are of a keeper, or are alike. -/
import Derived.Test.YtdpladihacgobaaMH
import Derived.Test.YtdpladihacgobaaME
import Derived.Test.YtdpladihacgobaaBk
import Derived.Test.YtdpladihacgobaaMM
import Derived.Deep.Cut
namespace Go.Proofs.Ytdpladihacgobaa
open Go.ChangeShapes Go.WideShapes Go.ChangeAt Go.RowKit
set_option linter.unusedVariables false
set_option linter.unusedSimpArgs false

/-- An answer. -/
structure Rp where
  f : Int
  n : Int
  c : Int
  s : Int
  deriving DecidableEq
def Rp.cells (r : Rp) : List Value := [.int .i64 r.f, .int .i64 r.n, .int .i64 r.c, .int .i64 r.s]
abbrev Rp.val (r : Rp) : Value := .agg #[.int .i64 r.f, .int .i64 r.n, .int .i64 r.c, .int .i64 r.s]
theorem Rp.len (c : Rp) : c.cells.length = 4 := rfl
def rpB (r : Rp) : Bool := inB r.f 0 3 && (inB r.n 1 30 && (inB r.c 0 8 && inB r.s 0 4294967295))
abbrev playerV (q : Rq) (A : Option Addr) (n a : Nat) : Value := .agg #[.int .i64 q.c, .int .i64 q.n, .int .i64 q.o, .int .i64 q.x, .int .i64 q.y, .slice A n a]
abbrev plCs (q : Rq) (A : Option Addr) (n a : Nat) : Array Value := #[.int .i64 q.c, .int .i64 q.n, .int .i64 q.o, .int .i64 q.x, .int .i64 q.y, .slice A n a]
abbrev rpCs (r : Rp) : Array Value := #[.int .i64 r.f, .int .i64 r.n, .int .i64 r.c, .int .i64 r.s]
abbrev fromP (f : Int) (x : Rp) : Bool := x.f == f
abbrev likeP (r : Rp) (x : Rp) : Bool := x.c == r.c && x.s == r.s

theorem implReplyOk (r : Rp) (w : World) :
    Calls Try.prog 34 #[r.val] w fun e w' => e = .returned (.bool (rpB r)) ∧ Below w.heap.size w w' := by
  have Z0 : Hid (Below w.heap.size w (w.alloc (.cells (rpCs r) 29))) := (Below.refl _ _).alloc (Nat.le_refl _) _
  rcases h1 : inB r.f 0 3 with _ | _
  · go_enter Try.func34, Try.ntmps34
    go_wp2_with (first | (go_at_call 57; refine (implIn _ _ _ _).mono ?_; rintro e w' ⟨rfl, rfl⟩; first | rw [h1]) | (go_at_call 56; refine (isKeeper _ _).mono ?_; rintro e w' ⟨rfl, rfl⟩; rw [h1]))
    go_light
    go_ret
    exact ⟨ret_bool (by unfold rpB; rw [h1]; rfl), Z0.out⟩
  rcases h2 : inB r.n 1 30 with _ | _
  · go_enter Try.func34, Try.ntmps34
    go_wp2_with (first | (go_at_call 57; refine (implIn _ _ _ _).mono ?_; rintro e w' ⟨rfl, rfl⟩; first | rw [h1] | rw [h2]) | (go_at_call 56; refine (isKeeper _ _).mono ?_; rintro e w' ⟨rfl, rfl⟩; rw [h1]))
    go_light
    go_ret
    exact ⟨ret_bool (by unfold rpB; rw [h1, h2]; rfl), Z0.out⟩
  rcases h3 : inB r.c 0 8 with _ | _
  · go_enter Try.func34, Try.ntmps34
    go_wp2_with (first | (go_at_call 57; refine (implIn _ _ _ _).mono ?_; rintro e w' ⟨rfl, rfl⟩; first | rw [h1] | rw [h2] | rw [h3]) | (go_at_call 56; refine (isKeeper _ _).mono ?_; rintro e w' ⟨rfl, rfl⟩; rw [h1]))
    go_light
    go_ret
    exact ⟨ret_bool (by unfold rpB; rw [h1, h2, h3]; rfl), Z0.out⟩
  rcases h4 : inB r.s 0 4294967295 with _ | _
  · go_enter Try.func34, Try.ntmps34
    go_wp2_with (first | (go_at_call 57; refine (implIn _ _ _ _).mono ?_; rintro e w' ⟨rfl, rfl⟩; first | rw [h1] | rw [h2] | rw [h3] | rw [h4]) | (go_at_call 56; refine (isKeeper _ _).mono ?_; rintro e w' ⟨rfl, rfl⟩; rw [h1]))
    go_light
    go_ret
    exact ⟨ret_bool (by unfold rpB; rw [h1, h2, h3, h4]; rfl), Z0.out⟩
  go_enter Try.func34, Try.ntmps34
  go_wp2_with (first | (go_at_call 57; refine (implIn _ _ _ _).mono ?_; rintro e w' ⟨rfl, rfl⟩; first | rw [h1] | rw [h2] | rw [h3] | rw [h4]) | (go_at_call 56; refine (isKeeper _ _).mono ?_; rintro e w' ⟨rfl, rfl⟩; rw [h1]))
  go_light
  go_ret
  exact ⟨ret_bool (by unfold rpB; rw [h1, h2, h3, h4]; rfl), Z0.out⟩

theorem specReplyOk (r : Rp) (w : World) :
    Calls Try.prog 38 #[r.val] w fun e w' => e = .returned (.bool (rpB r)) ∧ Below w.heap.size w w' := by
  have Z0 : Hid (Below w.heap.size w (w.alloc (.cells (rpCs r) 29))) := (Below.refl _ _).alloc (Nat.le_refl _) _
  rcases h1 : inB r.f 0 3 with _ | _
  · go_enter Try.func38, Try.ntmps38
    go_wp2_with (first | (go_at_call 60; refine (specIn _ _ _ _).mono ?_; rintro e w' ⟨rfl, rfl⟩; first | rw [h1]))
    go_light
    go_ret
    exact ⟨ret_bool (by unfold rpB; rw [h1]; rfl), Z0.out⟩
  rcases h2 : inB r.n 1 30 with _ | _
  · go_enter Try.func38, Try.ntmps38
    go_wp2_with (first | (go_at_call 60; refine (specIn _ _ _ _).mono ?_; rintro e w' ⟨rfl, rfl⟩; first | rw [h1] | rw [h2]))
    go_light
    go_ret
    exact ⟨ret_bool (by unfold rpB; rw [h1, h2]; rfl), Z0.out⟩
  rcases h3 : inB r.c 0 8 with _ | _
  · go_enter Try.func38, Try.ntmps38
    go_wp2_with (first | (go_at_call 60; refine (specIn _ _ _ _).mono ?_; rintro e w' ⟨rfl, rfl⟩; first | rw [h1] | rw [h2] | rw [h3]))
    go_light
    go_ret
    exact ⟨ret_bool (by unfold rpB; rw [h1, h2, h3]; rfl), Z0.out⟩
  rcases h4 : inB r.s 0 4294967295 with _ | _
  · go_enter Try.func38, Try.ntmps38
    go_wp2_with (first | (go_at_call 60; refine (specIn _ _ _ _).mono ?_; rintro e w' ⟨rfl, rfl⟩; first | rw [h1] | rw [h2] | rw [h3] | rw [h4]))
    go_light
    go_ret
    exact ⟨ret_bool (by unfold rpB; rw [h1, h2, h3, h4]; rfl), Z0.out⟩
  go_enter Try.func38, Try.ntmps38
  go_wp2_with (first | (go_at_call 60; refine (specIn _ _ _ _).mono ?_; rintro e w' ⟨rfl, rfl⟩; first | rw [h1] | rw [h2] | rw [h3] | rw [h4]))
  go_light
  go_ret
  exact ⟨ret_bool (by unfold rpB; rw [h1, h2, h3, h4]; rfl), Z0.out⟩

theorem fromFn (x : Rp) (p : Nat) (f : Int) (w : World) (hp : w.cell? ⟨p, 0, none⟩ = some (.int .i64 f)) :
    Calls Try.prog 59 #[x.val, .pointer (some ⟨p, 0, none⟩)] w fun e w' => e = .returned (.bool (fromP f x)) ∧ Below w.heap.size w w' := by
  have Z0 : Hid (Below w.heap.size w (w.alloc (.cells (rpCs x) 29))) := (Below.refl _ _).alloc (Nat.le_refl _) _
  have lp : p < w.heap.size := World.block_lt_of_cell? w _ hp
  go_enter Try.func59, Try.ntmps59
  go_wp2
  go_light
  go_ret
  exact ⟨rfl, Z0.out⟩

theorem likeFn (x r : Rp) (p : Nat) (w : World) (hp : Bkk w p 29 (rpCs r)) :
    Calls Try.prog 62 #[x.val, .pointer (some ⟨p, 0, none⟩)] w fun e w' => e = .returned (.bool (likeP r x)) ∧ Below w.heap.size w w' := by
  have Z0 : Hid (Below w.heap.size w (w.alloc (.cells (rpCs x) 29))) := (Below.refl _ _).alloc (Nat.le_refl _) _
  have lp : p < w.heap.size := hp.lt
  have r2 : w.cell? ⟨p, 2, none⟩ = some (.int .i64 r.c) := hp.cell 2
  have r3 : w.cell? ⟨p, 3, none⟩ = some (.int .i64 r.s) := hp.cell 3
  rcases h : (x.c == r.c) with _ | _
  · go_enter Try.func62, Try.ntmps62
    go_wp2
    go_light
    go_ret
    exact ⟨ret_bool (by unfold likeP; rw [h]; rfl), Z0.out⟩
  · go_enter Try.func62, Try.ntmps62
    go_wp2
    go_light
    go_ret
    exact ⟨ret_bool (by unfold likeP; rw [h]; rfl), Z0.out⟩

set_option maxRecDepth 100000 in
theorem countFrom (A : Option Addr) (a : Nat) (l : List Rp) (p : Nat) (f : Int) (w : World) (hl : l.length ≤ maxLen) (hr : Rd 4 Rp.cells w A l) (hp : w.cell? ⟨p, 0, none⟩ = some (.int .i64 f)) :
    Calls Try.prog 58 #[.slice A l.length a, .func (.func 59) #[] #[.pointer (some ⟨p, 0, none⟩)]] w fun e w' => e = .returned (.int .i64 ((l.countP (fromP f) : Nat) : Int)) ∧ Below w.heap.size w w' := by
  unfold maxLen at hl
  have HR := Lib.hid hr
  have HP := Lib.hid hp
  clear hr hp
  go_enter Try.func58, Try.ntmps58
  go_wp2
  go_loopw [5, 10] (fun u v wr => ∃ j m : Nat, j ≤ l.length ∧ m ≤ j ∧ u = .int .i64 (m : Int) ∧ v = .int .i64 (j : Int) ∧ Hid ((l.take j).countP (fromP f) = m) ∧ Hid (Below w.heap.size w wr)) (fun _ v _ => l.length - (intOf v).toNat)
  case atStart => exact ⟨0, 0, Nat.zero_le _, Nat.le_refl _, rfl, rfl, by simp [Hid], Below.refl _ _⟩
  case round =>
    obtain ⟨j, m, hj, hm, rfl, rfl, ha, hb⟩ := hrel
    by_cases hlt : j < l.length
    · obtain ⟨g, o, rfl, ca⟩ := Rd.below HR.out hb.out j hlt
      have HT := Lib.hid (List.take_succ_eq_append_getElem hlt)
      generalize l[j] = x at ca HT
      have xr0 : wr.cell? ⟨g, o + j * 4, none⟩ = some (.int .i64 x.f) := ca 0 _ rfl
      have xr1 : wr.cell? ⟨g, o + j * 4 + 1, none⟩ = some (.int .i64 x.n) := ca 1 _ rfl
      have xr2 : wr.cell? ⟨g, o + j * 4 + 2, none⟩ = some (.int .i64 x.c) := ca 2 _ rfl
      have xr3 : wr.cell? ⟨g, o + j * 4 + 3, none⟩ = some (.int .i64 x.s) := ca 3 _ rfl
      clear ca
      have lx : g < wr.heap.size := World.block_lt_of_cell? wr _ xr0
      have i0 : (0 : Int) ≤ (j : Int) := by omega
      have i1 : (j : Int) < (l.length : Int) := by omega
      have hba : Below wr.heap.size wr (wr.alloc (.cells (rpCs x) 29)) := (Below.refl _ _).alloc (Nat.le_refl _) _
      have BB := Lib.hid (Below.and hb.out hba)
      clear hba
      go_wp2_with (fail)
      refine (fromFn x p f _ (cell_kept BB.out HP.out)).mono ?_
      rintro e w1 ⟨rfl, h1⟩
      have BB := Lib.hid (Below.and BB.out h1)
      have HC := Lib.hid (show (l.take (j + 1)).countP (fromP f) = m + (if (fromP f) x then 1 else 0) by rw [HT.out, List.countP_append, ha.out]; simp [List.countP_cons])
      clear h1 xr0 xr1 xr2 xr3 ha HT
      obtain ⟨b, hb0⟩ : ∃ b, (fromP f) x = b := ⟨_, rfl⟩
      rw [hb0] at HC
      try rw [show (fromP f) x = b from hb0]
      clear hb0
      rcases b with _ | _
      · go_wp2
        go_roundw
        case rel => exact ⟨j + 1, m, by omega, by omega, rfl, by go_num, by simpa [Hid] using HC.out, BB.out⟩
        case measure => (simp [intOf]; try omega)
      · go_wp2
        go_roundw
        case rel => exact ⟨j + 1, m + 1, by omega, by omega, by go_num, by go_num, by simpa [Hid] using HC.out, BB.out⟩
        case measure => (simp [intOf]; try omega)
    · have i1 : ¬ (j : Int) < (l.length : Int) := by omega
      obtain rfl : j = l.length := by omega
      rw [List.take_length] at ha
      go_wp2
      go_light
      go_ret
      have h9 := ha.out
      subst h9
      exact ⟨rfl, hb.out⟩

set_option maxRecDepth 100000 in
theorem countLike (A : Option Addr) (a : Nat) (l : List Rp) (p : Nat) (r : Rp) (w : World) (hl : l.length ≤ maxLen) (hr : Rd 4 Rp.cells w A l) (hp : Bkk w p 29 (rpCs r)) :
    Calls Try.prog 58 #[.slice A l.length a, .func (.func 62) #[] #[.pointer (some ⟨p, 0, none⟩)]] w fun e w' => e = .returned (.int .i64 ((l.countP (likeP r) : Nat) : Int)) ∧ Below w.heap.size w w' := by
  unfold maxLen at hl
  have HR := Lib.hid hr
  have HP := Lib.hid hp
  clear hr hp
  go_enter Try.func58, Try.ntmps58
  go_wp2
  go_loopw [5, 10] (fun u v wr => ∃ j m : Nat, j ≤ l.length ∧ m ≤ j ∧ u = .int .i64 (m : Int) ∧ v = .int .i64 (j : Int) ∧ Hid ((l.take j).countP (likeP r) = m) ∧ Hid (Below w.heap.size w wr)) (fun _ v _ => l.length - (intOf v).toNat)
  case atStart => exact ⟨0, 0, Nat.zero_le _, Nat.le_refl _, rfl, rfl, by simp [Hid], Below.refl _ _⟩
  case round =>
    obtain ⟨j, m, hj, hm, rfl, rfl, ha, hb⟩ := hrel
    by_cases hlt : j < l.length
    · obtain ⟨g, o, rfl, ca⟩ := Rd.below HR.out hb.out j hlt
      have HT := Lib.hid (List.take_succ_eq_append_getElem hlt)
      generalize l[j] = x at ca HT
      have xr0 : wr.cell? ⟨g, o + j * 4, none⟩ = some (.int .i64 x.f) := ca 0 _ rfl
      have xr1 : wr.cell? ⟨g, o + j * 4 + 1, none⟩ = some (.int .i64 x.n) := ca 1 _ rfl
      have xr2 : wr.cell? ⟨g, o + j * 4 + 2, none⟩ = some (.int .i64 x.c) := ca 2 _ rfl
      have xr3 : wr.cell? ⟨g, o + j * 4 + 3, none⟩ = some (.int .i64 x.s) := ca 3 _ rfl
      clear ca
      have lx : g < wr.heap.size := World.block_lt_of_cell? wr _ xr0
      have i0 : (0 : Int) ≤ (j : Int) := by omega
      have i1 : (j : Int) < (l.length : Int) := by omega
      have hba : Below wr.heap.size wr (wr.alloc (.cells (rpCs x) 29)) := (Below.refl _ _).alloc (Nat.le_refl _) _
      have BB := Lib.hid (Below.and hb.out hba)
      clear hba
      go_wp2_with (fail)
      refine (likeFn x r p _ (HP.out.below BB.out)).mono ?_
      rintro e w1 ⟨rfl, h1⟩
      have BB := Lib.hid (Below.and BB.out h1)
      have HC := Lib.hid (show (l.take (j + 1)).countP (likeP r) = m + (if (likeP r) x then 1 else 0) by rw [HT.out, List.countP_append, ha.out]; simp [List.countP_cons])
      clear h1 xr0 xr1 xr2 xr3 ha HT
      obtain ⟨b, hb0⟩ : ∃ b, (likeP r) x = b := ⟨_, rfl⟩
      rw [hb0] at HC
      try rw [show (likeP r) x = b from hb0]
      clear hb0
      rcases b with _ | _
      · go_wp2
        go_roundw
        case rel => exact ⟨j + 1, m, by omega, by omega, rfl, by go_num, by simpa [Hid] using HC.out, BB.out⟩
        case measure => (simp [intOf]; try omega)
      · go_wp2
        go_roundw
        case rel => exact ⟨j + 1, m + 1, by omega, by omega, by go_num, by go_num, by simpa [Hid] using HC.out, BB.out⟩
        case measure => (simp [intOf]; try omega)
    · have i1 : ¬ (j : Int) < (l.length : Int) := by omega
      obtain rfl : j = l.length := by omega
      rw [List.take_length] at ha
      go_wp2
      go_light
      go_ret
      have h9 := ha.out
      subst h9
      exact ⟨rfl, hb.out⟩

set_option maxRecDepth 100000 in
set_option maxHeartbeats 2000000 in
theorem repliesFrom (q : Rq) (A : Option Addr) (a : Nat) (l : List Rp) (f : Int) (w : World) (hl : l.length ≤ maxLen) (hr : Rd 4 Rp.cells w A l) :
    Calls Try.prog 35 #[playerV q A l.length a, .int .i64 f] w fun e w' => e = .returned (.int .i64 ((l.countP (fromP f) : Nat) : Int)) ∧ Below w.heap.size w w' := by
  have z0 : Below w.heap.size w ((w.alloc (.cells (plCs q A l.length a) 27)).alloc (.cells #[.int .i64 f] 3)) := below_alloc2 w _ _
  have HR := Lib.hid (Rd.below hr z0)
  have BB := Lib.hid z0
  have HP : Hid (Bkk ((w.alloc (.cells (plCs q A l.length a) 27)).alloc (.cells #[.int .i64 f] 3)) (w.heap.size + 1) 3 #[.int .i64 f]) := by have := Bkk.new (cs := #[.int .i64 f]) (t := 3) (w.alloc (.cells (plCs q A l.length a) 27)); simpa [Hid] using this
  clear hr z0
  go_enter Try.func35, Try.ntmps35
  go_wp2_with (fail)
  refine (countFrom A a l (w.heap.size + 1) f _ hl HR.out (HP.out.cell 0)).mono ?_
  rintro e w1 ⟨rfl, hb⟩
  have BB := Lib.hid (Below.and BB.out hb)
  go_wp2
  go_light
  go_ret
  exact ⟨rfl, BB.out⟩

set_option maxRecDepth 100000 in
set_option maxHeartbeats 2000000 in
theorem repliesLike (q : Rq) (A : Option Addr) (a : Nat) (l : List Rp) (r : Rp) (w : World) (hl : l.length ≤ maxLen) (hr : Rd 4 Rp.cells w A l) :
    Calls Try.prog 43 #[playerV q A l.length a, r.val] w fun e w' => e = .returned (.int .i64 ((l.countP (likeP r) : Nat) : Int)) ∧ Below w.heap.size w w' := by
  have z0 : Below w.heap.size w ((w.alloc (.cells (plCs q A l.length a) 27)).alloc (.cells (rpCs r) 29)) := below_alloc2 w _ _
  have HR := Lib.hid (Rd.below hr z0)
  have BB := Lib.hid z0
  have HP : Hid (Bkk ((w.alloc (.cells (plCs q A l.length a) 27)).alloc (.cells (rpCs r) 29)) (w.heap.size + 1) 29 (rpCs r)) := by have := Bkk.new (cs := rpCs r) (t := 29) (w.alloc (.cells (plCs q A l.length a) 27)); simpa [Hid] using this
  clear hr z0
  go_enter Try.func43, Try.ntmps43
  go_wp2_with (fail)
  refine (countLike A a l (w.heap.size + 1) r _ hl HR.out HP.out).mono ?_
  rintro e w1 ⟨rfl, hb⟩
  have BB := Lib.hid (Below.and BB.out hb)
  go_wp2
  go_light
  go_ret
  exact ⟨rfl, BB.out⟩

end Go.Proofs.Ytdpladihacgobaa
