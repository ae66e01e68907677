/- Ld, Y, Z -/
import Derived.Test.YtfelhnchnaggmaaMB
import Derived.IntWalk
import Derived.Test.YtfelhnchnaggmaaME
import Derived.Test.YtfelhnchnaggmaaMC
/- Who leads in a view: contracts. -/
namespace Go.Proofs.Ytfelhnchnaggmaa
open Go.ChangeShapes Go.WideShapes Go.ChangeAt Go.RowKit
set_option linter.unusedVariables false

def leadI (v : Int) : Int := if inB v 0 6 = true then v % 4 else -1

theorem isView (n : Int) (w : World) :
    Calls Try.prog 76 #[.int .i64 n] w fun e w' => e = .returned (.bool (inB n 0 6)) ∧ w = w' := by
  go_enter Try.func76, Try.ntmps76
  go_wp2_with (go_at_call 45; refine (implIn _ _ _ _).mono ?_; rintro e w' ⟨rfl, rfl⟩)
  go_ret
  exact ⟨rfl, rfl⟩

end Go.Proofs.Ytfelhnchnaggmaa

/- Requests and claims that are valid, or null. -/
namespace Go.Proofs.Ytfelhnchnaggmaa
open Go.ChangeShapes Go.WideShapes Go.ChangeAt Go.RowKit
set_option linter.unusedVariables false

def nullB (r : Rq) : Bool := decide (r = ⟨0, 0, 0, 0, 0⟩)
def rqB (r : Rq) : Bool := reqB r.c r.n r.o r.x r.y
def okB (r : Rq) : Bool := rqB r || nullB r
def clB (c : Cl) : Bool := inB c.s 1 5 && (inB c.v 0 6 && okB c.r)

theorem l1None (r : Rq) (w : World) :
    Calls Try.prog 69 #[r.val] w fun e w' => e = .returned (.bool (nullB r)) ∧ Below w.heap.size w w' := by
  have hq : ∀ W, (binOp .eql 69 (.agg #[.int .i64 r.c, .int .i64 r.n, .int .i64 r.o, .int .i64 r.x, .int .i64 r.y]) (.agg #[.int .i64 0, .int .i64 0, .int .i64 0, .int .i64 0, .int .i64 0])).run Try.prog W = .ok (.bool (nullB r)) W := fun W => eqlReq r ⟨0, 0, 0, 0, 0⟩ W
  go_enter Try.func69, Try.ntmps69
  go_wp2
  go_light
  go_ret
  exact ⟨rfl, (Below.refl _ _).alloc (Nat.le_refl _) _⟩

theorem isNull (r : Rq) (w : World) :
    Calls Try.prog 54 #[r.val] w fun e w' => e = .returned (.bool (nullB r)) ∧ Below w.heap.size w w' := by
  have hq : ∀ W, (binOp .eql 69 (.agg #[.int .i64 r.c, .int .i64 r.n, .int .i64 r.o, .int .i64 r.x, .int .i64 r.y]) (.agg #[.int .i64 0, .int .i64 0, .int .i64 0, .int .i64 0, .int .i64 0])).run Try.prog W = .ok (.bool (nullB r)) W := fun W => eqlReq r ⟨0, 0, 0, 0, 0⟩ W
  go_enter Try.func54, Try.ntmps54
  go_wp2
  go_light
  go_ret
  exact ⟨rfl, (Below.refl _ _).alloc (Nat.le_refl _) _⟩

theorem okOrNull (r : Rq) (w : World) :
    Calls Try.prog 111 #[r.val] w fun e w' => e = .returned (.bool (okB r)) ∧ Below w.heap.size w w' := by
  have Z0 : Hid (Below w.heap.size w (w.alloc (.cells #[.int .i64 r.c, .int .i64 r.n, .int .i64 r.o, .int .i64 r.x, .int .i64 r.y] 69))) := (Below.refl _ _).alloc (Nat.le_refl _) _
  go_enter Try.func111, Try.ntmps111
  go_wp2_with (fail)
  refine (implReqOk r.c r.n r.o r.x r.y _).mono ?_
  rintro e w1 ⟨rfl, hb⟩
  obtain ⟨hc, hf⟩ := bcell hb
  have Z1 := Lib.hid (Below.and Z0.out hb)
  have hz : w.heap.size < w1.heap.size := by have := hb.size; simp at this; omega
  rcases h1 : reqB r.c r.n r.o r.x r.y with _ | _
  · go_wp2_with (fail)
    refine (isNull r _).mono ?_
    rintro e w2 ⟨rfl, h2⟩
    clear hc hf hb
    go_wp2
    go_light
    go_ret
    exact ⟨ret_bool (by unfold okB rqB; rw [h1]; rfl), Below.and Z1.out h2⟩
  · clear hc hf hb
    go_wp2
    go_light
    go_ret
    exact ⟨ret_bool (by unfold okB rqB; rw [h1]; rfl), Z1.out⟩

theorem l3ClaimOk (c : Cl) (w : World) :
    Calls Try.prog 87 #[c.val] w fun e w' => e = .returned (.bool (clB c)) ∧ Below w.heap.size w w' := by
  have Z0 : Hid (Below w.heap.size w (w.alloc (.cells #[.int .i64 c.s, .int .i64 c.v, .int .i64 c.r.c, .int .i64 c.r.n, .int .i64 c.r.o, .int .i64 c.r.x, .int .i64 c.r.y] 77))) := (Below.refl _ _).alloc (Nat.le_refl _) _
  rcases h1 : inB c.s 1 5 with _ | _
  · go_enter Try.func87, Try.ntmps87
    go_wp2_with (first | (go_at_call 26; refine (specIn _ _ _ _).mono ?_; rintro e w' ⟨rfl, rfl⟩; rw [h1]))
    go_light
    go_ret
    exact ⟨ret_bool (by unfold clB; rw [h1]; rfl), Z0.out⟩
  rcases h2 : inB c.v 0 6 with _ | _
  · go_enter Try.func87, Try.ntmps87
    go_wp2_with (first | (go_at_call 26; refine (specIn _ _ _ _).mono ?_; rintro e w' ⟨rfl, rfl⟩; first | rw [h1] | rw [h2]))
    go_light
    go_ret
    exact ⟨ret_bool (by unfold clB; rw [h1, h2]; rfl), Z0.out⟩
  go_enter Try.func87, Try.ntmps87
  go_wp2_with (first | (go_at_call 26; refine (specIn _ _ _ _).mono ?_; rintro e w' ⟨rfl, rfl⟩; first | rw [h1] | rw [h2]))
  refine (l1None c.r _).mono ?_
  rintro e w1 ⟨rfl, hb⟩
  obtain ⟨hc, hf⟩ := bcell hb
  have Z1 := Lib.hid (Below.and Z0.out hb)
  have hz : w.heap.size < w1.heap.size := by have := hb.size; simp at this; omega
  rcases h3 : nullB c.r with _ | _
  · go_wp2_with (fail)
    refine (l1Ok c.r.c c.r.n c.r.o c.r.x c.r.y _).mono ?_
    rintro e w2 ⟨rfl, hb2⟩
    clear hc hf hb
    go_wp2
    go_light
    go_ret
    exact ⟨ret_bool (by unfold clB okB rqB; rw [h1, h2, h3]; simp), Below.and Z1.out hb2⟩
  · clear hc hf hb
    go_wp2
    go_light
    go_ret
    exact ⟨ret_bool (by unfold clB okB rqB; rw [h1, h2, h3]; simp), Z1.out⟩

theorem claimValid (c : Cl) (w : World) :
    Calls Try.prog 100 #[c.val] w fun e w' => e = .returned (.bool (clB c)) ∧ Below w.heap.size w w' := by
  have Z0 : Hid (Below w.heap.size w (w.alloc (.cells #[.int .i64 c.s, .int .i64 c.v, .int .i64 c.r.c, .int .i64 c.r.n, .int .i64 c.r.o, .int .i64 c.r.x, .int .i64 c.r.y] 77))) := (Below.refl _ _).alloc (Nat.le_refl _) _
  rcases h1 : inB c.s 1 5 with _ | _
  · go_enter Try.func100, Try.ntmps100
    go_wp2_with (first | (go_at_call 45; refine (implIn _ _ _ _).mono ?_; rintro e w' ⟨rfl, rfl⟩; rw [h1]))
    go_light
    go_ret
    exact ⟨ret_bool (by unfold clB; rw [h1]; rfl), Z0.out⟩
  rcases h2 : inB c.v 0 6 with _ | _
  · go_enter Try.func100, Try.ntmps100
    go_wp2_with (first | (go_at_call 45; refine (implIn _ _ _ _).mono ?_; rintro e w' ⟨rfl, rfl⟩; first | rw [h1] | rw [h2]) | (go_at_call 76; refine (isView _ _).mono ?_; rintro e w' ⟨rfl, rfl⟩; rw [h2]))
    go_light
    go_ret
    exact ⟨ret_bool (by unfold clB; rw [h1, h2]; rfl), Z0.out⟩
  go_enter Try.func100, Try.ntmps100
  go_wp2_with (first | (go_at_call 45; refine (implIn _ _ _ _).mono ?_; rintro e w' ⟨rfl, rfl⟩; first | rw [h1] | rw [h2]) | (go_at_call 76; refine (isView _ _).mono ?_; rintro e w' ⟨rfl, rfl⟩; rw [h2]))
  refine (okOrNull c.r _).mono ?_
  rintro e w1 ⟨rfl, hb⟩
  have Z1 := Lib.hid (Below.and Z0.out hb)
  clear hb
  go_wp2
  go_light
  go_ret
  exact ⟨ret_bool (by unfold clB; rw [h1, h2]; rfl), Z1.out⟩

end Go.Proofs.Ytfelhnchnaggmaa

/- Lists of claims and of votes that are valid: the program's way. -/
namespace Go.Proofs.Ytfelhnchnaggmaa
open Go.ChangeShapes Go.WideShapes Go.ChangeAt Go.RowKit
set_option linter.unusedVariables false

def clsB : Int → List Cl → Bool
  | _, [] => true
  | p, c :: t => decide (p < c.s) && (clB c && clsB c.s t)
def vtsB : Int → List VtP → Bool
  | _, [] => true
  | p, v :: t => decide (p < v.f) && (inB v.f 0 3 && (clsB 0 v.cl && vtsB v.f t))

theorem isKeeper (n : Int) (w : World) :
    Calls Try.prog 22 #[.int .i64 n] w fun e w' => e = .returned (.bool (inB n 0 3)) ∧ w = w' := by
  go_enter Try.func22, Try.ntmps22
  go_wp2_with (go_at_call 45; refine (implIn _ _ _ _).mono ?_; rintro e w' ⟨rfl, rfl⟩)
  go_ret
  exact ⟨rfl, rfl⟩

set_option maxRecDepth 100000 in
set_option maxHeartbeats 1000000 in
theorem claimsValid (A : Option Addr) (c : Nat) (l : List Cl) (w : World) (hn : l.length ≤ maxLen) (hr : RdC w A l) :
    Calls Try.prog 79 #[.slice A l.length c] w fun e w' => e = .returned (.bool (clsB (0) l)) ∧ Below w.heap.size w w' := by
  unfold maxLen at hn
  have HR := Lib.hid hr
  clear hr
  go_enter Try.func79, Try.ntmps79
  go_wp2
  go_loopw [3, 8] (fun pv i wr => ∃ (k : Nat) (p : Int), k ≤ l.length ∧ i = .int .i64 k ∧ pv = .int .i64 p ∧ Hid (clsB (0) l = clsB p (l.drop k)) ∧ Hid (Below w.heap.size w wr)) (fun _ i _ => l.length - (intOf i).toNat)
  case atStart => exact ⟨0, 0, Nat.zero_le _, rfl, rfl, by simp [Hid], Below.refl _ _⟩
  case round =>
    obtain ⟨k, p, hk, rfl, rfl, ht, hb⟩ := hrel
    by_cases hlt : k < l.length
    · obtain ⟨g, o, rfl, ca⟩ := Rd.below HR.out hb.out k hlt
      have HD := Lib.hid (show clsB p (l.drop k) = (decide (p < l[k].s) && (clB l[k] && clsB l[k].s (l.drop (k + 1)))) by rw [List.drop_eq_getElem_cons hlt]; rfl)
      generalize l[k] = x at ca HD
      have a0 : wr.cell? ⟨g, o + k * 7, none⟩ = some (.int .i64 x.s) := ca 0 _ rfl
      have a1 : wr.cell? ⟨g, o + k * 7 + 1, none⟩ = some (.int .i64 x.v) := ca 1 _ rfl
      have a2 : wr.cell? ⟨g, o + k * 7 + 2, none⟩ = some (.int .i64 x.r.c) := ca 2 _ rfl
      have a3 : wr.cell? ⟨g, o + k * 7 + 3, none⟩ = some (.int .i64 x.r.n) := ca 3 _ rfl
      have a4 : wr.cell? ⟨g, o + k * 7 + 4, none⟩ = some (.int .i64 x.r.o) := ca 4 _ rfl
      have a5 : wr.cell? ⟨g, o + k * 7 + 5, none⟩ = some (.int .i64 x.r.x) := ca 5 _ rfl
      have a6 : wr.cell? ⟨g, o + k * 7 + 6, none⟩ = some (.int .i64 x.r.y) := ca 6 _ rfl
      clear ca
      have z1 := (Below.refl wr.heap.size wr).alloc (Nat.le_refl _) (.cells #[.int .i64 x.s, .int .i64 x.v, .int .i64 x.r.c, .int .i64 x.r.n, .int .i64 x.r.o, .int .i64 x.r.x, .int .i64 x.r.y] 77)
      have Z1 := Lib.hid z1
      have BB := Lib.hid (Below.and hb.out z1)
      clear z1
      have i0 : (0 : Int) ≤ (k : Int) := by omega
      have i1 : (k : Int) < (l.length : Int) := by omega
      by_cases h1 : x.s ≤ p
      · have d0 : decide (p < x.s) = false := by simp; omega
        have D0 := Lib.hid d0
        clear d0
        go_wp2
        go_light
        go_ret
        exact ⟨ret_bool (by rw [ht.out, HD.out, D0.out]; rfl), BB.out⟩
      have D0 := Lib.hid (show decide (p < x.s) = true by simp; omega)
      rcases h2 : clB x with _ | _
      · go_wp2_with (go_at_call 100; refine (claimValid x _).mono ?_; rintro e w1 ⟨rfl, hb1⟩; rw [h2])
        go_light
        go_ret
        exact ⟨ret_bool (by rw [ht.out, HD.out, D0.out, h2]; rfl), Below.and BB.out hb1⟩
      · have HN := Lib.hid (show clsB p (l.drop k) = clsB x.s (l.drop (k + 1)) by rw [HD.out, D0.out, h2]; rfl)
        go_wp2_with (fail)
        refine (claimValid x _).mono ?_
        rintro e w1 ⟨rfl, hb1⟩
        rw [h2]
        obtain ⟨hc, hf⟩ := bcell hb1
        have hz : wr.heap.size < w1.heap.size := by have := hb1.size; simp at this; omega
        have BC := Lib.hid (Below.and BB.out hb1)
        clear hb1
        go_wp2
        go_roundw
        case rel => exact ⟨k + 1, x.s, by omega, by go_num, rfl, ht.out.trans HN.out, BC.out⟩
        case measure => simp [intOf]; omega
    · have HZ := Lib.hid (show clsB (0) l = true by rw [ht.out, List.drop_of_length_le (by omega)]; rfl)
      go_wp2
      go_ret
      exact ⟨ret_bool HZ.out.symm, hb.out⟩

set_option maxRecDepth 100000 in
set_option maxHeartbeats 1000000 in
theorem votesValid (A : Option Addr) (c : Nat) (l : List VtP) (w : World) (hn : l.length ≤ maxLen) (hr : RdV w A l) :
    Calls Try.prog 104 #[.slice A l.length c] w fun e w' => e = .returned (.bool (vtsB (-1) l)) ∧ Below w.heap.size w w' := by
  unfold maxLen at hn
  have HR := Lib.hid hr
  clear hr
  go_enter Try.func104, Try.ntmps104
  go_wp2
  go_loopw [3, 8] (fun pv i wr => ∃ (k : Nat) (p : Int), k ≤ l.length ∧ i = .int .i64 k ∧ pv = .int .i64 p ∧ Hid (vtsB (-1) l = vtsB p (l.drop k)) ∧ Hid (Below w.heap.size w wr)) (fun _ i _ => l.length - (intOf i).toNat)
  case atStart => exact ⟨0, -1, Nat.zero_le _, rfl, rfl, by simp [Hid], Below.refl _ _⟩
  case round =>
    obtain ⟨k, p, hk, rfl, rfl, ht, hb⟩ := hrel
    by_cases hlt : k < l.length
    · obtain ⟨g, o, rfl, ca⟩ := Rd.below HR.out.1 hb.out k hlt
      have rx := (HR.out.2 l[k] (List.getElem_mem hlt)).below hb.out
      have HD := Lib.hid (show vtsB p (l.drop k) = (decide (p < l[k].f) && (inB l[k].f 0 3 && (clsB 0 l[k].cl && vtsB l[k].f (l.drop (k + 1))))) by rw [List.drop_eq_getElem_cons hlt]; rfl)
      generalize l[k] = x at ca HD rx
      have a0 : wr.cell? ⟨g, o + k * 2, none⟩ = some (.int .i64 x.f) := ca 0 _ rfl
      have a1 : wr.cell? ⟨g, o + k * 2 + 1, none⟩ = some (.slice x.A x.cl.length x.c) := ca 1 _ rfl
      clear ca
      have z1 := (Below.refl wr.heap.size wr).alloc (Nat.le_refl _) (.cells #[.int .i64 x.f, .slice x.A x.cl.length x.c] 103)
      have Z1 := Lib.hid z1
      have BB := Lib.hid (Below.and hb.out z1)
      have mx : x.cl.length ≤ maxLen := rx.1
      have RX := Lib.hid (rx.2.below z1)
      clear rx
      clear z1
      have i0 : (0 : Int) ≤ (k : Int) := by omega
      have i1 : (k : Int) < (l.length : Int) := by omega
      by_cases h1 : x.f ≤ p
      · have d0 : decide (p < x.f) = false := by simp; omega
        have D0 := Lib.hid d0
        clear d0
        go_wp2
        go_light
        go_ret
        exact ⟨ret_bool (by rw [ht.out, HD.out, D0.out]; rfl), BB.out⟩
      have D0 := Lib.hid (show decide (p < x.f) = true by simp; omega)
      rcases h2 : inB x.f 0 3 with _ | _
      · go_wp2_with (go_at_call 22; refine (isKeeper x.f _).mono ?_; rintro e w1 ⟨rfl, rfl⟩; rw [h2])
        go_light
        go_ret
        exact ⟨ret_bool (by rw [ht.out, HD.out, D0.out, h2]; rfl), BB.out⟩
      go_wp2_with (go_at_call 22; refine (isKeeper x.f _).mono ?_; rintro e w1 ⟨rfl, rfl⟩; rw [h2])
      refine (claimsValid x.A x.c x.cl _ mx RX.out).mono ?_
      rintro e w1 ⟨rfl, hb1⟩
      obtain ⟨hc, hf⟩ := bcell hb1
      have hz : wr.heap.size < w1.heap.size := by have := hb1.size; simp at this; omega
      have BC := Lib.hid (Below.and BB.out hb1)
      clear hb1
      rcases h3 : clsB 0 x.cl with _ | _
      · go_wp2
        go_light
        go_ret
        exact ⟨ret_bool (by rw [ht.out, HD.out, D0.out, h2, h3]; rfl), BC.out⟩
      · have HN := Lib.hid (show vtsB p (l.drop k) = vtsB x.f (l.drop (k + 1)) by rw [HD.out, D0.out, h2, h3]; rfl)
        go_wp2
        go_roundw
        case rel => exact ⟨k + 1, x.f, by omega, by go_num, rfl, ht.out.trans HN.out, BC.out⟩
        case measure => simp [intOf]; omega
    · have HZ := Lib.hid (show vtsB (-1) l = true by rw [ht.out, List.drop_of_length_le (by omega)]; rfl)
      go_wp2
      go_ret
      exact ⟨ret_bool HZ.out.symm, hb.out⟩

end Go.Proofs.Ytfelhnchnaggmaa
