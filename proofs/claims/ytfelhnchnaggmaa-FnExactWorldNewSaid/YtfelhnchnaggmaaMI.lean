/- Oa, Ob -/
import Derived.Test.YtfelhnchnaggmaaZb
import Derived.Test.YtfelhnchnaggmaaUm
/- Whether a letter is ok: the model's check. -/
namespace Go.Proofs.Ytfelhnchnaggmaa
open Go.ChangeShapes Go.WideShapes Go.ChangeAt Go.RowKit
set_option linter.unusedVariables false

def vtsB' : Int → List Vt → Bool
  | _, [] => true
  | p, v :: t => decide (p < v.f) && (inB v.f 0 3 && (clsB 0 v.cl && vtsB' v.f t))
theorem vtsB_eq (P : List VtP) : ∀ p, vtsB p P = vtsB' p (P.map VtP.vt) := by
  induction P with
  | nil => intro p; rfl
  | cons a P ih => intro p; rw [vtsB, List.map_cons, vtsB', ih]; rfl

/-- Whether a letter is ok, of its fields; n, m: how many claims and votes; cb, vb: whether they are ok. -/
def okM (k f v s : Int) (r : Rq) (n m : Nat) (cb vb : Bool) : Bool :=
  if k = 1 then (f == 0) && ((v == 0) && ((s == 0) && (rqB r && decide (n + m = 0))))
  else inB f 0 3 && (inB v 0 6 &&
    (if k = 2 then inB s 1 5 && (rqB r && decide (n + m = 0))
    else if k = 3 ∨ k = 4 then inB s 1 5 && (okB r && decide (n + m = 0))
    else if k = 5 then (s == 0) && (nullB r && (cb && decide (m = 0)))
    else if k = 6 then (s == 0) && (nullB r && (decide (n = 0) && vb))
    else false))
def okP (p : MgP) : Bool := okM p.k p.f p.v p.s p.r p.cl.length p.vt.length (clsB 0 p.cl) (vtsB (-1) p.vt)
theorem okP_congr {p q : MgP} (h : p.mg = q.mg) : okP p = okP q := by
  simp only [MgP.mg, Mg.mk.injEq] at h
  obtain ⟨h1, h2, h3, h4, h5, h6, h7⟩ := h
  have h8 : p.vt.length = q.vt.length := by have := congrArg List.length h7; simpa using this
  unfold okP
  rw [h1, h2, h3, h4, h5, h6, h8, vtsB_eq, vtsB_eq, h7]
theorem emp_eq (n m : Nat) : (((n : Int) + (m : Int)) == 0) = decide (n + m = 0) := by
  rw [Bool.eq_iff_iff]
  simp
  omega

theorem l1OkR (r : Rq) (w : World) :
    Calls Try.prog 89 #[r.val] w fun e w' => e = .returned (.bool (rqB r)) ∧ Below w.heap.size w w' := l1Ok r.c r.n r.o r.x r.y w

set_option maxRecDepth 100000 in
set_option maxHeartbeats 2000000 in
theorem l3Ok1 (p : MgP) (w : World) (m1 : p.cl.length ≤ 1048576) (m2 : p.vt.length ≤ 1048576) (hk : (p.k == 1) = true) : Calls Try.prog 60 #[p.val] w fun e w' => e = .returned (.bool (okP p)) ∧ Below w.heap.size w w' := by
  have BW : Hid (Below w.heap.size w (w.alloc (.cells #[.int .i64 p.k, .int .i64 p.f, .int .i64 p.v, .int .i64 p.s, .int .i64 p.r.c, .int .i64 p.r.n, .int .i64 p.r.o, .int .i64 p.r.x, .int .i64 p.r.y, .slice p.A p.cl.length p.a, .slice p.B p.vt.length p.b] 72))) := (Below.refl _ _).alloc (Nat.le_refl _) _
  have K : Hid (Blk (w.alloc (.cells #[.int .i64 p.k, .int .i64 p.f, .int .i64 p.v, .int .i64 p.s, .int .i64 p.r.c, .int .i64 p.r.n, .int .i64 p.r.o, .int .i64 p.r.x, .int .i64 p.r.y, .slice p.A p.cl.length p.a, .slice p.B p.vt.length p.b] 72)) w.heap.size 72 #[.int .i64 p.k, .int .i64 p.f, .int .i64 p.v, .int .i64 p.s, .int .i64 p.r.c, .int .i64 p.r.n, .int .i64 p.r.o, .int .i64 p.r.x, .int .i64 p.r.y, .slice p.A p.cl.length p.a, .slice p.B p.vt.length p.b]) := Blk.new w
  have HE := Lib.hid (show okP p = ((p.f == 0) && ((p.v == 0) && ((p.s == 0) && (rqB p.r && decide (p.cl.length + p.vt.length = 0))))) from if_pos (by simpa using hk))
  rcases ha : (p.f == 0) with _ | _
  · go_enter Try.func60, Try.ntmps60
    go_wp2
    go_light
    go_ret
    exact ⟨ret_bool (by rw [HE.out]; simp_all), BW.out⟩
  rcases hb : (p.v == 0) with _ | _
  · go_enter Try.func60, Try.ntmps60
    go_wp2
    go_light
    go_ret
    exact ⟨ret_bool (by rw [HE.out]; simp_all), BW.out⟩
  rcases hc : (p.s == 0) with _ | _
  · go_enter Try.func60, Try.ntmps60
    go_wp2
    go_light
    go_ret
    exact ⟨ret_bool (by rw [HE.out]; simp_all), BW.out⟩
  go_enter Try.func60, Try.ntmps60
  go_wp2_with (fail)
  refine (l1OkR p.r _).mono ?_
  rintro e w1 ⟨rfl, hb⟩
  have K := Lib.hid (K.out.below hb)
  have BW := Lib.hid (Below.and BW.out hb)
  clear hb
  rcases hd : rqB p.r with _ | _
  · go_wp2
    go_light
    go_ret
    exact ⟨ret_bool (by rw [HE.out, hd]; simp), BW.out⟩
  have x3 : w1.cell? ⟨w.heap.size, 3, none⟩ = some (.int .i64 p.s) := K.out.cell 3
  have x4 : w1.cell? ⟨w.heap.size, 4, none⟩ = some (.int .i64 p.r.c) := K.out.cell 4
  have x5 : w1.cell? ⟨w.heap.size, 5, none⟩ = some (.int .i64 p.r.n) := K.out.cell 5
  have x6 : w1.cell? ⟨w.heap.size, 6, none⟩ = some (.int .i64 p.r.o) := K.out.cell 6
  have x7 : w1.cell? ⟨w.heap.size, 7, none⟩ = some (.int .i64 p.r.x) := K.out.cell 7
  have x8 : w1.cell? ⟨w.heap.size, 8, none⟩ = some (.int .i64 p.r.y) := K.out.cell 8
  have x9 : w1.cell? ⟨w.heap.size, 9, none⟩ = some (.slice p.A p.cl.length p.a) := K.out.cell 9
  have x10 : w1.cell? ⟨w.heap.size, 10, none⟩ = some (.slice p.B p.vt.length p.b) := K.out.cell 10
  have HF := Lib.hid (show okP p = decide (p.cl.length + p.vt.length = 0) by rw [HE.out, ha, hb, hc, hd]; rfl)
  rcases hL : decide (p.cl.length + p.vt.length = 0) with _ | _
  · have hs := (emp_eq p.cl.length p.vt.length).trans hL
    have HG := Lib.hid hL
    clear hL
    go_wp2
    go_light
    go_ret
    exact ⟨ret_bool (by rw [HF.out, HG.out]), BW.out⟩
  · have hs := (emp_eq p.cl.length p.vt.length).trans hL
    have HG := Lib.hid hL
    clear hL
    go_wp2
    go_light
    go_ret
    exact ⟨ret_bool (by rw [HF.out, HG.out]), BW.out⟩

set_option maxRecDepth 100000 in
set_option maxHeartbeats 2000000 in
theorem l3Ok2 (p : MgP) (w : World) (m1 : p.cl.length ≤ 1048576) (m2 : p.vt.length ≤ 1048576) (hk : p.k = 2) : Calls Try.prog 60 #[p.val] w fun e w' => e = .returned (.bool (okP p)) ∧ Below w.heap.size w w' := by
  have BW : Hid (Below w.heap.size w (w.alloc (.cells #[.int .i64 p.k, .int .i64 p.f, .int .i64 p.v, .int .i64 p.s, .int .i64 p.r.c, .int .i64 p.r.n, .int .i64 p.r.o, .int .i64 p.r.x, .int .i64 p.r.y, .slice p.A p.cl.length p.a, .slice p.B p.vt.length p.b] 72))) := (Below.refl _ _).alloc (Nat.le_refl _) _
  have K : Hid (Blk (w.alloc (.cells #[.int .i64 p.k, .int .i64 p.f, .int .i64 p.v, .int .i64 p.s, .int .i64 p.r.c, .int .i64 p.r.n, .int .i64 p.r.o, .int .i64 p.r.x, .int .i64 p.r.y, .slice p.A p.cl.length p.a, .slice p.B p.vt.length p.b] 72)) w.heap.size 72 #[.int .i64 p.k, .int .i64 p.f, .int .i64 p.v, .int .i64 p.s, .int .i64 p.r.c, .int .i64 p.r.n, .int .i64 p.r.o, .int .i64 p.r.x, .int .i64 p.r.y, .slice p.A p.cl.length p.a, .slice p.B p.vt.length p.b]) := Blk.new w
  have hk1 : (p.k == 1) = false := by simp; omega
  have HE := Lib.hid (show okP p = (inB p.f 0 3 && (inB p.v 0 6 && (inB p.s 1 5 && (rqB p.r && decide (p.cl.length + p.vt.length = 0))))) from by unfold okP okM; rw [if_neg (show ¬ p.k = 1 by omega)]; rw [if_pos hk])
  have hk2 : (p.k == 2) = true := by simp [hk]
  clear hk
  rcases ha : inB p.f 0 3 with _ | _
  · go_enter Try.func60, Try.ntmps60
    go_wp2_with (go_at_call 26; refine (specIn _ _ _ _).mono ?_; rintro e w' ⟨rfl, rfl⟩; first | rw [ha])
    go_light
    go_ret
    exact ⟨ret_bool (by rw [HE.out, ha]; rfl), BW.out⟩
  rcases hb : inB p.v 0 6 with _ | _
  · go_enter Try.func60, Try.ntmps60
    go_wp2_with (go_at_call 26; refine (specIn _ _ _ _).mono ?_; rintro e w' ⟨rfl, rfl⟩; first | rw [ha] | rw [hb])
    go_light
    go_ret
    exact ⟨ret_bool (by rw [HE.out, ha, hb]; rfl), BW.out⟩
  rcases hc : inB p.s 1 5 with _ | _
  · go_enter Try.func60, Try.ntmps60
    go_wp2_with (go_at_call 26; refine (specIn _ _ _ _).mono ?_; rintro e w' ⟨rfl, rfl⟩; first | rw [ha] | rw [hb] | rw [hc])
    go_light
    go_ret
    exact ⟨ret_bool (by rw [HE.out, ha, hb, hc]; rfl), BW.out⟩
  go_enter Try.func60, Try.ntmps60
  go_wp2_with (go_at_call 26; refine (specIn _ _ _ _).mono ?_; rintro e w' ⟨rfl, rfl⟩; first | rw [ha] | rw [hb] | rw [hc])
  refine (l1OkR p.r _).mono ?_
  rintro e w1 ⟨rfl, hbb⟩
  have K := Lib.hid (K.out.below hbb)
  have BW := Lib.hid (Below.and BW.out hbb)
  clear hbb
  rcases hd : rqB p.r with _ | _
  · go_wp2
    go_light
    go_ret
    exact ⟨ret_bool (by rw [HE.out, ha, hb, hc, hd]; rfl), BW.out⟩
  have x3 : w1.cell? ⟨w.heap.size, 3, none⟩ = some (.int .i64 p.s) := K.out.cell 3
  have x4 : w1.cell? ⟨w.heap.size, 4, none⟩ = some (.int .i64 p.r.c) := K.out.cell 4
  have x5 : w1.cell? ⟨w.heap.size, 5, none⟩ = some (.int .i64 p.r.n) := K.out.cell 5
  have x6 : w1.cell? ⟨w.heap.size, 6, none⟩ = some (.int .i64 p.r.o) := K.out.cell 6
  have x7 : w1.cell? ⟨w.heap.size, 7, none⟩ = some (.int .i64 p.r.x) := K.out.cell 7
  have x8 : w1.cell? ⟨w.heap.size, 8, none⟩ = some (.int .i64 p.r.y) := K.out.cell 8
  have x9 : w1.cell? ⟨w.heap.size, 9, none⟩ = some (.slice p.A p.cl.length p.a) := K.out.cell 9
  have x10 : w1.cell? ⟨w.heap.size, 10, none⟩ = some (.slice p.B p.vt.length p.b) := K.out.cell 10
  rcases hL : decide (p.cl.length + p.vt.length = 0) with _ | _
  all_goals have hs := (emp_eq p.cl.length p.vt.length).trans hL
  all_goals have HG := Lib.hid hL
  all_goals clear hL
  all_goals go_wp2
  all_goals go_light
  all_goals go_ret
  all_goals exact ⟨ret_bool (by rw [HE.out, ha, hb, hc, hd, HG.out]; rfl), BW.out⟩

set_option maxRecDepth 100000 in
set_option maxHeartbeats 2000000 in
theorem l3Ok3 (p : MgP) (w : World) (m1 : p.cl.length ≤ 1048576) (m2 : p.vt.length ≤ 1048576) (hk : p.k = 3) : Calls Try.prog 60 #[p.val] w fun e w' => e = .returned (.bool (okP p)) ∧ Below w.heap.size w w' := by
  have BW : Hid (Below w.heap.size w (w.alloc (.cells #[.int .i64 p.k, .int .i64 p.f, .int .i64 p.v, .int .i64 p.s, .int .i64 p.r.c, .int .i64 p.r.n, .int .i64 p.r.o, .int .i64 p.r.x, .int .i64 p.r.y, .slice p.A p.cl.length p.a, .slice p.B p.vt.length p.b] 72))) := (Below.refl _ _).alloc (Nat.le_refl _) _
  have K : Hid (Blk (w.alloc (.cells #[.int .i64 p.k, .int .i64 p.f, .int .i64 p.v, .int .i64 p.s, .int .i64 p.r.c, .int .i64 p.r.n, .int .i64 p.r.o, .int .i64 p.r.x, .int .i64 p.r.y, .slice p.A p.cl.length p.a, .slice p.B p.vt.length p.b] 72)) w.heap.size 72 #[.int .i64 p.k, .int .i64 p.f, .int .i64 p.v, .int .i64 p.s, .int .i64 p.r.c, .int .i64 p.r.n, .int .i64 p.r.o, .int .i64 p.r.x, .int .i64 p.r.y, .slice p.A p.cl.length p.a, .slice p.B p.vt.length p.b]) := Blk.new w
  have hk1 : (p.k == 1) = false := by simp; omega
  have HE := Lib.hid (show okP p = (inB p.f 0 3 && (inB p.v 0 6 && (inB p.s 1 5 && (okB p.r && decide (p.cl.length + p.vt.length = 0))))) from by unfold okP okM; rw [if_neg (show ¬ p.k = 1 by omega)]; rw [if_neg (show ¬ p.k = 2 by omega), if_pos (show p.k = 3 ∨ p.k = 4 by omega)])
  have hk2 : (p.k == 2) = false := by simp [hk]
  have hk3 : (p.k == 3) = true := by simp [hk]
  have hk4 : (p.k == 4) = false := by simp [hk]
  clear hk
  rcases ha : inB p.f 0 3 with _ | _
  · go_enter Try.func60, Try.ntmps60
    go_wp2_with (go_at_call 26; refine (specIn _ _ _ _).mono ?_; rintro e w' ⟨rfl, rfl⟩; first | rw [ha])
    go_light
    go_ret
    exact ⟨ret_bool (by rw [HE.out, ha]; rfl), BW.out⟩
  rcases hb : inB p.v 0 6 with _ | _
  · go_enter Try.func60, Try.ntmps60
    go_wp2_with (go_at_call 26; refine (specIn _ _ _ _).mono ?_; rintro e w' ⟨rfl, rfl⟩; first | rw [ha] | rw [hb])
    go_light
    go_ret
    exact ⟨ret_bool (by rw [HE.out, ha, hb]; rfl), BW.out⟩
  rcases hc : inB p.s 1 5 with _ | _
  · go_enter Try.func60, Try.ntmps60
    go_wp2_with (go_at_call 26; refine (specIn _ _ _ _).mono ?_; rintro e w' ⟨rfl, rfl⟩; first | rw [ha] | rw [hb] | rw [hc])
    go_light
    go_ret
    exact ⟨ret_bool (by rw [HE.out, ha, hb, hc]; rfl), BW.out⟩
  go_enter Try.func60, Try.ntmps60
  go_wp2_with (go_at_call 26; refine (specIn _ _ _ _).mono ?_; rintro e w' ⟨rfl, rfl⟩; first | rw [ha] | rw [hb] | rw [hc])
  refine (l1OkR p.r _).mono ?_
  rintro e w1 ⟨rfl, hbb⟩
  have K := Lib.hid (K.out.below hbb)
  have BW := Lib.hid (Below.and BW.out hbb)
  clear hbb
  have x3 : w1.cell? ⟨w.heap.size, 3, none⟩ = some (.int .i64 p.s) := K.out.cell 3
  have x4 : w1.cell? ⟨w.heap.size, 4, none⟩ = some (.int .i64 p.r.c) := K.out.cell 4
  have x5 : w1.cell? ⟨w.heap.size, 5, none⟩ = some (.int .i64 p.r.n) := K.out.cell 5
  have x6 : w1.cell? ⟨w.heap.size, 6, none⟩ = some (.int .i64 p.r.o) := K.out.cell 6
  have x7 : w1.cell? ⟨w.heap.size, 7, none⟩ = some (.int .i64 p.r.x) := K.out.cell 7
  have x8 : w1.cell? ⟨w.heap.size, 8, none⟩ = some (.int .i64 p.r.y) := K.out.cell 8
  have x9 : w1.cell? ⟨w.heap.size, 9, none⟩ = some (.slice p.A p.cl.length p.a) := K.out.cell 9
  have x10 : w1.cell? ⟨w.heap.size, 10, none⟩ = some (.slice p.B p.vt.length p.b) := K.out.cell 10
  rcases hd : rqB p.r with _ | _
  · go_wp2_with (fail)
    refine (l1None p.r _).mono ?_
    rintro e w2 ⟨rfl, hbb⟩
    have K := Lib.hid (K.out.below hbb)
    have BW := Lib.hid (Below.and BW.out hbb)
    clear hbb
    clear x3 x4 x5 x6 x7 x8 x9 x10
    rcases he : nullB p.r with _ | _
    · go_wp2
      go_light
      go_ret
      exact ⟨ret_bool (by rw [HE.out, ha, hb, hc, okB, hd, he]; rfl), BW.out⟩
    have x3 : w2.cell? ⟨w.heap.size, 3, none⟩ = some (.int .i64 p.s) := K.out.cell 3
    have x4 : w2.cell? ⟨w.heap.size, 4, none⟩ = some (.int .i64 p.r.c) := K.out.cell 4
    have x5 : w2.cell? ⟨w.heap.size, 5, none⟩ = some (.int .i64 p.r.n) := K.out.cell 5
    have x6 : w2.cell? ⟨w.heap.size, 6, none⟩ = some (.int .i64 p.r.o) := K.out.cell 6
    have x7 : w2.cell? ⟨w.heap.size, 7, none⟩ = some (.int .i64 p.r.x) := K.out.cell 7
    have x8 : w2.cell? ⟨w.heap.size, 8, none⟩ = some (.int .i64 p.r.y) := K.out.cell 8
    have x9 : w2.cell? ⟨w.heap.size, 9, none⟩ = some (.slice p.A p.cl.length p.a) := K.out.cell 9
    have x10 : w2.cell? ⟨w.heap.size, 10, none⟩ = some (.slice p.B p.vt.length p.b) := K.out.cell 10
    rcases hL : decide (p.cl.length + p.vt.length = 0) with _ | _
    all_goals have hs := (emp_eq p.cl.length p.vt.length).trans hL
    all_goals have HG := Lib.hid hL
    all_goals clear hL
    all_goals go_wp2
    all_goals go_light
    all_goals go_ret
    all_goals exact ⟨ret_bool (by rw [HE.out, ha, hb, hc, okB, hd, he, HG.out]; rfl), BW.out⟩
  rcases hL : decide (p.cl.length + p.vt.length = 0) with _ | _
  all_goals have hs := (emp_eq p.cl.length p.vt.length).trans hL
  all_goals have HG := Lib.hid hL
  all_goals clear hL
  all_goals go_wp2
  all_goals go_light
  all_goals go_ret
  all_goals exact ⟨ret_bool (by rw [HE.out, ha, hb, hc, okB, hd, HG.out]; rfl), BW.out⟩

set_option maxRecDepth 100000 in
set_option maxHeartbeats 2000000 in
theorem l3Ok4 (p : MgP) (w : World) (m1 : p.cl.length ≤ 1048576) (m2 : p.vt.length ≤ 1048576) (hk : p.k = 4) : Calls Try.prog 60 #[p.val] w fun e w' => e = .returned (.bool (okP p)) ∧ Below w.heap.size w w' := by
  have BW : Hid (Below w.heap.size w (w.alloc (.cells #[.int .i64 p.k, .int .i64 p.f, .int .i64 p.v, .int .i64 p.s, .int .i64 p.r.c, .int .i64 p.r.n, .int .i64 p.r.o, .int .i64 p.r.x, .int .i64 p.r.y, .slice p.A p.cl.length p.a, .slice p.B p.vt.length p.b] 72))) := (Below.refl _ _).alloc (Nat.le_refl _) _
  have K : Hid (Blk (w.alloc (.cells #[.int .i64 p.k, .int .i64 p.f, .int .i64 p.v, .int .i64 p.s, .int .i64 p.r.c, .int .i64 p.r.n, .int .i64 p.r.o, .int .i64 p.r.x, .int .i64 p.r.y, .slice p.A p.cl.length p.a, .slice p.B p.vt.length p.b] 72)) w.heap.size 72 #[.int .i64 p.k, .int .i64 p.f, .int .i64 p.v, .int .i64 p.s, .int .i64 p.r.c, .int .i64 p.r.n, .int .i64 p.r.o, .int .i64 p.r.x, .int .i64 p.r.y, .slice p.A p.cl.length p.a, .slice p.B p.vt.length p.b]) := Blk.new w
  have hk1 : (p.k == 1) = false := by simp; omega
  have HE := Lib.hid (show okP p = (inB p.f 0 3 && (inB p.v 0 6 && (inB p.s 1 5 && (okB p.r && decide (p.cl.length + p.vt.length = 0))))) from by unfold okP okM; rw [if_neg (show ¬ p.k = 1 by omega)]; rw [if_neg (show ¬ p.k = 2 by omega), if_pos (show p.k = 3 ∨ p.k = 4 by omega)])
  have hk2 : (p.k == 2) = false := by simp [hk]
  have hk3 : (p.k == 3) = false := by simp [hk]
  have hk4 : (p.k == 4) = true := by simp [hk]
  clear hk
  rcases ha : inB p.f 0 3 with _ | _
  · go_enter Try.func60, Try.ntmps60
    go_wp2_with (go_at_call 26; refine (specIn _ _ _ _).mono ?_; rintro e w' ⟨rfl, rfl⟩; first | rw [ha])
    go_light
    go_ret
    exact ⟨ret_bool (by rw [HE.out, ha]; rfl), BW.out⟩
  rcases hb : inB p.v 0 6 with _ | _
  · go_enter Try.func60, Try.ntmps60
    go_wp2_with (go_at_call 26; refine (specIn _ _ _ _).mono ?_; rintro e w' ⟨rfl, rfl⟩; first | rw [ha] | rw [hb])
    go_light
    go_ret
    exact ⟨ret_bool (by rw [HE.out, ha, hb]; rfl), BW.out⟩
  rcases hc : inB p.s 1 5 with _ | _
  · go_enter Try.func60, Try.ntmps60
    go_wp2_with (go_at_call 26; refine (specIn _ _ _ _).mono ?_; rintro e w' ⟨rfl, rfl⟩; first | rw [ha] | rw [hb] | rw [hc])
    go_light
    go_ret
    exact ⟨ret_bool (by rw [HE.out, ha, hb, hc]; rfl), BW.out⟩
  go_enter Try.func60, Try.ntmps60
  go_wp2_with (go_at_call 26; refine (specIn _ _ _ _).mono ?_; rintro e w' ⟨rfl, rfl⟩; first | rw [ha] | rw [hb] | rw [hc])
  refine (l1OkR p.r _).mono ?_
  rintro e w1 ⟨rfl, hbb⟩
  have K := Lib.hid (K.out.below hbb)
  have BW := Lib.hid (Below.and BW.out hbb)
  clear hbb
  have x3 : w1.cell? ⟨w.heap.size, 3, none⟩ = some (.int .i64 p.s) := K.out.cell 3
  have x4 : w1.cell? ⟨w.heap.size, 4, none⟩ = some (.int .i64 p.r.c) := K.out.cell 4
  have x5 : w1.cell? ⟨w.heap.size, 5, none⟩ = some (.int .i64 p.r.n) := K.out.cell 5
  have x6 : w1.cell? ⟨w.heap.size, 6, none⟩ = some (.int .i64 p.r.o) := K.out.cell 6
  have x7 : w1.cell? ⟨w.heap.size, 7, none⟩ = some (.int .i64 p.r.x) := K.out.cell 7
  have x8 : w1.cell? ⟨w.heap.size, 8, none⟩ = some (.int .i64 p.r.y) := K.out.cell 8
  have x9 : w1.cell? ⟨w.heap.size, 9, none⟩ = some (.slice p.A p.cl.length p.a) := K.out.cell 9
  have x10 : w1.cell? ⟨w.heap.size, 10, none⟩ = some (.slice p.B p.vt.length p.b) := K.out.cell 10
  rcases hd : rqB p.r with _ | _
  · go_wp2_with (fail)
    refine (l1None p.r _).mono ?_
    rintro e w2 ⟨rfl, hbb⟩
    have K := Lib.hid (K.out.below hbb)
    have BW := Lib.hid (Below.and BW.out hbb)
    clear hbb
    clear x3 x4 x5 x6 x7 x8 x9 x10
    rcases he : nullB p.r with _ | _
    · go_wp2
      go_light
      go_ret
      exact ⟨ret_bool (by rw [HE.out, ha, hb, hc, okB, hd, he]; rfl), BW.out⟩
    have x3 : w2.cell? ⟨w.heap.size, 3, none⟩ = some (.int .i64 p.s) := K.out.cell 3
    have x4 : w2.cell? ⟨w.heap.size, 4, none⟩ = some (.int .i64 p.r.c) := K.out.cell 4
    have x5 : w2.cell? ⟨w.heap.size, 5, none⟩ = some (.int .i64 p.r.n) := K.out.cell 5
    have x6 : w2.cell? ⟨w.heap.size, 6, none⟩ = some (.int .i64 p.r.o) := K.out.cell 6
    have x7 : w2.cell? ⟨w.heap.size, 7, none⟩ = some (.int .i64 p.r.x) := K.out.cell 7
    have x8 : w2.cell? ⟨w.heap.size, 8, none⟩ = some (.int .i64 p.r.y) := K.out.cell 8
    have x9 : w2.cell? ⟨w.heap.size, 9, none⟩ = some (.slice p.A p.cl.length p.a) := K.out.cell 9
    have x10 : w2.cell? ⟨w.heap.size, 10, none⟩ = some (.slice p.B p.vt.length p.b) := K.out.cell 10
    rcases hL : decide (p.cl.length + p.vt.length = 0) with _ | _
    all_goals have hs := (emp_eq p.cl.length p.vt.length).trans hL
    all_goals have HG := Lib.hid hL
    all_goals clear hL
    all_goals go_wp2
    all_goals go_light
    all_goals go_ret
    all_goals exact ⟨ret_bool (by rw [HE.out, ha, hb, hc, okB, hd, he, HG.out]; rfl), BW.out⟩
  rcases hL : decide (p.cl.length + p.vt.length = 0) with _ | _
  all_goals have hs := (emp_eq p.cl.length p.vt.length).trans hL
  all_goals have HG := Lib.hid hL
  all_goals clear hL
  all_goals go_wp2
  all_goals go_light
  all_goals go_ret
  all_goals exact ⟨ret_bool (by rw [HE.out, ha, hb, hc, okB, hd, HG.out]; rfl), BW.out⟩

end Go.Proofs.Ytfelhnchnaggmaa

/- Whether a letter is ok: the model's check, the other kinds. -/
namespace Go.Proofs.Ytfelhnchnaggmaa
open Go.ChangeShapes Go.WideShapes Go.ChangeAt Go.RowKit
set_option linter.unusedVariables false

set_option maxRecDepth 100000 in
set_option maxHeartbeats 2000000 in
theorem l3Ok5 (p : MgP) (w : World) (m1 : p.cl.length ≤ 1048576) (m2 : p.vt.length ≤ 1048576) (hp : p.rd w) (hk : p.k = 5) : Calls Try.prog 60 #[p.val] w fun e w' => e = .returned (.bool (okP p)) ∧ Below w.heap.size w w' := by
  have BW : Hid (Below w.heap.size w (w.alloc (.cells #[.int .i64 p.k, .int .i64 p.f, .int .i64 p.v, .int .i64 p.s, .int .i64 p.r.c, .int .i64 p.r.n, .int .i64 p.r.o, .int .i64 p.r.x, .int .i64 p.r.y, .slice p.A p.cl.length p.a, .slice p.B p.vt.length p.b] 72))) := (Below.refl _ _).alloc (Nat.le_refl _) _
  have K : Hid (Blk (w.alloc (.cells #[.int .i64 p.k, .int .i64 p.f, .int .i64 p.v, .int .i64 p.s, .int .i64 p.r.c, .int .i64 p.r.n, .int .i64 p.r.o, .int .i64 p.r.x, .int .i64 p.r.y, .slice p.A p.cl.length p.a, .slice p.B p.vt.length p.b] 72)) w.heap.size 72 #[.int .i64 p.k, .int .i64 p.f, .int .i64 p.v, .int .i64 p.s, .int .i64 p.r.c, .int .i64 p.r.n, .int .i64 p.r.o, .int .i64 p.r.x, .int .i64 p.r.y, .slice p.A p.cl.length p.a, .slice p.B p.vt.length p.b]) := Blk.new w
  have RC := Lib.hid hp.2.2.1
  have RV := Lib.hid hp.2.2.2
  clear hp
  have hk1 : (p.k == 1) = false := by simp; omega
  have HE := Lib.hid (show okP p = (inB p.f 0 3 && (inB p.v 0 6 && ((p.s == 0) && (nullB p.r && (clsB 0 p.cl && decide (p.vt.length = 0)))))) from by unfold okP okM; rw [if_neg (show ¬ p.k = 1 by omega), if_neg (show ¬ p.k = 2 by omega), if_neg (show ¬ (p.k = 3 ∨ p.k = 4) by omega), if_pos hk])
  have hk2 : (p.k == 2) = false := by simp; omega
  have hk3 : (p.k == 3) = false := by simp; omega
  have hk4 : (p.k == 4) = false := by simp; omega
  have hk5 : (p.k == 5) = true := by simp; omega
  have hk6 : (p.k == 6) = false := by simp; omega
  clear hk
  rcases ha : inB p.f 0 3 with _ | _
  · go_enter Try.func60, Try.ntmps60
    go_wp2_with (go_at_call 26; refine (specIn _ _ _ _).mono ?_; rintro e w' ⟨rfl, rfl⟩; first | rw [ha])
    go_light
    go_ret
    exact ⟨ret_bool (by rw [HE.out, ha]; rfl), BW.out⟩
  rcases hb : inB p.v 0 6 with _ | _
  · go_enter Try.func60, Try.ntmps60
    go_wp2_with (go_at_call 26; refine (specIn _ _ _ _).mono ?_; rintro e w' ⟨rfl, rfl⟩; first | rw [ha] | rw [hb])
    go_light
    go_ret
    exact ⟨ret_bool (by rw [HE.out, ha, hb]; rfl), BW.out⟩
  rcases hc : (p.s == 0) with _ | _
  · go_enter Try.func60, Try.ntmps60
    go_wp2_with (go_at_call 26; refine (specIn _ _ _ _).mono ?_; rintro e w' ⟨rfl, rfl⟩; first | rw [ha] | rw [hb])
    go_light
    go_ret
    exact ⟨ret_bool (by rw [HE.out, ha, hb, hc]; rfl), BW.out⟩
  go_enter Try.func60, Try.ntmps60
  go_wp2_with (go_at_call 26; refine (specIn _ _ _ _).mono ?_; rintro e w' ⟨rfl, rfl⟩; first | rw [ha] | rw [hb])
  refine (l1None p.r _).mono ?_
  rintro e w1 ⟨rfl, hbb⟩
  have K := Lib.hid (K.out.below hbb)
  have BW := Lib.hid (Below.and BW.out hbb)
  clear hbb
  rcases hd : nullB p.r with _ | _
  · go_wp2
    go_light
    go_ret
    exact ⟨ret_bool (by rw [HE.out, ha, hb, hc, hd]; rfl), BW.out⟩
  have x3 : w1.cell? ⟨w.heap.size, 3, none⟩ = some (.int .i64 p.s) := K.out.cell 3
  have x4 : w1.cell? ⟨w.heap.size, 4, none⟩ = some (.int .i64 p.r.c) := K.out.cell 4
  have x5 : w1.cell? ⟨w.heap.size, 5, none⟩ = some (.int .i64 p.r.n) := K.out.cell 5
  have x6 : w1.cell? ⟨w.heap.size, 6, none⟩ = some (.int .i64 p.r.o) := K.out.cell 6
  have x7 : w1.cell? ⟨w.heap.size, 7, none⟩ = some (.int .i64 p.r.x) := K.out.cell 7
  have x8 : w1.cell? ⟨w.heap.size, 8, none⟩ = some (.int .i64 p.r.y) := K.out.cell 8
  have x9 : w1.cell? ⟨w.heap.size, 9, none⟩ = some (.slice p.A p.cl.length p.a) := K.out.cell 9
  have x10 : w1.cell? ⟨w.heap.size, 10, none⟩ = some (.slice p.B p.vt.length p.b) := K.out.cell 10
  go_wp2_with (fail)
  refine (l3ClaimsOk p.A p.a p.cl _ (by unfold maxLen; omega) (RC.out.below BW.out)).mono ?_
  rintro e w2 ⟨rfl, hbb⟩
  have K := Lib.hid (K.out.below hbb)
  have BW := Lib.hid (Below.and BW.out hbb)
  clear hbb
  clear x3 x4 x5 x6 x7 x8 x9 x10
  rcases he : clsB 0 p.cl with _ | _
  · go_wp2
    go_light
    go_ret
    exact ⟨ret_bool (by rw [HE.out, ha, hb, hc, hd, he]; rfl), BW.out⟩
  have x3 : w2.cell? ⟨w.heap.size, 3, none⟩ = some (.int .i64 p.s) := K.out.cell 3
  have x4 : w2.cell? ⟨w.heap.size, 4, none⟩ = some (.int .i64 p.r.c) := K.out.cell 4
  have x5 : w2.cell? ⟨w.heap.size, 5, none⟩ = some (.int .i64 p.r.n) := K.out.cell 5
  have x6 : w2.cell? ⟨w.heap.size, 6, none⟩ = some (.int .i64 p.r.o) := K.out.cell 6
  have x7 : w2.cell? ⟨w.heap.size, 7, none⟩ = some (.int .i64 p.r.x) := K.out.cell 7
  have x8 : w2.cell? ⟨w.heap.size, 8, none⟩ = some (.int .i64 p.r.y) := K.out.cell 8
  have x9 : w2.cell? ⟨w.heap.size, 9, none⟩ = some (.slice p.A p.cl.length p.a) := K.out.cell 9
  have x10 : w2.cell? ⟨w.heap.size, 10, none⟩ = some (.slice p.B p.vt.length p.b) := K.out.cell 10
  rcases hL : ((p.vt.length : Int) == 0) with _ | _
  all_goals have HG := Lib.hid hL
  all_goals go_wp2
  all_goals go_light
  all_goals go_ret
  all_goals exact ⟨ret_bool (by rw [HE.out, ha, hb, hc, hd, he, show decide (p.vt.length = 0) = ((p.vt.length : Int) == 0) by rw [Bool.eq_iff_iff]; simp, HG.out]; rfl), BW.out⟩

set_option maxRecDepth 100000 in
set_option maxHeartbeats 2000000 in
theorem l3Ok6 (p : MgP) (w : World) (m1 : p.cl.length ≤ 1048576) (m2 : p.vt.length ≤ 1048576) (hp : p.rd w) (hk : p.k = 6) : Calls Try.prog 60 #[p.val] w fun e w' => e = .returned (.bool (okP p)) ∧ Below w.heap.size w w' := by
  have BW : Hid (Below w.heap.size w (w.alloc (.cells #[.int .i64 p.k, .int .i64 p.f, .int .i64 p.v, .int .i64 p.s, .int .i64 p.r.c, .int .i64 p.r.n, .int .i64 p.r.o, .int .i64 p.r.x, .int .i64 p.r.y, .slice p.A p.cl.length p.a, .slice p.B p.vt.length p.b] 72))) := (Below.refl _ _).alloc (Nat.le_refl _) _
  have K : Hid (Blk (w.alloc (.cells #[.int .i64 p.k, .int .i64 p.f, .int .i64 p.v, .int .i64 p.s, .int .i64 p.r.c, .int .i64 p.r.n, .int .i64 p.r.o, .int .i64 p.r.x, .int .i64 p.r.y, .slice p.A p.cl.length p.a, .slice p.B p.vt.length p.b] 72)) w.heap.size 72 #[.int .i64 p.k, .int .i64 p.f, .int .i64 p.v, .int .i64 p.s, .int .i64 p.r.c, .int .i64 p.r.n, .int .i64 p.r.o, .int .i64 p.r.x, .int .i64 p.r.y, .slice p.A p.cl.length p.a, .slice p.B p.vt.length p.b]) := Blk.new w
  have RC := Lib.hid hp.2.2.1
  have RV := Lib.hid hp.2.2.2
  clear hp
  have hk1 : (p.k == 1) = false := by simp; omega
  have HE := Lib.hid (show okP p = (inB p.f 0 3 && (inB p.v 0 6 && ((p.s == 0) && (nullB p.r && (decide (p.cl.length = 0) && vtsB (-1) p.vt))))) from by unfold okP okM; rw [if_neg (show ¬ p.k = 1 by omega), if_neg (show ¬ p.k = 2 by omega), if_neg (show ¬ (p.k = 3 ∨ p.k = 4) by omega), if_neg (show ¬ p.k = 5 by omega), if_pos hk])
  have hk2 : (p.k == 2) = false := by simp; omega
  have hk3 : (p.k == 3) = false := by simp; omega
  have hk4 : (p.k == 4) = false := by simp; omega
  have hk5 : (p.k == 5) = false := by simp; omega
  have hk6 : (p.k == 6) = true := by simp; omega
  clear hk
  rcases ha : inB p.f 0 3 with _ | _
  · go_enter Try.func60, Try.ntmps60
    go_wp2_with (go_at_call 26; refine (specIn _ _ _ _).mono ?_; rintro e w' ⟨rfl, rfl⟩; first | rw [ha])
    go_light
    go_ret
    exact ⟨ret_bool (by rw [HE.out, ha]; rfl), BW.out⟩
  rcases hb : inB p.v 0 6 with _ | _
  · go_enter Try.func60, Try.ntmps60
    go_wp2_with (go_at_call 26; refine (specIn _ _ _ _).mono ?_; rintro e w' ⟨rfl, rfl⟩; first | rw [ha] | rw [hb])
    go_light
    go_ret
    exact ⟨ret_bool (by rw [HE.out, ha, hb]; rfl), BW.out⟩
  rcases hc : (p.s == 0) with _ | _
  · go_enter Try.func60, Try.ntmps60
    go_wp2_with (go_at_call 26; refine (specIn _ _ _ _).mono ?_; rintro e w' ⟨rfl, rfl⟩; first | rw [ha] | rw [hb])
    go_light
    go_ret
    exact ⟨ret_bool (by rw [HE.out, ha, hb, hc]; rfl), BW.out⟩
  go_enter Try.func60, Try.ntmps60
  go_wp2_with (go_at_call 26; refine (specIn _ _ _ _).mono ?_; rintro e w' ⟨rfl, rfl⟩; first | rw [ha] | rw [hb])
  refine (l1None p.r _).mono ?_
  rintro e w1 ⟨rfl, hbb⟩
  have K := Lib.hid (K.out.below hbb)
  have BW := Lib.hid (Below.and BW.out hbb)
  clear hbb
  rcases hd : nullB p.r with _ | _
  · go_wp2
    go_light
    go_ret
    exact ⟨ret_bool (by rw [HE.out, ha, hb, hc, hd]; rfl), BW.out⟩
  have x3 : w1.cell? ⟨w.heap.size, 3, none⟩ = some (.int .i64 p.s) := K.out.cell 3
  have x4 : w1.cell? ⟨w.heap.size, 4, none⟩ = some (.int .i64 p.r.c) := K.out.cell 4
  have x5 : w1.cell? ⟨w.heap.size, 5, none⟩ = some (.int .i64 p.r.n) := K.out.cell 5
  have x6 : w1.cell? ⟨w.heap.size, 6, none⟩ = some (.int .i64 p.r.o) := K.out.cell 6
  have x7 : w1.cell? ⟨w.heap.size, 7, none⟩ = some (.int .i64 p.r.x) := K.out.cell 7
  have x8 : w1.cell? ⟨w.heap.size, 8, none⟩ = some (.int .i64 p.r.y) := K.out.cell 8
  have x9 : w1.cell? ⟨w.heap.size, 9, none⟩ = some (.slice p.A p.cl.length p.a) := K.out.cell 9
  have x10 : w1.cell? ⟨w.heap.size, 10, none⟩ = some (.slice p.B p.vt.length p.b) := K.out.cell 10
  have HQ := Lib.hid (show decide (p.cl.length = 0) = ((p.cl.length : Int) == 0) by rw [Bool.eq_iff_iff]; simp)
  rcases hL : ((p.cl.length : Int) == 0) with _ | _
  · have HG := Lib.hid hL
    go_wp2
    go_light
    go_ret
    exact ⟨ret_bool (by rw [HE.out, ha, hb, hc, hd, HQ.out, HG.out]; rfl), BW.out⟩
  have HG := Lib.hid hL
  go_wp2_with (fail)
  refine (l3VotesOk p.B p.b p.vt _ (by unfold maxLen; omega) (RdV.below RV.out BW.out)).mono ?_
  rintro e w2 ⟨rfl, hbb⟩
  have K := Lib.hid (K.out.below hbb)
  have BW := Lib.hid (Below.and BW.out hbb)
  clear hbb
  clear x3 x4 x5 x6 x7 x8 x9 x10
  go_wp2
  go_light
  go_ret
  exact ⟨ret_bool (by rw [HE.out, ha, hb, hc, hd, HQ.out, HG.out]; rfl), BW.out⟩

set_option maxRecDepth 100000 in
set_option maxHeartbeats 2000000 in
theorem l3Ok0 (p : MgP) (w : World) (m1 : p.cl.length ≤ 1048576) (m2 : p.vt.length ≤ 1048576) (hp : p.rd w) (hk : p.k ≠ 1 ∧ p.k ≠ 2 ∧ p.k ≠ 3 ∧ p.k ≠ 4 ∧ p.k ≠ 5 ∧ p.k ≠ 6) : Calls Try.prog 60 #[p.val] w fun e w' => e = .returned (.bool (okP p)) ∧ Below w.heap.size w w' := by
  have BW : Hid (Below w.heap.size w (w.alloc (.cells #[.int .i64 p.k, .int .i64 p.f, .int .i64 p.v, .int .i64 p.s, .int .i64 p.r.c, .int .i64 p.r.n, .int .i64 p.r.o, .int .i64 p.r.x, .int .i64 p.r.y, .slice p.A p.cl.length p.a, .slice p.B p.vt.length p.b] 72))) := (Below.refl _ _).alloc (Nat.le_refl _) _
  have K : Hid (Blk (w.alloc (.cells #[.int .i64 p.k, .int .i64 p.f, .int .i64 p.v, .int .i64 p.s, .int .i64 p.r.c, .int .i64 p.r.n, .int .i64 p.r.o, .int .i64 p.r.x, .int .i64 p.r.y, .slice p.A p.cl.length p.a, .slice p.B p.vt.length p.b] 72)) w.heap.size 72 #[.int .i64 p.k, .int .i64 p.f, .int .i64 p.v, .int .i64 p.s, .int .i64 p.r.c, .int .i64 p.r.n, .int .i64 p.r.o, .int .i64 p.r.x, .int .i64 p.r.y, .slice p.A p.cl.length p.a, .slice p.B p.vt.length p.b]) := Blk.new w
  have RC := Lib.hid hp.2.2.1
  have RV := Lib.hid hp.2.2.2
  clear hp
  have hk1 : (p.k == 1) = false := by simp; omega
  have HE := Lib.hid (show okP p = (inB p.f 0 3 && (inB p.v 0 6 && false)) from by unfold okP okM; rw [if_neg (show ¬ p.k = 1 by omega), if_neg (show ¬ p.k = 2 by omega), if_neg (show ¬ (p.k = 3 ∨ p.k = 4) by omega), if_neg (show ¬ p.k = 5 by omega), if_neg (show ¬ p.k = 6 by omega)])
  have hk2 : (p.k == 2) = false := by simp; omega
  have hk3 : (p.k == 3) = false := by simp; omega
  have hk4 : (p.k == 4) = false := by simp; omega
  have hk5 : (p.k == 5) = false := by simp; omega
  have hk6 : (p.k == 6) = false := by simp; omega
  clear hk
  rcases ha : inB p.f 0 3 with _ | _
  · go_enter Try.func60, Try.ntmps60
    go_wp2_with (go_at_call 26; refine (specIn _ _ _ _).mono ?_; rintro e w' ⟨rfl, rfl⟩; first | rw [ha])
    go_light
    go_ret
    exact ⟨ret_bool (by rw [HE.out, ha]; rfl), BW.out⟩
  rcases hb : inB p.v 0 6 with _ | _
  · go_enter Try.func60, Try.ntmps60
    go_wp2_with (go_at_call 26; refine (specIn _ _ _ _).mono ?_; rintro e w' ⟨rfl, rfl⟩; first | rw [ha] | rw [hb])
    go_light
    go_ret
    exact ⟨ret_bool (by rw [HE.out, ha, hb]; rfl), BW.out⟩
  go_enter Try.func60, Try.ntmps60
  go_wp2_with (go_at_call 26; refine (specIn _ _ _ _).mono ?_; rintro e w' ⟨rfl, rfl⟩; first | rw [ha] | rw [hb])
  go_light
  go_ret
  exact ⟨ret_bool (by rw [HE.out, ha, hb]; rfl), BW.out⟩

theorem l3Ok (p : MgP) (w : World) (m1 : p.cl.length ≤ 1048576) (m2 : p.vt.length ≤ 1048576) (hp : p.rd w) : Calls Try.prog 60 #[p.val] w fun e w' => e = .returned (.bool (okP p)) ∧ Below w.heap.size w w' := by
  by_cases h1 : p.k = 1
  · exact l3Ok1 p w m1 m2 (by simp [h1])
  by_cases h2 : p.k = 2
  · exact l3Ok2 p w m1 m2 h2
  by_cases h3 : p.k = 3
  · exact l3Ok3 p w m1 m2 h3
  by_cases h4 : p.k = 4
  · exact l3Ok4 p w m1 m2 h4
  by_cases h5 : p.k = 5
  · exact l3Ok5 p w m1 m2 hp h5
  by_cases h6 : p.k = 6
  · exact l3Ok6 p w m1 m2 hp h6
  exact l3Ok0 p w m1 m2 hp ⟨h1, h2, h3, h4, h5, h6⟩

end Go.Proofs.Ytfelhnchnaggmaa
