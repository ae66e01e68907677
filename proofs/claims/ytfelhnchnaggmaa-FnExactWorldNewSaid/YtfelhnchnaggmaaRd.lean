/- The exact laws of RepOk and RepNew, walked. -/
import Derived.Test.YtfelhnchnaggmaaRc
import Derived.Test.YtfelhnchnaggmaaMP
namespace Go.Proofs.Ytfelhnchnaggmaa
open Go.ChangeShapes Go.WideShapes Go.ChangeAt Go.RowKit
set_option linter.unusedVariables false
set_option linter.unusedSimpArgs false

theorem okP_all {P P' : List MgP} (h : P.map MgP.mg = P'.map MgP.mg) : hdB P = hdB P' := by
  induction P generalizing P' with
  | nil => cases P' with
    | nil => rfl
    | cons b P' => cases h
  | cons a P ih => cases P' with
    | nil => cases h
    | cons b P' =>
      simp only [List.map_cons, List.cons.injEq] at h
      have hk : a.k = b.k := congrArg Mg.k h.1
      unfold hdB at ih ⊢
      rw [List.all_cons, List.all_cons, ih h.2, okP_congr h.1, hk]
theorem repB_congr {p q : RpP} (h : p.rp = q.rp) : repB p = repB q := by
  simp only [RpP.rp, Rp.mk.injEq] at h
  obtain ⟨h1, h2, h3, h4, h5, h6, h7⟩ := h
  have hl : p.hd.length = q.hd.length := by have := congrArg List.length h6; simpa using this
  unfold repB
  rw [h1, h2, h4, h5, h7, hl, okP_all h6]
theorem ms_bd {P P' : List MgP} (h : P.map MgP.mg = P'.map MgP.mg) (hs : szMs P' ≤ 1048576) : ∀ q ∈ P, q.cl.length ≤ 1048576 ∧ q.vt.length ≤ 1048576 := by
  intro q hq
  have : q.mg ∈ P'.map MgP.mg := by rw [← h]; exact List.mem_map.2 ⟨q, hq, rfl⟩
  obtain ⟨p, hp, e⟩ := List.mem_map.1 this
  have h1 := szMs_mem hp
  have e1 : p.cl.length = q.cl.length := by have := congrArg Mg.cl e; simp only [MgP.mg] at this; rw [this]
  have e2 : p.vt.length = q.vt.length := by have := congrArg (fun m => m.vt.length) e; simpa [MgP.mg] using this
  unfold MgP.sz szV at h1
  omega
theorem rp_bd {Q r : RpP} (h : Q.rp = r.rp) (hs : r.sz ≤ 1048576) : ∀ q ∈ Q.hd, q.cl.length ≤ 1048576 ∧ q.vt.length ≤ 1048576 := by
  simp only [RpP.rp, Rp.mk.injEq] at h
  exact ms_bd h.2.2.2.2.2.1 (by unfold RpP.sz at hs; omega)

/-- A keeper without rows. -/
abbrev nilR (a : Int) (l : Bool) (n : Int) : RpP := ⟨a, 0, l, n, none, 0, [], none, 0, [], none, 0, []⟩
theorem nilR_rd (a : Int) (l : Bool) (n : Int) (w : World) : (nilR a l n).rd w := by
  refine ⟨by simp, by simp, by simp, fun i h => ?_, ⟨fun i h => ?_, fun p h => ?_⟩, fun i h => ?_⟩
  all_goals cases h
def newM (me : Int) : Int := if inB me 0 3 = true then me else 0
def newN (me : Int) : Int := if inB me 0 3 = true then 1 else 0
abbrev newR (me : Int) : RpP := nilR (newM me) (inB me 0 3) (newN me)

set_option maxRecDepth 100000 in
set_option maxHeartbeats 1000000 in
theorem implRepNew (me : Int) (w : World) :
    Calls Try.prog 23 #[.int .i64 me] w fun e w' => e = .returned (newR me).val ∧ Below w.heap.size w w' := by
  rcases ha : inB me 0 3 with _ | _
  · go_enter Try.func23, Try.ntmps23
    go_wp2_with (go_at_call 22; refine (isKeeper _ _).mono ?_; rintro e w' ⟨rfl, rfl⟩; rw [ha])
    refine bodyPost_ret (v := .agg #[.int .i64 0, .int .i64 0, .bool false, .int .i64 0, .slice none 0 0, .slice none 0 0, .slice none 0 0]) (by simp [results, Try.results23, go_sem]) rfl ⟨by simp [newM, newN, ha], ?_⟩
    exact (Below.refl _ _).alloc (Nat.le_refl _) _
  · go_enter Try.func23, Try.ntmps23
    go_wp2_with (go_at_call 22; refine (isKeeper _ _).mono ?_; rintro e w' ⟨rfl, rfl⟩; rw [ha])
    refine bodyPost_ret (v := .agg #[.int .i64 me, .int .i64 0, .bool true, .int .i64 1, .slice none 0 0, .slice none 0 0, .slice none 0 0]) (by simp [results, Try.results23, go_sem]) rfl ⟨by simp [newM, newN, ha], ?_⟩
    exact (Below.refl _ _).alloc (Nat.le_refl _) _

set_option maxRecDepth 100000 in
set_option maxHeartbeats 1000000 in
theorem l5New (me : Int) (w : World) :
    Calls Try.prog 49 #[.int .i64 me] w fun e w' => e = .returned (nilR me true 1).val ∧ Below w.heap.size w w' := by
  go_enter Try.func49, Try.ntmps49
  go_wp2
  refine bodyPost_ret (v := .agg #[.int .i64 me, .int .i64 0, .bool true, .int .i64 1, .slice none 0 0, .slice none 0 0, .slice none 0 0]) (by simp [results, Try.results49, go_sem]) rfl ⟨rfl, ?_⟩
  first | exact (Below.refl _ _).alloc (Nat.le_refl _) _ | skip

set_option maxRecDepth 100000 in
set_option maxHeartbeats 1000000 in
theorem markClaimSNil (k : Int) (w : World) :
    Calls Try.prog 65 #[.slice none 0 0, .int .i64 k] w fun e w' => e = .returned (.int .i64 k) ∧ Below w.heap.size w w' := by
  go_enter Try.func65, Try.ntmps65
  go_wp2
  go_loop [1, 5] (fun kk i => i = .int .i64 0 ∧ kk = .int .i64 k) (fun _ _ => 0)
  case atStart => exact ⟨rfl, rfl⟩
  case round =>
    obtain ⟨rfl, rfl⟩ := hrel
    go_wp2
    go_light
    go_ret
    exact ⟨rfl, Below.refl _ _⟩

set_option maxRecDepth 100000 in
set_option maxHeartbeats 1000000 in
theorem markMsgSNil (k : Int) (w : World) :
    Calls Try.prog 40 #[.slice none 0 0, .int .i64 k] w fun e w' => e = .returned (.int .i64 k) ∧ Below w.heap.size w w' := by
  go_enter Try.func40, Try.ntmps40
  go_wp2
  go_loop [1, 5] (fun kk i => i = .int .i64 0 ∧ kk = .int .i64 k) (fun _ _ => 0)
  case atStart => exact ⟨rfl, rfl⟩
  case round =>
    obtain ⟨rfl, rfl⟩ := hrel
    go_wp2
    go_light
    go_ret
    exact ⟨rfl, Below.refl _ _⟩

set_option maxRecDepth 100000 in
set_option maxHeartbeats 1000000 in
theorem heldClaimSNil (k : Int) (w : World) :
    Calls Try.prog 67 #[.slice none 0 0, .int .i64 k] w fun e w' => e = .returned (.int .i64 k) ∧ Below w.heap.size w w' := by
  go_enter Try.func67, Try.ntmps67
  go_wp2
  go_loop [1, 5] (fun kk i => i = .int .i64 0 ∧ kk = .int .i64 k) (fun _ _ => 0)
  case atStart => exact ⟨rfl, rfl⟩
  case round =>
    obtain ⟨rfl, rfl⟩ := hrel
    go_wp2
    go_light
    go_ret
    exact ⟨rfl, Below.refl _ _⟩

set_option maxRecDepth 100000 in
set_option maxHeartbeats 1000000 in
theorem heldMsgSNil (k : Int) (w : World) :
    Calls Try.prog 42 #[.slice none 0 0, .int .i64 k] w fun e w' => e = .returned (.int .i64 k) ∧ Below w.heap.size w w' := by
  go_enter Try.func42, Try.ntmps42
  go_wp2
  go_loop [1, 5] (fun kk i => i = .int .i64 0 ∧ kk = .int .i64 k) (fun _ _ => 0)
  case atStart => exact ⟨rfl, rfl⟩
  case round =>
    obtain ⟨rfl, rfl⟩ := hrel
    go_wp2
    go_light
    go_ret
    exact ⟨rfl, Below.refl _ _⟩

theorem newR_val {me : Int} {a : Int} {l : Bool} {n : Int} (h : newM me = a) (h1 : inB me 0 3 = l) (h2 : newN me = n) : (newR me).val = (nilR a l n).val := by
  subst h
  subst h1
  subst h2
  rfl
theorem implNew {me : Int} {a : Int} {l : Bool} {n : Int} (h : newM me = a) (h1 : inB me 0 3 = l) (h2 : newN me = n) (w : World) :
    Calls Try.prog 23 #[.int .i64 me] w fun e w' => e = .returned (.agg #[.int .i64 a, .int .i64 0, .bool l, .int .i64 n, .slice none 0 0, .slice none 0 0, .slice none 0 0]) ∧ Below w.heap.size w w' :=
  (implRepNew me w).mono fun _ _ ⟨he, hb⟩ => ⟨he.trans (by rw [newR_val h h1 h2]; rfl), hb⟩
end Go.Proofs.Ytfelhnchnaggmaa
