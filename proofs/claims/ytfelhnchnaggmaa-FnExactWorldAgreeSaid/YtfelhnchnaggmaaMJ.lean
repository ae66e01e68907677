/- Oe, Of -/
import Derived.Test.YtfelhnchnaggmaaOc
import Derived.Test.YtfelhnchnaggmaaOd
/- What a letter must hold to be valid. -/
namespace Go.Proofs.Ytfelhnchnaggmaa
open Go.ChangeShapes Go.WideShapes Go.ChangeAt Go.RowKit
set_option linter.unusedVariables false

theorem implReqOkR (r : Rq) (w : World) :
    Calls Try.prog 103 #[r.val] w fun e w' => e = .returned (.bool (rqB r)) ∧ Below w.heap.size w w' := implReqOk r.c r.n r.o r.x r.y w

set_option maxRecDepth 100000 in
set_option maxHeartbeats 2000000 in
theorem letterValid1 (p : MgP) (w : World) :
    Calls Try.prog 81 #[.iface 83 (.agg #[.int .i64 p.r.c, .int .i64 p.r.n, .int .i64 p.r.o, .int .i64 p.r.x, .int .i64 p.r.y])] w fun e w' => e = .returned (.bool (rqB p.r)) ∧ Below w.heap.size w w' := by
  have BW : Hid (Below w.heap.size w (w.alloc (.cells #[.int .i64 p.r.c, .int .i64 p.r.n, .int .i64 p.r.o, .int .i64 p.r.x, .int .i64 p.r.y] 83))) := (Below.refl _ _).alloc (Nat.le_refl _) _
  have K : Hid (Blk (w.alloc (.cells #[.int .i64 p.r.c, .int .i64 p.r.n, .int .i64 p.r.o, .int .i64 p.r.x, .int .i64 p.r.y] 83)) w.heap.size 83 #[.int .i64 p.r.c, .int .i64 p.r.n, .int .i64 p.r.o, .int .i64 p.r.x, .int .i64 p.r.y]) := Blk.new w
  have ta1 : ∀ W, (Instr.typeAssert (.iface 83 (.agg #[.int .i64 p.r.c, .int .i64 p.r.n, .int .i64 p.r.o, .int .i64 p.r.x, .int .i64 p.r.y])) 107 83 true).run Try.prog W = .ok (.tuple #[.agg #[.int .i64 p.r.c, .int .i64 p.r.n, .int .i64 p.r.o, .int .i64 p.r.x, .int .i64 p.r.y], .bool true]) W := fun W => by kernel_rfl
  go_enter Try.func81, Try.ntmps81
  go_wp2_with (fail)
  refine (implReqOkR p.r _).mono ?_
  rintro e w1 ⟨rfl, hb⟩
  have BB := Lib.hid (Below.and BW.out hb)
  clear hb
  go_wp2
  go_light
  go_ret
  exact ⟨ret_bool (by rfl), BB.out⟩

set_option maxRecDepth 100000 in
set_option maxHeartbeats 2000000 in
theorem letterValid2 (p : MgP) (w : World) :
    Calls Try.prog 81 #[.iface 127 (.agg #[.int .i64 p.f, .int .i64 p.s, .int .i64 p.v, .int .i64 p.r.c, .int .i64 p.r.n, .int .i64 p.r.o, .int .i64 p.r.x, .int .i64 p.r.y])] w fun e w' => e = .returned (.bool (inB p.f 0 3 && (clB ⟨p.s, p.v, p.r⟩ && rqB p.r))) ∧ Below w.heap.size w w' := by
  have BW : Hid (Below w.heap.size w (w.alloc (.cells #[.int .i64 p.f, .int .i64 p.s, .int .i64 p.v, .int .i64 p.r.c, .int .i64 p.r.n, .int .i64 p.r.o, .int .i64 p.r.x, .int .i64 p.r.y] 127))) := (Below.refl _ _).alloc (Nat.le_refl _) _
  have K : Hid (Blk (w.alloc (.cells #[.int .i64 p.f, .int .i64 p.s, .int .i64 p.v, .int .i64 p.r.c, .int .i64 p.r.n, .int .i64 p.r.o, .int .i64 p.r.x, .int .i64 p.r.y] 127)) w.heap.size 127 #[.int .i64 p.f, .int .i64 p.s, .int .i64 p.v, .int .i64 p.r.c, .int .i64 p.r.n, .int .i64 p.r.o, .int .i64 p.r.x, .int .i64 p.r.y]) := Blk.new w
  have ta1 : ∀ W, (Instr.typeAssert (.iface 127 (.agg #[.int .i64 p.f, .int .i64 p.s, .int .i64 p.v, .int .i64 p.r.c, .int .i64 p.r.n, .int .i64 p.r.o, .int .i64 p.r.x, .int .i64 p.r.y])) 107 83 true).run Try.prog W = .ok (.tuple #[.agg #[.int .i64 0, .int .i64 0, .int .i64 0, .int .i64 0, .int .i64 0], .bool false]) W := fun W => by kernel_rfl
  have ta2 : ∀ W, (Instr.typeAssert (.iface 127 (.agg #[.int .i64 p.f, .int .i64 p.s, .int .i64 p.v, .int .i64 p.r.c, .int .i64 p.r.n, .int .i64 p.r.o, .int .i64 p.r.x, .int .i64 p.r.y])) 107 127 true).run Try.prog W = .ok (.tuple #[.agg #[.int .i64 p.f, .int .i64 p.s, .int .i64 p.v, .int .i64 p.r.c, .int .i64 p.r.n, .int .i64 p.r.o, .int .i64 p.r.x, .int .i64 p.r.y], .bool true]) W := fun W => by kernel_rfl
  rcases ha : inB p.f 0 3 with _ | _
  · go_enter Try.func81, Try.ntmps81
    go_wp2_with (go_at_call 22; refine (isKeeper _ _).mono ?_; rintro e w' ⟨rfl, rfl⟩; rw [ha])
    go_light
    go_ret
    exact ⟨ret_bool (by first | rfl | (simp [*]; done) | (simp_all; done) | (rw [hc]; rfl) | simp), BW.out⟩
  go_enter Try.func81, Try.ntmps81
  go_wp2_with (go_at_call 22; refine (isKeeper _ _).mono ?_; rintro e w' ⟨rfl, rfl⟩; rw [ha])
  refine (claimValid ⟨p.s, p.v, p.r⟩ _).mono ?_
  rintro e w1 ⟨rfl, hbb⟩
  have BB := Lib.hid (Below.and BW.out hbb)
  have KK := K.out.below hbb
  have x0 := (KK.cell 0).trans (show _ = some (.int .i64 p.f) from rfl)
  have x1 := (KK.cell 1).trans (show _ = some (.int .i64 p.s) from rfl)
  have x2 := (KK.cell 2).trans (show _ = some (.int .i64 p.v) from rfl)
  have x3 := (KK.cell 3).trans (show _ = some (.int .i64 p.r.c) from rfl)
  have x4 := (KK.cell 4).trans (show _ = some (.int .i64 p.r.n) from rfl)
  have x5 := (KK.cell 5).trans (show _ = some (.int .i64 p.r.o) from rfl)
  have x6 := (KK.cell 6).trans (show _ = some (.int .i64 p.r.x) from rfl)
  have x7 := (KK.cell 7).trans (show _ = some (.int .i64 p.r.y) from rfl)
  clear hbb KK
  rcases hc : clB ⟨p.s, p.v, p.r⟩ with _ | _
  · go_wp2
    go_light
    go_ret
    exact ⟨ret_bool (by first | rfl | (simp [*]; done) | (simp_all; done) | (rw [hc]; rfl) | simp), BB.out⟩
  go_wp2_with (fail)
  refine (implReqOkR p.r _).mono ?_
  rintro e w2 ⟨rfl, hbb⟩
  have BB := Lib.hid (Below.and BB.out hbb)
  clear hbb
  go_wp2
  go_light
  go_ret
  exact ⟨ret_bool (by first | rfl | (simp [*]; done) | (simp_all; done) | (rw [hc]; rfl) | simp), BB.out⟩

set_option maxRecDepth 100000 in
set_option maxHeartbeats 2000000 in
theorem letterValid3 (p : MgP) (w : World) :
    Calls Try.prog 81 #[.iface 128 (.agg #[.int .i64 p.f, .int .i64 p.s, .int .i64 p.v, .int .i64 p.r.c, .int .i64 p.r.n, .int .i64 p.r.o, .int .i64 p.r.x, .int .i64 p.r.y])] w fun e w' => e = .returned (.bool (inB p.f 0 3 && clB ⟨p.s, p.v, p.r⟩)) ∧ Below w.heap.size w w' := by
  have BW : Hid (Below w.heap.size w (w.alloc (.cells #[.int .i64 p.f, .int .i64 p.s, .int .i64 p.v, .int .i64 p.r.c, .int .i64 p.r.n, .int .i64 p.r.o, .int .i64 p.r.x, .int .i64 p.r.y] 128))) := (Below.refl _ _).alloc (Nat.le_refl _) _
  have K : Hid (Blk (w.alloc (.cells #[.int .i64 p.f, .int .i64 p.s, .int .i64 p.v, .int .i64 p.r.c, .int .i64 p.r.n, .int .i64 p.r.o, .int .i64 p.r.x, .int .i64 p.r.y] 128)) w.heap.size 128 #[.int .i64 p.f, .int .i64 p.s, .int .i64 p.v, .int .i64 p.r.c, .int .i64 p.r.n, .int .i64 p.r.o, .int .i64 p.r.x, .int .i64 p.r.y]) := Blk.new w
  have ta1 : ∀ W, (Instr.typeAssert (.iface 128 (.agg #[.int .i64 p.f, .int .i64 p.s, .int .i64 p.v, .int .i64 p.r.c, .int .i64 p.r.n, .int .i64 p.r.o, .int .i64 p.r.x, .int .i64 p.r.y])) 107 83 true).run Try.prog W = .ok (.tuple #[.agg #[.int .i64 0, .int .i64 0, .int .i64 0, .int .i64 0, .int .i64 0], .bool false]) W := fun W => by kernel_rfl
  have ta2 : ∀ W, (Instr.typeAssert (.iface 128 (.agg #[.int .i64 p.f, .int .i64 p.s, .int .i64 p.v, .int .i64 p.r.c, .int .i64 p.r.n, .int .i64 p.r.o, .int .i64 p.r.x, .int .i64 p.r.y])) 107 127 true).run Try.prog W = .ok (.tuple #[.agg #[.int .i64 0, .int .i64 0, .int .i64 0, .int .i64 0, .int .i64 0, .int .i64 0, .int .i64 0, .int .i64 0], .bool false]) W := fun W => by kernel_rfl
  have ta3 : ∀ W, (Instr.typeAssert (.iface 128 (.agg #[.int .i64 p.f, .int .i64 p.s, .int .i64 p.v, .int .i64 p.r.c, .int .i64 p.r.n, .int .i64 p.r.o, .int .i64 p.r.x, .int .i64 p.r.y])) 107 128 true).run Try.prog W = .ok (.tuple #[.agg #[.int .i64 p.f, .int .i64 p.s, .int .i64 p.v, .int .i64 p.r.c, .int .i64 p.r.n, .int .i64 p.r.o, .int .i64 p.r.x, .int .i64 p.r.y], .bool true]) W := fun W => by kernel_rfl
  rcases ha : inB p.f 0 3 with _ | _
  · go_enter Try.func81, Try.ntmps81
    go_wp2_with (go_at_call 22; refine (isKeeper _ _).mono ?_; rintro e w' ⟨rfl, rfl⟩; rw [ha])
    go_light
    go_ret
    exact ⟨ret_bool (by first | rfl | (simp [*]; done) | (simp_all; done) | (rw [hc]; rfl) | simp), BW.out⟩
  go_enter Try.func81, Try.ntmps81
  go_wp2_with (go_at_call 22; refine (isKeeper _ _).mono ?_; rintro e w' ⟨rfl, rfl⟩; rw [ha])
  refine (claimValid ⟨p.s, p.v, p.r⟩ _).mono ?_
  rintro e w1 ⟨rfl, hbb⟩
  have BB := Lib.hid (Below.and BW.out hbb)
  clear hbb
  go_wp2
  go_light
  go_ret
  exact ⟨ret_bool (by first | rfl | (simp [*]; done) | (simp_all; done) | (rw [hc]; rfl) | simp), BB.out⟩

set_option maxRecDepth 100000 in
set_option maxHeartbeats 2000000 in
theorem letterValid4 (p : MgP) (w : World) :
    Calls Try.prog 81 #[.iface 129 (.agg #[.int .i64 p.f, .int .i64 p.s, .int .i64 p.v, .int .i64 p.r.c, .int .i64 p.r.n, .int .i64 p.r.o, .int .i64 p.r.x, .int .i64 p.r.y])] w fun e w' => e = .returned (.bool (inB p.f 0 3 && clB ⟨p.s, p.v, p.r⟩)) ∧ Below w.heap.size w w' := by
  have BW : Hid (Below w.heap.size w (w.alloc (.cells #[.int .i64 p.f, .int .i64 p.s, .int .i64 p.v, .int .i64 p.r.c, .int .i64 p.r.n, .int .i64 p.r.o, .int .i64 p.r.x, .int .i64 p.r.y] 129))) := (Below.refl _ _).alloc (Nat.le_refl _) _
  have K : Hid (Blk (w.alloc (.cells #[.int .i64 p.f, .int .i64 p.s, .int .i64 p.v, .int .i64 p.r.c, .int .i64 p.r.n, .int .i64 p.r.o, .int .i64 p.r.x, .int .i64 p.r.y] 129)) w.heap.size 129 #[.int .i64 p.f, .int .i64 p.s, .int .i64 p.v, .int .i64 p.r.c, .int .i64 p.r.n, .int .i64 p.r.o, .int .i64 p.r.x, .int .i64 p.r.y]) := Blk.new w
  have ta1 : ∀ W, (Instr.typeAssert (.iface 129 (.agg #[.int .i64 p.f, .int .i64 p.s, .int .i64 p.v, .int .i64 p.r.c, .int .i64 p.r.n, .int .i64 p.r.o, .int .i64 p.r.x, .int .i64 p.r.y])) 107 83 true).run Try.prog W = .ok (.tuple #[.agg #[.int .i64 0, .int .i64 0, .int .i64 0, .int .i64 0, .int .i64 0], .bool false]) W := fun W => by kernel_rfl
  have ta2 : ∀ W, (Instr.typeAssert (.iface 129 (.agg #[.int .i64 p.f, .int .i64 p.s, .int .i64 p.v, .int .i64 p.r.c, .int .i64 p.r.n, .int .i64 p.r.o, .int .i64 p.r.x, .int .i64 p.r.y])) 107 127 true).run Try.prog W = .ok (.tuple #[.agg #[.int .i64 0, .int .i64 0, .int .i64 0, .int .i64 0, .int .i64 0, .int .i64 0, .int .i64 0, .int .i64 0], .bool false]) W := fun W => by kernel_rfl
  have ta3 : ∀ W, (Instr.typeAssert (.iface 129 (.agg #[.int .i64 p.f, .int .i64 p.s, .int .i64 p.v, .int .i64 p.r.c, .int .i64 p.r.n, .int .i64 p.r.o, .int .i64 p.r.x, .int .i64 p.r.y])) 107 128 true).run Try.prog W = .ok (.tuple #[.agg #[.int .i64 0, .int .i64 0, .int .i64 0, .int .i64 0, .int .i64 0, .int .i64 0, .int .i64 0, .int .i64 0], .bool false]) W := fun W => by kernel_rfl
  have ta4 : ∀ W, (Instr.typeAssert (.iface 129 (.agg #[.int .i64 p.f, .int .i64 p.s, .int .i64 p.v, .int .i64 p.r.c, .int .i64 p.r.n, .int .i64 p.r.o, .int .i64 p.r.x, .int .i64 p.r.y])) 107 129 true).run Try.prog W = .ok (.tuple #[.agg #[.int .i64 p.f, .int .i64 p.s, .int .i64 p.v, .int .i64 p.r.c, .int .i64 p.r.n, .int .i64 p.r.o, .int .i64 p.r.x, .int .i64 p.r.y], .bool true]) W := fun W => by kernel_rfl
  rcases ha : inB p.f 0 3 with _ | _
  · go_enter Try.func81, Try.ntmps81
    go_wp2_with (go_at_call 22; refine (isKeeper _ _).mono ?_; rintro e w' ⟨rfl, rfl⟩; rw [ha])
    go_light
    go_ret
    exact ⟨ret_bool (by first | rfl | (simp [*]; done) | (simp_all; done) | (rw [hc]; rfl) | simp), BW.out⟩
  go_enter Try.func81, Try.ntmps81
  go_wp2_with (go_at_call 22; refine (isKeeper _ _).mono ?_; rintro e w' ⟨rfl, rfl⟩; rw [ha])
  refine (claimValid ⟨p.s, p.v, p.r⟩ _).mono ?_
  rintro e w1 ⟨rfl, hbb⟩
  have BB := Lib.hid (Below.and BW.out hbb)
  clear hbb
  go_wp2
  go_light
  go_ret
  exact ⟨ret_bool (by first | rfl | (simp [*]; done) | (simp_all; done) | (rw [hc]; rfl) | simp), BB.out⟩

set_option maxRecDepth 100000 in
set_option maxHeartbeats 2000000 in
theorem letterValid5 (p : MgP) (w : World) (hp : p.rd w) :
    Calls Try.prog 81 #[.iface 131 (.agg #[.int .i64 p.f, .int .i64 p.v, .slice p.A p.cl.length p.a])] w fun e w' => e = .returned (.bool (inB p.f 0 3 && (inB p.v 0 6 && clsB 0 p.cl))) ∧ Below w.heap.size w w' := by
  have BW : Hid (Below w.heap.size w (w.alloc (.cells #[.int .i64 p.f, .int .i64 p.v, .slice p.A p.cl.length p.a] 131))) := (Below.refl _ _).alloc (Nat.le_refl _) _
  have K : Hid (Blk (w.alloc (.cells #[.int .i64 p.f, .int .i64 p.v, .slice p.A p.cl.length p.a] 131)) w.heap.size 131 #[.int .i64 p.f, .int .i64 p.v, .slice p.A p.cl.length p.a]) := Blk.new w
  have ta1 : ∀ W, (Instr.typeAssert (.iface 131 (.agg #[.int .i64 p.f, .int .i64 p.v, .slice p.A p.cl.length p.a])) 107 83 true).run Try.prog W = .ok (.tuple #[.agg #[.int .i64 0, .int .i64 0, .int .i64 0, .int .i64 0, .int .i64 0], .bool false]) W := fun W => by kernel_rfl
  have ta2 : ∀ W, (Instr.typeAssert (.iface 131 (.agg #[.int .i64 p.f, .int .i64 p.v, .slice p.A p.cl.length p.a])) 107 127 true).run Try.prog W = .ok (.tuple #[.agg #[.int .i64 0, .int .i64 0, .int .i64 0, .int .i64 0, .int .i64 0, .int .i64 0, .int .i64 0, .int .i64 0], .bool false]) W := fun W => by kernel_rfl
  have ta3 : ∀ W, (Instr.typeAssert (.iface 131 (.agg #[.int .i64 p.f, .int .i64 p.v, .slice p.A p.cl.length p.a])) 107 128 true).run Try.prog W = .ok (.tuple #[.agg #[.int .i64 0, .int .i64 0, .int .i64 0, .int .i64 0, .int .i64 0, .int .i64 0, .int .i64 0, .int .i64 0], .bool false]) W := fun W => by kernel_rfl
  have ta4 : ∀ W, (Instr.typeAssert (.iface 131 (.agg #[.int .i64 p.f, .int .i64 p.v, .slice p.A p.cl.length p.a])) 107 129 true).run Try.prog W = .ok (.tuple #[.agg #[.int .i64 0, .int .i64 0, .int .i64 0, .int .i64 0, .int .i64 0, .int .i64 0, .int .i64 0, .int .i64 0], .bool false]) W := fun W => by kernel_rfl
  have ta5 : ∀ W, (Instr.typeAssert (.iface 131 (.agg #[.int .i64 p.f, .int .i64 p.v, .slice p.A p.cl.length p.a])) 107 131 true).run Try.prog W = .ok (.tuple #[.agg #[.int .i64 p.f, .int .i64 p.v, .slice p.A p.cl.length p.a], .bool true]) W := fun W => by kernel_rfl
  have HP := Lib.hid (hp.below BW.out)
  clear hp
  rcases ha : inB p.f 0 3 with _ | _
  · go_enter Try.func81, Try.ntmps81
    go_wp2_with (go_at_call 22; refine (isKeeper _ _).mono ?_; rintro e w' ⟨rfl, rfl⟩; rw [ha])
    go_light
    go_ret
    exact ⟨ret_bool (by first | rfl | (simp [*]; done) | (simp_all; done) | (rw [hc]; rfl) | simp), BW.out⟩
  rcases hb : inB p.v 0 6 with _ | _
  · go_enter Try.func81, Try.ntmps81
    go_wp2_with (first | (go_at_call 22; refine (isKeeper _ _).mono ?_; rintro e w' ⟨rfl, rfl⟩; rw [ha]) | (go_at_call 76; refine (isView _ _).mono ?_; rintro e w' ⟨rfl, rfl⟩; rw [hb]))
    go_light
    go_ret
    exact ⟨ret_bool (by first | rfl | (simp [*]; done) | (simp_all; done) | (rw [hc]; rfl) | simp), BW.out⟩
  go_enter Try.func81, Try.ntmps81
  go_wp2_with (first | (go_at_call 22; refine (isKeeper _ _).mono ?_; rintro e w' ⟨rfl, rfl⟩; rw [ha]) | (go_at_call 76; refine (isView _ _).mono ?_; rintro e w' ⟨rfl, rfl⟩; rw [hb]))
  refine (claimsValid p.A p.a p.cl _ HP.out.1 HP.out.2.2.1).mono ?_
  rintro e w1 ⟨rfl, hbb⟩
  have BB := Lib.hid (Below.and BW.out hbb)
  clear hbb
  go_wp2
  go_light
  go_ret
  exact ⟨ret_bool (by first | rfl | (simp [*]; done) | (simp_all; done) | (rw [hc]; rfl) | simp), BB.out⟩

set_option maxRecDepth 100000 in
set_option maxHeartbeats 2000000 in
theorem letterValid6 (p : MgP) (w : World) (hp : p.rd w) :
    Calls Try.prog 81 #[.iface 133 (.agg #[.int .i64 p.f, .int .i64 p.v, .slice p.B p.vt.length p.b])] w fun e w' => e = .returned (.bool (inB p.f 0 3 && (inB p.v 0 6 && vtsB (-1) p.vt))) ∧ Below w.heap.size w w' := by
  have BW : Hid (Below w.heap.size w (w.alloc (.cells #[.int .i64 p.f, .int .i64 p.v, .slice p.B p.vt.length p.b] 133))) := (Below.refl _ _).alloc (Nat.le_refl _) _
  have K : Hid (Blk (w.alloc (.cells #[.int .i64 p.f, .int .i64 p.v, .slice p.B p.vt.length p.b] 133)) w.heap.size 133 #[.int .i64 p.f, .int .i64 p.v, .slice p.B p.vt.length p.b]) := Blk.new w
  have ta1 : ∀ W, (Instr.typeAssert (.iface 133 (.agg #[.int .i64 p.f, .int .i64 p.v, .slice p.B p.vt.length p.b])) 107 83 true).run Try.prog W = .ok (.tuple #[.agg #[.int .i64 0, .int .i64 0, .int .i64 0, .int .i64 0, .int .i64 0], .bool false]) W := fun W => by kernel_rfl
  have ta2 : ∀ W, (Instr.typeAssert (.iface 133 (.agg #[.int .i64 p.f, .int .i64 p.v, .slice p.B p.vt.length p.b])) 107 127 true).run Try.prog W = .ok (.tuple #[.agg #[.int .i64 0, .int .i64 0, .int .i64 0, .int .i64 0, .int .i64 0, .int .i64 0, .int .i64 0, .int .i64 0], .bool false]) W := fun W => by kernel_rfl
  have ta3 : ∀ W, (Instr.typeAssert (.iface 133 (.agg #[.int .i64 p.f, .int .i64 p.v, .slice p.B p.vt.length p.b])) 107 128 true).run Try.prog W = .ok (.tuple #[.agg #[.int .i64 0, .int .i64 0, .int .i64 0, .int .i64 0, .int .i64 0, .int .i64 0, .int .i64 0, .int .i64 0], .bool false]) W := fun W => by kernel_rfl
  have ta4 : ∀ W, (Instr.typeAssert (.iface 133 (.agg #[.int .i64 p.f, .int .i64 p.v, .slice p.B p.vt.length p.b])) 107 129 true).run Try.prog W = .ok (.tuple #[.agg #[.int .i64 0, .int .i64 0, .int .i64 0, .int .i64 0, .int .i64 0, .int .i64 0, .int .i64 0, .int .i64 0], .bool false]) W := fun W => by kernel_rfl
  have ta5 : ∀ W, (Instr.typeAssert (.iface 133 (.agg #[.int .i64 p.f, .int .i64 p.v, .slice p.B p.vt.length p.b])) 107 131 true).run Try.prog W = .ok (.tuple #[.agg #[.int .i64 0, .int .i64 0, .slice none 0 0], .bool false]) W := fun W => by kernel_rfl
  have ta6 : ∀ W, (Instr.typeAssert (.iface 133 (.agg #[.int .i64 p.f, .int .i64 p.v, .slice p.B p.vt.length p.b])) 107 133 true).run Try.prog W = .ok (.tuple #[.agg #[.int .i64 p.f, .int .i64 p.v, .slice p.B p.vt.length p.b], .bool true]) W := fun W => by kernel_rfl
  have HP := Lib.hid (hp.below BW.out)
  clear hp
  rcases ha : inB p.f 0 3 with _ | _
  · go_enter Try.func81, Try.ntmps81
    go_wp2_with (go_at_call 22; refine (isKeeper _ _).mono ?_; rintro e w' ⟨rfl, rfl⟩; rw [ha])
    go_light
    go_ret
    exact ⟨ret_bool (by first | rfl | (simp [*]; done) | (simp_all; done) | (rw [hc]; rfl) | simp), BW.out⟩
  rcases hb : inB p.v 0 6 with _ | _
  · go_enter Try.func81, Try.ntmps81
    go_wp2_with (first | (go_at_call 22; refine (isKeeper _ _).mono ?_; rintro e w' ⟨rfl, rfl⟩; rw [ha]) | (go_at_call 76; refine (isView _ _).mono ?_; rintro e w' ⟨rfl, rfl⟩; rw [hb]))
    go_light
    go_ret
    exact ⟨ret_bool (by first | rfl | (simp [*]; done) | (simp_all; done) | (rw [hc]; rfl) | simp), BW.out⟩
  go_enter Try.func81, Try.ntmps81
  go_wp2_with (first | (go_at_call 22; refine (isKeeper _ _).mono ?_; rintro e w' ⟨rfl, rfl⟩; rw [ha]) | (go_at_call 76; refine (isView _ _).mono ?_; rintro e w' ⟨rfl, rfl⟩; rw [hb]))
  refine (votesValid p.B p.b p.vt _ HP.out.2.1 HP.out.2.2.2).mono ?_
  rintro e w1 ⟨rfl, hbb⟩
  have BB := Lib.hid (Below.and BW.out hbb)
  clear hbb
  go_wp2
  go_light
  go_ret
  exact ⟨ret_bool (by first | rfl | (simp [*]; done) | (simp_all; done) | (rw [hc]; rfl) | simp), BB.out⟩

end Go.Proofs.Ytfelhnchnaggmaa

/- A message out of what its kind reads. -/
namespace Go.Proofs.Ytfelhnchnaggmaa
open Go.ChangeShapes Go.WideShapes Go.ChangeAt Go.RowKit
set_option linter.unusedVariables false

/-- The message that what its kind reads says. -/
def sayP (k : Int) (p : MgP) : MgP :=
  if k = 1 then ⟨1, 0, 0, 0, p.r, none, 0, [], none, 0, []⟩
  else if k = 5 then ⟨5, p.f, p.v, 0, ⟨0, 0, 0, 0, 0⟩, p.A, p.a, p.cl, none, 0, []⟩
  else if k = 6 then ⟨6, p.f, p.v, 0, ⟨0, 0, 0, 0, 0⟩, none, 0, [], p.B, p.b, p.vt⟩
  else ⟨k, p.f, p.v, p.s, p.r, none, 0, [], none, 0, []⟩
theorem rd_none (k : Nat) {α : Type} (f : α → List Value) (w : World) (A : Option Addr) : Rd k f w A [] := fun i h => absurd h (by simp)
theorem sayP_rd (k : Int) (p : MgP) (w : World) (h : p.rd w) : (sayP k p).rd w := by
  unfold sayP
  split
  · exact ⟨by simp [maxLen], by simp [maxLen], rd_none _ _ _ _, rd_none _ _ _ _, by simp⟩
  split
  · exact ⟨h.1, by simp [maxLen], h.2.2.1, rd_none _ _ _ _, by simp⟩
  split
  · exact ⟨by simp [maxLen], h.2.1, rd_none _ _ _ _, h.2.2.2⟩
  · exact ⟨by simp [maxLen], by simp [maxLen], rd_none _ _ _ _, rd_none _ _ _ _, by simp⟩

set_option maxRecDepth 100000 in
set_option maxHeartbeats 2000000 in
theorem onAs (p : MgP) (k : Int) (w : World) :
    Calls Try.prog 128 #[.agg #[.int .i64 p.f, .int .i64 p.s, .int .i64 p.v, .int .i64 p.r.c, .int .i64 p.r.n, .int .i64 p.r.o, .int .i64 p.r.x, .int .i64 p.r.y], .int .i64 k] w fun e w' => e = .returned (.agg #[.int .i64 k, .int .i64 p.f, .int .i64 p.v, .int .i64 p.s, .int .i64 p.r.c, .int .i64 p.r.n, .int .i64 p.r.o, .int .i64 p.r.x, .int .i64 p.r.y, .slice none 0 0, .slice none 0 0]) ∧ Below w.heap.size w w' := by
  go_enter Try.func128, Try.ntmps128
  go_wp2
  exact bodyPost_ret (v := (.agg #[.int .i64 k, .int .i64 p.f, .int .i64 p.v, .int .i64 p.s, .int .i64 p.r.c, .int .i64 p.r.n, .int .i64 p.r.o, .int .i64 p.r.x, .int .i64 p.r.y, .slice none 0 0, .slice none 0 0])) (by simp [results, Try.results128, go_sem]) rfl ⟨rfl, by first | exact below_alloc2 _ _ _ | exact ((below_alloc2 _ _ _).alloc (by simp; omega) _)⟩

set_option maxRecDepth 100000 in
set_option maxHeartbeats 2000000 in
theorem say1 (p : MgP) (w : World) :
    Calls Try.prog 56 #[.agg #[.int .i64 p.r.c, .int .i64 p.r.n, .int .i64 p.r.o, .int .i64 p.r.x, .int .i64 p.r.y]] w fun e w' => e = .returned (.agg #[.int .i64 1, .int .i64 0, .int .i64 0, .int .i64 0, .int .i64 p.r.c, .int .i64 p.r.n, .int .i64 p.r.o, .int .i64 p.r.x, .int .i64 p.r.y, .slice none 0 0, .slice none 0 0]) ∧ Below w.heap.size w w' := by
  go_enter Try.func56, Try.ntmps56
  go_wp2
  exact bodyPost_ret (v := (.agg #[.int .i64 1, .int .i64 0, .int .i64 0, .int .i64 0, .int .i64 p.r.c, .int .i64 p.r.n, .int .i64 p.r.o, .int .i64 p.r.x, .int .i64 p.r.y, .slice none 0 0, .slice none 0 0])) (by simp [results, Try.results56, go_sem]) rfl ⟨rfl, by first | exact below_alloc2 _ _ _ | exact ((below_alloc2 _ _ _).alloc (by simp; omega) _)⟩

theorem method_msg1 (w : World) (p : MgP) : (method 272 83 (.agg #[.int .i64 p.r.c, .int .i64 p.r.n, .int .i64 p.r.o, .int .i64 p.r.x, .int .i64 p.r.y]) "loop.example/wapentake/impl.msg").run Try.prog w = .ok (56, .agg #[.int .i64 p.r.c, .int .i64 p.r.n, .int .i64 p.r.o, .int .i64 p.r.x, .int .i64 p.r.y]) w := by kernel_rfl

set_option maxRecDepth 100000 in
set_option maxHeartbeats 2000000 in
theorem say2 (p : MgP) (w : World) :
    Calls Try.prog 129 #[.agg #[.int .i64 p.f, .int .i64 p.s, .int .i64 p.v, .int .i64 p.r.c, .int .i64 p.r.n, .int .i64 p.r.o, .int .i64 p.r.x, .int .i64 p.r.y]] w fun e w' => e = .returned (.agg #[.int .i64 2, .int .i64 p.f, .int .i64 p.v, .int .i64 p.s, .int .i64 p.r.c, .int .i64 p.r.n, .int .i64 p.r.o, .int .i64 p.r.x, .int .i64 p.r.y, .slice none 0 0, .slice none 0 0]) ∧ Below w.heap.size w w' := by
  go_enter Try.func129, Try.ntmps129
  go_wp2_with (fail)
  refine (onAs p 2 _).mono ?_
  rintro e w1 ⟨rfl, hb⟩
  obtain ⟨hc, hf⟩ := bcell hb
  have hz : w.heap.size + 1 < w1.heap.size := by have := hb.size; simp at this; omega
  have BB := Lib.hid (Below.and (below_alloc2 w (.cells #[.int .i64 p.f, .int .i64 p.s, .int .i64 p.v, .int .i64 p.r.c, .int .i64 p.r.n, .int .i64 p.r.o, .int .i64 p.r.x, .int .i64 p.r.y] 127) (.cells #[.int .i64 0, .int .i64 0, .int .i64 0, .int .i64 0, .int .i64 0, .int .i64 0, .int .i64 0, .int .i64 0, .int .i64 0, .slice none 0 0, .slice none 0 0] 72)) hb)
  go_wp2
  refine bodyPost_ret (v := (.agg #[.int .i64 2, .int .i64 p.f, .int .i64 p.v, .int .i64 p.s, .int .i64 p.r.c, .int .i64 p.r.n, .int .i64 p.r.o, .int .i64 p.r.x, .int .i64 p.r.y, .slice none 0 0, .slice none 0 0])) (by simp [results, Try.results129, go_sem, hc]) rfl ⟨rfl, ?_⟩
  clear hb hc hf
  iterate 11 (refine Below.setCell ?_ (by first | (simp; done) | (simp; omega)) _)
  exact BB.out

theorem method_msg2 (w : World) (p : MgP) : (method 272 127 (.agg #[.int .i64 p.f, .int .i64 p.s, .int .i64 p.v, .int .i64 p.r.c, .int .i64 p.r.n, .int .i64 p.r.o, .int .i64 p.r.x, .int .i64 p.r.y]) "loop.example/wapentake/impl.msg").run Try.prog w = .ok (129, .agg #[.int .i64 p.f, .int .i64 p.s, .int .i64 p.v, .int .i64 p.r.c, .int .i64 p.r.n, .int .i64 p.r.o, .int .i64 p.r.x, .int .i64 p.r.y]) w := by kernel_rfl

set_option maxRecDepth 100000 in
set_option maxHeartbeats 2000000 in
theorem say3 (p : MgP) (w : World) :
    Calls Try.prog 130 #[.agg #[.int .i64 p.f, .int .i64 p.s, .int .i64 p.v, .int .i64 p.r.c, .int .i64 p.r.n, .int .i64 p.r.o, .int .i64 p.r.x, .int .i64 p.r.y]] w fun e w' => e = .returned (.agg #[.int .i64 3, .int .i64 p.f, .int .i64 p.v, .int .i64 p.s, .int .i64 p.r.c, .int .i64 p.r.n, .int .i64 p.r.o, .int .i64 p.r.x, .int .i64 p.r.y, .slice none 0 0, .slice none 0 0]) ∧ Below w.heap.size w w' := by
  go_enter Try.func130, Try.ntmps130
  go_wp2_with (fail)
  refine (onAs p 3 _).mono ?_
  rintro e w1 ⟨rfl, hb⟩
  obtain ⟨hc, hf⟩ := bcell hb
  have hz : w.heap.size + 1 < w1.heap.size := by have := hb.size; simp at this; omega
  have BB := Lib.hid (Below.and (below_alloc2 w (.cells #[.int .i64 p.f, .int .i64 p.s, .int .i64 p.v, .int .i64 p.r.c, .int .i64 p.r.n, .int .i64 p.r.o, .int .i64 p.r.x, .int .i64 p.r.y] 128) (.cells #[.int .i64 0, .int .i64 0, .int .i64 0, .int .i64 0, .int .i64 0, .int .i64 0, .int .i64 0, .int .i64 0, .int .i64 0, .slice none 0 0, .slice none 0 0] 72)) hb)
  go_wp2
  refine bodyPost_ret (v := (.agg #[.int .i64 3, .int .i64 p.f, .int .i64 p.v, .int .i64 p.s, .int .i64 p.r.c, .int .i64 p.r.n, .int .i64 p.r.o, .int .i64 p.r.x, .int .i64 p.r.y, .slice none 0 0, .slice none 0 0])) (by simp [results, Try.results130, go_sem, hc]) rfl ⟨rfl, ?_⟩
  clear hb hc hf
  iterate 11 (refine Below.setCell ?_ (by first | (simp; done) | (simp; omega)) _)
  exact BB.out

theorem method_msg3 (w : World) (p : MgP) : (method 272 128 (.agg #[.int .i64 p.f, .int .i64 p.s, .int .i64 p.v, .int .i64 p.r.c, .int .i64 p.r.n, .int .i64 p.r.o, .int .i64 p.r.x, .int .i64 p.r.y]) "loop.example/wapentake/impl.msg").run Try.prog w = .ok (130, .agg #[.int .i64 p.f, .int .i64 p.s, .int .i64 p.v, .int .i64 p.r.c, .int .i64 p.r.n, .int .i64 p.r.o, .int .i64 p.r.x, .int .i64 p.r.y]) w := by kernel_rfl

set_option maxRecDepth 100000 in
set_option maxHeartbeats 2000000 in
theorem say4 (p : MgP) (w : World) :
    Calls Try.prog 131 #[.agg #[.int .i64 p.f, .int .i64 p.s, .int .i64 p.v, .int .i64 p.r.c, .int .i64 p.r.n, .int .i64 p.r.o, .int .i64 p.r.x, .int .i64 p.r.y]] w fun e w' => e = .returned (.agg #[.int .i64 4, .int .i64 p.f, .int .i64 p.v, .int .i64 p.s, .int .i64 p.r.c, .int .i64 p.r.n, .int .i64 p.r.o, .int .i64 p.r.x, .int .i64 p.r.y, .slice none 0 0, .slice none 0 0]) ∧ Below w.heap.size w w' := by
  go_enter Try.func131, Try.ntmps131
  go_wp2_with (fail)
  refine (onAs p 4 _).mono ?_
  rintro e w1 ⟨rfl, hb⟩
  obtain ⟨hc, hf⟩ := bcell hb
  have hz : w.heap.size + 1 < w1.heap.size := by have := hb.size; simp at this; omega
  have BB := Lib.hid (Below.and (below_alloc2 w (.cells #[.int .i64 p.f, .int .i64 p.s, .int .i64 p.v, .int .i64 p.r.c, .int .i64 p.r.n, .int .i64 p.r.o, .int .i64 p.r.x, .int .i64 p.r.y] 129) (.cells #[.int .i64 0, .int .i64 0, .int .i64 0, .int .i64 0, .int .i64 0, .int .i64 0, .int .i64 0, .int .i64 0, .int .i64 0, .slice none 0 0, .slice none 0 0] 72)) hb)
  go_wp2
  refine bodyPost_ret (v := (.agg #[.int .i64 4, .int .i64 p.f, .int .i64 p.v, .int .i64 p.s, .int .i64 p.r.c, .int .i64 p.r.n, .int .i64 p.r.o, .int .i64 p.r.x, .int .i64 p.r.y, .slice none 0 0, .slice none 0 0])) (by simp [results, Try.results131, go_sem, hc]) rfl ⟨rfl, ?_⟩
  clear hb hc hf
  iterate 11 (refine Below.setCell ?_ (by first | (simp; done) | (simp; omega)) _)
  exact BB.out

theorem method_msg4 (w : World) (p : MgP) : (method 272 129 (.agg #[.int .i64 p.f, .int .i64 p.s, .int .i64 p.v, .int .i64 p.r.c, .int .i64 p.r.n, .int .i64 p.r.o, .int .i64 p.r.x, .int .i64 p.r.y]) "loop.example/wapentake/impl.msg").run Try.prog w = .ok (131, .agg #[.int .i64 p.f, .int .i64 p.s, .int .i64 p.v, .int .i64 p.r.c, .int .i64 p.r.n, .int .i64 p.r.o, .int .i64 p.r.x, .int .i64 p.r.y]) w := by kernel_rfl

set_option maxRecDepth 100000 in
set_option maxHeartbeats 2000000 in
theorem say5 (p : MgP) (w : World) :
    Calls Try.prog 132 #[.agg #[.int .i64 p.f, .int .i64 p.v, .slice p.A p.cl.length p.a]] w fun e w' => e = .returned (.agg #[.int .i64 5, .int .i64 p.f, .int .i64 p.v, .int .i64 0, .int .i64 0, .int .i64 0, .int .i64 0, .int .i64 0, .int .i64 0, .slice p.A p.cl.length p.a, .slice none 0 0]) ∧ Below w.heap.size w w' := by
  go_enter Try.func132, Try.ntmps132
  go_wp2
  exact bodyPost_ret (v := (.agg #[.int .i64 5, .int .i64 p.f, .int .i64 p.v, .int .i64 0, .int .i64 0, .int .i64 0, .int .i64 0, .int .i64 0, .int .i64 0, .slice p.A p.cl.length p.a, .slice none 0 0])) (by simp [results, Try.results132, go_sem]) rfl ⟨rfl, by first | exact below_alloc2 _ _ _ | exact ((below_alloc2 _ _ _).alloc (by simp; omega) _)⟩

theorem method_msg5 (w : World) (p : MgP) : (method 272 131 (.agg #[.int .i64 p.f, .int .i64 p.v, .slice p.A p.cl.length p.a]) "loop.example/wapentake/impl.msg").run Try.prog w = .ok (132, .agg #[.int .i64 p.f, .int .i64 p.v, .slice p.A p.cl.length p.a]) w := by kernel_rfl

set_option maxRecDepth 100000 in
set_option maxHeartbeats 2000000 in
theorem say6 (p : MgP) (w : World) :
    Calls Try.prog 133 #[.agg #[.int .i64 p.f, .int .i64 p.v, .slice p.B p.vt.length p.b]] w fun e w' => e = .returned (.agg #[.int .i64 6, .int .i64 p.f, .int .i64 p.v, .int .i64 0, .int .i64 0, .int .i64 0, .int .i64 0, .int .i64 0, .int .i64 0, .slice none 0 0, .slice p.B p.vt.length p.b]) ∧ Below w.heap.size w w' := by
  go_enter Try.func133, Try.ntmps133
  go_wp2
  exact bodyPost_ret (v := (.agg #[.int .i64 6, .int .i64 p.f, .int .i64 p.v, .int .i64 0, .int .i64 0, .int .i64 0, .int .i64 0, .int .i64 0, .int .i64 0, .slice none 0 0, .slice p.B p.vt.length p.b])) (by simp [results, Try.results133, go_sem]) rfl ⟨rfl, by first | exact below_alloc2 _ _ _ | exact ((below_alloc2 _ _ _).alloc (by simp; omega) _)⟩

theorem method_msg6 (w : World) (p : MgP) : (method 272 133 (.agg #[.int .i64 p.f, .int .i64 p.v, .slice p.B p.vt.length p.b]) "loop.example/wapentake/impl.msg").run Try.prog w = .ok (133, .agg #[.int .i64 p.f, .int .i64 p.v, .slice p.B p.vt.length p.b]) w := by kernel_rfl

end Go.Proofs.Ytfelhnchnaggmaa
