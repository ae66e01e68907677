/- Oe, Of -/
import Derived.Test.YtjpbflehedbijaaOc
import Derived.Test.YtjpbflehedbijaaOd
/- What a letter must hold to be valid. -/
namespace Go.Proofs.Ytjpbflehedbijaa
open Go.ChangeShapes Go.WideShapes Go.ChangeAt Go.RowKit
set_option linter.unusedVariables false

theorem implReqOkR (r : Rq) (w : World) :
    Calls Try.prog 70 #[r.val] w fun e w' => e = .returned (.bool (rqB r)) ∧ Below w.heap.size w w' := implReqOk r.c r.n r.o r.x r.y w

set_option maxRecDepth 100000 in
set_option maxHeartbeats 2000000 in
theorem letterValid1 (p : MgP) (w : World) :
    Calls Try.prog 40 #[.iface 94 (.agg #[.int .i64 p.r.c, .int .i64 p.r.n, .int .i64 p.r.o, .int .i64 p.r.x, .int .i64 p.r.y])] w fun e w' => e = .returned (.bool (rqB p.r)) ∧ Below w.heap.size w w' := by
  have BW : Hid (Below w.heap.size w (w.alloc (.cells #[.int .i64 p.r.c, .int .i64 p.r.n, .int .i64 p.r.o, .int .i64 p.r.x, .int .i64 p.r.y] 94))) := (Below.refl _ _).alloc (Nat.le_refl _) _
  have K : Hid (Blk (w.alloc (.cells #[.int .i64 p.r.c, .int .i64 p.r.n, .int .i64 p.r.o, .int .i64 p.r.x, .int .i64 p.r.y] 94)) w.heap.size 94 #[.int .i64 p.r.c, .int .i64 p.r.n, .int .i64 p.r.o, .int .i64 p.r.x, .int .i64 p.r.y]) := Blk.new w
  have ta1 : ∀ W, (Instr.typeAssert (.iface 94 (.agg #[.int .i64 p.r.c, .int .i64 p.r.n, .int .i64 p.r.o, .int .i64 p.r.x, .int .i64 p.r.y])) 69 94 true).run Try.prog W = .ok (.tuple #[.agg #[.int .i64 p.r.c, .int .i64 p.r.n, .int .i64 p.r.o, .int .i64 p.r.x, .int .i64 p.r.y], .bool true]) W := fun W => by kernel_rfl
  go_enter Try.func40, Try.ntmps40
  go_wp2_with (fail)
  refine (implReqOkR p.r _).mono ?_
  rintro e w1 ⟨rfl, hb⟩
  have BB := Lib.hid (Below.and BW.out hb)
  clear hb
  go_wp2
  go_light
  go_ret
  exact ⟨ret_bool (by rfl), BB.out⟩

set_option maxRecDepth 100000 in
set_option maxHeartbeats 2000000 in
theorem letterValid2 (p : MgP) (w : World) :
    Calls Try.prog 40 #[.iface 96 (.agg #[.int .i64 p.f, .int .i64 p.s, .int .i64 p.v, .int .i64 p.r.c, .int .i64 p.r.n, .int .i64 p.r.o, .int .i64 p.r.x, .int .i64 p.r.y])] w fun e w' => e = .returned (.bool (inB p.f 0 3 && (clB ⟨p.s, p.v, p.r⟩ && rqB p.r))) ∧ Below w.heap.size w w' := by
  have BW : Hid (Below w.heap.size w (w.alloc (.cells #[.int .i64 p.f, .int .i64 p.s, .int .i64 p.v, .int .i64 p.r.c, .int .i64 p.r.n, .int .i64 p.r.o, .int .i64 p.r.x, .int .i64 p.r.y] 96))) := (Below.refl _ _).alloc (Nat.le_refl _) _
  have K : Hid (Blk (w.alloc (.cells #[.int .i64 p.f, .int .i64 p.s, .int .i64 p.v, .int .i64 p.r.c, .int .i64 p.r.n, .int .i64 p.r.o, .int .i64 p.r.x, .int .i64 p.r.y] 96)) w.heap.size 96 #[.int .i64 p.f, .int .i64 p.s, .int .i64 p.v, .int .i64 p.r.c, .int .i64 p.r.n, .int .i64 p.r.o, .int .i64 p.r.x, .int .i64 p.r.y]) := Blk.new w
  have ta1 : ∀ W, (Instr.typeAssert (.iface 96 (.agg #[.int .i64 p.f, .int .i64 p.s, .int .i64 p.v, .int .i64 p.r.c, .int .i64 p.r.n, .int .i64 p.r.o, .int .i64 p.r.x, .int .i64 p.r.y])) 69 94 true).run Try.prog W = .ok (.tuple #[.agg #[.int .i64 0, .int .i64 0, .int .i64 0, .int .i64 0, .int .i64 0], .bool false]) W := fun W => by kernel_rfl
  have ta2 : ∀ W, (Instr.typeAssert (.iface 96 (.agg #[.int .i64 p.f, .int .i64 p.s, .int .i64 p.v, .int .i64 p.r.c, .int .i64 p.r.n, .int .i64 p.r.o, .int .i64 p.r.x, .int .i64 p.r.y])) 69 96 true).run Try.prog W = .ok (.tuple #[.agg #[.int .i64 p.f, .int .i64 p.s, .int .i64 p.v, .int .i64 p.r.c, .int .i64 p.r.n, .int .i64 p.r.o, .int .i64 p.r.x, .int .i64 p.r.y], .bool true]) W := fun W => by kernel_rfl
  rcases ha : inB p.f 0 3 with _ | _
  · go_enter Try.func40, Try.ntmps40
    go_wp2_with (go_at_call 43; refine (isKeeper _ _).mono ?_; rintro e w' ⟨rfl, rfl⟩; rw [ha])
    go_light
    go_ret
    exact ⟨ret_bool (by first | rfl | (simp [*]; done) | (simp_all; done) | (rw [hc]; rfl) | simp), BW.out⟩
  go_enter Try.func40, Try.ntmps40
  go_wp2_with (go_at_call 43; refine (isKeeper _ _).mono ?_; rintro e w' ⟨rfl, rfl⟩; rw [ha])
  refine (claimValid ⟨p.s, p.v, p.r⟩ _).mono ?_
  rintro e w1 ⟨rfl, hbb⟩
  have BB := Lib.hid (Below.and BW.out hbb)
  have KK := K.out.below hbb
  have x0 := (KK.cell 0).trans (show _ = some (.int .i64 p.f) from rfl)
  have x1 := (KK.cell 1).trans (show _ = some (.int .i64 p.s) from rfl)
  have x2 := (KK.cell 2).trans (show _ = some (.int .i64 p.v) from rfl)
  have x3 := (KK.cell 3).trans (show _ = some (.int .i64 p.r.c) from rfl)
  have x4 := (KK.cell 4).trans (show _ = some (.int .i64 p.r.n) from rfl)
  have x5 := (KK.cell 5).trans (show _ = some (.int .i64 p.r.o) from rfl)
  have x6 := (KK.cell 6).trans (show _ = some (.int .i64 p.r.x) from rfl)
  have x7 := (KK.cell 7).trans (show _ = some (.int .i64 p.r.y) from rfl)
  clear hbb KK
  rcases hc : clB ⟨p.s, p.v, p.r⟩ with _ | _
  · go_wp2
    go_light
    go_ret
    exact ⟨ret_bool (by first | rfl | (simp [*]; done) | (simp_all; done) | (rw [hc]; rfl) | simp), BB.out⟩
  go_wp2_with (fail)
  refine (implReqOkR p.r _).mono ?_
  rintro e w2 ⟨rfl, hbb⟩
  have BB := Lib.hid (Below.and BB.out hbb)
  clear hbb
  go_wp2
  go_light
  go_ret
  exact ⟨ret_bool (by first | rfl | (simp [*]; done) | (simp_all; done) | (rw [hc]; rfl) | simp), BB.out⟩

set_option maxRecDepth 100000 in
set_option maxHeartbeats 2000000 in
theorem letterValid3 (p : MgP) (w : World) :
    Calls Try.prog 40 #[.iface 97 (.agg #[.int .i64 p.f, .int .i64 p.s, .int .i64 p.v, .int .i64 p.r.c, .int .i64 p.r.n, .int .i64 p.r.o, .int .i64 p.r.x, .int .i64 p.r.y])] w fun e w' => e = .returned (.bool (inB p.f 0 3 && clB ⟨p.s, p.v, p.r⟩)) ∧ Below w.heap.size w w' := by
  have BW : Hid (Below w.heap.size w (w.alloc (.cells #[.int .i64 p.f, .int .i64 p.s, .int .i64 p.v, .int .i64 p.r.c, .int .i64 p.r.n, .int .i64 p.r.o, .int .i64 p.r.x, .int .i64 p.r.y] 97))) := (Below.refl _ _).alloc (Nat.le_refl _) _
  have K : Hid (Blk (w.alloc (.cells #[.int .i64 p.f, .int .i64 p.s, .int .i64 p.v, .int .i64 p.r.c, .int .i64 p.r.n, .int .i64 p.r.o, .int .i64 p.r.x, .int .i64 p.r.y] 97)) w.heap.size 97 #[.int .i64 p.f, .int .i64 p.s, .int .i64 p.v, .int .i64 p.r.c, .int .i64 p.r.n, .int .i64 p.r.o, .int .i64 p.r.x, .int .i64 p.r.y]) := Blk.new w
  have ta1 : ∀ W, (Instr.typeAssert (.iface 97 (.agg #[.int .i64 p.f, .int .i64 p.s, .int .i64 p.v, .int .i64 p.r.c, .int .i64 p.r.n, .int .i64 p.r.o, .int .i64 p.r.x, .int .i64 p.r.y])) 69 94 true).run Try.prog W = .ok (.tuple #[.agg #[.int .i64 0, .int .i64 0, .int .i64 0, .int .i64 0, .int .i64 0], .bool false]) W := fun W => by kernel_rfl
  have ta2 : ∀ W, (Instr.typeAssert (.iface 97 (.agg #[.int .i64 p.f, .int .i64 p.s, .int .i64 p.v, .int .i64 p.r.c, .int .i64 p.r.n, .int .i64 p.r.o, .int .i64 p.r.x, .int .i64 p.r.y])) 69 96 true).run Try.prog W = .ok (.tuple #[.agg #[.int .i64 0, .int .i64 0, .int .i64 0, .int .i64 0, .int .i64 0, .int .i64 0, .int .i64 0, .int .i64 0], .bool false]) W := fun W => by kernel_rfl
  have ta3 : ∀ W, (Instr.typeAssert (.iface 97 (.agg #[.int .i64 p.f, .int .i64 p.s, .int .i64 p.v, .int .i64 p.r.c, .int .i64 p.r.n, .int .i64 p.r.o, .int .i64 p.r.x, .int .i64 p.r.y])) 69 97 true).run Try.prog W = .ok (.tuple #[.agg #[.int .i64 p.f, .int .i64 p.s, .int .i64 p.v, .int .i64 p.r.c, .int .i64 p.r.n, .int .i64 p.r.o, .int .i64 p.r.x, .int .i64 p.r.y], .bool true]) W := fun W => by kernel_rfl
  rcases ha : inB p.f 0 3 with _ | _
  · go_enter Try.func40, Try.ntmps40
    go_wp2_with (go_at_call 43; refine (isKeeper _ _).mono ?_; rintro e w' ⟨rfl, rfl⟩; rw [ha])
    go_light
    go_ret
    exact ⟨ret_bool (by first | rfl | (simp [*]; done) | (simp_all; done) | (rw [hc]; rfl) | simp), BW.out⟩
  go_enter Try.func40, Try.ntmps40
  go_wp2_with (go_at_call 43; refine (isKeeper _ _).mono ?_; rintro e w' ⟨rfl, rfl⟩; rw [ha])
  refine (claimValid ⟨p.s, p.v, p.r⟩ _).mono ?_
  rintro e w1 ⟨rfl, hbb⟩
  have BB := Lib.hid (Below.and BW.out hbb)
  clear hbb
  go_wp2
  go_light
  go_ret
  exact ⟨ret_bool (by first | rfl | (simp [*]; done) | (simp_all; done) | (rw [hc]; rfl) | simp), BB.out⟩

set_option maxRecDepth 100000 in
set_option maxHeartbeats 2000000 in
theorem letterValid4 (p : MgP) (w : World) :
    Calls Try.prog 40 #[.iface 98 (.agg #[.int .i64 p.f, .int .i64 p.s, .int .i64 p.v, .int .i64 p.r.c, .int .i64 p.r.n, .int .i64 p.r.o, .int .i64 p.r.x, .int .i64 p.r.y])] w fun e w' => e = .returned (.bool (inB p.f 0 3 && clB ⟨p.s, p.v, p.r⟩)) ∧ Below w.heap.size w w' := by
  have BW : Hid (Below w.heap.size w (w.alloc (.cells #[.int .i64 p.f, .int .i64 p.s, .int .i64 p.v, .int .i64 p.r.c, .int .i64 p.r.n, .int .i64 p.r.o, .int .i64 p.r.x, .int .i64 p.r.y] 98))) := (Below.refl _ _).alloc (Nat.le_refl _) _
  have K : Hid (Blk (w.alloc (.cells #[.int .i64 p.f, .int .i64 p.s, .int .i64 p.v, .int .i64 p.r.c, .int .i64 p.r.n, .int .i64 p.r.o, .int .i64 p.r.x, .int .i64 p.r.y] 98)) w.heap.size 98 #[.int .i64 p.f, .int .i64 p.s, .int .i64 p.v, .int .i64 p.r.c, .int .i64 p.r.n, .int .i64 p.r.o, .int .i64 p.r.x, .int .i64 p.r.y]) := Blk.new w
  have ta1 : ∀ W, (Instr.typeAssert (.iface 98 (.agg #[.int .i64 p.f, .int .i64 p.s, .int .i64 p.v, .int .i64 p.r.c, .int .i64 p.r.n, .int .i64 p.r.o, .int .i64 p.r.x, .int .i64 p.r.y])) 69 94 true).run Try.prog W = .ok (.tuple #[.agg #[.int .i64 0, .int .i64 0, .int .i64 0, .int .i64 0, .int .i64 0], .bool false]) W := fun W => by kernel_rfl
  have ta2 : ∀ W, (Instr.typeAssert (.iface 98 (.agg #[.int .i64 p.f, .int .i64 p.s, .int .i64 p.v, .int .i64 p.r.c, .int .i64 p.r.n, .int .i64 p.r.o, .int .i64 p.r.x, .int .i64 p.r.y])) 69 96 true).run Try.prog W = .ok (.tuple #[.agg #[.int .i64 0, .int .i64 0, .int .i64 0, .int .i64 0, .int .i64 0, .int .i64 0, .int .i64 0, .int .i64 0], .bool false]) W := fun W => by kernel_rfl
  have ta3 : ∀ W, (Instr.typeAssert (.iface 98 (.agg #[.int .i64 p.f, .int .i64 p.s, .int .i64 p.v, .int .i64 p.r.c, .int .i64 p.r.n, .int .i64 p.r.o, .int .i64 p.r.x, .int .i64 p.r.y])) 69 97 true).run Try.prog W = .ok (.tuple #[.agg #[.int .i64 0, .int .i64 0, .int .i64 0, .int .i64 0, .int .i64 0, .int .i64 0, .int .i64 0, .int .i64 0], .bool false]) W := fun W => by kernel_rfl
  have ta4 : ∀ W, (Instr.typeAssert (.iface 98 (.agg #[.int .i64 p.f, .int .i64 p.s, .int .i64 p.v, .int .i64 p.r.c, .int .i64 p.r.n, .int .i64 p.r.o, .int .i64 p.r.x, .int .i64 p.r.y])) 69 98 true).run Try.prog W = .ok (.tuple #[.agg #[.int .i64 p.f, .int .i64 p.s, .int .i64 p.v, .int .i64 p.r.c, .int .i64 p.r.n, .int .i64 p.r.o, .int .i64 p.r.x, .int .i64 p.r.y], .bool true]) W := fun W => by kernel_rfl
  rcases ha : inB p.f 0 3 with _ | _
  · go_enter Try.func40, Try.ntmps40
    go_wp2_with (go_at_call 43; refine (isKeeper _ _).mono ?_; rintro e w' ⟨rfl, rfl⟩; rw [ha])
    go_light
    go_ret
    exact ⟨ret_bool (by first | rfl | (simp [*]; done) | (simp_all; done) | (rw [hc]; rfl) | simp), BW.out⟩
  go_enter Try.func40, Try.ntmps40
  go_wp2_with (go_at_call 43; refine (isKeeper _ _).mono ?_; rintro e w' ⟨rfl, rfl⟩; rw [ha])
  refine (claimValid ⟨p.s, p.v, p.r⟩ _).mono ?_
  rintro e w1 ⟨rfl, hbb⟩
  have BB := Lib.hid (Below.and BW.out hbb)
  clear hbb
  go_wp2
  go_light
  go_ret
  exact ⟨ret_bool (by first | rfl | (simp [*]; done) | (simp_all; done) | (rw [hc]; rfl) | simp), BB.out⟩

set_option maxRecDepth 100000 in
set_option maxHeartbeats 2000000 in
theorem letterValid5 (p : MgP) (w : World) (hp : p.rd w) :
    Calls Try.prog 40 #[.iface 100 (.agg #[.int .i64 p.f, .int .i64 p.v, .slice p.A p.cl.length p.a])] w fun e w' => e = .returned (.bool (inB p.f 0 3 && (inB p.v 0 6 && clsB 0 p.cl))) ∧ Below w.heap.size w w' := by
  have BW : Hid (Below w.heap.size w (w.alloc (.cells #[.int .i64 p.f, .int .i64 p.v, .slice p.A p.cl.length p.a] 100))) := (Below.refl _ _).alloc (Nat.le_refl _) _
  have K : Hid (Blk (w.alloc (.cells #[.int .i64 p.f, .int .i64 p.v, .slice p.A p.cl.length p.a] 100)) w.heap.size 100 #[.int .i64 p.f, .int .i64 p.v, .slice p.A p.cl.length p.a]) := Blk.new w
  have ta1 : ∀ W, (Instr.typeAssert (.iface 100 (.agg #[.int .i64 p.f, .int .i64 p.v, .slice p.A p.cl.length p.a])) 69 94 true).run Try.prog W = .ok (.tuple #[.agg #[.int .i64 0, .int .i64 0, .int .i64 0, .int .i64 0, .int .i64 0], .bool false]) W := fun W => by kernel_rfl
  have ta2 : ∀ W, (Instr.typeAssert (.iface 100 (.agg #[.int .i64 p.f, .int .i64 p.v, .slice p.A p.cl.length p.a])) 69 96 true).run Try.prog W = .ok (.tuple #[.agg #[.int .i64 0, .int .i64 0, .int .i64 0, .int .i64 0, .int .i64 0, .int .i64 0, .int .i64 0, .int .i64 0], .bool false]) W := fun W => by kernel_rfl
  have ta3 : ∀ W, (Instr.typeAssert (.iface 100 (.agg #[.int .i64 p.f, .int .i64 p.v, .slice p.A p.cl.length p.a])) 69 97 true).run Try.prog W = .ok (.tuple #[.agg #[.int .i64 0, .int .i64 0, .int .i64 0, .int .i64 0, .int .i64 0, .int .i64 0, .int .i64 0, .int .i64 0], .bool false]) W := fun W => by kernel_rfl
  have ta4 : ∀ W, (Instr.typeAssert (.iface 100 (.agg #[.int .i64 p.f, .int .i64 p.v, .slice p.A p.cl.length p.a])) 69 98 true).run Try.prog W = .ok (.tuple #[.agg #[.int .i64 0, .int .i64 0, .int .i64 0, .int .i64 0, .int .i64 0, .int .i64 0, .int .i64 0, .int .i64 0], .bool false]) W := fun W => by kernel_rfl
  have ta5 : ∀ W, (Instr.typeAssert (.iface 100 (.agg #[.int .i64 p.f, .int .i64 p.v, .slice p.A p.cl.length p.a])) 69 100 true).run Try.prog W = .ok (.tuple #[.agg #[.int .i64 p.f, .int .i64 p.v, .slice p.A p.cl.length p.a], .bool true]) W := fun W => by kernel_rfl
  have HP := Lib.hid (hp.below BW.out)
  clear hp
  rcases ha : inB p.f 0 3 with _ | _
  · go_enter Try.func40, Try.ntmps40
    go_wp2_with (go_at_call 43; refine (isKeeper _ _).mono ?_; rintro e w' ⟨rfl, rfl⟩; rw [ha])
    go_light
    go_ret
    exact ⟨ret_bool (by first | rfl | (simp [*]; done) | (simp_all; done) | (rw [hc]; rfl) | simp), BW.out⟩
  rcases hb : inB p.v 0 6 with _ | _
  · go_enter Try.func40, Try.ntmps40
    go_wp2_with (first | (go_at_call 43; refine (isKeeper _ _).mono ?_; rintro e w' ⟨rfl, rfl⟩; rw [ha]) | (go_at_call 48; refine (isView _ _).mono ?_; rintro e w' ⟨rfl, rfl⟩; rw [hb]))
    go_light
    go_ret
    exact ⟨ret_bool (by first | rfl | (simp [*]; done) | (simp_all; done) | (rw [hc]; rfl) | simp), BW.out⟩
  go_enter Try.func40, Try.ntmps40
  go_wp2_with (first | (go_at_call 43; refine (isKeeper _ _).mono ?_; rintro e w' ⟨rfl, rfl⟩; rw [ha]) | (go_at_call 48; refine (isView _ _).mono ?_; rintro e w' ⟨rfl, rfl⟩; rw [hb]))
  refine (claimsValid p.A p.a p.cl _ HP.out.1 HP.out.2.2.1).mono ?_
  rintro e w1 ⟨rfl, hbb⟩
  have BB := Lib.hid (Below.and BW.out hbb)
  clear hbb
  go_wp2
  go_light
  go_ret
  exact ⟨ret_bool (by first | rfl | (simp [*]; done) | (simp_all; done) | (rw [hc]; rfl) | simp), BB.out⟩

set_option maxRecDepth 100000 in
set_option maxHeartbeats 2000000 in
theorem letterValid6 (p : MgP) (w : World) (hp : p.rd w) :
    Calls Try.prog 40 #[.iface 102 (.agg #[.int .i64 p.f, .int .i64 p.v, .slice p.B p.vt.length p.b])] w fun e w' => e = .returned (.bool (inB p.f 0 3 && (inB p.v 0 6 && vtsB (-1) p.vt))) ∧ Below w.heap.size w w' := by
  have BW : Hid (Below w.heap.size w (w.alloc (.cells #[.int .i64 p.f, .int .i64 p.v, .slice p.B p.vt.length p.b] 102))) := (Below.refl _ _).alloc (Nat.le_refl _) _
  have K : Hid (Blk (w.alloc (.cells #[.int .i64 p.f, .int .i64 p.v, .slice p.B p.vt.length p.b] 102)) w.heap.size 102 #[.int .i64 p.f, .int .i64 p.v, .slice p.B p.vt.length p.b]) := Blk.new w
  have ta1 : ∀ W, (Instr.typeAssert (.iface 102 (.agg #[.int .i64 p.f, .int .i64 p.v, .slice p.B p.vt.length p.b])) 69 94 true).run Try.prog W = .ok (.tuple #[.agg #[.int .i64 0, .int .i64 0, .int .i64 0, .int .i64 0, .int .i64 0], .bool false]) W := fun W => by kernel_rfl
  have ta2 : ∀ W, (Instr.typeAssert (.iface 102 (.agg #[.int .i64 p.f, .int .i64 p.v, .slice p.B p.vt.length p.b])) 69 96 true).run Try.prog W = .ok (.tuple #[.agg #[.int .i64 0, .int .i64 0, .int .i64 0, .int .i64 0, .int .i64 0, .int .i64 0, .int .i64 0, .int .i64 0], .bool false]) W := fun W => by kernel_rfl
  have ta3 : ∀ W, (Instr.typeAssert (.iface 102 (.agg #[.int .i64 p.f, .int .i64 p.v, .slice p.B p.vt.length p.b])) 69 97 true).run Try.prog W = .ok (.tuple #[.agg #[.int .i64 0, .int .i64 0, .int .i64 0, .int .i64 0, .int .i64 0, .int .i64 0, .int .i64 0, .int .i64 0], .bool false]) W := fun W => by kernel_rfl
  have ta4 : ∀ W, (Instr.typeAssert (.iface 102 (.agg #[.int .i64 p.f, .int .i64 p.v, .slice p.B p.vt.length p.b])) 69 98 true).run Try.prog W = .ok (.tuple #[.agg #[.int .i64 0, .int .i64 0, .int .i64 0, .int .i64 0, .int .i64 0, .int .i64 0, .int .i64 0, .int .i64 0], .bool false]) W := fun W => by kernel_rfl
  have ta5 : ∀ W, (Instr.typeAssert (.iface 102 (.agg #[.int .i64 p.f, .int .i64 p.v, .slice p.B p.vt.length p.b])) 69 100 true).run Try.prog W = .ok (.tuple #[.agg #[.int .i64 0, .int .i64 0, .slice none 0 0], .bool false]) W := fun W => by kernel_rfl
  have ta6 : ∀ W, (Instr.typeAssert (.iface 102 (.agg #[.int .i64 p.f, .int .i64 p.v, .slice p.B p.vt.length p.b])) 69 102 true).run Try.prog W = .ok (.tuple #[.agg #[.int .i64 p.f, .int .i64 p.v, .slice p.B p.vt.length p.b], .bool true]) W := fun W => by kernel_rfl
  have HP := Lib.hid (hp.below BW.out)
  clear hp
  rcases ha : inB p.f 0 3 with _ | _
  · go_enter Try.func40, Try.ntmps40
    go_wp2_with (go_at_call 43; refine (isKeeper _ _).mono ?_; rintro e w' ⟨rfl, rfl⟩; rw [ha])
    go_light
    go_ret
    exact ⟨ret_bool (by first | rfl | (simp [*]; done) | (simp_all; done) | (rw [hc]; rfl) | simp), BW.out⟩
  rcases hb : inB p.v 0 6 with _ | _
  · go_enter Try.func40, Try.ntmps40
    go_wp2_with (first | (go_at_call 43; refine (isKeeper _ _).mono ?_; rintro e w' ⟨rfl, rfl⟩; rw [ha]) | (go_at_call 48; refine (isView _ _).mono ?_; rintro e w' ⟨rfl, rfl⟩; rw [hb]))
    go_light
    go_ret
    exact ⟨ret_bool (by first | rfl | (simp [*]; done) | (simp_all; done) | (rw [hc]; rfl) | simp), BW.out⟩
  go_enter Try.func40, Try.ntmps40
  go_wp2_with (first | (go_at_call 43; refine (isKeeper _ _).mono ?_; rintro e w' ⟨rfl, rfl⟩; rw [ha]) | (go_at_call 48; refine (isView _ _).mono ?_; rintro e w' ⟨rfl, rfl⟩; rw [hb]))
  refine (votesValid p.B p.b p.vt _ HP.out.2.1 HP.out.2.2.2).mono ?_
  rintro e w1 ⟨rfl, hbb⟩
  have BB := Lib.hid (Below.and BW.out hbb)
  clear hbb
  go_wp2
  go_light
  go_ret
  exact ⟨ret_bool (by first | rfl | (simp [*]; done) | (simp_all; done) | (rw [hc]; rfl) | simp), BB.out⟩

end Go.Proofs.Ytjpbflehedbijaa

/- A message out of what its kind reads. -/
namespace Go.Proofs.Ytjpbflehedbijaa
open Go.ChangeShapes Go.WideShapes Go.ChangeAt Go.RowKit
set_option linter.unusedVariables false

/-- The message that what its kind reads says. -/
def sayP (k : Int) (p : MgP) : MgP :=
  if k = 1 then ⟨1, 0, 0, 0, p.r, none, 0, [], none, 0, []⟩
  else if k = 5 then ⟨5, p.f, p.v, 0, ⟨0, 0, 0, 0, 0⟩, p.A, p.a, p.cl, none, 0, []⟩
  else if k = 6 then ⟨6, p.f, p.v, 0, ⟨0, 0, 0, 0, 0⟩, none, 0, [], p.B, p.b, p.vt⟩
  else ⟨k, p.f, p.v, p.s, p.r, none, 0, [], none, 0, []⟩
theorem rd_none (k : Nat) {α : Type} (f : α → List Value) (w : World) (A : Option Addr) : Rd k f w A [] := fun i h => absurd h (by simp)
theorem sayP_rd (k : Int) (p : MgP) (w : World) (h : p.rd w) : (sayP k p).rd w := by
  unfold sayP
  split
  · exact ⟨by simp [maxLen], by simp [maxLen], rd_none _ _ _ _, rd_none _ _ _ _, by simp⟩
  split
  · exact ⟨h.1, by simp [maxLen], h.2.2.1, rd_none _ _ _ _, by simp⟩
  split
  · exact ⟨by simp [maxLen], h.2.1, rd_none _ _ _ _, h.2.2.2⟩
  · exact ⟨by simp [maxLen], by simp [maxLen], rd_none _ _ _ _, rd_none _ _ _ _, by simp⟩

set_option maxRecDepth 100000 in
set_option maxHeartbeats 2000000 in
theorem onAs (p : MgP) (k : Int) (w : World) :
    Calls Try.prog 114 #[.agg #[.int .i64 p.f, .int .i64 p.s, .int .i64 p.v, .int .i64 p.r.c, .int .i64 p.r.n, .int .i64 p.r.o, .int .i64 p.r.x, .int .i64 p.r.y], .int .i64 k] w fun e w' => e = .returned (.agg #[.int .i64 k, .int .i64 p.f, .int .i64 p.v, .int .i64 p.s, .int .i64 p.r.c, .int .i64 p.r.n, .int .i64 p.r.o, .int .i64 p.r.x, .int .i64 p.r.y, .slice none 0 0, .slice none 0 0]) ∧ Below w.heap.size w w' := by
  go_enter Try.func114, Try.ntmps114
  go_wp2
  exact bodyPost_ret (v := (.agg #[.int .i64 k, .int .i64 p.f, .int .i64 p.v, .int .i64 p.s, .int .i64 p.r.c, .int .i64 p.r.n, .int .i64 p.r.o, .int .i64 p.r.x, .int .i64 p.r.y, .slice none 0 0, .slice none 0 0])) (by simp [results, Try.results114, go_sem]) rfl ⟨rfl, by first | exact below_alloc2 _ _ _ | exact ((below_alloc2 _ _ _).alloc (by simp; omega) _)⟩

set_option maxRecDepth 100000 in
set_option maxHeartbeats 2000000 in
theorem say1 (p : MgP) (w : World) :
    Calls Try.prog 115 #[.agg #[.int .i64 p.r.c, .int .i64 p.r.n, .int .i64 p.r.o, .int .i64 p.r.x, .int .i64 p.r.y]] w fun e w' => e = .returned (.agg #[.int .i64 1, .int .i64 0, .int .i64 0, .int .i64 0, .int .i64 p.r.c, .int .i64 p.r.n, .int .i64 p.r.o, .int .i64 p.r.x, .int .i64 p.r.y, .slice none 0 0, .slice none 0 0]) ∧ Below w.heap.size w w' := by
  go_enter Try.func115, Try.ntmps115
  go_wp2
  exact bodyPost_ret (v := (.agg #[.int .i64 1, .int .i64 0, .int .i64 0, .int .i64 0, .int .i64 p.r.c, .int .i64 p.r.n, .int .i64 p.r.o, .int .i64 p.r.x, .int .i64 p.r.y, .slice none 0 0, .slice none 0 0])) (by simp [results, Try.results115, go_sem]) rfl ⟨rfl, by first | exact below_alloc2 _ _ _ | exact ((below_alloc2 _ _ _).alloc (by simp; omega) _)⟩

theorem method_msg1 (w : World) (p : MgP) : (method 258 94 (.agg #[.int .i64 p.r.c, .int .i64 p.r.n, .int .i64 p.r.o, .int .i64 p.r.x, .int .i64 p.r.y]) "loop.example/wapentake/impl.msg").run Try.prog w = .ok (115, .agg #[.int .i64 p.r.c, .int .i64 p.r.n, .int .i64 p.r.o, .int .i64 p.r.x, .int .i64 p.r.y]) w := by kernel_rfl

set_option maxRecDepth 100000 in
set_option maxHeartbeats 2000000 in
theorem say2 (p : MgP) (w : World) :
    Calls Try.prog 116 #[.agg #[.int .i64 p.f, .int .i64 p.s, .int .i64 p.v, .int .i64 p.r.c, .int .i64 p.r.n, .int .i64 p.r.o, .int .i64 p.r.x, .int .i64 p.r.y]] w fun e w' => e = .returned (.agg #[.int .i64 2, .int .i64 p.f, .int .i64 p.v, .int .i64 p.s, .int .i64 p.r.c, .int .i64 p.r.n, .int .i64 p.r.o, .int .i64 p.r.x, .int .i64 p.r.y, .slice none 0 0, .slice none 0 0]) ∧ Below w.heap.size w w' := by
  go_enter Try.func116, Try.ntmps116
  go_wp2_with (fail)
  refine (onAs p 2 _).mono ?_
  rintro e w1 ⟨rfl, hb⟩
  obtain ⟨hc, hf⟩ := bcell hb
  have hz : w.heap.size + 1 < w1.heap.size := by have := hb.size; simp at this; omega
  have BB := Lib.hid (Below.and (below_alloc2 w (.cells #[.int .i64 p.f, .int .i64 p.s, .int .i64 p.v, .int .i64 p.r.c, .int .i64 p.r.n, .int .i64 p.r.o, .int .i64 p.r.x, .int .i64 p.r.y] 96) (.cells #[.int .i64 0, .int .i64 0, .int .i64 0, .int .i64 0, .int .i64 0, .int .i64 0, .int .i64 0, .int .i64 0, .int .i64 0, .slice none 0 0, .slice none 0 0] 28)) hb)
  go_wp2
  refine bodyPost_ret (v := (.agg #[.int .i64 2, .int .i64 p.f, .int .i64 p.v, .int .i64 p.s, .int .i64 p.r.c, .int .i64 p.r.n, .int .i64 p.r.o, .int .i64 p.r.x, .int .i64 p.r.y, .slice none 0 0, .slice none 0 0])) (by simp [results, Try.results116, go_sem, hc]) rfl ⟨rfl, ?_⟩
  clear hb hc hf
  iterate 11 (refine Below.setCell ?_ (by first | (simp; done) | (simp; omega)) _)
  exact BB.out

theorem method_msg2 (w : World) (p : MgP) : (method 258 96 (.agg #[.int .i64 p.f, .int .i64 p.s, .int .i64 p.v, .int .i64 p.r.c, .int .i64 p.r.n, .int .i64 p.r.o, .int .i64 p.r.x, .int .i64 p.r.y]) "loop.example/wapentake/impl.msg").run Try.prog w = .ok (116, .agg #[.int .i64 p.f, .int .i64 p.s, .int .i64 p.v, .int .i64 p.r.c, .int .i64 p.r.n, .int .i64 p.r.o, .int .i64 p.r.x, .int .i64 p.r.y]) w := by kernel_rfl

set_option maxRecDepth 100000 in
set_option maxHeartbeats 2000000 in
theorem say3 (p : MgP) (w : World) :
    Calls Try.prog 117 #[.agg #[.int .i64 p.f, .int .i64 p.s, .int .i64 p.v, .int .i64 p.r.c, .int .i64 p.r.n, .int .i64 p.r.o, .int .i64 p.r.x, .int .i64 p.r.y]] w fun e w' => e = .returned (.agg #[.int .i64 3, .int .i64 p.f, .int .i64 p.v, .int .i64 p.s, .int .i64 p.r.c, .int .i64 p.r.n, .int .i64 p.r.o, .int .i64 p.r.x, .int .i64 p.r.y, .slice none 0 0, .slice none 0 0]) ∧ Below w.heap.size w w' := by
  go_enter Try.func117, Try.ntmps117
  go_wp2_with (fail)
  refine (onAs p 3 _).mono ?_
  rintro e w1 ⟨rfl, hb⟩
  obtain ⟨hc, hf⟩ := bcell hb
  have hz : w.heap.size + 1 < w1.heap.size := by have := hb.size; simp at this; omega
  have BB := Lib.hid (Below.and (below_alloc2 w (.cells #[.int .i64 p.f, .int .i64 p.s, .int .i64 p.v, .int .i64 p.r.c, .int .i64 p.r.n, .int .i64 p.r.o, .int .i64 p.r.x, .int .i64 p.r.y] 97) (.cells #[.int .i64 0, .int .i64 0, .int .i64 0, .int .i64 0, .int .i64 0, .int .i64 0, .int .i64 0, .int .i64 0, .int .i64 0, .slice none 0 0, .slice none 0 0] 28)) hb)
  go_wp2
  refine bodyPost_ret (v := (.agg #[.int .i64 3, .int .i64 p.f, .int .i64 p.v, .int .i64 p.s, .int .i64 p.r.c, .int .i64 p.r.n, .int .i64 p.r.o, .int .i64 p.r.x, .int .i64 p.r.y, .slice none 0 0, .slice none 0 0])) (by simp [results, Try.results117, go_sem, hc]) rfl ⟨rfl, ?_⟩
  clear hb hc hf
  iterate 11 (refine Below.setCell ?_ (by first | (simp; done) | (simp; omega)) _)
  exact BB.out

theorem method_msg3 (w : World) (p : MgP) : (method 258 97 (.agg #[.int .i64 p.f, .int .i64 p.s, .int .i64 p.v, .int .i64 p.r.c, .int .i64 p.r.n, .int .i64 p.r.o, .int .i64 p.r.x, .int .i64 p.r.y]) "loop.example/wapentake/impl.msg").run Try.prog w = .ok (117, .agg #[.int .i64 p.f, .int .i64 p.s, .int .i64 p.v, .int .i64 p.r.c, .int .i64 p.r.n, .int .i64 p.r.o, .int .i64 p.r.x, .int .i64 p.r.y]) w := by kernel_rfl

set_option maxRecDepth 100000 in
set_option maxHeartbeats 2000000 in
theorem say4 (p : MgP) (w : World) :
    Calls Try.prog 118 #[.agg #[.int .i64 p.f, .int .i64 p.s, .int .i64 p.v, .int .i64 p.r.c, .int .i64 p.r.n, .int .i64 p.r.o, .int .i64 p.r.x, .int .i64 p.r.y]] w fun e w' => e = .returned (.agg #[.int .i64 4, .int .i64 p.f, .int .i64 p.v, .int .i64 p.s, .int .i64 p.r.c, .int .i64 p.r.n, .int .i64 p.r.o, .int .i64 p.r.x, .int .i64 p.r.y, .slice none 0 0, .slice none 0 0]) ∧ Below w.heap.size w w' := by
  go_enter Try.func118, Try.ntmps118
  go_wp2_with (fail)
  refine (onAs p 4 _).mono ?_
  rintro e w1 ⟨rfl, hb⟩
  obtain ⟨hc, hf⟩ := bcell hb
  have hz : w.heap.size + 1 < w1.heap.size := by have := hb.size; simp at this; omega
  have BB := Lib.hid (Below.and (below_alloc2 w (.cells #[.int .i64 p.f, .int .i64 p.s, .int .i64 p.v, .int .i64 p.r.c, .int .i64 p.r.n, .int .i64 p.r.o, .int .i64 p.r.x, .int .i64 p.r.y] 98) (.cells #[.int .i64 0, .int .i64 0, .int .i64 0, .int .i64 0, .int .i64 0, .int .i64 0, .int .i64 0, .int .i64 0, .int .i64 0, .slice none 0 0, .slice none 0 0] 28)) hb)
  go_wp2
  refine bodyPost_ret (v := (.agg #[.int .i64 4, .int .i64 p.f, .int .i64 p.v, .int .i64 p.s, .int .i64 p.r.c, .int .i64 p.r.n, .int .i64 p.r.o, .int .i64 p.r.x, .int .i64 p.r.y, .slice none 0 0, .slice none 0 0])) (by simp [results, Try.results118, go_sem, hc]) rfl ⟨rfl, ?_⟩
  clear hb hc hf
  iterate 11 (refine Below.setCell ?_ (by first | (simp; done) | (simp; omega)) _)
  exact BB.out

theorem method_msg4 (w : World) (p : MgP) : (method 258 98 (.agg #[.int .i64 p.f, .int .i64 p.s, .int .i64 p.v, .int .i64 p.r.c, .int .i64 p.r.n, .int .i64 p.r.o, .int .i64 p.r.x, .int .i64 p.r.y]) "loop.example/wapentake/impl.msg").run Try.prog w = .ok (118, .agg #[.int .i64 p.f, .int .i64 p.s, .int .i64 p.v, .int .i64 p.r.c, .int .i64 p.r.n, .int .i64 p.r.o, .int .i64 p.r.x, .int .i64 p.r.y]) w := by kernel_rfl

set_option maxRecDepth 100000 in
set_option maxHeartbeats 2000000 in
theorem say5 (p : MgP) (w : World) :
    Calls Try.prog 119 #[.agg #[.int .i64 p.f, .int .i64 p.v, .slice p.A p.cl.length p.a]] w fun e w' => e = .returned (.agg #[.int .i64 5, .int .i64 p.f, .int .i64 p.v, .int .i64 0, .int .i64 0, .int .i64 0, .int .i64 0, .int .i64 0, .int .i64 0, .slice p.A p.cl.length p.a, .slice none 0 0]) ∧ Below w.heap.size w w' := by
  go_enter Try.func119, Try.ntmps119
  go_wp2
  exact bodyPost_ret (v := (.agg #[.int .i64 5, .int .i64 p.f, .int .i64 p.v, .int .i64 0, .int .i64 0, .int .i64 0, .int .i64 0, .int .i64 0, .int .i64 0, .slice p.A p.cl.length p.a, .slice none 0 0])) (by simp [results, Try.results119, go_sem]) rfl ⟨rfl, by first | exact below_alloc2 _ _ _ | exact ((below_alloc2 _ _ _).alloc (by simp; omega) _)⟩

theorem method_msg5 (w : World) (p : MgP) : (method 258 100 (.agg #[.int .i64 p.f, .int .i64 p.v, .slice p.A p.cl.length p.a]) "loop.example/wapentake/impl.msg").run Try.prog w = .ok (119, .agg #[.int .i64 p.f, .int .i64 p.v, .slice p.A p.cl.length p.a]) w := by kernel_rfl

set_option maxRecDepth 100000 in
set_option maxHeartbeats 2000000 in
theorem say6 (p : MgP) (w : World) :
    Calls Try.prog 120 #[.agg #[.int .i64 p.f, .int .i64 p.v, .slice p.B p.vt.length p.b]] w fun e w' => e = .returned (.agg #[.int .i64 6, .int .i64 p.f, .int .i64 p.v, .int .i64 0, .int .i64 0, .int .i64 0, .int .i64 0, .int .i64 0, .int .i64 0, .slice none 0 0, .slice p.B p.vt.length p.b]) ∧ Below w.heap.size w w' := by
  go_enter Try.func120, Try.ntmps120
  go_wp2
  exact bodyPost_ret (v := (.agg #[.int .i64 6, .int .i64 p.f, .int .i64 p.v, .int .i64 0, .int .i64 0, .int .i64 0, .int .i64 0, .int .i64 0, .int .i64 0, .slice none 0 0, .slice p.B p.vt.length p.b])) (by simp [results, Try.results120, go_sem]) rfl ⟨rfl, by first | exact below_alloc2 _ _ _ | exact ((below_alloc2 _ _ _).alloc (by simp; omega) _)⟩

theorem method_msg6 (w : World) (p : MgP) : (method 258 102 (.agg #[.int .i64 p.f, .int .i64 p.v, .slice p.B p.vt.length p.b]) "loop.example/wapentake/impl.msg").run Try.prog w = .ok (120, .agg #[.int .i64 p.f, .int .i64 p.v, .slice p.B p.vt.length p.b]) w := by kernel_rfl

end Go.Proofs.Ytjpbflehedbijaa
