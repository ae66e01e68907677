/- Two requests drawn of a code. -/
import Derived.Test.YtephmhgjhjheaaaTt
import Derived.Deep.RegionWith
import Derived.Deep.RegionHeld3
import Derived.Deep.DeepCutAuto
namespace Go.Proofs.Ytephmhgjhjheaaa
open Go.ChangeShapes Go.WideShapes Go.ChangeAt Go.RowKit
set_option linter.unusedVariables false

theorem InB.alloc {w : World} {A : Option Addr} {n : Nat} (h : InB w A n) (o : Obj) : InB (w.alloc o) A n := fun i hi => by
  obtain ⟨b, off, u, h1, h2, h3⟩ := h i hi
  exact ⟨b, off, u, h1, (World.grownBy_alloc w o none).cell h2 (by simp), h3⟩

theorem drawReqLess {w : World} {A : Option Addr} {n c : Nat} (hn : n ≤ 1048576) (hc : n ≤ c) (hb : InB w A n) :
    Calls Try.prog 20 #[.slice A n c] w fun e w' => ∃ a1 a2 a3 a4 a5 b1 b2 b3 b4 b5 : Int, e = .returned (.tuple #[req a1 a2 a3 a4 a5, req b1 b2 b3 b4 b5]) ∧ Below w.heap.size w w' := by
  have HB := Lib.hid ((hb.alloc (.cells #[.int .i64 0, .int .i64 0, .int .i64 0, .int .i64 0, .int .i64 0] 24)).alloc (.cells #[.int .i64 0, .int .i64 0, .int .i64 0, .int .i64 0, .int .i64 0] 24))
  have F1 := Lib.hid ((Five.new (u0 := .int .i64 0) (u1 := .int .i64 0) (u2 := .int .i64 0) (u3 := .int .i64 0) (u4 := .int .i64 0) (t := 24) w).alloc (.cells #[.int .i64 0, .int .i64 0, .int .i64 0, .int .i64 0, .int .i64 0] 24))
  have F2 := Lib.hid (Five.new (u0 := .int .i64 0) (u1 := .int .i64 0) (u2 := .int .i64 0) (u3 := .int .i64 0) (u4 := .int .i64 0) (t := 24) (w.alloc (.cells #[.int .i64 0, .int .i64 0, .int .i64 0, .int .i64 0, .int .i64 0] 24)))
  have BL := Lib.hid (((Below.refl w.heap.size w).alloc (Nat.le_refl _) (.cells #[.int .i64 0, .int .i64 0, .int .i64 0, .int .i64 0, .int .i64 0] 24)).alloc (by simp) (.cells #[.int .i64 0, .int .i64 0, .int .i64 0, .int .i64 0, .int .i64 0] 24))
  clear hb
  go_enter Try.func20, Try.ntmps20
  go_wp2_with (fail)
  refine (l20Open hn hc HB.out).mono ?_
  rintro e Wa ⟨m, rfl, hr, hbl⟩
  have hr2 : Reader Wa (w.heap.size + 1 + 1) A m c 0 := by simpa using hr
  have RD := Lib.hid hr2
  clear hr2
  have hsz : w.heap.size + 1 + 1 ≤ Wa.heap.size := by have := hbl.size; simpa using this
  have F1 := Lib.hid (F1.out.grown (Below.grownBy hbl none) (by simp))
  have F2 := Lib.hid (F2.out.grown (Below.grownBy hbl none) (by simp))
  have BL := Lib.hid (BL.out.trans (hbl.mono (by simp; omega)))
  clear hr hbl
  go_wp2_with (fail)
  refine (l20AnyReq RD.out (by omega)).mono ?_
  rintro e Wb ⟨a1, a2, a3, a4, a5, rfl, q, q0, q1, hr, hgr⟩
  have RD := Lib.hid hr
  have F1 := Lib.hid (F1.out.grown hgr (by simp; omega))
  have F2 := Lib.hid (F2.out.grown hgr (by first | (simp; done) | (simp; omega)))
  have BL := Lib.hid (BL.out.grown hgr (by omega) (by simp; omega))
  have hsz2 := hgr.size
  clear hr hgr
  have F2 : Hid (Five Wb (w.heap.size + 1) 24 (.int .i64 0) (.int .i64 0) (.int .i64 0) (.int .i64 0) (.int .i64 0)) := by simpa [Hid] using F2.out
  have hRlt := RD.out.lt
  have BA : Hid (Below Wb.heap.size Wb (Wb.alloc (.cells #[.int .i64 a1, .int .i64 a2, .int .i64 a3, .int .i64 a4, .int .i64 a5] 24)).drew) := ((Below.refl _ _).alloc (Nat.le_refl _) _).drew
  have RA := Lib.hid (RD.out.below BA.out)
  have FA1 := Lib.hid (F1.out.grown (Below.grownBy BA.out none) (by simp))
  have FA2 := Lib.hid (F2.out.grown (Below.grownBy BA.out none) (by simp))
  have FX : Hid (Five (Wb.alloc (.cells #[.int .i64 a1, .int .i64 a2, .int .i64 a3, .int .i64 a4, .int .i64 a5] 24)).drew Wb.heap.size 24 (.int .i64 a1) (.int .i64 a2) (.int .i64 a3) (.int .i64 a4) (.int .i64 a5)) := Five.new Wb
  have BL2 := Lib.hid (BL.out.trans (BA.out.mono (by omega)))
  clear F1 F2 RD BL
  go_wp2_with (fail)
  go_region_with ((go_at_call 77; refine (l20AnyReq RA.out (by omega)).mono ?_; rintro e Wc ⟨b1, b2, b3, b4, b5, rfl, r, r0, r1, hr, hgr⟩; obtain ⟨s0, s1, s2, s3, s4⟩ := (FA1.out.grown hgr (by simp; omega)).cells; have sf := (FA1.out.grown hgr (by simp; omega)).frozen; obtain ⟨u0, u1, u2, u3, u4⟩ := (FA2.out.grown hgr (by simp)).cells; have uf := (FA2.out.grown hgr (by simp)).frozen; obtain ⟨x0, x1, x2, x3, x4⟩ := (FX.out.grown hgr (by simp; omega)).cells; have B3 := Lib.hid (BL2.out.grown hgr (by have := BL2.out.size; omega) (by simp; omega)); clear hr hgr))
  all_goals go_wp2
  all_goals go_light
  all_goals refine bodyPost_ret (v := .tuple #[req a1 a2 a3 a4 a5, req b1 b2 b3 b4 b5]) (by simp [results, Try.results20, go_sem, s0, s1, s2, s3, s4, u0, u1, u2, u3, u4]) rfl ⟨a1, a2, a3, a4, a5, b1, b2, b3, b4, b5, rfl, ?_⟩
  all_goals iterate 10 (refine Below.setCell ?_ (by first | (simp; done) | (simp; omega)) _)
  all_goals exact B3.out
end Go.Proofs.Ytephmhgjhjheaaa
