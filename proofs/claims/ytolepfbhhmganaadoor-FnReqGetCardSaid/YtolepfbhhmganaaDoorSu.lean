/- What is written is read again: the draw, and what texts there are. -/
import Derived.Test.YtolepfbhhmganaaDoorSs
import Derived.Test.YtolepfbhhmganaaDoorTt
namespace Go.Proofs.YtolepfbhhmganaaDoor
open Go.ChangeShapes Go.WideShapes Go.ChangeAt Go.RowKit
set_option linter.unusedVariables false
set_option linter.unusedSimpArgs false

theorem InB.alloc' {w : World} {A : Option Addr} {n : Nat} (h : InB w A n) (o : Obj) : InB (w.alloc o) A n := fun i hi => by
  obtain ⟨b, off, u, h1, h2, h3⟩ := h i hi
  exact ⟨b, off, u, h1, (World.grownBy_alloc w o none).cell h2 (by simp), h3⟩

set_option maxRecDepth 100000 in
set_option maxHeartbeats 2000000 in
theorem drawReqPut {w : World} {A : Option Addr} {n c : Nat} (hn : n ≤ 1048576) (hc : n ≤ c) (hb : InB w A n) :
    Calls Tryd.prog 10 #[.slice A n c] w fun e w' => ∃ v0 v1 v2 v3 v4 : Int, e = .returned (.agg #[.int .i64 v0, .int .i64 v1, .int .i64 v2, .int .i64 v3, .int .i64 v4]) ∧ Below w.heap.size w w' := by
  have HB := Lib.hid (hb.alloc' (.cells #[.int .i64 0, .int .i64 0, .int .i64 0, .int .i64 0, .int .i64 0] 25))
  have F1 : Hid (Bkk (w.alloc (.cells #[.int .i64 0, .int .i64 0, .int .i64 0, .int .i64 0, .int .i64 0] 25)) w.heap.size 25 #[.int .i64 0, .int .i64 0, .int .i64 0, .int .i64 0, .int .i64 0]) := Bkk.new w
  have BL : Hid (Below w.heap.size w (w.alloc (.cells #[.int .i64 0, .int .i64 0, .int .i64 0, .int .i64 0, .int .i64 0] 25))) := (Below.refl _ _).alloc (Nat.le_refl _) _
  clear hb
  go_enter Tryd.func10, Tryd.ntmps10
  go_wp2_with (fail)
  refine (l20Open hn hc HB.out).mono ?_
  rintro e Wa ⟨m, rfl, hr, hbl⟩
  have hr2 : Reader Wa (w.heap.size + 1) A m c 0 := by simpa using hr
  have RD := Lib.hid hr2
  have F1 := Lib.hid (F1.out.below hbl)
  have BL := Lib.hid (Below.and BL.out hbl)
  have hsz : w.heap.size + 1 ≤ Wa.heap.size := by have := hbl.size; simpa using this
  clear hr hbl hr2
  go_wp2_with (fail)
  refine (l20AnyReq RD.out (by omega)).mono ?_
  rintro e Wb ⟨v0, v1, v2, v3, v4, rfl, q, q0, q1, hr, hgr⟩
  have F2 : Hid (Bkk Wb w.heap.size 25 #[.int .i64 0, .int .i64 0, .int .i64 0, .int .i64 0, .int .i64 0]) := (hgr.block w.heap.size F1.out.lt (by simp)).trans F1.out
  have BL := Lib.hid (BL.out.grown hgr (by omega) (by simp))
  clear hr hgr F1 RD
  have f0 : Wb.cell? ⟨w.heap.size, 0, none⟩ = some (.int .i64 0) := F2.out.cell 0
  have f1 : Wb.cell? ⟨w.heap.size, 1, none⟩ = some (.int .i64 0) := F2.out.cell 1
  have f2 : Wb.cell? ⟨w.heap.size, 2, none⟩ = some (.int .i64 0) := F2.out.cell 2
  have f3 : Wb.cell? ⟨w.heap.size, 3, none⟩ = some (.int .i64 0) := F2.out.cell 3
  have f4 : Wb.cell? ⟨w.heap.size, 4, none⟩ = some (.int .i64 0) := F2.out.cell 4
  have ff := F2.out.frozen
  have fl := F2.out.lt
  have fb : w.heap.size ≤ Wb.heap.size := BL.out.size
  unfold req
  go_wp2
  refine bodyPost_ret (v := .agg #[.int .i64 v0, .int .i64 v1, .int .i64 v2, .int .i64 v3, .int .i64 v4]) (by simp [results, Tryd.results10, go_sem, f0, f1, f2, f3, f4]) rfl ⟨v0, v1, v2, v3, v4, rfl, ?_⟩
  iterate 5 (refine Below.setCell ?_ (by first | (simp; done) | (simp; omega)) _)
  exact BL.out

theorem put_len {r : Rq} (h : rqB r = true) : (putT r).length ≤ 1048576 := by
  rw [put_ok h]
  obtain ⟨b1, b2, b3, b4, b5⟩ := rq_bd (show reqB r.c r.n r.o r.x r.y = true from h)
  have h1 := itoa_len r.c (by omega) (by omega)
  have h2 := itoa_len r.n (by omega) (by omega)
  have h3 := itoa_len r.x (by omega) (by omega)
  have h4 := itoa_len r.y (by omega) (by omega)
  have h5 : (wordN r.o.toNat).length ≤ 4 := by
    have : r.o.toNat = 1 ∨ r.o.toNat = 2 ∨ r.o.toNat = 3 ∨ r.o.toNat = 4 ∨ r.o.toNat = 5 := by omega
    rcases this with e | e | e | e | e <;> rw [e] <;> decide
  rw [putN_five]
  unfold five
  simp only [List.length_append, List.length_cons]
  omega
theorem put_blank {r : Rq} (h : rqB r = true) : (32 : UInt8) ∈ putT r := by
  rw [put_ok h, putN_five]
  unfold five
  simp
theorem put_cases (r : Rq) :
    (putT r = [110, 111, 110, 101] ∧ rqB r = false ∧ getT [110, 111, 110, 101] = (r, true)) ∨ (putT r = [] ∧ rqB r = false) ∨
    (rqB r = true ∧ getT (putT r) = (r, true) ∧ (putT r).length ≤ 1048576 ∧ putT r ≠ [110, 111, 110, 101] ∧ putT r ≠ []) := by
  rcases hn : nullB r with _ | _
  · rcases hq : rqB r with _ | _
    · refine .inr (.inl ⟨?_, rfl⟩)
      unfold putT; rw [hn, hq]; rfl
    · have h1 : putT r ≠ [110, 111, 110, 101] := fun e => by
        have := put_blank hq
        rw [e] at this
        revert this; decide
      have h2 : putT r ≠ [] := fun e => by
        have := put_blank hq
        rw [e] at this
        cases this
      refine .inr (.inr ⟨rfl, get_good h1 ?_, put_len hq, h1, h2⟩)
      unfold goodB; rw [hq]; simp
  · refine .inl ⟨?_, null_not hn, ?_⟩
    · unfold putT; rw [hn]; rfl
    · have : r = ⟨0, 0, 0, 0, 0⟩ := of_decide_eq_true hn
      rw [this]; exact get_none

end Go.Proofs.YtolepfbhhmganaaDoor
