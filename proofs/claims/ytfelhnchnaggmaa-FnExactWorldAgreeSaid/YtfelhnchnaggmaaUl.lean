/- Letters that came in, made the program's own. -/
import Derived.Test.YtfelhnchnaggmaaMF
namespace Go.Proofs.Ytfelhnchnaggmaa
open Go.ChangeShapes Go.WideShapes Go.ChangeAt Go.RowKit
set_option linter.unusedVariables false

theorem OwV.set {w : World} {g : Nat} {Q : List VtP} (h : OwV w g Q) {b : Nat} (hb : b < g) (o : Nat) (u : Value) : OwV (w.setCell ⟨b, o, none⟩ u) g Q := ⟨own_set h.1 hb o u, fun q hq => (h.2 q hq).set (by omega) o u⟩

/-- What lies behind a letter is the call's own, from lo on. -/
def MgP.own (w : World) (lo : Nat) (q : MgP) : Prop := w.ownsRow lo 77 7 (.slice q.A q.cl.length q.a) q.cl.length (q.cl.flatMap Cl.cells) ∧ ∃ g, lo ≤ g ∧ q.B = some ⟨g, 0, none⟩ ∧ q.b = q.vt.length ∧ OwV w g q.vt
theorem MgP.own.below {w w' : World} {lo : Nat} {q : MgP} (h : q.own w lo) (hb : Below w.heap.size w w') : q.own w' lo := by
  obtain ⟨h1, g, h2, h3, h4, h5⟩ := h
  exact ⟨own_below h1 hb, g, h2, h3, h4, h5.below hb⟩
theorem MgP.own.set {w : World} {lo : Nat} {q : MgP} (h : q.own w lo) {b : Nat} (hb : b < lo) (o : Nat) (u : Value) : q.own (w.setCell ⟨b, o, none⟩ u) lo := by
  obtain ⟨h1, g, h2, h3, h4, h5⟩ := h
  exact ⟨own_set h1 hb o u, g, h2, h3, h4, h5.set (by omega) o u⟩
theorem MgP.own.base {w : World} {lo lo' : Nat} {q : MgP} (h : q.own w lo) (hb : lo' ≤ lo) : q.own w lo' := by
  obtain ⟨h1, g, h2, h3, h4, h5⟩ := h
  exact ⟨own_base h1 hb, g, by omega, h3, h4, h5⟩
theorem MgP.own.rd {w : World} {lo : Nat} {q : MgP} (h : q.own w lo) : q.rd w := by
  obtain ⟨h1, g, h2, h3, h4, h5⟩ := h
  obtain ⟨A, c, hv, hm⟩ := own_form h1
  refine ⟨hm, h5.len, Rd.of_own Cl.len h1 rfl, ?_⟩
  rw [h3]
  exact h5.rd

/-- How much a letter holds. -/
def szV (P : List VtP) : Nat := P.length + (P.map fun p => p.cl.length).sum
def MgP.sz (m : MgP) : Nat := m.cl.length + szV m.vt

theorem sz_mem {α : Type} {f : α → Nat} {P : List α} {p : α} (h : p ∈ P) : f p ≤ (P.map f).sum := by
  induction P with
  | nil => cases h
  | cons a P ih =>
    rw [List.map_cons, List.sum_cons]
    rcases List.mem_cons.1 h with rfl | h
    · omega
    · have := ih h
      omega

theorem szV_mem {P : List VtP} {p : VtP} (h : p ∈ P) : p.cl.length ≤ szV P := by
  have := sz_mem (f := fun p : VtP => p.cl.length) h
  unfold szV
  omega

set_option maxRecDepth 100000 in
set_option maxHeartbeats 4000000 in
theorem toMsg (p : MgP) (w : World) (hp : p.rd w) (hl : p.sz ≤ 1048576) :
    Calls Try.prog 62 #[p.val] w fun e w' => ∃ q : MgP, e = .returned q.val ∧ q.mg = p.mg ∧ q.own w' w.heap.size ∧ Below w.heap.size w w' := by
  have hl1 : p.cl.length ≤ 1048576 := by unfold MgP.sz at hl; omega
  have hl2 : p.vt.length ≤ 1048576 := by unfold MgP.sz szV at hl; omega
  have HCL := Lib.hid (fun q (h : q ∈ p.vt) => show q.cl.length ≤ 1048576 by have := szV_mem h; unfold MgP.sz at hl; omega)
  have Z0 : Hid (Below w.heap.size w (((w.alloc (.cells #[.int .i64 p.k, .int .i64 p.f, .int .i64 p.v, .int .i64 p.s, .int .i64 p.r.c, .int .i64 p.r.n, .int .i64 p.r.o, .int .i64 p.r.x, .int .i64 p.r.y, .slice p.A p.cl.length p.a, .slice p.B p.vt.length p.b] 94)).alloc (.cells #[.int .i64 0, .int .i64 0, .int .i64 0, .int .i64 0, .int .i64 0, .int .i64 0, .int .i64 0, .int .i64 0, .int .i64 0, .slice none 0 0, .slice none 0 0] 72)).alloc (.cells #[.int .i64 p.k, .int .i64 p.f, .int .i64 p.v, .int .i64 p.s, .int .i64 0, .int .i64 0, .int .i64 0, .int .i64 0, .int .i64 0, .slice none 0 0, .slice none 0 0] 72))) := (below_alloc2 _ _ _).alloc (by simp; omega) _
  have R1 := Lib.hid hp.2.2.1
  have R2 := Lib.hid hp.2.2.2
  clear hp hl
  go_enter Try.func62, Try.ntmps62
  go_wp2_with (fail)
  refine (toRq p.r _).mono ?_
  rintro e w1 ⟨rfl, hb⟩
  have K1 : Hid (Blk w1 (w.heap.size + 1 + 1) 72 #[.int .i64 p.k, .int .i64 p.f, .int .i64 p.v, .int .i64 p.s, .int .i64 0, .int .i64 0, .int .i64 0, .int .i64 0, .int .i64 0, .slice none 0 0, .slice none 0 0]) := by have := (Blk.new (t := 72) (cs := #[.int .i64 p.k, .int .i64 p.f, .int .i64 p.v, .int .i64 p.s, .int .i64 0, .int .i64 0, .int .i64 0, .int .i64 0, .int .i64 0, .slice none 0 0, .slice none 0 0]) ((w.alloc (.cells #[.int .i64 p.k, .int .i64 p.f, .int .i64 p.v, .int .i64 p.s, .int .i64 p.r.c, .int .i64 p.r.n, .int .i64 p.r.o, .int .i64 p.r.x, .int .i64 p.r.y, .slice p.A p.cl.length p.a, .slice p.B p.vt.length p.b] 94)).alloc (.cells #[.int .i64 0, .int .i64 0, .int .i64 0, .int .i64 0, .int .i64 0, .int .i64 0, .int .i64 0, .int .i64 0, .int .i64 0, .slice none 0 0, .slice none 0 0] 72))).below hb; simpa [Hid] using this
  have K2 : Hid (Blk w1 (w.heap.size + 1) 72 #[.int .i64 0, .int .i64 0, .int .i64 0, .int .i64 0, .int .i64 0, .int .i64 0, .int .i64 0, .int .i64 0, .int .i64 0, .slice none 0 0, .slice none 0 0]) := by have := ((Blk.new (t := 72) (cs := #[.int .i64 0, .int .i64 0, .int .i64 0, .int .i64 0, .int .i64 0, .int .i64 0, .int .i64 0, .int .i64 0, .int .i64 0, .slice none 0 0, .slice none 0 0]) (w.alloc (.cells #[.int .i64 p.k, .int .i64 p.f, .int .i64 p.v, .int .i64 p.s, .int .i64 p.r.c, .int .i64 p.r.n, .int .i64 p.r.o, .int .i64 p.r.x, .int .i64 p.r.y, .slice p.A p.cl.length p.a, .slice p.B p.vt.length p.b] 94))).alloc (.cells #[.int .i64 p.k, .int .i64 p.f, .int .i64 p.v, .int .i64 p.s, .int .i64 0, .int .i64 0, .int .i64 0, .int .i64 0, .int .i64 0, .slice none 0 0, .slice none 0 0] 72)).below hb; simpa [Hid] using this
  have K3 : Hid (Blk w1 w.heap.size 94 #[.int .i64 p.k, .int .i64 p.f, .int .i64 p.v, .int .i64 p.s, .int .i64 p.r.c, .int .i64 p.r.n, .int .i64 p.r.o, .int .i64 p.r.x, .int .i64 p.r.y, .slice p.A p.cl.length p.a, .slice p.B p.vt.length p.b]) := (((Blk.new w).alloc _).alloc _).below hb
  have hz : w.heap.size + 1 + 1 < w1.heap.size := by have := hb.size; simp at this; omega
  have Z1 := Lib.hid (below_box3 hb)
  clear hb
  have x0 : w1.cell? ⟨w.heap.size + 1 + 1, 0, none⟩ = some (.int .i64 p.k) := K1.out.cell 0
  have x1 : w1.cell? ⟨w.heap.size + 1 + 1, 1, none⟩ = some (.int .i64 p.f) := K1.out.cell 1
  have x2 : w1.cell? ⟨w.heap.size + 1 + 1, 2, none⟩ = some (.int .i64 p.v) := K1.out.cell 2
  have x3 : w1.cell? ⟨w.heap.size + 1 + 1, 3, none⟩ = some (.int .i64 p.s) := K1.out.cell 3
  have x4 : w1.cell? ⟨w.heap.size + 1 + 1, 4, none⟩ = some (.int .i64 0) := K1.out.cell 4
  have x5 : w1.cell? ⟨w.heap.size + 1 + 1, 5, none⟩ = some (.int .i64 0) := K1.out.cell 5
  have x6 : w1.cell? ⟨w.heap.size + 1 + 1, 6, none⟩ = some (.int .i64 0) := K1.out.cell 6
  have x7 : w1.cell? ⟨w.heap.size + 1 + 1, 7, none⟩ = some (.int .i64 0) := K1.out.cell 7
  have x8 : w1.cell? ⟨w.heap.size + 1 + 1, 8, none⟩ = some (.int .i64 0) := K1.out.cell 8
  have x9 : w1.cell? ⟨w.heap.size + 1 + 1, 9, none⟩ = some (.slice none 0 0) := K1.out.cell 9
  have x10 : w1.cell? ⟨w.heap.size + 1 + 1, 10, none⟩ = some (.slice none 0 0) := K1.out.cell 10
  have y0 : w1.cell? ⟨w.heap.size, 0, none⟩ = some (.int .i64 p.k) := K3.out.cell 0
  have y1 : w1.cell? ⟨w.heap.size, 1, none⟩ = some (.int .i64 p.f) := K3.out.cell 1
  have y2 : w1.cell? ⟨w.heap.size, 2, none⟩ = some (.int .i64 p.v) := K3.out.cell 2
  have y3 : w1.cell? ⟨w.heap.size, 3, none⟩ = some (.int .i64 p.s) := K3.out.cell 3
  have y4 : w1.cell? ⟨w.heap.size, 4, none⟩ = some (.int .i64 p.r.c) := K3.out.cell 4
  have y5 : w1.cell? ⟨w.heap.size, 5, none⟩ = some (.int .i64 p.r.n) := K3.out.cell 5
  have y6 : w1.cell? ⟨w.heap.size, 6, none⟩ = some (.int .i64 p.r.o) := K3.out.cell 6
  have y7 : w1.cell? ⟨w.heap.size, 7, none⟩ = some (.int .i64 p.r.x) := K3.out.cell 7
  have y8 : w1.cell? ⟨w.heap.size, 8, none⟩ = some (.int .i64 p.r.y) := K3.out.cell 8
  have y9 : w1.cell? ⟨w.heap.size, 9, none⟩ = some (.slice p.A p.cl.length p.a) := K3.out.cell 9
  have y10 : w1.cell? ⟨w.heap.size, 10, none⟩ = some (.slice p.B p.vt.length p.b) := K3.out.cell 10
  have xf := K1.out.frozen
  go_wp2_with (fail)
  have K1 : Hid (Blk (((((w1.setCell ⟨w.heap.size + 1 + 1, 4, none⟩ (.int .i64 p.r.c)).setCell ⟨w.heap.size + 1 + 1, 5, none⟩ (.int .i64 p.r.n)).setCell ⟨w.heap.size + 1 + 1, 6, none⟩ (.int .i64 p.r.o)).setCell ⟨w.heap.size + 1 + 1, 7, none⟩ (.int .i64 p.r.x)).setCell ⟨w.heap.size + 1 + 1, 8, none⟩ (.int .i64 p.r.y)) (w.heap.size + 1 + 1) 72 #[.int .i64 p.k, .int .i64 p.f, .int .i64 p.v, .int .i64 p.s, .int .i64 p.r.c, .int .i64 p.r.n, .int .i64 p.r.o, .int .i64 p.r.x, .int .i64 p.r.y, .slice none 0 0, .slice none 0 0]) := ((((K1.out.set 4 _).set 5 _).set 6 _).set 7 _).set 8 _
  have K2 : Hid (Blk (((((w1.setCell ⟨w.heap.size + 1 + 1, 4, none⟩ (.int .i64 p.r.c)).setCell ⟨w.heap.size + 1 + 1, 5, none⟩ (.int .i64 p.r.n)).setCell ⟨w.heap.size + 1 + 1, 6, none⟩ (.int .i64 p.r.o)).setCell ⟨w.heap.size + 1 + 1, 7, none⟩ (.int .i64 p.r.x)).setCell ⟨w.heap.size + 1 + 1, 8, none⟩ (.int .i64 p.r.y)) (w.heap.size + 1) 72 #[.int .i64 0, .int .i64 0, .int .i64 0, .int .i64 0, .int .i64 0, .int .i64 0, .int .i64 0, .int .i64 0, .int .i64 0, .slice none 0 0, .slice none 0 0]) := ((((K2.out.far (by omega) 4 _).far (by omega) 5 _).far (by omega) 6 _).far (by omega) 7 _).far (by omega) 8 _
  have K3 : Hid (Blk (((((w1.setCell ⟨w.heap.size + 1 + 1, 4, none⟩ (.int .i64 p.r.c)).setCell ⟨w.heap.size + 1 + 1, 5, none⟩ (.int .i64 p.r.n)).setCell ⟨w.heap.size + 1 + 1, 6, none⟩ (.int .i64 p.r.o)).setCell ⟨w.heap.size + 1 + 1, 7, none⟩ (.int .i64 p.r.x)).setCell ⟨w.heap.size + 1 + 1, 8, none⟩ (.int .i64 p.r.y)) w.heap.size 94 #[.int .i64 p.k, .int .i64 p.f, .int .i64 p.v, .int .i64 p.s, .int .i64 p.r.c, .int .i64 p.r.n, .int .i64 p.r.o, .int .i64 p.r.x, .int .i64 p.r.y, .slice p.A p.cl.length p.a, .slice p.B p.vt.length p.b]) := ((((K3.out.far (by omega) 4 _).far (by omega) 5 _).far (by omega) 6 _).far (by omega) 7 _).far (by omega) 8 _
  have Z1 : Hid (Below w.heap.size w (((((w1.setCell ⟨w.heap.size + 1 + 1, 4, none⟩ (.int .i64 p.r.c)).setCell ⟨w.heap.size + 1 + 1, 5, none⟩ (.int .i64 p.r.n)).setCell ⟨w.heap.size + 1 + 1, 6, none⟩ (.int .i64 p.r.o)).setCell ⟨w.heap.size + 1 + 1, 7, none⟩ (.int .i64 p.r.x)).setCell ⟨w.heap.size + 1 + 1, 8, none⟩ (.int .i64 p.r.y))) := ((((Z1.out.setCell (by simp; omega) _).setCell (by simp; omega) _).setCell (by simp; omega) _).setCell (by simp; omega) _).setCell (by simp; omega) _
  have hz1 : (((((w1.setCell ⟨w.heap.size + 1 + 1, 4, none⟩ (.int .i64 p.r.c)).setCell ⟨w.heap.size + 1 + 1, 5, none⟩ (.int .i64 p.r.n)).setCell ⟨w.heap.size + 1 + 1, 6, none⟩ (.int .i64 p.r.o)).setCell ⟨w.heap.size + 1 + 1, 7, none⟩ (.int .i64 p.r.x)).setCell ⟨w.heap.size + 1 + 1, 8, none⟩ (.int .i64 p.r.y)).heap.size = w1.heap.size := by simp
  have HZ1 := Lib.hid hz1
  clear x0 x1 x2 x3 x4 x5 x6 x7 x8 x9 x10 y0 y1 y2 y3 y4 y5 y6 y7 y8 y9 y10 xf hz1
  refine (toClaimS p.A p.a p.cl _ hl1 (R1.out.below Z1.out)).mono ?_
  rintro e w2 ⟨g1, rfl, hg1, ho, hb⟩
  have K1 := Lib.hid (K1.out.below hb)
  have K2 := Lib.hid (K2.out.below hb)
  have K3 := Lib.hid (K3.out.below hb)
  have Z2 := Lib.hid (Below.and Z1.out hb)
  have O1 := Lib.hid (own_base (base' := w.heap.size + 1 + 1 + 1) ho (by rw [HZ1.out]; omega))
  have hz2 : w.heap.size + 1 + 1 < w2.heap.size := by have := hb.size; rw [HZ1.out] at this; omega
  clear hb ho hg1 HZ1
  have x0 : w2.cell? ⟨w.heap.size + 1 + 1, 0, none⟩ = some (.int .i64 p.k) := K1.out.cell 0
  have x1 : w2.cell? ⟨w.heap.size + 1 + 1, 1, none⟩ = some (.int .i64 p.f) := K1.out.cell 1
  have x2 : w2.cell? ⟨w.heap.size + 1 + 1, 2, none⟩ = some (.int .i64 p.v) := K1.out.cell 2
  have x3 : w2.cell? ⟨w.heap.size + 1 + 1, 3, none⟩ = some (.int .i64 p.s) := K1.out.cell 3
  have x4 : w2.cell? ⟨w.heap.size + 1 + 1, 4, none⟩ = some (.int .i64 p.r.c) := K1.out.cell 4
  have x5 : w2.cell? ⟨w.heap.size + 1 + 1, 5, none⟩ = some (.int .i64 p.r.n) := K1.out.cell 5
  have x6 : w2.cell? ⟨w.heap.size + 1 + 1, 6, none⟩ = some (.int .i64 p.r.o) := K1.out.cell 6
  have x7 : w2.cell? ⟨w.heap.size + 1 + 1, 7, none⟩ = some (.int .i64 p.r.x) := K1.out.cell 7
  have x8 : w2.cell? ⟨w.heap.size + 1 + 1, 8, none⟩ = some (.int .i64 p.r.y) := K1.out.cell 8
  have x9 : w2.cell? ⟨w.heap.size + 1 + 1, 9, none⟩ = some (.slice none 0 0) := K1.out.cell 9
  have x10 : w2.cell? ⟨w.heap.size + 1 + 1, 10, none⟩ = some (.slice none 0 0) := K1.out.cell 10
  have y0 : w2.cell? ⟨w.heap.size, 0, none⟩ = some (.int .i64 p.k) := K3.out.cell 0
  have y1 : w2.cell? ⟨w.heap.size, 1, none⟩ = some (.int .i64 p.f) := K3.out.cell 1
  have y2 : w2.cell? ⟨w.heap.size, 2, none⟩ = some (.int .i64 p.v) := K3.out.cell 2
  have y3 : w2.cell? ⟨w.heap.size, 3, none⟩ = some (.int .i64 p.s) := K3.out.cell 3
  have y4 : w2.cell? ⟨w.heap.size, 4, none⟩ = some (.int .i64 p.r.c) := K3.out.cell 4
  have y5 : w2.cell? ⟨w.heap.size, 5, none⟩ = some (.int .i64 p.r.n) := K3.out.cell 5
  have y6 : w2.cell? ⟨w.heap.size, 6, none⟩ = some (.int .i64 p.r.o) := K3.out.cell 6
  have y7 : w2.cell? ⟨w.heap.size, 7, none⟩ = some (.int .i64 p.r.x) := K3.out.cell 7
  have y8 : w2.cell? ⟨w.heap.size, 8, none⟩ = some (.int .i64 p.r.y) := K3.out.cell 8
  have y9 : w2.cell? ⟨w.heap.size, 9, none⟩ = some (.slice p.A p.cl.length p.a) := K3.out.cell 9
  have y10 : w2.cell? ⟨w.heap.size, 10, none⟩ = some (.slice p.B p.vt.length p.b) := K3.out.cell 10
  have xf := K1.out.frozen
  go_wp2_with (fail)
  have K1 : Hid (Blk (w2.setCell ⟨w.heap.size + 1 + 1, 9, none⟩ (.slice (some ⟨g1, 0, none⟩) p.cl.length p.cl.length)) (w.heap.size + 1 + 1) 72 #[.int .i64 p.k, .int .i64 p.f, .int .i64 p.v, .int .i64 p.s, .int .i64 p.r.c, .int .i64 p.r.n, .int .i64 p.r.o, .int .i64 p.r.x, .int .i64 p.r.y, .slice (some ⟨g1, 0, none⟩) p.cl.length p.cl.length, .slice none 0 0]) := K1.out.set 9 _
  have K2 : Hid (Blk (w2.setCell ⟨w.heap.size + 1 + 1, 9, none⟩ (.slice (some ⟨g1, 0, none⟩) p.cl.length p.cl.length)) (w.heap.size + 1) 72 #[.int .i64 0, .int .i64 0, .int .i64 0, .int .i64 0, .int .i64 0, .int .i64 0, .int .i64 0, .int .i64 0, .int .i64 0, .slice none 0 0, .slice none 0 0]) := K2.out.far (by omega) 9 _
  have Z2 : Hid (Below w.heap.size w (w2.setCell ⟨w.heap.size + 1 + 1, 9, none⟩ (.slice (some ⟨g1, 0, none⟩) p.cl.length p.cl.length))) := Z2.out.setCell (by simp; omega) _
  have O1 := Lib.hid (own_set O1.out (b := w.heap.size + 1 + 1) (by omega) 9 (.slice (some ⟨g1, 0, none⟩) p.cl.length p.cl.length))
  have hz2' : (w2.setCell ⟨w.heap.size + 1 + 1, 9, none⟩ (.slice (some ⟨g1, 0, none⟩) p.cl.length p.cl.length)).heap.size = w2.heap.size := by simp
  have HZ2 := Lib.hid hz2'
  clear x0 x1 x2 x3 x4 x5 x6 x7 x8 x9 x10 y0 y1 y2 y3 y4 y5 y6 y7 y8 y9 y10 xf hz2' K3
  refine (toVoteS p.B p.b p.vt _ hl2 HCL.out (R2.out.below Z2.out)).mono ?_
  rintro e w3 ⟨Q, rfl, hQ, ho, hb⟩
  have K1 := Lib.hid (K1.out.below hb)
  have K2 := Lib.hid (K2.out.below hb)
  have Z3 := Lib.hid (Below.and Z2.out hb)
  have O1 := Lib.hid (own_below O1.out hb)
  have O2 := Lib.hid ho
  have HQ := Lib.hid hQ
  have hz3 : w.heap.size + 1 + 1 < w3.heap.size := by have := hb.size; rw [HZ2.out] at this; omega
  rw [HZ2.out] at ⊢
  have O2 : Hid (OwV w3 w2.heap.size Q) := by have := O2.out; rw [HZ2.out] at this; exact this
  clear hb ho hQ HZ2
  have x0 : w3.cell? ⟨w.heap.size + 1 + 1, 0, none⟩ = some (.int .i64 p.k) := K1.out.cell 0
  have x1 : w3.cell? ⟨w.heap.size + 1 + 1, 1, none⟩ = some (.int .i64 p.f) := K1.out.cell 1
  have x2 : w3.cell? ⟨w.heap.size + 1 + 1, 2, none⟩ = some (.int .i64 p.v) := K1.out.cell 2
  have x3 : w3.cell? ⟨w.heap.size + 1 + 1, 3, none⟩ = some (.int .i64 p.s) := K1.out.cell 3
  have x4 : w3.cell? ⟨w.heap.size + 1 + 1, 4, none⟩ = some (.int .i64 p.r.c) := K1.out.cell 4
  have x5 : w3.cell? ⟨w.heap.size + 1 + 1, 5, none⟩ = some (.int .i64 p.r.n) := K1.out.cell 5
  have x6 : w3.cell? ⟨w.heap.size + 1 + 1, 6, none⟩ = some (.int .i64 p.r.o) := K1.out.cell 6
  have x7 : w3.cell? ⟨w.heap.size + 1 + 1, 7, none⟩ = some (.int .i64 p.r.x) := K1.out.cell 7
  have x8 : w3.cell? ⟨w.heap.size + 1 + 1, 8, none⟩ = some (.int .i64 p.r.y) := K1.out.cell 8
  have x9 : w3.cell? ⟨w.heap.size + 1 + 1, 9, none⟩ = some (.slice (some ⟨g1, 0, none⟩) p.cl.length p.cl.length) := K1.out.cell 9
  have x10 : w3.cell? ⟨w.heap.size + 1 + 1, 10, none⟩ = some (.slice none 0 0) := K1.out.cell 10
  have y0 : w3.cell? ⟨w.heap.size + 1, 0, none⟩ = some (.int .i64 0) := K2.out.cell 0
  have y1 : w3.cell? ⟨w.heap.size + 1, 1, none⟩ = some (.int .i64 0) := K2.out.cell 1
  have y2 : w3.cell? ⟨w.heap.size + 1, 2, none⟩ = some (.int .i64 0) := K2.out.cell 2
  have y3 : w3.cell? ⟨w.heap.size + 1, 3, none⟩ = some (.int .i64 0) := K2.out.cell 3
  have y4 : w3.cell? ⟨w.heap.size + 1, 4, none⟩ = some (.int .i64 0) := K2.out.cell 4
  have y5 : w3.cell? ⟨w.heap.size + 1, 5, none⟩ = some (.int .i64 0) := K2.out.cell 5
  have y6 : w3.cell? ⟨w.heap.size + 1, 6, none⟩ = some (.int .i64 0) := K2.out.cell 6
  have y7 : w3.cell? ⟨w.heap.size + 1, 7, none⟩ = some (.int .i64 0) := K2.out.cell 7
  have y8 : w3.cell? ⟨w.heap.size + 1, 8, none⟩ = some (.int .i64 0) := K2.out.cell 8
  have y9 : w3.cell? ⟨w.heap.size + 1, 9, none⟩ = some (.slice none 0 0) := K2.out.cell 9
  have y10 : w3.cell? ⟨w.heap.size + 1, 10, none⟩ = some (.slice none 0 0) := K2.out.cell 10
  have xf := K1.out.frozen
  have yf := K2.out.frozen
  go_wp2
  refine bodyPost_ret (v := .agg #[.int .i64 p.k, .int .i64 p.f, .int .i64 p.v, .int .i64 p.s, .int .i64 p.r.c, .int .i64 p.r.n, .int .i64 p.r.o, .int .i64 p.r.x, .int .i64 p.r.y, .slice (some ⟨g1, 0, none⟩) p.cl.length p.cl.length, .slice (some ⟨w2.heap.size, 0, none⟩) Q.length Q.length]) (by simp [results, Try.results62, go_sem, y0, y1, y2, y3, y4, y5, y6, y7, y8, y9, y10]) rfl ⟨⟨p.k, p.f, p.v, p.s, p.r, some ⟨g1, 0, none⟩, p.cl.length, p.cl, some ⟨w2.heap.size, 0, none⟩, Q.length, Q⟩, rfl, by simp only [MgP.mg, HQ.out], ⟨?_, w2.heap.size, by omega, rfl, rfl, ?_⟩, ?_⟩
  · refine own_base (base := w.heap.size + 1 + 1 + 1) ?_ (by omega)
    iterate 12 (refine own_set ?_ (by omega) _ _)
    exact O1.out
  · iterate 12 (refine OwV.set ?_ (by omega) _ _)
    exact O2.out
  · iterate 12 (refine Below.setCell ?_ (by first | (simp; done) | (simp; omega)) _)
    exact Z3.out
end Go.Proofs.Ytfelhnchnaggmaa
