/- A player asks anew: both ways. -/
import Derived.Test.YtdpladihacgobaaNi
import Derived.Test.YtdpladihacgobaaNf
namespace Go.Proofs.Ytdpladihacgobaa
open Go.ChangeShapes Go.WideShapes Go.ChangeAt Go.RowKit
set_option linter.unusedVariables false
set_option linter.unusedSimpArgs false

def askP (q : Rq) (L : List Rp) (r : Rq) : (Rq × List Rp) × Bool :=
  if (sureP q L).2 && (rqB r && (!(r.c != q.c) && !(decide (r.n ≤ q.n)))) then ((r, []), true) else ((q, L), false)
theorem askP_len (q : Rq) (L : List Rp) (r : Rq) : (askP q L r).1.2.length ≤ L.length + 1 := by
  unfold askP
  split <;> simp

set_option maxRecDepth 100000 in
set_option maxHeartbeats 4000000 in
theorem implPlayerAsk (q : Rq) (A : Option Addr) (a : Nat) (L : List Rp) (r : Rq) (w : World) (hL : L.length ≤ 2097152) (hr : RdP w A a L) :
    Calls Try.prog 20 #[playerV q A L.length a, r.val] w (DoPl (askP q L r) w) := by
  have HR := Lib.hid hr
  have hM : L.length ≤ maxLen := by unfold maxLen; omega
  have K2 : Hid (Bkk (((w.alloc (.cells #[.int .i64 q.c, .int .i64 q.n, .int .i64 q.o, .int .i64 q.x, .int .i64 q.y, .slice A L.length a] 27)).alloc (.cells #[.int .i64 r.c, .int .i64 r.n, .int .i64 r.o, .int .i64 r.x, .int .i64 r.y] 24)).alloc (.cells #[.int .i64 0, .int .i64 0, .int .i64 0, .int .i64 0, .int .i64 0, .slice none 0 0] 27)) w.heap.size 27 #[.int .i64 q.c, .int .i64 q.n, .int .i64 q.o, .int .i64 q.x, .int .i64 q.y, .slice A L.length a]) := ((Bkk.new (cs := #[.int .i64 q.c, .int .i64 q.n, .int .i64 q.o, .int .i64 q.x, .int .i64 q.y, .slice A L.length a]) (t := 27) w).alloc _).alloc _
  have F3 : Hid (Bkk (((w.alloc (.cells #[.int .i64 q.c, .int .i64 q.n, .int .i64 q.o, .int .i64 q.x, .int .i64 q.y, .slice A L.length a] 27)).alloc (.cells #[.int .i64 r.c, .int .i64 r.n, .int .i64 r.o, .int .i64 r.x, .int .i64 r.y] 24)).alloc (.cells #[.int .i64 0, .int .i64 0, .int .i64 0, .int .i64 0, .int .i64 0, .slice none 0 0] 27)) (w.heap.size + 1) 24 #[.int .i64 r.c, .int .i64 r.n, .int .i64 r.o, .int .i64 r.x, .int .i64 r.y]) := by have := (Bkk.new (cs := #[.int .i64 r.c, .int .i64 r.n, .int .i64 r.o, .int .i64 r.x, .int .i64 r.y]) (t := 24) (w.alloc (.cells #[.int .i64 q.c, .int .i64 q.n, .int .i64 q.o, .int .i64 q.x, .int .i64 q.y, .slice A L.length a] 27))).alloc (.cells #[.int .i64 0, .int .i64 0, .int .i64 0, .int .i64 0, .int .i64 0, .slice none 0 0] 27); simpa [Hid] using this
  have K4 : Hid (Bkk (((w.alloc (.cells #[.int .i64 q.c, .int .i64 q.n, .int .i64 q.o, .int .i64 q.x, .int .i64 q.y, .slice A L.length a] 27)).alloc (.cells #[.int .i64 r.c, .int .i64 r.n, .int .i64 r.o, .int .i64 r.x, .int .i64 r.y] 24)).alloc (.cells #[.int .i64 0, .int .i64 0, .int .i64 0, .int .i64 0, .int .i64 0, .slice none 0 0] 27)) (w.heap.size + 1 + 1) 27 #[.int .i64 0, .int .i64 0, .int .i64 0, .int .i64 0, .int .i64 0, .slice none 0 0]) := by have := Bkk.new (cs := #[.int .i64 0, .int .i64 0, .int .i64 0, .int .i64 0, .int .i64 0, .slice none 0 0]) (t := 27) ((w.alloc (.cells #[.int .i64 q.c, .int .i64 q.n, .int .i64 q.o, .int .i64 q.x, .int .i64 q.y, .slice A L.length a] 27)).alloc (.cells #[.int .i64 r.c, .int .i64 r.n, .int .i64 r.o, .int .i64 r.x, .int .i64 r.y] 24)); simpa [Hid] using this
  have Z : Hid (Below w.heap.size w (((w.alloc (.cells #[.int .i64 q.c, .int .i64 q.n, .int .i64 q.o, .int .i64 q.x, .int .i64 q.y, .slice A L.length a] 27)).alloc (.cells #[.int .i64 r.c, .int .i64 r.n, .int .i64 r.o, .int .i64 r.x, .int .i64 r.y] 24)).alloc (.cells #[.int .i64 0, .int .i64 0, .int .i64 0, .int .i64 0, .int .i64 0, .slice none 0 0] 27))) := (below_alloc2 w _ _).alloc (by simp; omega) _
  have LZ : Hid (w.heap.size + 3 ≤ (((w.alloc (.cells #[.int .i64 q.c, .int .i64 q.n, .int .i64 q.o, .int .i64 q.x, .int .i64 q.y, .slice A L.length a] 27)).alloc (.cells #[.int .i64 r.c, .int .i64 r.n, .int .i64 r.o, .int .i64 r.x, .int .i64 r.y] 24)).alloc (.cells #[.int .i64 0, .int .i64 0, .int .i64 0, .int .i64 0, .int .i64 0, .slice none 0 0] 27)).heap.size) := by show _ ≤ _; simp
  clear hr
  go_enter Try.func20, Try.ntmps20
  go_upto_region 1 with (fail)
  obtain ⟨w0, hw0⟩ : ∃ X, X = (((w.alloc (.cells #[.int .i64 q.c, .int .i64 q.n, .int .i64 q.o, .int .i64 q.x, .int .i64 q.y, .slice A L.length a] 27)).alloc (.cells #[.int .i64 r.c, .int .i64 r.n, .int .i64 r.o, .int .i64 r.x, .int .i64 r.y] 24)).alloc (.cells #[.int .i64 0, .int .i64 0, .int .i64 0, .int .i64 0, .int .i64 0, .slice none 0 0] 27)) := ⟨_, rfl⟩
  rw [← hw0] at K2 F3 K4 Z LZ ⊢
  clear hw0
  have p0 : w0.cell? ⟨w.heap.size, 0, none⟩ = some (.int .i64 q.c) := K2.out.cell 0
  have p1 : w0.cell? ⟨w.heap.size, 1, none⟩ = some (.int .i64 q.n) := K2.out.cell 1
  have p2 : w0.cell? ⟨w.heap.size, 2, none⟩ = some (.int .i64 q.o) := K2.out.cell 2
  have p3 : w0.cell? ⟨w.heap.size, 3, none⟩ = some (.int .i64 q.x) := K2.out.cell 3
  have p4 : w0.cell? ⟨w.heap.size, 4, none⟩ = some (.int .i64 q.y) := K2.out.cell 4
  have p5 : w0.cell? ⟨w.heap.size, 5, none⟩ = some (.slice A L.length a) := K2.out.cell 5
  have y0 : w0.cell? ⟨w.heap.size + 1, 0, none⟩ = some (.int .i64 r.c) := F3.out.cell 0
  have y1 : w0.cell? ⟨w.heap.size + 1, 1, none⟩ = some (.int .i64 r.n) := F3.out.cell 1
  have y2 : w0.cell? ⟨w.heap.size + 1, 2, none⟩ = some (.int .i64 r.o) := F3.out.cell 2
  have y3 : w0.cell? ⟨w.heap.size + 1, 3, none⟩ = some (.int .i64 r.x) := F3.out.cell 3
  have y4 : w0.cell? ⟨w.heap.size + 1, 4, none⟩ = some (.int .i64 r.y) := F3.out.cell 4
  go_wp2_with (fail)
  refine (implPlayerSure q A a L _ hM (Rd.below HR.out.r Z.out)).mono ?_
  rintro e w1 ⟨rfl, hb⟩
  have K2 := Lib.hid (K2.out.below hb)
  have F3 := Lib.hid (F3.out.below hb)
  have K4 := Lib.hid (K4.out.below hb)
  have Z := Lib.hid (Below.and Z.out hb)
  have LZ := Lib.hid (Nat.le_trans LZ.out hb.size)
  clear p0 p1 p2 p3 p4 p5 y0 y1 y2 y3 y4
  clear hb
  obtain ⟨⟨y, u⟩, hy⟩ : ∃ Y, Y = sureP q L := ⟨_, rfl⟩
  have HU := Lib.hid (show (sureP q L).2 = u by rw [← hy])
  rw [← hy]
  clear hy
  have hba : Below w1.heap.size w1 (w1.alloc (.cells #[.int .i64 y.f, .int .i64 y.n, .int .i64 y.c, .int .i64 y.s] 29)) := (Below.refl _ _).alloc (Nat.le_refl _) _
  have K2 := Lib.hid (K2.out.below hba)
  have F3 := Lib.hid (F3.out.below hba)
  have K4 := Lib.hid (K4.out.below hba)
  have Z := Lib.hid (Below.and Z.out hba)
  have LZ := Lib.hid (Nat.le_trans LZ.out hba.size)
  clear hba
  go_upto_region 2 with (fail)
  obtain ⟨wA, hwA⟩ : ∃ X, X = w1.alloc (.cells #[.int .i64 y.f, .int .i64 y.n, .int .i64 y.c, .int .i64 y.s] 29) := ⟨_, rfl⟩
  rw [← hwA] at K2 F3 K4 Z LZ ⊢
  clear hwA
  rcases u with _ | _
  · skip
    have HX := Lib.hid (show askP q L r = ((q, L), false) by unfold askP; rw [HU.out]; rfl)
    have p0 : wA.cell? ⟨w.heap.size, 0, none⟩ = some (.int .i64 q.c) := K2.out.cell 0
    have p1 : wA.cell? ⟨w.heap.size, 1, none⟩ = some (.int .i64 q.n) := K2.out.cell 1
    have p2 : wA.cell? ⟨w.heap.size, 2, none⟩ = some (.int .i64 q.o) := K2.out.cell 2
    have p3 : wA.cell? ⟨w.heap.size, 3, none⟩ = some (.int .i64 q.x) := K2.out.cell 3
    have p4 : wA.cell? ⟨w.heap.size, 4, none⟩ = some (.int .i64 q.y) := K2.out.cell 4
    have p5 : wA.cell? ⟨w.heap.size, 5, none⟩ = some (.slice A L.length a) := K2.out.cell 5
    have y0 : wA.cell? ⟨w.heap.size + 1, 0, none⟩ = some (.int .i64 r.c) := F3.out.cell 0
    have y1 : wA.cell? ⟨w.heap.size + 1, 1, none⟩ = some (.int .i64 r.n) := F3.out.cell 1
    have y2 : wA.cell? ⟨w.heap.size + 1, 2, none⟩ = some (.int .i64 r.o) := F3.out.cell 2
    have y3 : wA.cell? ⟨w.heap.size + 1, 3, none⟩ = some (.int .i64 r.x) := F3.out.cell 3
    have y4 : wA.cell? ⟨w.heap.size + 1, 4, none⟩ = some (.int .i64 r.y) := F3.out.cell 4
    go_wp2_with (fail)
    refine (copyPlayer q A a L _ hL (HR.out.below Z.out)).mono ?_
    rintro e w9 ⟨A1, a1, rfl, oa, hb⟩
    have OA := Lib.hid (oa.base (lo := w.heap.size + 3) LZ.out)
    have K4 := Lib.hid (K4.out.below hb)
    have Z := Lib.hid (Below.and Z.out hb)
    clear p0 p1 p2 p3 p4 p5 y0 y1 y2 y3 y4
    clear hb oa
    have z0 : w9.cell? ⟨w.heap.size + 1 + 1, 0, none⟩ = some (.int .i64 0) := K4.out.cell 0
    have z1 : w9.cell? ⟨w.heap.size + 1 + 1, 1, none⟩ = some (.int .i64 0) := K4.out.cell 1
    have z2 : w9.cell? ⟨w.heap.size + 1 + 1, 2, none⟩ = some (.int .i64 0) := K4.out.cell 2
    have z3 : w9.cell? ⟨w.heap.size + 1 + 1, 3, none⟩ = some (.int .i64 0) := K4.out.cell 3
    have z4 : w9.cell? ⟨w.heap.size + 1 + 1, 4, none⟩ = some (.int .i64 0) := K4.out.cell 4
    have z5 : w9.cell? ⟨w.heap.size + 1 + 1, 5, none⟩ = some (.slice none 0 0) := K4.out.cell 5
    have zf := K4.out.frozen
    have lz := K4.out.lt
    have BG := Lib.hid (Below.setCell (Below.setCell (Below.setCell (Below.setCell (Below.setCell (Below.setCell Z.out (p := ⟨w.heap.size + 1 + 1, 0, none⟩) (by simp; omega) (.int .i64 q.c)) (p := ⟨w.heap.size + 1 + 1, 1, none⟩) (by simp; omega) (.int .i64 q.n)) (p := ⟨w.heap.size + 1 + 1, 2, none⟩) (by simp; omega) (.int .i64 q.o)) (p := ⟨w.heap.size + 1 + 1, 3, none⟩) (by simp; omega) (.int .i64 q.x)) (p := ⟨w.heap.size + 1 + 1, 4, none⟩) (by simp; omega) (.int .i64 q.y)) (p := ⟨w.heap.size + 1 + 1, 5, none⟩) (by simp; omega) (.slice A1 L.length a1))
    have OG := Lib.hid (((((((OA.out.put (q := w.heap.size + 1 + 1) (by omega) 0 (.int .i64 q.c)).put (q := w.heap.size + 1 + 1) (by omega) 1 (.int .i64 q.n)).put (q := w.heap.size + 1 + 1) (by omega) 2 (.int .i64 q.o)).put (q := w.heap.size + 1 + 1) (by omega) 3 (.int .i64 q.x)).put (q := w.heap.size + 1 + 1) (by omega) 4 (.int .i64 q.y)).put (q := w.heap.size + 1 + 1) (by omega) 5 (.slice A1 L.length a1)).base (lo := w.heap.size) (by omega))
    clear K4 Z
    go_wp2
    refine bodyPost_ret (v := .tuple #[playerV q A1 L.length a1, .bool false]) (by simp [results, Try.results20, go_sem, z0, z1, z2, z3, z4, z5, zf]) rfl ?_
    rw [HX.out]
    exact ⟨A1, a1, rfl, OG.out, BG.out⟩
  have p0 : wA.cell? ⟨w.heap.size, 0, none⟩ = some (.int .i64 q.c) := K2.out.cell 0
  have p1 : wA.cell? ⟨w.heap.size, 1, none⟩ = some (.int .i64 q.n) := K2.out.cell 1
  have p2 : wA.cell? ⟨w.heap.size, 2, none⟩ = some (.int .i64 q.o) := K2.out.cell 2
  have p3 : wA.cell? ⟨w.heap.size, 3, none⟩ = some (.int .i64 q.x) := K2.out.cell 3
  have p4 : wA.cell? ⟨w.heap.size, 4, none⟩ = some (.int .i64 q.y) := K2.out.cell 4
  have p5 : wA.cell? ⟨w.heap.size, 5, none⟩ = some (.slice A L.length a) := K2.out.cell 5
  have y0 : wA.cell? ⟨w.heap.size + 1, 0, none⟩ = some (.int .i64 r.c) := F3.out.cell 0
  have y1 : wA.cell? ⟨w.heap.size + 1, 1, none⟩ = some (.int .i64 r.n) := F3.out.cell 1
  have y2 : wA.cell? ⟨w.heap.size + 1, 2, none⟩ = some (.int .i64 r.o) := F3.out.cell 2
  have y3 : wA.cell? ⟨w.heap.size + 1, 3, none⟩ = some (.int .i64 r.x) := F3.out.cell 3
  have y4 : wA.cell? ⟨w.heap.size + 1, 4, none⟩ = some (.int .i64 r.y) := F3.out.cell 4
  go_wp2_with (fail)
  refine (implReqOk r.c r.n r.o r.x r.y _).mono ?_
  rintro e w3 ⟨rfl, hb⟩
  have K2 := Lib.hid (K2.out.below hb)
  have F3 := Lib.hid (F3.out.below hb)
  have K4 := Lib.hid (K4.out.below hb)
  have Z := Lib.hid (Below.and Z.out hb)
  have LZ := Lib.hid (Nat.le_trans LZ.out hb.size)
  clear p0 p1 p2 p3 p4 p5 y0 y1 y2 y3 y4
  clear hb
  rcases h1 : reqB r.c r.n r.o r.x r.y with _ | _
  · skip
    have HX := Lib.hid (show askP q L r = ((q, L), false) by unfold askP; rw [HU.out, show rqB r = false from h1]; rfl)
    have p0 : w3.cell? ⟨w.heap.size, 0, none⟩ = some (.int .i64 q.c) := K2.out.cell 0
    have p1 : w3.cell? ⟨w.heap.size, 1, none⟩ = some (.int .i64 q.n) := K2.out.cell 1
    have p2 : w3.cell? ⟨w.heap.size, 2, none⟩ = some (.int .i64 q.o) := K2.out.cell 2
    have p3 : w3.cell? ⟨w.heap.size, 3, none⟩ = some (.int .i64 q.x) := K2.out.cell 3
    have p4 : w3.cell? ⟨w.heap.size, 4, none⟩ = some (.int .i64 q.y) := K2.out.cell 4
    have p5 : w3.cell? ⟨w.heap.size, 5, none⟩ = some (.slice A L.length a) := K2.out.cell 5
    have y0 : w3.cell? ⟨w.heap.size + 1, 0, none⟩ = some (.int .i64 r.c) := F3.out.cell 0
    have y1 : w3.cell? ⟨w.heap.size + 1, 1, none⟩ = some (.int .i64 r.n) := F3.out.cell 1
    have y2 : w3.cell? ⟨w.heap.size + 1, 2, none⟩ = some (.int .i64 r.o) := F3.out.cell 2
    have y3 : w3.cell? ⟨w.heap.size + 1, 3, none⟩ = some (.int .i64 r.x) := F3.out.cell 3
    have y4 : w3.cell? ⟨w.heap.size + 1, 4, none⟩ = some (.int .i64 r.y) := F3.out.cell 4
    go_wp2_with (fail)
    refine (copyPlayer q A a L _ hL (HR.out.below Z.out)).mono ?_
    rintro e w9 ⟨A1, a1, rfl, oa, hb⟩
    have OA := Lib.hid (oa.base (lo := w.heap.size + 3) LZ.out)
    have K4 := Lib.hid (K4.out.below hb)
    have Z := Lib.hid (Below.and Z.out hb)
    clear p0 p1 p2 p3 p4 p5 y0 y1 y2 y3 y4
    clear hb oa
    have z0 : w9.cell? ⟨w.heap.size + 1 + 1, 0, none⟩ = some (.int .i64 0) := K4.out.cell 0
    have z1 : w9.cell? ⟨w.heap.size + 1 + 1, 1, none⟩ = some (.int .i64 0) := K4.out.cell 1
    have z2 : w9.cell? ⟨w.heap.size + 1 + 1, 2, none⟩ = some (.int .i64 0) := K4.out.cell 2
    have z3 : w9.cell? ⟨w.heap.size + 1 + 1, 3, none⟩ = some (.int .i64 0) := K4.out.cell 3
    have z4 : w9.cell? ⟨w.heap.size + 1 + 1, 4, none⟩ = some (.int .i64 0) := K4.out.cell 4
    have z5 : w9.cell? ⟨w.heap.size + 1 + 1, 5, none⟩ = some (.slice none 0 0) := K4.out.cell 5
    have zf := K4.out.frozen
    have lz := K4.out.lt
    have BG := Lib.hid (Below.setCell (Below.setCell (Below.setCell (Below.setCell (Below.setCell (Below.setCell Z.out (p := ⟨w.heap.size + 1 + 1, 0, none⟩) (by simp; omega) (.int .i64 q.c)) (p := ⟨w.heap.size + 1 + 1, 1, none⟩) (by simp; omega) (.int .i64 q.n)) (p := ⟨w.heap.size + 1 + 1, 2, none⟩) (by simp; omega) (.int .i64 q.o)) (p := ⟨w.heap.size + 1 + 1, 3, none⟩) (by simp; omega) (.int .i64 q.x)) (p := ⟨w.heap.size + 1 + 1, 4, none⟩) (by simp; omega) (.int .i64 q.y)) (p := ⟨w.heap.size + 1 + 1, 5, none⟩) (by simp; omega) (.slice A1 L.length a1))
    have OG := Lib.hid (((((((OA.out.put (q := w.heap.size + 1 + 1) (by omega) 0 (.int .i64 q.c)).put (q := w.heap.size + 1 + 1) (by omega) 1 (.int .i64 q.n)).put (q := w.heap.size + 1 + 1) (by omega) 2 (.int .i64 q.o)).put (q := w.heap.size + 1 + 1) (by omega) 3 (.int .i64 q.x)).put (q := w.heap.size + 1 + 1) (by omega) 4 (.int .i64 q.y)).put (q := w.heap.size + 1 + 1) (by omega) 5 (.slice A1 L.length a1)).base (lo := w.heap.size) (by omega))
    clear K4 Z
    go_wp2
    refine bodyPost_ret (v := .tuple #[playerV q A1 L.length a1, .bool false]) (by simp [results, Try.results20, go_sem, z0, z1, z2, z3, z4, z5, zf]) rfl ?_
    rw [HX.out]
    exact ⟨A1, a1, rfl, OG.out, BG.out⟩
  have H1 := Lib.hid (show rqB r = true from h1)
  clear h1
  rcases h2 : (r.c != q.c) with _ | _
  case true =>
    have HX := Lib.hid (show askP q L r = ((q, L), false) by unfold askP; rw [HU.out, H1.out, h2]; rfl)
    have p0 : w3.cell? ⟨w.heap.size, 0, none⟩ = some (.int .i64 q.c) := K2.out.cell 0
    have p1 : w3.cell? ⟨w.heap.size, 1, none⟩ = some (.int .i64 q.n) := K2.out.cell 1
    have p2 : w3.cell? ⟨w.heap.size, 2, none⟩ = some (.int .i64 q.o) := K2.out.cell 2
    have p3 : w3.cell? ⟨w.heap.size, 3, none⟩ = some (.int .i64 q.x) := K2.out.cell 3
    have p4 : w3.cell? ⟨w.heap.size, 4, none⟩ = some (.int .i64 q.y) := K2.out.cell 4
    have p5 : w3.cell? ⟨w.heap.size, 5, none⟩ = some (.slice A L.length a) := K2.out.cell 5
    have y0 : w3.cell? ⟨w.heap.size + 1, 0, none⟩ = some (.int .i64 r.c) := F3.out.cell 0
    have y1 : w3.cell? ⟨w.heap.size + 1, 1, none⟩ = some (.int .i64 r.n) := F3.out.cell 1
    have y2 : w3.cell? ⟨w.heap.size + 1, 2, none⟩ = some (.int .i64 r.o) := F3.out.cell 2
    have y3 : w3.cell? ⟨w.heap.size + 1, 3, none⟩ = some (.int .i64 r.x) := F3.out.cell 3
    have y4 : w3.cell? ⟨w.heap.size + 1, 4, none⟩ = some (.int .i64 r.y) := F3.out.cell 4
    go_wp2_with (fail)
    refine (copyPlayer q A a L _ hL (HR.out.below Z.out)).mono ?_
    rintro e w9 ⟨A1, a1, rfl, oa, hb⟩
    have OA := Lib.hid (oa.base (lo := w.heap.size + 3) LZ.out)
    have K4 := Lib.hid (K4.out.below hb)
    have Z := Lib.hid (Below.and Z.out hb)
    clear p0 p1 p2 p3 p4 p5 y0 y1 y2 y3 y4
    clear hb oa
    have z0 : w9.cell? ⟨w.heap.size + 1 + 1, 0, none⟩ = some (.int .i64 0) := K4.out.cell 0
    have z1 : w9.cell? ⟨w.heap.size + 1 + 1, 1, none⟩ = some (.int .i64 0) := K4.out.cell 1
    have z2 : w9.cell? ⟨w.heap.size + 1 + 1, 2, none⟩ = some (.int .i64 0) := K4.out.cell 2
    have z3 : w9.cell? ⟨w.heap.size + 1 + 1, 3, none⟩ = some (.int .i64 0) := K4.out.cell 3
    have z4 : w9.cell? ⟨w.heap.size + 1 + 1, 4, none⟩ = some (.int .i64 0) := K4.out.cell 4
    have z5 : w9.cell? ⟨w.heap.size + 1 + 1, 5, none⟩ = some (.slice none 0 0) := K4.out.cell 5
    have zf := K4.out.frozen
    have lz := K4.out.lt
    have BG := Lib.hid (Below.setCell (Below.setCell (Below.setCell (Below.setCell (Below.setCell (Below.setCell Z.out (p := ⟨w.heap.size + 1 + 1, 0, none⟩) (by simp; omega) (.int .i64 q.c)) (p := ⟨w.heap.size + 1 + 1, 1, none⟩) (by simp; omega) (.int .i64 q.n)) (p := ⟨w.heap.size + 1 + 1, 2, none⟩) (by simp; omega) (.int .i64 q.o)) (p := ⟨w.heap.size + 1 + 1, 3, none⟩) (by simp; omega) (.int .i64 q.x)) (p := ⟨w.heap.size + 1 + 1, 4, none⟩) (by simp; omega) (.int .i64 q.y)) (p := ⟨w.heap.size + 1 + 1, 5, none⟩) (by simp; omega) (.slice A1 L.length a1))
    have OG := Lib.hid (((((((OA.out.put (q := w.heap.size + 1 + 1) (by omega) 0 (.int .i64 q.c)).put (q := w.heap.size + 1 + 1) (by omega) 1 (.int .i64 q.n)).put (q := w.heap.size + 1 + 1) (by omega) 2 (.int .i64 q.o)).put (q := w.heap.size + 1 + 1) (by omega) 3 (.int .i64 q.x)).put (q := w.heap.size + 1 + 1) (by omega) 4 (.int .i64 q.y)).put (q := w.heap.size + 1 + 1) (by omega) 5 (.slice A1 L.length a1)).base (lo := w.heap.size) (by omega))
    clear K4 Z
    go_wp2
    refine bodyPost_ret (v := .tuple #[playerV q A1 L.length a1, .bool false]) (by simp [results, Try.results20, go_sem, z0, z1, z2, z3, z4, z5, zf]) rfl ?_
    rw [HX.out]
    exact ⟨A1, a1, rfl, OG.out, BG.out⟩
  case false =>
    rcases h3 : decide (r.n ≤ q.n) with _ | _
    · have e3 : ¬ r.n ≤ q.n := of_decide_eq_false h3
      have H3 := Lib.hid h3
      clear h3
      have HX := Lib.hid (show askP q L r = ((r, []), true) by unfold askP; rw [HU.out, H1.out, h2, H3.out]; rfl)
      have p0 : w3.cell? ⟨w.heap.size, 0, none⟩ = some (.int .i64 q.c) := K2.out.cell 0
      have p1 : w3.cell? ⟨w.heap.size, 1, none⟩ = some (.int .i64 q.n) := K2.out.cell 1
      have p2 : w3.cell? ⟨w.heap.size, 2, none⟩ = some (.int .i64 q.o) := K2.out.cell 2
      have p3 : w3.cell? ⟨w.heap.size, 3, none⟩ = some (.int .i64 q.x) := K2.out.cell 3
      have p4 : w3.cell? ⟨w.heap.size, 4, none⟩ = some (.int .i64 q.y) := K2.out.cell 4
      have p5 : w3.cell? ⟨w.heap.size, 5, none⟩ = some (.slice A L.length a) := K2.out.cell 5
      have y0 : w3.cell? ⟨w.heap.size + 1, 0, none⟩ = some (.int .i64 r.c) := F3.out.cell 0
      have y1 : w3.cell? ⟨w.heap.size + 1, 1, none⟩ = some (.int .i64 r.n) := F3.out.cell 1
      have y2 : w3.cell? ⟨w.heap.size + 1, 2, none⟩ = some (.int .i64 r.o) := F3.out.cell 2
      have y3 : w3.cell? ⟨w.heap.size + 1, 3, none⟩ = some (.int .i64 r.x) := F3.out.cell 3
      have y4 : w3.cell? ⟨w.heap.size + 1, 4, none⟩ = some (.int .i64 r.y) := F3.out.cell 4
      have z0 : w3.cell? ⟨w.heap.size + 1 + 1, 0, none⟩ = some (.int .i64 0) := K4.out.cell 0
      have z1 : w3.cell? ⟨w.heap.size + 1 + 1, 1, none⟩ = some (.int .i64 0) := K4.out.cell 1
      have z2 : w3.cell? ⟨w.heap.size + 1 + 1, 2, none⟩ = some (.int .i64 0) := K4.out.cell 2
      have z3 : w3.cell? ⟨w.heap.size + 1 + 1, 3, none⟩ = some (.int .i64 0) := K4.out.cell 3
      have z4 : w3.cell? ⟨w.heap.size + 1 + 1, 4, none⟩ = some (.int .i64 0) := K4.out.cell 4
      have z5 : w3.cell? ⟨w.heap.size + 1 + 1, 5, none⟩ = some (.slice none 0 0) := K4.out.cell 5
      have zf := K4.out.frozen
      have lz := K4.out.lt
      have BG := Lib.hid (Below.setCell (Below.setCell (Below.setCell (Below.setCell (Below.setCell (Below.setCell Z.out (p := ⟨w.heap.size + 1 + 1, 0, none⟩) (by simp; omega) (.int .i64 r.c)) (p := ⟨w.heap.size + 1 + 1, 1, none⟩) (by simp; omega) (.int .i64 r.n)) (p := ⟨w.heap.size + 1 + 1, 2, none⟩) (by simp; omega) (.int .i64 r.o)) (p := ⟨w.heap.size + 1 + 1, 3, none⟩) (by simp; omega) (.int .i64 r.x)) (p := ⟨w.heap.size + 1 + 1, 4, none⟩) (by simp; omega) (.int .i64 r.y)) (p := ⟨w.heap.size + 1 + 1, 5, none⟩) (by simp; omega) (.slice none 0 0))
      clear K4 Z
      go_wp2
      refine bodyPost_ret (v := .tuple #[playerV r none 0 0, .bool true]) (by simp [results, Try.results20, go_sem, z0, z1, z2, z3, z4, z5, zf]) rfl ?_
      rw [HX.out]
      exact ⟨none, 0, rfl, OwL.nil _ _, BG.out⟩
    · have e3 : r.n ≤ q.n := of_decide_eq_true h3
      have H3 := Lib.hid h3
      clear h3
      have HX := Lib.hid (show askP q L r = ((q, L), false) by unfold askP; rw [HU.out, H1.out, h2, H3.out]; rfl)
      have p0 : w3.cell? ⟨w.heap.size, 0, none⟩ = some (.int .i64 q.c) := K2.out.cell 0
      have p1 : w3.cell? ⟨w.heap.size, 1, none⟩ = some (.int .i64 q.n) := K2.out.cell 1
      have p2 : w3.cell? ⟨w.heap.size, 2, none⟩ = some (.int .i64 q.o) := K2.out.cell 2
      have p3 : w3.cell? ⟨w.heap.size, 3, none⟩ = some (.int .i64 q.x) := K2.out.cell 3
      have p4 : w3.cell? ⟨w.heap.size, 4, none⟩ = some (.int .i64 q.y) := K2.out.cell 4
      have p5 : w3.cell? ⟨w.heap.size, 5, none⟩ = some (.slice A L.length a) := K2.out.cell 5
      have y0 : w3.cell? ⟨w.heap.size + 1, 0, none⟩ = some (.int .i64 r.c) := F3.out.cell 0
      have y1 : w3.cell? ⟨w.heap.size + 1, 1, none⟩ = some (.int .i64 r.n) := F3.out.cell 1
      have y2 : w3.cell? ⟨w.heap.size + 1, 2, none⟩ = some (.int .i64 r.o) := F3.out.cell 2
      have y3 : w3.cell? ⟨w.heap.size + 1, 3, none⟩ = some (.int .i64 r.x) := F3.out.cell 3
      have y4 : w3.cell? ⟨w.heap.size + 1, 4, none⟩ = some (.int .i64 r.y) := F3.out.cell 4
      go_wp2_with (fail)
      refine (copyPlayer q A a L _ hL (HR.out.below Z.out)).mono ?_
      rintro e w9 ⟨A1, a1, rfl, oa, hb⟩
      have OA := Lib.hid (oa.base (lo := w.heap.size + 3) LZ.out)
      have K4 := Lib.hid (K4.out.below hb)
      have Z := Lib.hid (Below.and Z.out hb)
      clear p0 p1 p2 p3 p4 p5 y0 y1 y2 y3 y4
      clear hb oa
      have z0 : w9.cell? ⟨w.heap.size + 1 + 1, 0, none⟩ = some (.int .i64 0) := K4.out.cell 0
      have z1 : w9.cell? ⟨w.heap.size + 1 + 1, 1, none⟩ = some (.int .i64 0) := K4.out.cell 1
      have z2 : w9.cell? ⟨w.heap.size + 1 + 1, 2, none⟩ = some (.int .i64 0) := K4.out.cell 2
      have z3 : w9.cell? ⟨w.heap.size + 1 + 1, 3, none⟩ = some (.int .i64 0) := K4.out.cell 3
      have z4 : w9.cell? ⟨w.heap.size + 1 + 1, 4, none⟩ = some (.int .i64 0) := K4.out.cell 4
      have z5 : w9.cell? ⟨w.heap.size + 1 + 1, 5, none⟩ = some (.slice none 0 0) := K4.out.cell 5
      have zf := K4.out.frozen
      have lz := K4.out.lt
      have BG := Lib.hid (Below.setCell (Below.setCell (Below.setCell (Below.setCell (Below.setCell (Below.setCell Z.out (p := ⟨w.heap.size + 1 + 1, 0, none⟩) (by simp; omega) (.int .i64 q.c)) (p := ⟨w.heap.size + 1 + 1, 1, none⟩) (by simp; omega) (.int .i64 q.n)) (p := ⟨w.heap.size + 1 + 1, 2, none⟩) (by simp; omega) (.int .i64 q.o)) (p := ⟨w.heap.size + 1 + 1, 3, none⟩) (by simp; omega) (.int .i64 q.x)) (p := ⟨w.heap.size + 1 + 1, 4, none⟩) (by simp; omega) (.int .i64 q.y)) (p := ⟨w.heap.size + 1 + 1, 5, none⟩) (by simp; omega) (.slice A1 L.length a1))
      have OG := Lib.hid (((((((OA.out.put (q := w.heap.size + 1 + 1) (by omega) 0 (.int .i64 q.c)).put (q := w.heap.size + 1 + 1) (by omega) 1 (.int .i64 q.n)).put (q := w.heap.size + 1 + 1) (by omega) 2 (.int .i64 q.o)).put (q := w.heap.size + 1 + 1) (by omega) 3 (.int .i64 q.x)).put (q := w.heap.size + 1 + 1) (by omega) 4 (.int .i64 q.y)).put (q := w.heap.size + 1 + 1) (by omega) 5 (.slice A1 L.length a1)).base (lo := w.heap.size) (by omega))
      clear K4 Z
      go_wp2
      refine bodyPost_ret (v := .tuple #[playerV q A1 L.length a1, .bool false]) (by simp [results, Try.results20, go_sem, z0, z1, z2, z3, z4, z5, zf]) rfl ?_
      rw [HX.out]
      exact ⟨A1, a1, rfl, OG.out, BG.out⟩

set_option maxRecDepth 100000 in
set_option maxHeartbeats 4000000 in
theorem specPlayerAsk (q : Rq) (A : Option Addr) (a : Nat) (L : List Rp) (r : Rq) (w : World) (hL : L.length ≤ 2097152) (hr : RdP w A a L) :
    Calls Try.prog 21 #[playerV q A L.length a, r.val] w (DoPl (askP q L r) w) := by
  have HR := Lib.hid hr
  have hM : L.length ≤ maxLen := by unfold maxLen; omega
  have K2 : Hid (Bkk (((w.alloc (.cells #[.int .i64 q.c, .int .i64 q.n, .int .i64 q.o, .int .i64 q.x, .int .i64 q.y, .slice A L.length a] 27)).alloc (.cells #[.int .i64 r.c, .int .i64 r.n, .int .i64 r.o, .int .i64 r.x, .int .i64 r.y] 24)).alloc (.cells #[.int .i64 0, .int .i64 0, .int .i64 0, .int .i64 0, .int .i64 0, .slice none 0 0] 27)) w.heap.size 27 #[.int .i64 q.c, .int .i64 q.n, .int .i64 q.o, .int .i64 q.x, .int .i64 q.y, .slice A L.length a]) := ((Bkk.new (cs := #[.int .i64 q.c, .int .i64 q.n, .int .i64 q.o, .int .i64 q.x, .int .i64 q.y, .slice A L.length a]) (t := 27) w).alloc _).alloc _
  have F3 : Hid (Bkk (((w.alloc (.cells #[.int .i64 q.c, .int .i64 q.n, .int .i64 q.o, .int .i64 q.x, .int .i64 q.y, .slice A L.length a] 27)).alloc (.cells #[.int .i64 r.c, .int .i64 r.n, .int .i64 r.o, .int .i64 r.x, .int .i64 r.y] 24)).alloc (.cells #[.int .i64 0, .int .i64 0, .int .i64 0, .int .i64 0, .int .i64 0, .slice none 0 0] 27)) (w.heap.size + 1) 24 #[.int .i64 r.c, .int .i64 r.n, .int .i64 r.o, .int .i64 r.x, .int .i64 r.y]) := by have := (Bkk.new (cs := #[.int .i64 r.c, .int .i64 r.n, .int .i64 r.o, .int .i64 r.x, .int .i64 r.y]) (t := 24) (w.alloc (.cells #[.int .i64 q.c, .int .i64 q.n, .int .i64 q.o, .int .i64 q.x, .int .i64 q.y, .slice A L.length a] 27))).alloc (.cells #[.int .i64 0, .int .i64 0, .int .i64 0, .int .i64 0, .int .i64 0, .slice none 0 0] 27); simpa [Hid] using this
  have K4 : Hid (Bkk (((w.alloc (.cells #[.int .i64 q.c, .int .i64 q.n, .int .i64 q.o, .int .i64 q.x, .int .i64 q.y, .slice A L.length a] 27)).alloc (.cells #[.int .i64 r.c, .int .i64 r.n, .int .i64 r.o, .int .i64 r.x, .int .i64 r.y] 24)).alloc (.cells #[.int .i64 0, .int .i64 0, .int .i64 0, .int .i64 0, .int .i64 0, .slice none 0 0] 27)) (w.heap.size + 1 + 1) 27 #[.int .i64 0, .int .i64 0, .int .i64 0, .int .i64 0, .int .i64 0, .slice none 0 0]) := by have := Bkk.new (cs := #[.int .i64 0, .int .i64 0, .int .i64 0, .int .i64 0, .int .i64 0, .slice none 0 0]) (t := 27) ((w.alloc (.cells #[.int .i64 q.c, .int .i64 q.n, .int .i64 q.o, .int .i64 q.x, .int .i64 q.y, .slice A L.length a] 27)).alloc (.cells #[.int .i64 r.c, .int .i64 r.n, .int .i64 r.o, .int .i64 r.x, .int .i64 r.y] 24)); simpa [Hid] using this
  have Z : Hid (Below w.heap.size w (((w.alloc (.cells #[.int .i64 q.c, .int .i64 q.n, .int .i64 q.o, .int .i64 q.x, .int .i64 q.y, .slice A L.length a] 27)).alloc (.cells #[.int .i64 r.c, .int .i64 r.n, .int .i64 r.o, .int .i64 r.x, .int .i64 r.y] 24)).alloc (.cells #[.int .i64 0, .int .i64 0, .int .i64 0, .int .i64 0, .int .i64 0, .slice none 0 0] 27))) := (below_alloc2 w _ _).alloc (by simp; omega) _
  have LZ : Hid (w.heap.size + 3 ≤ (((w.alloc (.cells #[.int .i64 q.c, .int .i64 q.n, .int .i64 q.o, .int .i64 q.x, .int .i64 q.y, .slice A L.length a] 27)).alloc (.cells #[.int .i64 r.c, .int .i64 r.n, .int .i64 r.o, .int .i64 r.x, .int .i64 r.y] 24)).alloc (.cells #[.int .i64 0, .int .i64 0, .int .i64 0, .int .i64 0, .int .i64 0, .slice none 0 0] 27)).heap.size) := by show _ ≤ _; simp
  clear hr
  go_enter Try.func21, Try.ntmps21
  go_upto_region 1 with (fail)
  obtain ⟨w0, hw0⟩ : ∃ X, X = (((w.alloc (.cells #[.int .i64 q.c, .int .i64 q.n, .int .i64 q.o, .int .i64 q.x, .int .i64 q.y, .slice A L.length a] 27)).alloc (.cells #[.int .i64 r.c, .int .i64 r.n, .int .i64 r.o, .int .i64 r.x, .int .i64 r.y] 24)).alloc (.cells #[.int .i64 0, .int .i64 0, .int .i64 0, .int .i64 0, .int .i64 0, .slice none 0 0] 27)) := ⟨_, rfl⟩
  rw [← hw0] at K2 F3 K4 Z LZ ⊢
  clear hw0
  have p0 : w0.cell? ⟨w.heap.size, 0, none⟩ = some (.int .i64 q.c) := K2.out.cell 0
  have p1 : w0.cell? ⟨w.heap.size, 1, none⟩ = some (.int .i64 q.n) := K2.out.cell 1
  have p2 : w0.cell? ⟨w.heap.size, 2, none⟩ = some (.int .i64 q.o) := K2.out.cell 2
  have p3 : w0.cell? ⟨w.heap.size, 3, none⟩ = some (.int .i64 q.x) := K2.out.cell 3
  have p4 : w0.cell? ⟨w.heap.size, 4, none⟩ = some (.int .i64 q.y) := K2.out.cell 4
  have p5 : w0.cell? ⟨w.heap.size, 5, none⟩ = some (.slice A L.length a) := K2.out.cell 5
  have y0 : w0.cell? ⟨w.heap.size + 1, 0, none⟩ = some (.int .i64 r.c) := F3.out.cell 0
  have y1 : w0.cell? ⟨w.heap.size + 1, 1, none⟩ = some (.int .i64 r.n) := F3.out.cell 1
  have y2 : w0.cell? ⟨w.heap.size + 1, 2, none⟩ = some (.int .i64 r.o) := F3.out.cell 2
  have y3 : w0.cell? ⟨w.heap.size + 1, 3, none⟩ = some (.int .i64 r.x) := F3.out.cell 3
  have y4 : w0.cell? ⟨w.heap.size + 1, 4, none⟩ = some (.int .i64 r.y) := F3.out.cell 4
  go_wp2_with (fail)
  refine (specPlayerSure q A a L _ hM (Rd.below HR.out.r Z.out)).mono ?_
  rintro e w1 ⟨rfl, hb⟩
  have K2 := Lib.hid (K2.out.below hb)
  have F3 := Lib.hid (F3.out.below hb)
  have K4 := Lib.hid (K4.out.below hb)
  have Z := Lib.hid (Below.and Z.out hb)
  have LZ := Lib.hid (Nat.le_trans LZ.out hb.size)
  clear p0 p1 p2 p3 p4 p5 y0 y1 y2 y3 y4
  clear hb
  obtain ⟨⟨y, u⟩, hy⟩ : ∃ Y, Y = sureP q L := ⟨_, rfl⟩
  have HU := Lib.hid (show (sureP q L).2 = u by rw [← hy])
  rw [← hy]
  clear hy
  have hba : Below w1.heap.size w1 (w1.alloc (.cells #[.int .i64 y.f, .int .i64 y.n, .int .i64 y.c, .int .i64 y.s] 29)) := (Below.refl _ _).alloc (Nat.le_refl _) _
  have K2 := Lib.hid (K2.out.below hba)
  have F3 := Lib.hid (F3.out.below hba)
  have K4 := Lib.hid (K4.out.below hba)
  have Z := Lib.hid (Below.and Z.out hba)
  have LZ := Lib.hid (Nat.le_trans LZ.out hba.size)
  clear hba
  go_upto_region 2 with (fail)
  obtain ⟨wA, hwA⟩ : ∃ X, X = w1.alloc (.cells #[.int .i64 y.f, .int .i64 y.n, .int .i64 y.c, .int .i64 y.s] 29) := ⟨_, rfl⟩
  rw [← hwA] at K2 F3 K4 Z LZ ⊢
  clear hwA
  rcases u with _ | _
  · skip
    have HX := Lib.hid (show askP q L r = ((q, L), false) by unfold askP; rw [HU.out]; rfl)
    have p0 : wA.cell? ⟨w.heap.size, 0, none⟩ = some (.int .i64 q.c) := K2.out.cell 0
    have p1 : wA.cell? ⟨w.heap.size, 1, none⟩ = some (.int .i64 q.n) := K2.out.cell 1
    have p2 : wA.cell? ⟨w.heap.size, 2, none⟩ = some (.int .i64 q.o) := K2.out.cell 2
    have p3 : wA.cell? ⟨w.heap.size, 3, none⟩ = some (.int .i64 q.x) := K2.out.cell 3
    have p4 : wA.cell? ⟨w.heap.size, 4, none⟩ = some (.int .i64 q.y) := K2.out.cell 4
    have p5 : wA.cell? ⟨w.heap.size, 5, none⟩ = some (.slice A L.length a) := K2.out.cell 5
    have y0 : wA.cell? ⟨w.heap.size + 1, 0, none⟩ = some (.int .i64 r.c) := F3.out.cell 0
    have y1 : wA.cell? ⟨w.heap.size + 1, 1, none⟩ = some (.int .i64 r.n) := F3.out.cell 1
    have y2 : wA.cell? ⟨w.heap.size + 1, 2, none⟩ = some (.int .i64 r.o) := F3.out.cell 2
    have y3 : wA.cell? ⟨w.heap.size + 1, 3, none⟩ = some (.int .i64 r.x) := F3.out.cell 3
    have y4 : wA.cell? ⟨w.heap.size + 1, 4, none⟩ = some (.int .i64 r.y) := F3.out.cell 4
    go_wp2_with (fail)
    refine (l11Copy q A a L _ hL (HR.out.below Z.out)).mono ?_
    rintro e w9 ⟨A1, a1, rfl, oa, hb⟩
    have OA := Lib.hid (oa.base (lo := w.heap.size + 3) LZ.out)
    have K4 := Lib.hid (K4.out.below hb)
    have Z := Lib.hid (Below.and Z.out hb)
    clear p0 p1 p2 p3 p4 p5 y0 y1 y2 y3 y4
    clear hb oa
    have z0 : w9.cell? ⟨w.heap.size + 1 + 1, 0, none⟩ = some (.int .i64 0) := K4.out.cell 0
    have z1 : w9.cell? ⟨w.heap.size + 1 + 1, 1, none⟩ = some (.int .i64 0) := K4.out.cell 1
    have z2 : w9.cell? ⟨w.heap.size + 1 + 1, 2, none⟩ = some (.int .i64 0) := K4.out.cell 2
    have z3 : w9.cell? ⟨w.heap.size + 1 + 1, 3, none⟩ = some (.int .i64 0) := K4.out.cell 3
    have z4 : w9.cell? ⟨w.heap.size + 1 + 1, 4, none⟩ = some (.int .i64 0) := K4.out.cell 4
    have z5 : w9.cell? ⟨w.heap.size + 1 + 1, 5, none⟩ = some (.slice none 0 0) := K4.out.cell 5
    have zf := K4.out.frozen
    have lz := K4.out.lt
    have BG := Lib.hid (Below.setCell (Below.setCell (Below.setCell (Below.setCell (Below.setCell (Below.setCell Z.out (p := ⟨w.heap.size + 1 + 1, 0, none⟩) (by simp; omega) (.int .i64 q.c)) (p := ⟨w.heap.size + 1 + 1, 1, none⟩) (by simp; omega) (.int .i64 q.n)) (p := ⟨w.heap.size + 1 + 1, 2, none⟩) (by simp; omega) (.int .i64 q.o)) (p := ⟨w.heap.size + 1 + 1, 3, none⟩) (by simp; omega) (.int .i64 q.x)) (p := ⟨w.heap.size + 1 + 1, 4, none⟩) (by simp; omega) (.int .i64 q.y)) (p := ⟨w.heap.size + 1 + 1, 5, none⟩) (by simp; omega) (.slice A1 L.length a1))
    have OG := Lib.hid (((((((OA.out.put (q := w.heap.size + 1 + 1) (by omega) 0 (.int .i64 q.c)).put (q := w.heap.size + 1 + 1) (by omega) 1 (.int .i64 q.n)).put (q := w.heap.size + 1 + 1) (by omega) 2 (.int .i64 q.o)).put (q := w.heap.size + 1 + 1) (by omega) 3 (.int .i64 q.x)).put (q := w.heap.size + 1 + 1) (by omega) 4 (.int .i64 q.y)).put (q := w.heap.size + 1 + 1) (by omega) 5 (.slice A1 L.length a1)).base (lo := w.heap.size) (by omega))
    clear K4 Z
    go_wp2
    refine bodyPost_ret (v := .tuple #[playerV q A1 L.length a1, .bool false]) (by simp [results, Try.results21, go_sem, z0, z1, z2, z3, z4, z5, zf]) rfl ?_
    rw [HX.out]
    exact ⟨A1, a1, rfl, OG.out, BG.out⟩
  have p0 : wA.cell? ⟨w.heap.size, 0, none⟩ = some (.int .i64 q.c) := K2.out.cell 0
  have p1 : wA.cell? ⟨w.heap.size, 1, none⟩ = some (.int .i64 q.n) := K2.out.cell 1
  have p2 : wA.cell? ⟨w.heap.size, 2, none⟩ = some (.int .i64 q.o) := K2.out.cell 2
  have p3 : wA.cell? ⟨w.heap.size, 3, none⟩ = some (.int .i64 q.x) := K2.out.cell 3
  have p4 : wA.cell? ⟨w.heap.size, 4, none⟩ = some (.int .i64 q.y) := K2.out.cell 4
  have p5 : wA.cell? ⟨w.heap.size, 5, none⟩ = some (.slice A L.length a) := K2.out.cell 5
  have y0 : wA.cell? ⟨w.heap.size + 1, 0, none⟩ = some (.int .i64 r.c) := F3.out.cell 0
  have y1 : wA.cell? ⟨w.heap.size + 1, 1, none⟩ = some (.int .i64 r.n) := F3.out.cell 1
  have y2 : wA.cell? ⟨w.heap.size + 1, 2, none⟩ = some (.int .i64 r.o) := F3.out.cell 2
  have y3 : wA.cell? ⟨w.heap.size + 1, 3, none⟩ = some (.int .i64 r.x) := F3.out.cell 3
  have y4 : wA.cell? ⟨w.heap.size + 1, 4, none⟩ = some (.int .i64 r.y) := F3.out.cell 4
  go_wp2_with (fail)
  refine (l1Ok r.c r.n r.o r.x r.y _).mono ?_
  rintro e w3 ⟨rfl, hb⟩
  have K2 := Lib.hid (K2.out.below hb)
  have F3 := Lib.hid (F3.out.below hb)
  have K4 := Lib.hid (K4.out.below hb)
  have Z := Lib.hid (Below.and Z.out hb)
  have LZ := Lib.hid (Nat.le_trans LZ.out hb.size)
  clear p0 p1 p2 p3 p4 p5 y0 y1 y2 y3 y4
  clear hb
  rcases h1 : reqB r.c r.n r.o r.x r.y with _ | _
  · skip
    have HX := Lib.hid (show askP q L r = ((q, L), false) by unfold askP; rw [HU.out, show rqB r = false from h1]; rfl)
    have p0 : w3.cell? ⟨w.heap.size, 0, none⟩ = some (.int .i64 q.c) := K2.out.cell 0
    have p1 : w3.cell? ⟨w.heap.size, 1, none⟩ = some (.int .i64 q.n) := K2.out.cell 1
    have p2 : w3.cell? ⟨w.heap.size, 2, none⟩ = some (.int .i64 q.o) := K2.out.cell 2
    have p3 : w3.cell? ⟨w.heap.size, 3, none⟩ = some (.int .i64 q.x) := K2.out.cell 3
    have p4 : w3.cell? ⟨w.heap.size, 4, none⟩ = some (.int .i64 q.y) := K2.out.cell 4
    have p5 : w3.cell? ⟨w.heap.size, 5, none⟩ = some (.slice A L.length a) := K2.out.cell 5
    have y0 : w3.cell? ⟨w.heap.size + 1, 0, none⟩ = some (.int .i64 r.c) := F3.out.cell 0
    have y1 : w3.cell? ⟨w.heap.size + 1, 1, none⟩ = some (.int .i64 r.n) := F3.out.cell 1
    have y2 : w3.cell? ⟨w.heap.size + 1, 2, none⟩ = some (.int .i64 r.o) := F3.out.cell 2
    have y3 : w3.cell? ⟨w.heap.size + 1, 3, none⟩ = some (.int .i64 r.x) := F3.out.cell 3
    have y4 : w3.cell? ⟨w.heap.size + 1, 4, none⟩ = some (.int .i64 r.y) := F3.out.cell 4
    go_wp2_with (fail)
    refine (l11Copy q A a L _ hL (HR.out.below Z.out)).mono ?_
    rintro e w9 ⟨A1, a1, rfl, oa, hb⟩
    have OA := Lib.hid (oa.base (lo := w.heap.size + 3) LZ.out)
    have K4 := Lib.hid (K4.out.below hb)
    have Z := Lib.hid (Below.and Z.out hb)
    clear p0 p1 p2 p3 p4 p5 y0 y1 y2 y3 y4
    clear hb oa
    have z0 : w9.cell? ⟨w.heap.size + 1 + 1, 0, none⟩ = some (.int .i64 0) := K4.out.cell 0
    have z1 : w9.cell? ⟨w.heap.size + 1 + 1, 1, none⟩ = some (.int .i64 0) := K4.out.cell 1
    have z2 : w9.cell? ⟨w.heap.size + 1 + 1, 2, none⟩ = some (.int .i64 0) := K4.out.cell 2
    have z3 : w9.cell? ⟨w.heap.size + 1 + 1, 3, none⟩ = some (.int .i64 0) := K4.out.cell 3
    have z4 : w9.cell? ⟨w.heap.size + 1 + 1, 4, none⟩ = some (.int .i64 0) := K4.out.cell 4
    have z5 : w9.cell? ⟨w.heap.size + 1 + 1, 5, none⟩ = some (.slice none 0 0) := K4.out.cell 5
    have zf := K4.out.frozen
    have lz := K4.out.lt
    have BG := Lib.hid (Below.setCell (Below.setCell (Below.setCell (Below.setCell (Below.setCell (Below.setCell Z.out (p := ⟨w.heap.size + 1 + 1, 0, none⟩) (by simp; omega) (.int .i64 q.c)) (p := ⟨w.heap.size + 1 + 1, 1, none⟩) (by simp; omega) (.int .i64 q.n)) (p := ⟨w.heap.size + 1 + 1, 2, none⟩) (by simp; omega) (.int .i64 q.o)) (p := ⟨w.heap.size + 1 + 1, 3, none⟩) (by simp; omega) (.int .i64 q.x)) (p := ⟨w.heap.size + 1 + 1, 4, none⟩) (by simp; omega) (.int .i64 q.y)) (p := ⟨w.heap.size + 1 + 1, 5, none⟩) (by simp; omega) (.slice A1 L.length a1))
    have OG := Lib.hid (((((((OA.out.put (q := w.heap.size + 1 + 1) (by omega) 0 (.int .i64 q.c)).put (q := w.heap.size + 1 + 1) (by omega) 1 (.int .i64 q.n)).put (q := w.heap.size + 1 + 1) (by omega) 2 (.int .i64 q.o)).put (q := w.heap.size + 1 + 1) (by omega) 3 (.int .i64 q.x)).put (q := w.heap.size + 1 + 1) (by omega) 4 (.int .i64 q.y)).put (q := w.heap.size + 1 + 1) (by omega) 5 (.slice A1 L.length a1)).base (lo := w.heap.size) (by omega))
    clear K4 Z
    go_wp2
    refine bodyPost_ret (v := .tuple #[playerV q A1 L.length a1, .bool false]) (by simp [results, Try.results21, go_sem, z0, z1, z2, z3, z4, z5, zf]) rfl ?_
    rw [HX.out]
    exact ⟨A1, a1, rfl, OG.out, BG.out⟩
  have H1 := Lib.hid (show rqB r = true from h1)
  clear h1
  rcases h2 : (r.c != q.c) with _ | _
  case true =>
    have HX := Lib.hid (show askP q L r = ((q, L), false) by unfold askP; rw [HU.out, H1.out, h2]; rfl)
    have p0 : w3.cell? ⟨w.heap.size, 0, none⟩ = some (.int .i64 q.c) := K2.out.cell 0
    have p1 : w3.cell? ⟨w.heap.size, 1, none⟩ = some (.int .i64 q.n) := K2.out.cell 1
    have p2 : w3.cell? ⟨w.heap.size, 2, none⟩ = some (.int .i64 q.o) := K2.out.cell 2
    have p3 : w3.cell? ⟨w.heap.size, 3, none⟩ = some (.int .i64 q.x) := K2.out.cell 3
    have p4 : w3.cell? ⟨w.heap.size, 4, none⟩ = some (.int .i64 q.y) := K2.out.cell 4
    have p5 : w3.cell? ⟨w.heap.size, 5, none⟩ = some (.slice A L.length a) := K2.out.cell 5
    have y0 : w3.cell? ⟨w.heap.size + 1, 0, none⟩ = some (.int .i64 r.c) := F3.out.cell 0
    have y1 : w3.cell? ⟨w.heap.size + 1, 1, none⟩ = some (.int .i64 r.n) := F3.out.cell 1
    have y2 : w3.cell? ⟨w.heap.size + 1, 2, none⟩ = some (.int .i64 r.o) := F3.out.cell 2
    have y3 : w3.cell? ⟨w.heap.size + 1, 3, none⟩ = some (.int .i64 r.x) := F3.out.cell 3
    have y4 : w3.cell? ⟨w.heap.size + 1, 4, none⟩ = some (.int .i64 r.y) := F3.out.cell 4
    go_wp2_with (fail)
    refine (l11Copy q A a L _ hL (HR.out.below Z.out)).mono ?_
    rintro e w9 ⟨A1, a1, rfl, oa, hb⟩
    have OA := Lib.hid (oa.base (lo := w.heap.size + 3) LZ.out)
    have K4 := Lib.hid (K4.out.below hb)
    have Z := Lib.hid (Below.and Z.out hb)
    clear p0 p1 p2 p3 p4 p5 y0 y1 y2 y3 y4
    clear hb oa
    have z0 : w9.cell? ⟨w.heap.size + 1 + 1, 0, none⟩ = some (.int .i64 0) := K4.out.cell 0
    have z1 : w9.cell? ⟨w.heap.size + 1 + 1, 1, none⟩ = some (.int .i64 0) := K4.out.cell 1
    have z2 : w9.cell? ⟨w.heap.size + 1 + 1, 2, none⟩ = some (.int .i64 0) := K4.out.cell 2
    have z3 : w9.cell? ⟨w.heap.size + 1 + 1, 3, none⟩ = some (.int .i64 0) := K4.out.cell 3
    have z4 : w9.cell? ⟨w.heap.size + 1 + 1, 4, none⟩ = some (.int .i64 0) := K4.out.cell 4
    have z5 : w9.cell? ⟨w.heap.size + 1 + 1, 5, none⟩ = some (.slice none 0 0) := K4.out.cell 5
    have zf := K4.out.frozen
    have lz := K4.out.lt
    have BG := Lib.hid (Below.setCell (Below.setCell (Below.setCell (Below.setCell (Below.setCell (Below.setCell Z.out (p := ⟨w.heap.size + 1 + 1, 0, none⟩) (by simp; omega) (.int .i64 q.c)) (p := ⟨w.heap.size + 1 + 1, 1, none⟩) (by simp; omega) (.int .i64 q.n)) (p := ⟨w.heap.size + 1 + 1, 2, none⟩) (by simp; omega) (.int .i64 q.o)) (p := ⟨w.heap.size + 1 + 1, 3, none⟩) (by simp; omega) (.int .i64 q.x)) (p := ⟨w.heap.size + 1 + 1, 4, none⟩) (by simp; omega) (.int .i64 q.y)) (p := ⟨w.heap.size + 1 + 1, 5, none⟩) (by simp; omega) (.slice A1 L.length a1))
    have OG := Lib.hid (((((((OA.out.put (q := w.heap.size + 1 + 1) (by omega) 0 (.int .i64 q.c)).put (q := w.heap.size + 1 + 1) (by omega) 1 (.int .i64 q.n)).put (q := w.heap.size + 1 + 1) (by omega) 2 (.int .i64 q.o)).put (q := w.heap.size + 1 + 1) (by omega) 3 (.int .i64 q.x)).put (q := w.heap.size + 1 + 1) (by omega) 4 (.int .i64 q.y)).put (q := w.heap.size + 1 + 1) (by omega) 5 (.slice A1 L.length a1)).base (lo := w.heap.size) (by omega))
    clear K4 Z
    go_wp2
    refine bodyPost_ret (v := .tuple #[playerV q A1 L.length a1, .bool false]) (by simp [results, Try.results21, go_sem, z0, z1, z2, z3, z4, z5, zf]) rfl ?_
    rw [HX.out]
    exact ⟨A1, a1, rfl, OG.out, BG.out⟩
  case false =>
    rcases h3 : decide (r.n ≤ q.n) with _ | _
    · have e3 : ¬ r.n ≤ q.n := of_decide_eq_false h3
      have H3 := Lib.hid h3
      clear h3
      have HX := Lib.hid (show askP q L r = ((r, []), true) by unfold askP; rw [HU.out, H1.out, h2, H3.out]; rfl)
      have p0 : w3.cell? ⟨w.heap.size, 0, none⟩ = some (.int .i64 q.c) := K2.out.cell 0
      have p1 : w3.cell? ⟨w.heap.size, 1, none⟩ = some (.int .i64 q.n) := K2.out.cell 1
      have p2 : w3.cell? ⟨w.heap.size, 2, none⟩ = some (.int .i64 q.o) := K2.out.cell 2
      have p3 : w3.cell? ⟨w.heap.size, 3, none⟩ = some (.int .i64 q.x) := K2.out.cell 3
      have p4 : w3.cell? ⟨w.heap.size, 4, none⟩ = some (.int .i64 q.y) := K2.out.cell 4
      have p5 : w3.cell? ⟨w.heap.size, 5, none⟩ = some (.slice A L.length a) := K2.out.cell 5
      have y0 : w3.cell? ⟨w.heap.size + 1, 0, none⟩ = some (.int .i64 r.c) := F3.out.cell 0
      have y1 : w3.cell? ⟨w.heap.size + 1, 1, none⟩ = some (.int .i64 r.n) := F3.out.cell 1
      have y2 : w3.cell? ⟨w.heap.size + 1, 2, none⟩ = some (.int .i64 r.o) := F3.out.cell 2
      have y3 : w3.cell? ⟨w.heap.size + 1, 3, none⟩ = some (.int .i64 r.x) := F3.out.cell 3
      have y4 : w3.cell? ⟨w.heap.size + 1, 4, none⟩ = some (.int .i64 r.y) := F3.out.cell 4
      have z0 : w3.cell? ⟨w.heap.size + 1 + 1, 0, none⟩ = some (.int .i64 0) := K4.out.cell 0
      have z1 : w3.cell? ⟨w.heap.size + 1 + 1, 1, none⟩ = some (.int .i64 0) := K4.out.cell 1
      have z2 : w3.cell? ⟨w.heap.size + 1 + 1, 2, none⟩ = some (.int .i64 0) := K4.out.cell 2
      have z3 : w3.cell? ⟨w.heap.size + 1 + 1, 3, none⟩ = some (.int .i64 0) := K4.out.cell 3
      have z4 : w3.cell? ⟨w.heap.size + 1 + 1, 4, none⟩ = some (.int .i64 0) := K4.out.cell 4
      have z5 : w3.cell? ⟨w.heap.size + 1 + 1, 5, none⟩ = some (.slice none 0 0) := K4.out.cell 5
      have zf := K4.out.frozen
      have lz := K4.out.lt
      have BG := Lib.hid (Below.setCell (Below.setCell (Below.setCell (Below.setCell (Below.setCell (Below.setCell Z.out (p := ⟨w.heap.size + 1 + 1, 0, none⟩) (by simp; omega) (.int .i64 r.c)) (p := ⟨w.heap.size + 1 + 1, 1, none⟩) (by simp; omega) (.int .i64 r.n)) (p := ⟨w.heap.size + 1 + 1, 2, none⟩) (by simp; omega) (.int .i64 r.o)) (p := ⟨w.heap.size + 1 + 1, 3, none⟩) (by simp; omega) (.int .i64 r.x)) (p := ⟨w.heap.size + 1 + 1, 4, none⟩) (by simp; omega) (.int .i64 r.y)) (p := ⟨w.heap.size + 1 + 1, 5, none⟩) (by simp; omega) (.slice none 0 0))
      clear K4 Z
      go_wp2
      refine bodyPost_ret (v := .tuple #[playerV r none 0 0, .bool true]) (by simp [results, Try.results21, go_sem, z0, z1, z2, z3, z4, z5, zf]) rfl ?_
      rw [HX.out]
      exact ⟨none, 0, rfl, OwL.nil _ _, BG.out⟩
    · have e3 : r.n ≤ q.n := of_decide_eq_true h3
      have H3 := Lib.hid h3
      clear h3
      have HX := Lib.hid (show askP q L r = ((q, L), false) by unfold askP; rw [HU.out, H1.out, h2, H3.out]; rfl)
      have p0 : w3.cell? ⟨w.heap.size, 0, none⟩ = some (.int .i64 q.c) := K2.out.cell 0
      have p1 : w3.cell? ⟨w.heap.size, 1, none⟩ = some (.int .i64 q.n) := K2.out.cell 1
      have p2 : w3.cell? ⟨w.heap.size, 2, none⟩ = some (.int .i64 q.o) := K2.out.cell 2
      have p3 : w3.cell? ⟨w.heap.size, 3, none⟩ = some (.int .i64 q.x) := K2.out.cell 3
      have p4 : w3.cell? ⟨w.heap.size, 4, none⟩ = some (.int .i64 q.y) := K2.out.cell 4
      have p5 : w3.cell? ⟨w.heap.size, 5, none⟩ = some (.slice A L.length a) := K2.out.cell 5
      have y0 : w3.cell? ⟨w.heap.size + 1, 0, none⟩ = some (.int .i64 r.c) := F3.out.cell 0
      have y1 : w3.cell? ⟨w.heap.size + 1, 1, none⟩ = some (.int .i64 r.n) := F3.out.cell 1
      have y2 : w3.cell? ⟨w.heap.size + 1, 2, none⟩ = some (.int .i64 r.o) := F3.out.cell 2
      have y3 : w3.cell? ⟨w.heap.size + 1, 3, none⟩ = some (.int .i64 r.x) := F3.out.cell 3
      have y4 : w3.cell? ⟨w.heap.size + 1, 4, none⟩ = some (.int .i64 r.y) := F3.out.cell 4
      go_wp2_with (fail)
      refine (l11Copy q A a L _ hL (HR.out.below Z.out)).mono ?_
      rintro e w9 ⟨A1, a1, rfl, oa, hb⟩
      have OA := Lib.hid (oa.base (lo := w.heap.size + 3) LZ.out)
      have K4 := Lib.hid (K4.out.below hb)
      have Z := Lib.hid (Below.and Z.out hb)
      clear p0 p1 p2 p3 p4 p5 y0 y1 y2 y3 y4
      clear hb oa
      have z0 : w9.cell? ⟨w.heap.size + 1 + 1, 0, none⟩ = some (.int .i64 0) := K4.out.cell 0
      have z1 : w9.cell? ⟨w.heap.size + 1 + 1, 1, none⟩ = some (.int .i64 0) := K4.out.cell 1
      have z2 : w9.cell? ⟨w.heap.size + 1 + 1, 2, none⟩ = some (.int .i64 0) := K4.out.cell 2
      have z3 : w9.cell? ⟨w.heap.size + 1 + 1, 3, none⟩ = some (.int .i64 0) := K4.out.cell 3
      have z4 : w9.cell? ⟨w.heap.size + 1 + 1, 4, none⟩ = some (.int .i64 0) := K4.out.cell 4
      have z5 : w9.cell? ⟨w.heap.size + 1 + 1, 5, none⟩ = some (.slice none 0 0) := K4.out.cell 5
      have zf := K4.out.frozen
      have lz := K4.out.lt
      have BG := Lib.hid (Below.setCell (Below.setCell (Below.setCell (Below.setCell (Below.setCell (Below.setCell Z.out (p := ⟨w.heap.size + 1 + 1, 0, none⟩) (by simp; omega) (.int .i64 q.c)) (p := ⟨w.heap.size + 1 + 1, 1, none⟩) (by simp; omega) (.int .i64 q.n)) (p := ⟨w.heap.size + 1 + 1, 2, none⟩) (by simp; omega) (.int .i64 q.o)) (p := ⟨w.heap.size + 1 + 1, 3, none⟩) (by simp; omega) (.int .i64 q.x)) (p := ⟨w.heap.size + 1 + 1, 4, none⟩) (by simp; omega) (.int .i64 q.y)) (p := ⟨w.heap.size + 1 + 1, 5, none⟩) (by simp; omega) (.slice A1 L.length a1))
      have OG := Lib.hid (((((((OA.out.put (q := w.heap.size + 1 + 1) (by omega) 0 (.int .i64 q.c)).put (q := w.heap.size + 1 + 1) (by omega) 1 (.int .i64 q.n)).put (q := w.heap.size + 1 + 1) (by omega) 2 (.int .i64 q.o)).put (q := w.heap.size + 1 + 1) (by omega) 3 (.int .i64 q.x)).put (q := w.heap.size + 1 + 1) (by omega) 4 (.int .i64 q.y)).put (q := w.heap.size + 1 + 1) (by omega) 5 (.slice A1 L.length a1)).base (lo := w.heap.size) (by omega))
      clear K4 Z
      go_wp2
      refine bodyPost_ret (v := .tuple #[playerV q A1 L.length a1, .bool false]) (by simp [results, Try.results21, go_sem, z0, z1, z2, z3, z4, z5, zf]) rfl ?_
      rw [HX.out]
      exact ⟨A1, a1, rfl, OG.out, BG.out⟩

end Go.Proofs.Ytdpladihacgobaa
