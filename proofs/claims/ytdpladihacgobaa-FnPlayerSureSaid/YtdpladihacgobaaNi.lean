/- A player hears an answer: both ways. -/
import Derived.Test.YtdpladihacgobaaNh
import Derived.Test.YtdpladihacgobaaHf
namespace Go.Proofs.Ytdpladihacgobaa
open Go.ChangeShapes Go.WideShapes Go.ChangeAt Go.RowKit
set_option linter.unusedVariables false
set_option linter.unusedSimpArgs false

def hearP (q : Rq) (L : List Rp) (r : Rp) : (Rq × List Rp) × Bool :=
  if plB q L then (if rpB r && (!(r.n != q.n) && !(decide ((0 : Int) < ((L.countP (fromP r.f) : Nat) : Int)))) then ((q, L ++ [r]), true) else ((q, L), false)) else ((⟨0, 0, 0, 0, 0⟩, []), false)
def DoPl (X : (Rq × List Rp) × Bool) (w : World) (e : Ending) (w' : World) : Prop :=
  ∃ A a, e = .returned (.tuple #[playerV X.1.1 A X.1.2.length a, .bool X.2]) ∧ OwL w' w.heap.size A a X.1.2 ∧ Below w.heap.size w w'
theorem hearP_len (q : Rq) (L : List Rp) (r : Rp) : (hearP q L r).1.2.length ≤ L.length + 1 := by
  unfold hearP
  split
  · split <;> simp
  · simp
theorem rp_one (w : World) (t : TypeId) (x : Rp) : Rd 4 Rp.cells (w.alloc (.cells #[.int .i64 x.f, .int .i64 x.n, .int .i64 x.c, .int .i64 x.s] t)) (some ⟨w.heap.size, 0, none⟩) [x] := by
  intro i h
  have hi : i = 0 := by simpa using h
  subst hi
  refine ⟨w.heap.size, 0, rfl, fun j u hu => ?_⟩
  have hb := cell_of_row _ _ j _ t (0, 0) (heap_alloc_new w (.cells #[.int .i64 x.f, .int .i64 x.n, .int .i64 x.c, .int .i64 x.s] t))
  rw [show 0 + 0 * 4 + j = j by omega, hb]
  simpa [Rp.cells] using hu
theorem OwL.push {w' : World} {lo : Nat} {L : List Rp} {v' : Value} {r : Rp} (ho : w'.ownsRow lo 29 4 v' (L.length + 1) (L.flatMap Rp.cells ++ [r].flatMap Rp.cells)) :
    ∃ A' a', v' = .slice A' (L ++ [r]).length a' ∧ OwL w' lo A' a' (L ++ [r]) := by
  obtain ⟨A', a', rfl⟩ := own_formH ho
  have hl : L.length + 1 = (L ++ [r]).length := by simp
  rw [← List.flatMap_append, hl] at ho
  exact ⟨A', a', by rw [hl], ho⟩
theorem OwL.apart {w : World} {lo p : Nat} {A : Option Addr} {a : Nat} {L : List Rp} {t : TypeId} {cs : Array Value} (h : OwL w lo A a L) (hT : Bkk w p t cs) (hne : 29 ≠ t) : (Value.slice A L.length a).ownBlock ≠ some p := own_typeH (show w.ownsRow _ _ _ _ _ _ from h) hT hne
theorem OwL.box {w : World} {lo p : Nat} {A : Option Addr} {a : Nat} {L : List Rp} {t : TypeId} {cs : Array Value} (h : OwL w lo A a L) (hT : Bkk w p t cs) (hne : 29 ≠ t) (o : Nat) (u : Value) : OwL (w.setCell ⟨p, o, none⟩ u) lo A a L :=
  own_same (show w.ownsRow _ _ _ _ _ _ from h) (fun k hk => heap_setCell_other w ⟨p, o, none⟩ k _ (by
    intro e
    subst e
    exact h.apart hT hne hk))
theorem Bkk.grown {w w' : World} {g : Nat} {t : TypeId} {cs : Array Value} {row : Option Nat} (h : Bkk w g t cs) (hb : w.grownBy w' row) (hg : some g ≠ row) : Bkk w' g t cs := (hb.block g h.lt hg).trans h

set_option maxRecDepth 100000 in
set_option maxHeartbeats 4000000 in
theorem implPlayerHear (q : Rq) (A : Option Addr) (a : Nat) (L : List Rp) (r : Rp) (w : World) (hL : L.length ≤ 2097152) (hr : RdP w A a L) :
    Calls Try.prog 11 #[playerV q A L.length a, r.val] w (DoPl (hearP q L r) w) := by
  obtain ⟨I, hi, hz0, hz1, hz2⟩ := parts_ofH infoReply
  have I1 := Lib.hid hi
  have I2 := Lib.hid hz0
  have I3 := Lib.hid hz1
  have I4 := Lib.hid hz2
  clear hi hz0 hz1 hz2
  have HR := Lib.hid hr
  have hM : L.length ≤ maxLen := by unfold maxLen; omega
  have K2 : Hid (Bkk (((w.alloc (.cells #[.int .i64 q.c, .int .i64 q.n, .int .i64 q.o, .int .i64 q.x, .int .i64 q.y, .slice A L.length a] 27)).alloc (.cells #[.int .i64 r.f, .int .i64 r.n, .int .i64 r.c, .int .i64 r.s] 29)).alloc (.cells #[.int .i64 0, .int .i64 0, .int .i64 0, .int .i64 0, .int .i64 0, .slice none 0 0] 27)) w.heap.size 27 #[.int .i64 q.c, .int .i64 q.n, .int .i64 q.o, .int .i64 q.x, .int .i64 q.y, .slice A L.length a]) := ((Bkk.new (cs := #[.int .i64 q.c, .int .i64 q.n, .int .i64 q.o, .int .i64 q.x, .int .i64 q.y, .slice A L.length a]) (t := 27) w).alloc _).alloc _
  have F3 : Hid (Bkk (((w.alloc (.cells #[.int .i64 q.c, .int .i64 q.n, .int .i64 q.o, .int .i64 q.x, .int .i64 q.y, .slice A L.length a] 27)).alloc (.cells #[.int .i64 r.f, .int .i64 r.n, .int .i64 r.c, .int .i64 r.s] 29)).alloc (.cells #[.int .i64 0, .int .i64 0, .int .i64 0, .int .i64 0, .int .i64 0, .slice none 0 0] 27)) (w.heap.size + 1) 29 #[.int .i64 r.f, .int .i64 r.n, .int .i64 r.c, .int .i64 r.s]) := by have := (Bkk.new (cs := #[.int .i64 r.f, .int .i64 r.n, .int .i64 r.c, .int .i64 r.s]) (t := 29) (w.alloc (.cells #[.int .i64 q.c, .int .i64 q.n, .int .i64 q.o, .int .i64 q.x, .int .i64 q.y, .slice A L.length a] 27))).alloc (.cells #[.int .i64 0, .int .i64 0, .int .i64 0, .int .i64 0, .int .i64 0, .slice none 0 0] 27); simpa [Hid] using this
  have K4 : Hid (Bkk (((w.alloc (.cells #[.int .i64 q.c, .int .i64 q.n, .int .i64 q.o, .int .i64 q.x, .int .i64 q.y, .slice A L.length a] 27)).alloc (.cells #[.int .i64 r.f, .int .i64 r.n, .int .i64 r.c, .int .i64 r.s] 29)).alloc (.cells #[.int .i64 0, .int .i64 0, .int .i64 0, .int .i64 0, .int .i64 0, .slice none 0 0] 27)) (w.heap.size + 1 + 1) 27 #[.int .i64 0, .int .i64 0, .int .i64 0, .int .i64 0, .int .i64 0, .slice none 0 0]) := by have := Bkk.new (cs := #[.int .i64 0, .int .i64 0, .int .i64 0, .int .i64 0, .int .i64 0, .slice none 0 0]) (t := 27) ((w.alloc (.cells #[.int .i64 q.c, .int .i64 q.n, .int .i64 q.o, .int .i64 q.x, .int .i64 q.y, .slice A L.length a] 27)).alloc (.cells #[.int .i64 r.f, .int .i64 r.n, .int .i64 r.c, .int .i64 r.s] 29)); simpa [Hid] using this
  have Z : Hid (Below w.heap.size w (((w.alloc (.cells #[.int .i64 q.c, .int .i64 q.n, .int .i64 q.o, .int .i64 q.x, .int .i64 q.y, .slice A L.length a] 27)).alloc (.cells #[.int .i64 r.f, .int .i64 r.n, .int .i64 r.c, .int .i64 r.s] 29)).alloc (.cells #[.int .i64 0, .int .i64 0, .int .i64 0, .int .i64 0, .int .i64 0, .slice none 0 0] 27))) := (below_alloc2 w _ _).alloc (by simp; omega) _
  have LZ : Hid (w.heap.size + 3 ≤ (((w.alloc (.cells #[.int .i64 q.c, .int .i64 q.n, .int .i64 q.o, .int .i64 q.x, .int .i64 q.y, .slice A L.length a] 27)).alloc (.cells #[.int .i64 r.f, .int .i64 r.n, .int .i64 r.c, .int .i64 r.s] 29)).alloc (.cells #[.int .i64 0, .int .i64 0, .int .i64 0, .int .i64 0, .int .i64 0, .slice none 0 0] 27)).heap.size) := by show _ ≤ _; simp
  clear hr
  go_enter Try.func11, Try.ntmps11
  go_upto_region 1 with (fail)
  obtain ⟨w0, hw0⟩ : ∃ X, X = (((w.alloc (.cells #[.int .i64 q.c, .int .i64 q.n, .int .i64 q.o, .int .i64 q.x, .int .i64 q.y, .slice A L.length a] 27)).alloc (.cells #[.int .i64 r.f, .int .i64 r.n, .int .i64 r.c, .int .i64 r.s] 29)).alloc (.cells #[.int .i64 0, .int .i64 0, .int .i64 0, .int .i64 0, .int .i64 0, .slice none 0 0] 27)) := ⟨_, rfl⟩
  rw [← hw0] at K2 F3 K4 Z LZ ⊢
  clear hw0
  have p0 : w0.cell? ⟨w.heap.size, 0, none⟩ = some (.int .i64 q.c) := K2.out.cell 0
  have p1 : w0.cell? ⟨w.heap.size, 1, none⟩ = some (.int .i64 q.n) := K2.out.cell 1
  have p2 : w0.cell? ⟨w.heap.size, 2, none⟩ = some (.int .i64 q.o) := K2.out.cell 2
  have p3 : w0.cell? ⟨w.heap.size, 3, none⟩ = some (.int .i64 q.x) := K2.out.cell 3
  have p4 : w0.cell? ⟨w.heap.size, 4, none⟩ = some (.int .i64 q.y) := K2.out.cell 4
  have p5 : w0.cell? ⟨w.heap.size, 5, none⟩ = some (.slice A L.length a) := K2.out.cell 5
  have y0 : w0.cell? ⟨w.heap.size + 1, 0, none⟩ = some (.int .i64 r.f) := F3.out.cell 0
  have y1 : w0.cell? ⟨w.heap.size + 1, 1, none⟩ = some (.int .i64 r.n) := F3.out.cell 1
  have y2 : w0.cell? ⟨w.heap.size + 1, 2, none⟩ = some (.int .i64 r.c) := F3.out.cell 2
  have y3 : w0.cell? ⟨w.heap.size + 1, 3, none⟩ = some (.int .i64 r.s) := F3.out.cell 3
  go_wp2_with (fail)
  refine (implPlayerOk q A a L _ hM (Rd.below HR.out.r Z.out)).mono ?_
  rintro e w1 ⟨rfl, hb⟩
  have K2 := Lib.hid (K2.out.below hb)
  have F3 := Lib.hid (F3.out.below hb)
  have K4 := Lib.hid (K4.out.below hb)
  have Z := Lib.hid (Below.and Z.out hb)
  have LZ := Lib.hid (Nat.le_trans LZ.out hb.size)
  clear p0 p1 p2 p3 p4 p5 y0 y1 y2 y3
  clear hb
  rcases hok : plB q L with _ | _
  · have HX := Lib.hid (show hearP q L r = ((⟨0, 0, 0, 0, 0⟩, []), false) by unfold hearP; rw [hok]; rfl)
    clear hok
    have z0 : w1.cell? ⟨w.heap.size + 1 + 1, 0, none⟩ = some (.int .i64 0) := K4.out.cell 0
    have z1 : w1.cell? ⟨w.heap.size + 1 + 1, 1, none⟩ = some (.int .i64 0) := K4.out.cell 1
    have z2 : w1.cell? ⟨w.heap.size + 1 + 1, 2, none⟩ = some (.int .i64 0) := K4.out.cell 2
    have z3 : w1.cell? ⟨w.heap.size + 1 + 1, 3, none⟩ = some (.int .i64 0) := K4.out.cell 3
    have z4 : w1.cell? ⟨w.heap.size + 1 + 1, 4, none⟩ = some (.int .i64 0) := K4.out.cell 4
    have z5 : w1.cell? ⟨w.heap.size + 1 + 1, 5, none⟩ = some (.slice none 0 0) := K4.out.cell 5
    have zf := K4.out.frozen
    have lz := K4.out.lt
    have BG := Lib.hid (Below.setCell (Below.setCell (Below.setCell (Below.setCell (Below.setCell (Below.setCell Z.out (p := ⟨w.heap.size + 1 + 1, 0, none⟩) (by simp; omega) (.int .i64 0)) (p := ⟨w.heap.size + 1 + 1, 1, none⟩) (by simp; omega) (.int .i64 0)) (p := ⟨w.heap.size + 1 + 1, 2, none⟩) (by simp; omega) (.int .i64 0)) (p := ⟨w.heap.size + 1 + 1, 3, none⟩) (by simp; omega) (.int .i64 0)) (p := ⟨w.heap.size + 1 + 1, 4, none⟩) (by simp; omega) (.int .i64 0)) (p := ⟨w.heap.size + 1 + 1, 5, none⟩) (by simp; omega) (.slice none 0 0))
    clear K4 Z
    go_wp2
    refine bodyPost_ret (v := .tuple #[playerV ⟨0, 0, 0, 0, 0⟩ none 0 0, .bool false]) (by simp [results, Try.results11, go_sem, z0, z1, z2, z3, z4, z5, zf]) rfl ?_
    rw [HX.out]
    exact ⟨none, 0, rfl, OwL.nil _ _, BG.out⟩
  have HOK := Lib.hid hok
  clear hok
  have p0 : w1.cell? ⟨w.heap.size, 0, none⟩ = some (.int .i64 q.c) := K2.out.cell 0
  have p1 : w1.cell? ⟨w.heap.size, 1, none⟩ = some (.int .i64 q.n) := K2.out.cell 1
  have p2 : w1.cell? ⟨w.heap.size, 2, none⟩ = some (.int .i64 q.o) := K2.out.cell 2
  have p3 : w1.cell? ⟨w.heap.size, 3, none⟩ = some (.int .i64 q.x) := K2.out.cell 3
  have p4 : w1.cell? ⟨w.heap.size, 4, none⟩ = some (.int .i64 q.y) := K2.out.cell 4
  have p5 : w1.cell? ⟨w.heap.size, 5, none⟩ = some (.slice A L.length a) := K2.out.cell 5
  have y0 : w1.cell? ⟨w.heap.size + 1, 0, none⟩ = some (.int .i64 r.f) := F3.out.cell 0
  have y1 : w1.cell? ⟨w.heap.size + 1, 1, none⟩ = some (.int .i64 r.n) := F3.out.cell 1
  have y2 : w1.cell? ⟨w.heap.size + 1, 2, none⟩ = some (.int .i64 r.c) := F3.out.cell 2
  have y3 : w1.cell? ⟨w.heap.size + 1, 3, none⟩ = some (.int .i64 r.s) := F3.out.cell 3
  go_wp2_with (fail)
  refine (copyPlayer q A a L _ hL (HR.out.below Z.out)).mono ?_
  have LZ1 := LZ.out
  rintro e w2 ⟨A1, a1, rfl, oa, hb⟩
  have K2 := Lib.hid (K2.out.below hb)
  have F3 := Lib.hid (F3.out.below hb)
  have K4 := Lib.hid (K4.out.below hb)
  have Z := Lib.hid (Below.and Z.out hb)
  have LZ := Lib.hid (Nat.le_trans LZ.out hb.size)
  have oa := oa.base (lo := w.heap.size + 3) LZ1
  clear p0 p1 p2 p3 p4 p5 y0 y1 y2 y3
  clear hb LZ1
  have hba : Below w2.heap.size w2 (w2.alloc (.cells #[.int .i64 q.c, .int .i64 q.n, .int .i64 q.o, .int .i64 q.x, .int .i64 q.y, .slice A1 L.length a1] 27)) := (Below.refl _ _).alloc (Nat.le_refl _) _
  have K6 : Hid (Bkk (w2.alloc (.cells #[.int .i64 q.c, .int .i64 q.n, .int .i64 q.o, .int .i64 q.x, .int .i64 q.y, .slice A1 L.length a1] 27)) w2.heap.size 27 #[.int .i64 q.c, .int .i64 q.n, .int .i64 q.o, .int .i64 q.x, .int .i64 q.y, .slice A1 L.length a1]) := Bkk.new _
  have OA := Lib.hid (oa.below hba)
  have K2 := Lib.hid (K2.out.below hba)
  have F3 := Lib.hid (F3.out.below hba)
  have K4 := Lib.hid (K4.out.below hba)
  have Z := Lib.hid (Below.and Z.out hba)
  clear oa hba
  go_upto_region 4 with (fail)
  obtain ⟨p6, hp6⟩ : ∃ X, X = w2.heap.size := ⟨_, rfl⟩
  obtain ⟨wA, hwA⟩ : ∃ X, X = w2.alloc (.cells #[.int .i64 q.c, .int .i64 q.n, .int .i64 q.o, .int .i64 q.x, .int .i64 q.y, .slice A1 L.length a1] 27) := ⟨_, rfl⟩
  rw [← hwA] at K6 OA K2 F3 K4 Z ⊢
  clear hwA
  rw [← hp6] at K6 LZ ⊢
  clear hp6
  have p0 : wA.cell? ⟨w.heap.size, 0, none⟩ = some (.int .i64 q.c) := K2.out.cell 0
  have p1 : wA.cell? ⟨w.heap.size, 1, none⟩ = some (.int .i64 q.n) := K2.out.cell 1
  have p2 : wA.cell? ⟨w.heap.size, 2, none⟩ = some (.int .i64 q.o) := K2.out.cell 2
  have p3 : wA.cell? ⟨w.heap.size, 3, none⟩ = some (.int .i64 q.x) := K2.out.cell 3
  have p4 : wA.cell? ⟨w.heap.size, 4, none⟩ = some (.int .i64 q.y) := K2.out.cell 4
  have p5 : wA.cell? ⟨w.heap.size, 5, none⟩ = some (.slice A L.length a) := K2.out.cell 5
  have y0 : wA.cell? ⟨w.heap.size + 1, 0, none⟩ = some (.int .i64 r.f) := F3.out.cell 0
  have y1 : wA.cell? ⟨w.heap.size + 1, 1, none⟩ = some (.int .i64 r.n) := F3.out.cell 1
  have y2 : wA.cell? ⟨w.heap.size + 1, 2, none⟩ = some (.int .i64 r.c) := F3.out.cell 2
  have y3 : wA.cell? ⟨w.heap.size + 1, 3, none⟩ = some (.int .i64 r.s) := F3.out.cell 3
  go_wp2_with (fail)
  refine (implReplyOk r _).mono ?_
  rintro e w3 ⟨rfl, hb⟩
  have K2 := Lib.hid (K2.out.below hb)
  have F3 := Lib.hid (F3.out.below hb)
  have K4 := Lib.hid (K4.out.below hb)
  have Z := Lib.hid (Below.and Z.out hb)
  have K6 := Lib.hid (K6.out.below hb)
  have OA := Lib.hid (OA.out.below hb)
  clear p0 p1 p2 p3 p4 p5 y0 y1 y2 y3
  clear hb
  rcases h1 : rpB r with _ | _
  · skip
    have HX := Lib.hid (show hearP q L r = ((q, L), false) by unfold hearP; rw [HOK.out, h1]; rfl)
    have z0 : w3.cell? ⟨w.heap.size + 1 + 1, 0, none⟩ = some (.int .i64 0) := K4.out.cell 0
    have z1 : w3.cell? ⟨w.heap.size + 1 + 1, 1, none⟩ = some (.int .i64 0) := K4.out.cell 1
    have z2 : w3.cell? ⟨w.heap.size + 1 + 1, 2, none⟩ = some (.int .i64 0) := K4.out.cell 2
    have z3 : w3.cell? ⟨w.heap.size + 1 + 1, 3, none⟩ = some (.int .i64 0) := K4.out.cell 3
    have z4 : w3.cell? ⟨w.heap.size + 1 + 1, 4, none⟩ = some (.int .i64 0) := K4.out.cell 4
    have z5 : w3.cell? ⟨w.heap.size + 1 + 1, 5, none⟩ = some (.slice none 0 0) := K4.out.cell 5
    have zf := K4.out.frozen
    have lz := K4.out.lt
    have x0 : w3.cell? ⟨p6, 0, none⟩ = some (.int .i64 q.c) := K6.out.cell 0
    have x1 : w3.cell? ⟨p6, 1, none⟩ = some (.int .i64 q.n) := K6.out.cell 1
    have x2 : w3.cell? ⟨p6, 2, none⟩ = some (.int .i64 q.o) := K6.out.cell 2
    have x3 : w3.cell? ⟨p6, 3, none⟩ = some (.int .i64 q.x) := K6.out.cell 3
    have x4 : w3.cell? ⟨p6, 4, none⟩ = some (.int .i64 q.y) := K6.out.cell 4
    have x5 : w3.cell? ⟨p6, 5, none⟩ = some (.slice A1 L.length a1) := K6.out.cell 5
    have BG := Lib.hid (Below.setCell (Below.setCell (Below.setCell (Below.setCell (Below.setCell (Below.setCell Z.out (p := ⟨w.heap.size + 1 + 1, 0, none⟩) (by simp; omega) (.int .i64 q.c)) (p := ⟨w.heap.size + 1 + 1, 1, none⟩) (by simp; omega) (.int .i64 q.n)) (p := ⟨w.heap.size + 1 + 1, 2, none⟩) (by simp; omega) (.int .i64 q.o)) (p := ⟨w.heap.size + 1 + 1, 3, none⟩) (by simp; omega) (.int .i64 q.x)) (p := ⟨w.heap.size + 1 + 1, 4, none⟩) (by simp; omega) (.int .i64 q.y)) (p := ⟨w.heap.size + 1 + 1, 5, none⟩) (by simp; omega) (.slice A1 L.length a1))
    have OG := Lib.hid (((((((OA.out.put (q := w.heap.size + 1 + 1) (by omega) 0 (.int .i64 q.c)).put (q := w.heap.size + 1 + 1) (by omega) 1 (.int .i64 q.n)).put (q := w.heap.size + 1 + 1) (by omega) 2 (.int .i64 q.o)).put (q := w.heap.size + 1 + 1) (by omega) 3 (.int .i64 q.x)).put (q := w.heap.size + 1 + 1) (by omega) 4 (.int .i64 q.y)).put (q := w.heap.size + 1 + 1) (by omega) 5 (.slice A1 L.length a1)).base (lo := w.heap.size) (by omega))
    clear K4 Z
    go_wp2
    refine bodyPost_ret (v := .tuple #[playerV q A1 L.length a1, .bool false]) (by simp [results, Try.results11, go_sem, z0, z1, z2, z3, z4, z5, zf]) rfl ?_
    rw [HX.out]
    exact ⟨A1, a1, rfl, OG.out, BG.out⟩
  have p0 : w3.cell? ⟨w.heap.size, 0, none⟩ = some (.int .i64 q.c) := K2.out.cell 0
  have p1 : w3.cell? ⟨w.heap.size, 1, none⟩ = some (.int .i64 q.n) := K2.out.cell 1
  have p2 : w3.cell? ⟨w.heap.size, 2, none⟩ = some (.int .i64 q.o) := K2.out.cell 2
  have p3 : w3.cell? ⟨w.heap.size, 3, none⟩ = some (.int .i64 q.x) := K2.out.cell 3
  have p4 : w3.cell? ⟨w.heap.size, 4, none⟩ = some (.int .i64 q.y) := K2.out.cell 4
  have p5 : w3.cell? ⟨w.heap.size, 5, none⟩ = some (.slice A L.length a) := K2.out.cell 5
  have y0 : w3.cell? ⟨w.heap.size + 1, 0, none⟩ = some (.int .i64 r.f) := F3.out.cell 0
  have y1 : w3.cell? ⟨w.heap.size + 1, 1, none⟩ = some (.int .i64 r.n) := F3.out.cell 1
  have y2 : w3.cell? ⟨w.heap.size + 1, 2, none⟩ = some (.int .i64 r.c) := F3.out.cell 2
  have y3 : w3.cell? ⟨w.heap.size + 1, 3, none⟩ = some (.int .i64 r.s) := F3.out.cell 3
  rcases h2 : (r.n != q.n) with _ | _
  case true =>
    have HX := Lib.hid (show hearP q L r = ((q, L), false) by unfold hearP; rw [HOK.out, h1, h2]; rfl)
    have z0 : w3.cell? ⟨w.heap.size + 1 + 1, 0, none⟩ = some (.int .i64 0) := K4.out.cell 0
    have z1 : w3.cell? ⟨w.heap.size + 1 + 1, 1, none⟩ = some (.int .i64 0) := K4.out.cell 1
    have z2 : w3.cell? ⟨w.heap.size + 1 + 1, 2, none⟩ = some (.int .i64 0) := K4.out.cell 2
    have z3 : w3.cell? ⟨w.heap.size + 1 + 1, 3, none⟩ = some (.int .i64 0) := K4.out.cell 3
    have z4 : w3.cell? ⟨w.heap.size + 1 + 1, 4, none⟩ = some (.int .i64 0) := K4.out.cell 4
    have z5 : w3.cell? ⟨w.heap.size + 1 + 1, 5, none⟩ = some (.slice none 0 0) := K4.out.cell 5
    have zf := K4.out.frozen
    have lz := K4.out.lt
    have x0 : w3.cell? ⟨p6, 0, none⟩ = some (.int .i64 q.c) := K6.out.cell 0
    have x1 : w3.cell? ⟨p6, 1, none⟩ = some (.int .i64 q.n) := K6.out.cell 1
    have x2 : w3.cell? ⟨p6, 2, none⟩ = some (.int .i64 q.o) := K6.out.cell 2
    have x3 : w3.cell? ⟨p6, 3, none⟩ = some (.int .i64 q.x) := K6.out.cell 3
    have x4 : w3.cell? ⟨p6, 4, none⟩ = some (.int .i64 q.y) := K6.out.cell 4
    have x5 : w3.cell? ⟨p6, 5, none⟩ = some (.slice A1 L.length a1) := K6.out.cell 5
    have BG := Lib.hid (Below.setCell (Below.setCell (Below.setCell (Below.setCell (Below.setCell (Below.setCell Z.out (p := ⟨w.heap.size + 1 + 1, 0, none⟩) (by simp; omega) (.int .i64 q.c)) (p := ⟨w.heap.size + 1 + 1, 1, none⟩) (by simp; omega) (.int .i64 q.n)) (p := ⟨w.heap.size + 1 + 1, 2, none⟩) (by simp; omega) (.int .i64 q.o)) (p := ⟨w.heap.size + 1 + 1, 3, none⟩) (by simp; omega) (.int .i64 q.x)) (p := ⟨w.heap.size + 1 + 1, 4, none⟩) (by simp; omega) (.int .i64 q.y)) (p := ⟨w.heap.size + 1 + 1, 5, none⟩) (by simp; omega) (.slice A1 L.length a1))
    have OG := Lib.hid (((((((OA.out.put (q := w.heap.size + 1 + 1) (by omega) 0 (.int .i64 q.c)).put (q := w.heap.size + 1 + 1) (by omega) 1 (.int .i64 q.n)).put (q := w.heap.size + 1 + 1) (by omega) 2 (.int .i64 q.o)).put (q := w.heap.size + 1 + 1) (by omega) 3 (.int .i64 q.x)).put (q := w.heap.size + 1 + 1) (by omega) 4 (.int .i64 q.y)).put (q := w.heap.size + 1 + 1) (by omega) 5 (.slice A1 L.length a1)).base (lo := w.heap.size) (by omega))
    clear K4 Z
    go_wp2
    refine bodyPost_ret (v := .tuple #[playerV q A1 L.length a1, .bool false]) (by simp [results, Try.results11, go_sem, z0, z1, z2, z3, z4, z5, zf]) rfl ?_
    rw [HX.out]
    exact ⟨A1, a1, rfl, OG.out, BG.out⟩
  case false =>
    go_wp2_with (fail)
    refine (repliesFrom q A a L r.f _ hM (Rd.below HR.out.r Z.out)).mono ?_
    rintro e w4 ⟨rfl, hb⟩
    have K2 := Lib.hid (K2.out.below hb)
    have F3 := Lib.hid (F3.out.below hb)
    have K4 := Lib.hid (K4.out.below hb)
    have Z := Lib.hid (Below.and Z.out hb)
    have K6 := Lib.hid (K6.out.below hb)
    have OA := Lib.hid (OA.out.below hb)
    clear p0 p1 p2 p3 p4 p5 y0 y1 y2 y3
    clear hb
    obtain ⟨m, hm⟩ : ∃ m : Nat, m = L.countP (fromP r.f) := ⟨_, rfl⟩
    rw [← hm]
    by_cases h3 : (0 : Int) < (m : Int)
    · have H3 := Lib.hid (show decide ((0 : Int) < ((L.countP (fromP r.f) : Nat) : Int)) = true by rw [← hm]; exact decide_eq_true h3)
      clear hm
      have HX := Lib.hid (show hearP q L r = ((q, L), false) by unfold hearP; rw [HOK.out, h1, h2, H3.out]; rfl)
      have z0 : w4.cell? ⟨w.heap.size + 1 + 1, 0, none⟩ = some (.int .i64 0) := K4.out.cell 0
      have z1 : w4.cell? ⟨w.heap.size + 1 + 1, 1, none⟩ = some (.int .i64 0) := K4.out.cell 1
      have z2 : w4.cell? ⟨w.heap.size + 1 + 1, 2, none⟩ = some (.int .i64 0) := K4.out.cell 2
      have z3 : w4.cell? ⟨w.heap.size + 1 + 1, 3, none⟩ = some (.int .i64 0) := K4.out.cell 3
      have z4 : w4.cell? ⟨w.heap.size + 1 + 1, 4, none⟩ = some (.int .i64 0) := K4.out.cell 4
      have z5 : w4.cell? ⟨w.heap.size + 1 + 1, 5, none⟩ = some (.slice none 0 0) := K4.out.cell 5
      have zf := K4.out.frozen
      have lz := K4.out.lt
      have x0 : w4.cell? ⟨p6, 0, none⟩ = some (.int .i64 q.c) := K6.out.cell 0
      have x1 : w4.cell? ⟨p6, 1, none⟩ = some (.int .i64 q.n) := K6.out.cell 1
      have x2 : w4.cell? ⟨p6, 2, none⟩ = some (.int .i64 q.o) := K6.out.cell 2
      have x3 : w4.cell? ⟨p6, 3, none⟩ = some (.int .i64 q.x) := K6.out.cell 3
      have x4 : w4.cell? ⟨p6, 4, none⟩ = some (.int .i64 q.y) := K6.out.cell 4
      have x5 : w4.cell? ⟨p6, 5, none⟩ = some (.slice A1 L.length a1) := K6.out.cell 5
      have BG := Lib.hid (Below.setCell (Below.setCell (Below.setCell (Below.setCell (Below.setCell (Below.setCell Z.out (p := ⟨w.heap.size + 1 + 1, 0, none⟩) (by simp; omega) (.int .i64 q.c)) (p := ⟨w.heap.size + 1 + 1, 1, none⟩) (by simp; omega) (.int .i64 q.n)) (p := ⟨w.heap.size + 1 + 1, 2, none⟩) (by simp; omega) (.int .i64 q.o)) (p := ⟨w.heap.size + 1 + 1, 3, none⟩) (by simp; omega) (.int .i64 q.x)) (p := ⟨w.heap.size + 1 + 1, 4, none⟩) (by simp; omega) (.int .i64 q.y)) (p := ⟨w.heap.size + 1 + 1, 5, none⟩) (by simp; omega) (.slice A1 L.length a1))
      have OG := Lib.hid (((((((OA.out.put (q := w.heap.size + 1 + 1) (by omega) 0 (.int .i64 q.c)).put (q := w.heap.size + 1 + 1) (by omega) 1 (.int .i64 q.n)).put (q := w.heap.size + 1 + 1) (by omega) 2 (.int .i64 q.o)).put (q := w.heap.size + 1 + 1) (by omega) 3 (.int .i64 q.x)).put (q := w.heap.size + 1 + 1) (by omega) 4 (.int .i64 q.y)).put (q := w.heap.size + 1 + 1) (by omega) 5 (.slice A1 L.length a1)).base (lo := w.heap.size) (by omega))
      clear K4 Z
      go_wp2
      refine bodyPost_ret (v := .tuple #[playerV q A1 L.length a1, .bool false]) (by simp [results, Try.results11, go_sem, z0, z1, z2, z3, z4, z5, zf]) rfl ?_
      rw [HX.out]
      exact ⟨A1, a1, rfl, OG.out, BG.out⟩
    · have H3 := Lib.hid (show decide ((0 : Int) < ((L.countP (fromP r.f) : Nat) : Int)) = false by rw [← hm]; exact decide_eq_false h3)
      clear hm
      have HX := Lib.hid (show hearP q L r = ((q, L ++ [r]), true) by unfold hearP; rw [HOK.out, h1, h2, H3.out]; rfl)
      have hba : Below w4.heap.size w4 (w4.alloc (.cells #[.int .i64 r.f, .int .i64 r.n, .int .i64 r.c, .int .i64 r.s] 29)) := (Below.refl _ _).alloc (Nat.le_refl _) _
      have OB := Lib.hid (OA.out.below hba)
      have HRd := Lib.hid (rp_one w4 29 r)
      have lo3 : w.heap.size + 3 ≤ w4.heap.size := by have := LZ.out; have := K6.out.lt; omega
      have p0 : w4.cell? ⟨w.heap.size, 0, none⟩ = some (.int .i64 q.c) := K2.out.cell 0
      have p1 : w4.cell? ⟨w.heap.size, 1, none⟩ = some (.int .i64 q.n) := K2.out.cell 1
      have p2 : w4.cell? ⟨w.heap.size, 2, none⟩ = some (.int .i64 q.o) := K2.out.cell 2
      have p3 : w4.cell? ⟨w.heap.size, 3, none⟩ = some (.int .i64 q.x) := K2.out.cell 3
      have p4 : w4.cell? ⟨w.heap.size, 4, none⟩ = some (.int .i64 q.y) := K2.out.cell 4
      have p5 : w4.cell? ⟨w.heap.size, 5, none⟩ = some (.slice A L.length a) := K2.out.cell 5
      have y0 : w4.cell? ⟨w.heap.size + 1, 0, none⟩ = some (.int .i64 r.f) := F3.out.cell 0
      have y1 : w4.cell? ⟨w.heap.size + 1, 1, none⟩ = some (.int .i64 r.n) := F3.out.cell 1
      have y2 : w4.cell? ⟨w.heap.size + 1, 2, none⟩ = some (.int .i64 r.c) := F3.out.cell 2
      have y3 : w4.cell? ⟨w.heap.size + 1, 3, none⟩ = some (.int .i64 r.s) := F3.out.cell 3
      have x0 : w4.cell? ⟨p6, 0, none⟩ = some (.int .i64 q.c) := K6.out.cell 0
      have x1 : w4.cell? ⟨p6, 1, none⟩ = some (.int .i64 q.n) := K6.out.cell 1
      have x2 : w4.cell? ⟨p6, 2, none⟩ = some (.int .i64 q.o) := K6.out.cell 2
      have x3 : w4.cell? ⟨p6, 3, none⟩ = some (.int .i64 q.x) := K6.out.cell 3
      have x4 : w4.cell? ⟨p6, 4, none⟩ = some (.int .i64 q.y) := K6.out.cell 4
      have x5 : w4.cell? ⟨p6, 5, none⟩ = some (.slice A1 L.length a1) := K6.out.cell 5
      have l6 := K6.out.lt
      have l3 := F3.out.lt
      go_wp2_with (at_builtin; go_loud (refine list_app (f := Rp.cells) (fun _ => rfl) rfl _ _ 25 rfl (w.heap.size + 3) 29 I (.agg #[.int .i64 0, .int .i64 0, .int .i64 0, .int .i64 0]) 32 Try.underlying25 I1.out I2.out I3.out I4.out rfl (by decide) _ L.length (L.flatMap Rp.cells) rfl OB.out _ _ 1 [r] rfl rfl HRd.out (fun h => by cases h) (reps_one _) (by unfold maxLen; omega) (by omega) (Nat.le_trans lo3 hba.size) ?_))
      intro v5 w5 ho hg hp
      clear p0 p1 p2 p3 p4 p5 y0 y1 y2 y3
      clear x0 x1 x2 x3 x4 x5
      have K2 := Lib.hid (K2.out.below hba)
      have F3 := Lib.hid (F3.out.below hba)
      have K4 := Lib.hid (K4.out.below hba)
      have K6 := Lib.hid (K6.out.below hba)
      have Z := Lib.hid (Below.and Z.out hba)
      have bt := fun x hx => own_block_ge (show World.ownsRow _ _ _ _ _ _ _ from OB.out) x hx
      have K2 := Lib.hid (K2.out.grown hg (fun e => by have := (bt _ e.symm).1; omega))
      have F3 := Lib.hid (F3.out.grown hg (fun e => by have := (bt _ e.symm).1; omega))
      have K4 := Lib.hid (K4.out.grown hg (fun e => by have := (bt _ e.symm).1; omega))
      have K6 := Lib.hid (K6.out.grown hg (fun e => OB.out.apart K6.out (by decide) e.symm))
      have Z := Lib.hid (Z.out.grown hg Z.out.size (fun q hq => by have := (bt _ hq).1; omega))
      obtain ⟨A5, a5, rfl, oa⟩ := OwL.push ho
      clear ho hg hp hba bt OB HRd OA lo3 l6 l3
      obtain ⟨L5, hL5⟩ : ∃ X, X = L ++ [r] := ⟨_, rfl⟩
      rw [← hL5] at oa HX ⊢
      clear hL5
      have OA := Lib.hid oa
      clear oa
      have x0 : w5.cell? ⟨p6, 0, none⟩ = some (.int .i64 q.c) := K6.out.cell 0
      have x1 : w5.cell? ⟨p6, 1, none⟩ = some (.int .i64 q.n) := K6.out.cell 1
      have x2 : w5.cell? ⟨p6, 2, none⟩ = some (.int .i64 q.o) := K6.out.cell 2
      have x3 : w5.cell? ⟨p6, 3, none⟩ = some (.int .i64 q.x) := K6.out.cell 3
      have x4 : w5.cell? ⟨p6, 4, none⟩ = some (.int .i64 q.y) := K6.out.cell 4
      have x5 : w5.cell? ⟨p6, 5, none⟩ = some (.slice A1 L.length a1) := K6.out.cell 5
      have xf := K6.out.frozen
      have l6 := K6.out.lt
      go_upto_region 7 with (fail)
      have lp6 := LZ.out
      have K4 : Hid (Bkk (w5.setCell ⟨p6, 5, none⟩ (.slice A5 L5.length a5)) (w.heap.size + 1 + 1) 27 #[.int .i64 0, .int .i64 0, .int .i64 0, .int .i64 0, .int .i64 0, .slice none 0 0]) := K4.out.far (show w.heap.size + 1 + 1 ≠ p6 by omega) 5 (.slice A5 L5.length a5)
      have OA := Lib.hid (OA.out.box K6.out (by decide) 5 (.slice A5 L5.length a5))
      have K6 : Hid (Bkk (w5.setCell ⟨p6, 5, none⟩ (.slice A5 L5.length a5)) p6 27 #[.int .i64 q.c, .int .i64 q.n, .int .i64 q.o, .int .i64 q.x, .int .i64 q.y, .slice A5 L5.length a5]) := K6.out.set 5 (.slice A5 L5.length a5)
      have Z := Lib.hid (Z.out.setCell (p := ⟨p6, 5, none⟩) (by simp; omega) (.slice A5 L5.length a5))
      clear x0 x1 x2 x3 x4 x5 xf l6
      obtain ⟨w6, hw6⟩ : ∃ X, X = (w5.setCell ⟨p6, 5, none⟩ (.slice A5 L5.length a5)) := ⟨_, rfl⟩
      rw [← hw6] at K4 OA K6 Z ⊢
      clear hw6
      have x0 : w6.cell? ⟨p6, 0, none⟩ = some (.int .i64 q.c) := K6.out.cell 0
      have x1 : w6.cell? ⟨p6, 1, none⟩ = some (.int .i64 q.n) := K6.out.cell 1
      have x2 : w6.cell? ⟨p6, 2, none⟩ = some (.int .i64 q.o) := K6.out.cell 2
      have x3 : w6.cell? ⟨p6, 3, none⟩ = some (.int .i64 q.x) := K6.out.cell 3
      have x4 : w6.cell? ⟨p6, 4, none⟩ = some (.int .i64 q.y) := K6.out.cell 4
      have x5 : w6.cell? ⟨p6, 5, none⟩ = some (.slice A5 L5.length a5) := K6.out.cell 5
      have z0 : w6.cell? ⟨w.heap.size + 1 + 1, 0, none⟩ = some (.int .i64 0) := K4.out.cell 0
      have z1 : w6.cell? ⟨w.heap.size + 1 + 1, 1, none⟩ = some (.int .i64 0) := K4.out.cell 1
      have z2 : w6.cell? ⟨w.heap.size + 1 + 1, 2, none⟩ = some (.int .i64 0) := K4.out.cell 2
      have z3 : w6.cell? ⟨w.heap.size + 1 + 1, 3, none⟩ = some (.int .i64 0) := K4.out.cell 3
      have z4 : w6.cell? ⟨w.heap.size + 1 + 1, 4, none⟩ = some (.int .i64 0) := K4.out.cell 4
      have z5 : w6.cell? ⟨w.heap.size + 1 + 1, 5, none⟩ = some (.slice none 0 0) := K4.out.cell 5
      have zf := K4.out.frozen
      have lz := K4.out.lt
      have BG := Lib.hid (Below.setCell (Below.setCell (Below.setCell (Below.setCell (Below.setCell (Below.setCell Z.out (p := ⟨w.heap.size + 1 + 1, 0, none⟩) (by simp; omega) (.int .i64 q.c)) (p := ⟨w.heap.size + 1 + 1, 1, none⟩) (by simp; omega) (.int .i64 q.n)) (p := ⟨w.heap.size + 1 + 1, 2, none⟩) (by simp; omega) (.int .i64 q.o)) (p := ⟨w.heap.size + 1 + 1, 3, none⟩) (by simp; omega) (.int .i64 q.x)) (p := ⟨w.heap.size + 1 + 1, 4, none⟩) (by simp; omega) (.int .i64 q.y)) (p := ⟨w.heap.size + 1 + 1, 5, none⟩) (by simp; omega) (.slice A5 L5.length a5))
      have OG := Lib.hid (((((((OA.out.put (q := w.heap.size + 1 + 1) (by omega) 0 (.int .i64 q.c)).put (q := w.heap.size + 1 + 1) (by omega) 1 (.int .i64 q.n)).put (q := w.heap.size + 1 + 1) (by omega) 2 (.int .i64 q.o)).put (q := w.heap.size + 1 + 1) (by omega) 3 (.int .i64 q.x)).put (q := w.heap.size + 1 + 1) (by omega) 4 (.int .i64 q.y)).put (q := w.heap.size + 1 + 1) (by omega) 5 (.slice A5 L5.length a5)).base (lo := w.heap.size) (by omega))
      clear K4 Z
      go_wp2
      refine bodyPost_ret (v := .tuple #[playerV q A5 L5.length a5, .bool true]) (by simp [results, Try.results11, go_sem, z0, z1, z2, z3, z4, z5, zf]) rfl ?_
      rw [HX.out]
      exact ⟨A5, a5, rfl, OG.out, BG.out⟩

set_option maxRecDepth 100000 in
set_option maxHeartbeats 4000000 in
theorem specPlayerHear (q : Rq) (A : Option Addr) (a : Nat) (L : List Rp) (r : Rp) (w : World) (hL : L.length ≤ 2097152) (hr : RdP w A a L) :
    Calls Try.prog 12 #[playerV q A L.length a, r.val] w (DoPl (hearP q L r) w) := by
  obtain ⟨I, hi, hz0, hz1, hz2⟩ := parts_ofH infoReply
  have I1 := Lib.hid hi
  have I2 := Lib.hid hz0
  have I3 := Lib.hid hz1
  have I4 := Lib.hid hz2
  clear hi hz0 hz1 hz2
  have HR := Lib.hid hr
  have hM : L.length ≤ maxLen := by unfold maxLen; omega
  have K2 : Hid (Bkk (((w.alloc (.cells #[.int .i64 q.c, .int .i64 q.n, .int .i64 q.o, .int .i64 q.x, .int .i64 q.y, .slice A L.length a] 27)).alloc (.cells #[.int .i64 r.f, .int .i64 r.n, .int .i64 r.c, .int .i64 r.s] 29)).alloc (.cells #[.int .i64 0, .int .i64 0, .int .i64 0, .int .i64 0, .int .i64 0, .slice none 0 0] 27)) w.heap.size 27 #[.int .i64 q.c, .int .i64 q.n, .int .i64 q.o, .int .i64 q.x, .int .i64 q.y, .slice A L.length a]) := ((Bkk.new (cs := #[.int .i64 q.c, .int .i64 q.n, .int .i64 q.o, .int .i64 q.x, .int .i64 q.y, .slice A L.length a]) (t := 27) w).alloc _).alloc _
  have F3 : Hid (Bkk (((w.alloc (.cells #[.int .i64 q.c, .int .i64 q.n, .int .i64 q.o, .int .i64 q.x, .int .i64 q.y, .slice A L.length a] 27)).alloc (.cells #[.int .i64 r.f, .int .i64 r.n, .int .i64 r.c, .int .i64 r.s] 29)).alloc (.cells #[.int .i64 0, .int .i64 0, .int .i64 0, .int .i64 0, .int .i64 0, .slice none 0 0] 27)) (w.heap.size + 1) 29 #[.int .i64 r.f, .int .i64 r.n, .int .i64 r.c, .int .i64 r.s]) := by have := (Bkk.new (cs := #[.int .i64 r.f, .int .i64 r.n, .int .i64 r.c, .int .i64 r.s]) (t := 29) (w.alloc (.cells #[.int .i64 q.c, .int .i64 q.n, .int .i64 q.o, .int .i64 q.x, .int .i64 q.y, .slice A L.length a] 27))).alloc (.cells #[.int .i64 0, .int .i64 0, .int .i64 0, .int .i64 0, .int .i64 0, .slice none 0 0] 27); simpa [Hid] using this
  have K4 : Hid (Bkk (((w.alloc (.cells #[.int .i64 q.c, .int .i64 q.n, .int .i64 q.o, .int .i64 q.x, .int .i64 q.y, .slice A L.length a] 27)).alloc (.cells #[.int .i64 r.f, .int .i64 r.n, .int .i64 r.c, .int .i64 r.s] 29)).alloc (.cells #[.int .i64 0, .int .i64 0, .int .i64 0, .int .i64 0, .int .i64 0, .slice none 0 0] 27)) (w.heap.size + 1 + 1) 27 #[.int .i64 0, .int .i64 0, .int .i64 0, .int .i64 0, .int .i64 0, .slice none 0 0]) := by have := Bkk.new (cs := #[.int .i64 0, .int .i64 0, .int .i64 0, .int .i64 0, .int .i64 0, .slice none 0 0]) (t := 27) ((w.alloc (.cells #[.int .i64 q.c, .int .i64 q.n, .int .i64 q.o, .int .i64 q.x, .int .i64 q.y, .slice A L.length a] 27)).alloc (.cells #[.int .i64 r.f, .int .i64 r.n, .int .i64 r.c, .int .i64 r.s] 29)); simpa [Hid] using this
  have Z : Hid (Below w.heap.size w (((w.alloc (.cells #[.int .i64 q.c, .int .i64 q.n, .int .i64 q.o, .int .i64 q.x, .int .i64 q.y, .slice A L.length a] 27)).alloc (.cells #[.int .i64 r.f, .int .i64 r.n, .int .i64 r.c, .int .i64 r.s] 29)).alloc (.cells #[.int .i64 0, .int .i64 0, .int .i64 0, .int .i64 0, .int .i64 0, .slice none 0 0] 27))) := (below_alloc2 w _ _).alloc (by simp; omega) _
  have LZ : Hid (w.heap.size + 3 ≤ (((w.alloc (.cells #[.int .i64 q.c, .int .i64 q.n, .int .i64 q.o, .int .i64 q.x, .int .i64 q.y, .slice A L.length a] 27)).alloc (.cells #[.int .i64 r.f, .int .i64 r.n, .int .i64 r.c, .int .i64 r.s] 29)).alloc (.cells #[.int .i64 0, .int .i64 0, .int .i64 0, .int .i64 0, .int .i64 0, .slice none 0 0] 27)).heap.size) := by show _ ≤ _; simp
  clear hr
  go_enter Try.func12, Try.ntmps12
  go_upto_region 1 with (fail)
  obtain ⟨w0, hw0⟩ : ∃ X, X = (((w.alloc (.cells #[.int .i64 q.c, .int .i64 q.n, .int .i64 q.o, .int .i64 q.x, .int .i64 q.y, .slice A L.length a] 27)).alloc (.cells #[.int .i64 r.f, .int .i64 r.n, .int .i64 r.c, .int .i64 r.s] 29)).alloc (.cells #[.int .i64 0, .int .i64 0, .int .i64 0, .int .i64 0, .int .i64 0, .slice none 0 0] 27)) := ⟨_, rfl⟩
  rw [← hw0] at K2 F3 K4 Z LZ ⊢
  clear hw0
  have p0 : w0.cell? ⟨w.heap.size, 0, none⟩ = some (.int .i64 q.c) := K2.out.cell 0
  have p1 : w0.cell? ⟨w.heap.size, 1, none⟩ = some (.int .i64 q.n) := K2.out.cell 1
  have p2 : w0.cell? ⟨w.heap.size, 2, none⟩ = some (.int .i64 q.o) := K2.out.cell 2
  have p3 : w0.cell? ⟨w.heap.size, 3, none⟩ = some (.int .i64 q.x) := K2.out.cell 3
  have p4 : w0.cell? ⟨w.heap.size, 4, none⟩ = some (.int .i64 q.y) := K2.out.cell 4
  have p5 : w0.cell? ⟨w.heap.size, 5, none⟩ = some (.slice A L.length a) := K2.out.cell 5
  have y0 : w0.cell? ⟨w.heap.size + 1, 0, none⟩ = some (.int .i64 r.f) := F3.out.cell 0
  have y1 : w0.cell? ⟨w.heap.size + 1, 1, none⟩ = some (.int .i64 r.n) := F3.out.cell 1
  have y2 : w0.cell? ⟨w.heap.size + 1, 2, none⟩ = some (.int .i64 r.c) := F3.out.cell 2
  have y3 : w0.cell? ⟨w.heap.size + 1, 3, none⟩ = some (.int .i64 r.s) := F3.out.cell 3
  go_wp2_with (fail)
  refine (l11Ok q A a L _ hM (Rd.below HR.out.r Z.out)).mono ?_
  rintro e w1 ⟨rfl, hb⟩
  have K2 := Lib.hid (K2.out.below hb)
  have F3 := Lib.hid (F3.out.below hb)
  have K4 := Lib.hid (K4.out.below hb)
  have Z := Lib.hid (Below.and Z.out hb)
  have LZ := Lib.hid (Nat.le_trans LZ.out hb.size)
  clear p0 p1 p2 p3 p4 p5 y0 y1 y2 y3
  clear hb
  rcases hok : plB q L with _ | _
  · have HX := Lib.hid (show hearP q L r = ((⟨0, 0, 0, 0, 0⟩, []), false) by unfold hearP; rw [hok]; rfl)
    clear hok
    have z0 : w1.cell? ⟨w.heap.size + 1 + 1, 0, none⟩ = some (.int .i64 0) := K4.out.cell 0
    have z1 : w1.cell? ⟨w.heap.size + 1 + 1, 1, none⟩ = some (.int .i64 0) := K4.out.cell 1
    have z2 : w1.cell? ⟨w.heap.size + 1 + 1, 2, none⟩ = some (.int .i64 0) := K4.out.cell 2
    have z3 : w1.cell? ⟨w.heap.size + 1 + 1, 3, none⟩ = some (.int .i64 0) := K4.out.cell 3
    have z4 : w1.cell? ⟨w.heap.size + 1 + 1, 4, none⟩ = some (.int .i64 0) := K4.out.cell 4
    have z5 : w1.cell? ⟨w.heap.size + 1 + 1, 5, none⟩ = some (.slice none 0 0) := K4.out.cell 5
    have zf := K4.out.frozen
    have lz := K4.out.lt
    have BG := Lib.hid (Below.setCell (Below.setCell (Below.setCell (Below.setCell (Below.setCell (Below.setCell Z.out (p := ⟨w.heap.size + 1 + 1, 0, none⟩) (by simp; omega) (.int .i64 0)) (p := ⟨w.heap.size + 1 + 1, 1, none⟩) (by simp; omega) (.int .i64 0)) (p := ⟨w.heap.size + 1 + 1, 2, none⟩) (by simp; omega) (.int .i64 0)) (p := ⟨w.heap.size + 1 + 1, 3, none⟩) (by simp; omega) (.int .i64 0)) (p := ⟨w.heap.size + 1 + 1, 4, none⟩) (by simp; omega) (.int .i64 0)) (p := ⟨w.heap.size + 1 + 1, 5, none⟩) (by simp; omega) (.slice none 0 0))
    clear K4 Z
    go_wp2
    refine bodyPost_ret (v := .tuple #[playerV ⟨0, 0, 0, 0, 0⟩ none 0 0, .bool false]) (by simp [results, Try.results12, go_sem, z0, z1, z2, z3, z4, z5, zf]) rfl ?_
    rw [HX.out]
    exact ⟨none, 0, rfl, OwL.nil _ _, BG.out⟩
  have HOK := Lib.hid hok
  clear hok
  have p0 : w1.cell? ⟨w.heap.size, 0, none⟩ = some (.int .i64 q.c) := K2.out.cell 0
  have p1 : w1.cell? ⟨w.heap.size, 1, none⟩ = some (.int .i64 q.n) := K2.out.cell 1
  have p2 : w1.cell? ⟨w.heap.size, 2, none⟩ = some (.int .i64 q.o) := K2.out.cell 2
  have p3 : w1.cell? ⟨w.heap.size, 3, none⟩ = some (.int .i64 q.x) := K2.out.cell 3
  have p4 : w1.cell? ⟨w.heap.size, 4, none⟩ = some (.int .i64 q.y) := K2.out.cell 4
  have p5 : w1.cell? ⟨w.heap.size, 5, none⟩ = some (.slice A L.length a) := K2.out.cell 5
  have y0 : w1.cell? ⟨w.heap.size + 1, 0, none⟩ = some (.int .i64 r.f) := F3.out.cell 0
  have y1 : w1.cell? ⟨w.heap.size + 1, 1, none⟩ = some (.int .i64 r.n) := F3.out.cell 1
  have y2 : w1.cell? ⟨w.heap.size + 1, 2, none⟩ = some (.int .i64 r.c) := F3.out.cell 2
  have y3 : w1.cell? ⟨w.heap.size + 1, 3, none⟩ = some (.int .i64 r.s) := F3.out.cell 3
  go_wp2_with (fail)
  refine (l11Copy q A a L _ hL (HR.out.below Z.out)).mono ?_
  have LZ1 := LZ.out
  rintro e w2 ⟨A1, a1, rfl, oa, hb⟩
  have K2 := Lib.hid (K2.out.below hb)
  have F3 := Lib.hid (F3.out.below hb)
  have K4 := Lib.hid (K4.out.below hb)
  have Z := Lib.hid (Below.and Z.out hb)
  have LZ := Lib.hid (Nat.le_trans LZ.out hb.size)
  have oa := oa.base (lo := w.heap.size + 3) LZ1
  clear p0 p1 p2 p3 p4 p5 y0 y1 y2 y3
  clear hb LZ1
  have hba : Below w2.heap.size w2 (w2.alloc (.cells #[.int .i64 q.c, .int .i64 q.n, .int .i64 q.o, .int .i64 q.x, .int .i64 q.y, .slice A1 L.length a1] 27)) := (Below.refl _ _).alloc (Nat.le_refl _) _
  have K6 : Hid (Bkk (w2.alloc (.cells #[.int .i64 q.c, .int .i64 q.n, .int .i64 q.o, .int .i64 q.x, .int .i64 q.y, .slice A1 L.length a1] 27)) w2.heap.size 27 #[.int .i64 q.c, .int .i64 q.n, .int .i64 q.o, .int .i64 q.x, .int .i64 q.y, .slice A1 L.length a1]) := Bkk.new _
  have OA := Lib.hid (oa.below hba)
  have K2 := Lib.hid (K2.out.below hba)
  have F3 := Lib.hid (F3.out.below hba)
  have K4 := Lib.hid (K4.out.below hba)
  have Z := Lib.hid (Below.and Z.out hba)
  clear oa hba
  go_upto_region 4 with (fail)
  obtain ⟨p6, hp6⟩ : ∃ X, X = w2.heap.size := ⟨_, rfl⟩
  obtain ⟨wA, hwA⟩ : ∃ X, X = w2.alloc (.cells #[.int .i64 q.c, .int .i64 q.n, .int .i64 q.o, .int .i64 q.x, .int .i64 q.y, .slice A1 L.length a1] 27) := ⟨_, rfl⟩
  rw [← hwA] at K6 OA K2 F3 K4 Z ⊢
  clear hwA
  rw [← hp6] at K6 LZ ⊢
  clear hp6
  have p0 : wA.cell? ⟨w.heap.size, 0, none⟩ = some (.int .i64 q.c) := K2.out.cell 0
  have p1 : wA.cell? ⟨w.heap.size, 1, none⟩ = some (.int .i64 q.n) := K2.out.cell 1
  have p2 : wA.cell? ⟨w.heap.size, 2, none⟩ = some (.int .i64 q.o) := K2.out.cell 2
  have p3 : wA.cell? ⟨w.heap.size, 3, none⟩ = some (.int .i64 q.x) := K2.out.cell 3
  have p4 : wA.cell? ⟨w.heap.size, 4, none⟩ = some (.int .i64 q.y) := K2.out.cell 4
  have p5 : wA.cell? ⟨w.heap.size, 5, none⟩ = some (.slice A L.length a) := K2.out.cell 5
  have y0 : wA.cell? ⟨w.heap.size + 1, 0, none⟩ = some (.int .i64 r.f) := F3.out.cell 0
  have y1 : wA.cell? ⟨w.heap.size + 1, 1, none⟩ = some (.int .i64 r.n) := F3.out.cell 1
  have y2 : wA.cell? ⟨w.heap.size + 1, 2, none⟩ = some (.int .i64 r.c) := F3.out.cell 2
  have y3 : wA.cell? ⟨w.heap.size + 1, 3, none⟩ = some (.int .i64 r.s) := F3.out.cell 3
  go_wp2_with (fail)
  refine (specReplyOk r _).mono ?_
  rintro e w3 ⟨rfl, hb⟩
  have K2 := Lib.hid (K2.out.below hb)
  have F3 := Lib.hid (F3.out.below hb)
  have K4 := Lib.hid (K4.out.below hb)
  have Z := Lib.hid (Below.and Z.out hb)
  have K6 := Lib.hid (K6.out.below hb)
  have OA := Lib.hid (OA.out.below hb)
  clear p0 p1 p2 p3 p4 p5 y0 y1 y2 y3
  clear hb
  rcases h1 : rpB r with _ | _
  · skip
    have HX := Lib.hid (show hearP q L r = ((q, L), false) by unfold hearP; rw [HOK.out, h1]; rfl)
    have z0 : w3.cell? ⟨w.heap.size + 1 + 1, 0, none⟩ = some (.int .i64 0) := K4.out.cell 0
    have z1 : w3.cell? ⟨w.heap.size + 1 + 1, 1, none⟩ = some (.int .i64 0) := K4.out.cell 1
    have z2 : w3.cell? ⟨w.heap.size + 1 + 1, 2, none⟩ = some (.int .i64 0) := K4.out.cell 2
    have z3 : w3.cell? ⟨w.heap.size + 1 + 1, 3, none⟩ = some (.int .i64 0) := K4.out.cell 3
    have z4 : w3.cell? ⟨w.heap.size + 1 + 1, 4, none⟩ = some (.int .i64 0) := K4.out.cell 4
    have z5 : w3.cell? ⟨w.heap.size + 1 + 1, 5, none⟩ = some (.slice none 0 0) := K4.out.cell 5
    have zf := K4.out.frozen
    have lz := K4.out.lt
    have x0 : w3.cell? ⟨p6, 0, none⟩ = some (.int .i64 q.c) := K6.out.cell 0
    have x1 : w3.cell? ⟨p6, 1, none⟩ = some (.int .i64 q.n) := K6.out.cell 1
    have x2 : w3.cell? ⟨p6, 2, none⟩ = some (.int .i64 q.o) := K6.out.cell 2
    have x3 : w3.cell? ⟨p6, 3, none⟩ = some (.int .i64 q.x) := K6.out.cell 3
    have x4 : w3.cell? ⟨p6, 4, none⟩ = some (.int .i64 q.y) := K6.out.cell 4
    have x5 : w3.cell? ⟨p6, 5, none⟩ = some (.slice A1 L.length a1) := K6.out.cell 5
    have BG := Lib.hid (Below.setCell (Below.setCell (Below.setCell (Below.setCell (Below.setCell (Below.setCell Z.out (p := ⟨w.heap.size + 1 + 1, 0, none⟩) (by simp; omega) (.int .i64 q.c)) (p := ⟨w.heap.size + 1 + 1, 1, none⟩) (by simp; omega) (.int .i64 q.n)) (p := ⟨w.heap.size + 1 + 1, 2, none⟩) (by simp; omega) (.int .i64 q.o)) (p := ⟨w.heap.size + 1 + 1, 3, none⟩) (by simp; omega) (.int .i64 q.x)) (p := ⟨w.heap.size + 1 + 1, 4, none⟩) (by simp; omega) (.int .i64 q.y)) (p := ⟨w.heap.size + 1 + 1, 5, none⟩) (by simp; omega) (.slice A1 L.length a1))
    have OG := Lib.hid (((((((OA.out.put (q := w.heap.size + 1 + 1) (by omega) 0 (.int .i64 q.c)).put (q := w.heap.size + 1 + 1) (by omega) 1 (.int .i64 q.n)).put (q := w.heap.size + 1 + 1) (by omega) 2 (.int .i64 q.o)).put (q := w.heap.size + 1 + 1) (by omega) 3 (.int .i64 q.x)).put (q := w.heap.size + 1 + 1) (by omega) 4 (.int .i64 q.y)).put (q := w.heap.size + 1 + 1) (by omega) 5 (.slice A1 L.length a1)).base (lo := w.heap.size) (by omega))
    clear K4 Z
    go_wp2
    refine bodyPost_ret (v := .tuple #[playerV q A1 L.length a1, .bool false]) (by simp [results, Try.results12, go_sem, z0, z1, z2, z3, z4, z5, zf]) rfl ?_
    rw [HX.out]
    exact ⟨A1, a1, rfl, OG.out, BG.out⟩
  have p0 : w3.cell? ⟨w.heap.size, 0, none⟩ = some (.int .i64 q.c) := K2.out.cell 0
  have p1 : w3.cell? ⟨w.heap.size, 1, none⟩ = some (.int .i64 q.n) := K2.out.cell 1
  have p2 : w3.cell? ⟨w.heap.size, 2, none⟩ = some (.int .i64 q.o) := K2.out.cell 2
  have p3 : w3.cell? ⟨w.heap.size, 3, none⟩ = some (.int .i64 q.x) := K2.out.cell 3
  have p4 : w3.cell? ⟨w.heap.size, 4, none⟩ = some (.int .i64 q.y) := K2.out.cell 4
  have p5 : w3.cell? ⟨w.heap.size, 5, none⟩ = some (.slice A L.length a) := K2.out.cell 5
  have y0 : w3.cell? ⟨w.heap.size + 1, 0, none⟩ = some (.int .i64 r.f) := F3.out.cell 0
  have y1 : w3.cell? ⟨w.heap.size + 1, 1, none⟩ = some (.int .i64 r.n) := F3.out.cell 1
  have y2 : w3.cell? ⟨w.heap.size + 1, 2, none⟩ = some (.int .i64 r.c) := F3.out.cell 2
  have y3 : w3.cell? ⟨w.heap.size + 1, 3, none⟩ = some (.int .i64 r.s) := F3.out.cell 3
  rcases h2 : (r.n != q.n) with _ | _
  case true =>
    have HX := Lib.hid (show hearP q L r = ((q, L), false) by unfold hearP; rw [HOK.out, h1, h2]; rfl)
    have z0 : w3.cell? ⟨w.heap.size + 1 + 1, 0, none⟩ = some (.int .i64 0) := K4.out.cell 0
    have z1 : w3.cell? ⟨w.heap.size + 1 + 1, 1, none⟩ = some (.int .i64 0) := K4.out.cell 1
    have z2 : w3.cell? ⟨w.heap.size + 1 + 1, 2, none⟩ = some (.int .i64 0) := K4.out.cell 2
    have z3 : w3.cell? ⟨w.heap.size + 1 + 1, 3, none⟩ = some (.int .i64 0) := K4.out.cell 3
    have z4 : w3.cell? ⟨w.heap.size + 1 + 1, 4, none⟩ = some (.int .i64 0) := K4.out.cell 4
    have z5 : w3.cell? ⟨w.heap.size + 1 + 1, 5, none⟩ = some (.slice none 0 0) := K4.out.cell 5
    have zf := K4.out.frozen
    have lz := K4.out.lt
    have x0 : w3.cell? ⟨p6, 0, none⟩ = some (.int .i64 q.c) := K6.out.cell 0
    have x1 : w3.cell? ⟨p6, 1, none⟩ = some (.int .i64 q.n) := K6.out.cell 1
    have x2 : w3.cell? ⟨p6, 2, none⟩ = some (.int .i64 q.o) := K6.out.cell 2
    have x3 : w3.cell? ⟨p6, 3, none⟩ = some (.int .i64 q.x) := K6.out.cell 3
    have x4 : w3.cell? ⟨p6, 4, none⟩ = some (.int .i64 q.y) := K6.out.cell 4
    have x5 : w3.cell? ⟨p6, 5, none⟩ = some (.slice A1 L.length a1) := K6.out.cell 5
    have BG := Lib.hid (Below.setCell (Below.setCell (Below.setCell (Below.setCell (Below.setCell (Below.setCell Z.out (p := ⟨w.heap.size + 1 + 1, 0, none⟩) (by simp; omega) (.int .i64 q.c)) (p := ⟨w.heap.size + 1 + 1, 1, none⟩) (by simp; omega) (.int .i64 q.n)) (p := ⟨w.heap.size + 1 + 1, 2, none⟩) (by simp; omega) (.int .i64 q.o)) (p := ⟨w.heap.size + 1 + 1, 3, none⟩) (by simp; omega) (.int .i64 q.x)) (p := ⟨w.heap.size + 1 + 1, 4, none⟩) (by simp; omega) (.int .i64 q.y)) (p := ⟨w.heap.size + 1 + 1, 5, none⟩) (by simp; omega) (.slice A1 L.length a1))
    have OG := Lib.hid (((((((OA.out.put (q := w.heap.size + 1 + 1) (by omega) 0 (.int .i64 q.c)).put (q := w.heap.size + 1 + 1) (by omega) 1 (.int .i64 q.n)).put (q := w.heap.size + 1 + 1) (by omega) 2 (.int .i64 q.o)).put (q := w.heap.size + 1 + 1) (by omega) 3 (.int .i64 q.x)).put (q := w.heap.size + 1 + 1) (by omega) 4 (.int .i64 q.y)).put (q := w.heap.size + 1 + 1) (by omega) 5 (.slice A1 L.length a1)).base (lo := w.heap.size) (by omega))
    clear K4 Z
    go_wp2
    refine bodyPost_ret (v := .tuple #[playerV q A1 L.length a1, .bool false]) (by simp [results, Try.results12, go_sem, z0, z1, z2, z3, z4, z5, zf]) rfl ?_
    rw [HX.out]
    exact ⟨A1, a1, rfl, OG.out, BG.out⟩
  case false =>
    have WL := Lib.hid (show w.heap.size + 1 + 1 < w3.heap.size from K4.out.lt)
    have p0 : w3.cell? ⟨w.heap.size, 0, none⟩ = some (.int .i64 q.c) := K2.out.cell 0
    have p1 : w3.cell? ⟨w.heap.size, 1, none⟩ = some (.int .i64 q.n) := K2.out.cell 1
    have p2 : w3.cell? ⟨w.heap.size, 2, none⟩ = some (.int .i64 q.o) := K2.out.cell 2
    have p3 : w3.cell? ⟨w.heap.size, 3, none⟩ = some (.int .i64 q.x) := K2.out.cell 3
    have p4 : w3.cell? ⟨w.heap.size, 4, none⟩ = some (.int .i64 q.y) := K2.out.cell 4
    have p5 : w3.cell? ⟨w.heap.size, 5, none⟩ = some (.slice A L.length a) := K2.out.cell 5
    have y0 : w3.cell? ⟨w.heap.size + 1, 0, none⟩ = some (.int .i64 r.f) := F3.out.cell 0
    have y1 : w3.cell? ⟨w.heap.size + 1, 1, none⟩ = some (.int .i64 r.n) := F3.out.cell 1
    have y2 : w3.cell? ⟨w.heap.size + 1, 2, none⟩ = some (.int .i64 r.c) := F3.out.cell 2
    have y3 : w3.cell? ⟨w.heap.size + 1, 3, none⟩ = some (.int .i64 r.s) := F3.out.cell 3
    go_wp2
    go_loopw [7] (fun v wr => ∃ j : Nat, j ≤ L.length ∧ v = .int .i64 (j : Int) ∧ Hid (∀ x ∈ L.take j, fromP r.f x = false) ∧ Hid (Below w3.heap.size w3 wr)) (fun v _ => L.length - (intOf v).toNat)
    case atStart => exact ⟨0, Nat.zero_le _, rfl, by simp [Hid], Below.refl _ _⟩
    case round =>
      clear p0 p1 p2 p3 p4 p5 y0 y1 y2 y3
      obtain ⟨j, hj, rfl, ha, hB⟩ := hrel
      have K2 := Lib.hid (K2.out.below hB.out)
      have F3 := Lib.hid (F3.out.below hB.out)
      have K4 := Lib.hid (K4.out.below hB.out)
      have Z := Lib.hid (Below.and Z.out hB.out)
      have K6 := Lib.hid (K6.out.below hB.out)
      have OA := Lib.hid (OA.out.below hB.out)
      have p0 : wr.cell? ⟨w.heap.size, 0, none⟩ = some (.int .i64 q.c) := K2.out.cell 0
      have p1 : wr.cell? ⟨w.heap.size, 1, none⟩ = some (.int .i64 q.n) := K2.out.cell 1
      have p2 : wr.cell? ⟨w.heap.size, 2, none⟩ = some (.int .i64 q.o) := K2.out.cell 2
      have p3 : wr.cell? ⟨w.heap.size, 3, none⟩ = some (.int .i64 q.x) := K2.out.cell 3
      have p4 : wr.cell? ⟨w.heap.size, 4, none⟩ = some (.int .i64 q.y) := K2.out.cell 4
      have p5 : wr.cell? ⟨w.heap.size, 5, none⟩ = some (.slice A L.length a) := K2.out.cell 5
      have y0 : wr.cell? ⟨w.heap.size + 1, 0, none⟩ = some (.int .i64 r.f) := F3.out.cell 0
      have y1 : wr.cell? ⟨w.heap.size + 1, 1, none⟩ = some (.int .i64 r.n) := F3.out.cell 1
      have y2 : wr.cell? ⟨w.heap.size + 1, 2, none⟩ = some (.int .i64 r.c) := F3.out.cell 2
      have y3 : wr.cell? ⟨w.heap.size + 1, 3, none⟩ = some (.int .i64 r.s) := F3.out.cell 3
      have lk := K2.out.lt
      have lf := F3.out.lt
      by_cases hlt : j < L.length
      · obtain ⟨g, o, hgo, ca⟩ := Rd.below HR.out.r Z.out j hlt
        subst hgo
        have HT := Lib.hid (List.take_succ_eq_append_getElem hlt)
        have HM := Lib.hid (List.getElem_mem hlt)
        generalize L[j] = x at ca HT HM
        have xr0 : wr.cell? ⟨g, o + j * 4, none⟩ = some (.int .i64 x.f) := ca 0 _ rfl
        have xr1 : wr.cell? ⟨g, o + j * 4 + 1, none⟩ = some (.int .i64 x.n) := ca 1 _ rfl
        have xr2 : wr.cell? ⟨g, o + j * 4 + 2, none⟩ = some (.int .i64 x.c) := ca 2 _ rfl
        have xr3 : wr.cell? ⟨g, o + j * 4 + 3, none⟩ = some (.int .i64 x.s) := ca 3 _ rfl
        clear ca
        have lx : g < wr.heap.size := World.block_lt_of_cell? wr _ xr0
        have i0 : (0 : Int) ≤ (j : Int) := by omega
        have i1 : (j : Int) < (L.length : Int) := by omega
        go_upto_region 9 with (fail)
        refine wp_region_held_drew (S := fun w1 => Below wr.heap.size wr w1) (by kernel_rfl) ((Below.refl _ _).drew) (fun hq => ?_)
        refine takeD 0 33 (v := ?_) rfl rfl (by kernel_rfl) (by kernel_rfl) (by kernel_rfl) (fun _ _ _ h => h) (Or.inl ⟨by rfl, ?_⟩) (by assumption) ?_
        rotate_left
        · intro w1 hSw; obtain ⟨hcS, hfS⟩ := bcell hSw; go_simp; (try with_reducible rfl)
        (try simp only [Act.put, List.setIfInBounds_toArray, List.set_cons_zero, List.set_cons_succ])
        refine takeD 1 34 (v := ?_) rfl rfl (by kernel_rfl) (by kernel_rfl) (by kernel_rfl) (fun _ _ _ h => h) (Or.inl ⟨by rfl, ?_⟩) (by assumption) ?_
        rotate_left
        · intro w1 hSw; obtain ⟨hcS, hfS⟩ := bcell hSw; go_simp; (try with_reducible rfl)
        (try simp only [Act.put, List.setIfInBounds_toArray, List.set_cons_zero, List.set_cons_succ])
        refine takeD 2 35 (v := ?_) rfl rfl (by kernel_rfl) (by kernel_rfl) (by kernel_rfl) (fun _ _ _ h => h) (Or.inl ⟨by rfl, ?_⟩) (by assumption) ?_
        rotate_left
        · intro w1 hSw; obtain ⟨hcS, hfS⟩ := bcell hSw; go_simp; (try with_reducible rfl)
        (try simp only [Act.put, List.setIfInBounds_toArray, List.set_cons_zero, List.set_cons_succ])
        refine takeD 3 36 (v := ?_) rfl rfl (by kernel_rfl) (by kernel_rfl) (by kernel_rfl) (fun _ _ _ h => h) (Or.inl ⟨by rfl, ?_⟩) (by assumption) ?_
        rotate_left
        · intro w1 hSw; obtain ⟨hcS, hfS⟩ := bcell hSw; go_simp; (try with_reducible rfl)
        (try simp only [Act.put, List.setIfInBounds_toArray, List.set_cons_zero, List.set_cons_succ])
        refine takeD 4 37 (v := ?_) rfl rfl (by kernel_rfl) (by kernel_rfl) (by kernel_rfl) (fun _ _ _ h => h) (Or.inl ⟨by rfl, ?_⟩) (by assumption) ?_
        rotate_left
        · intro w1 hSw; obtain ⟨hcS, hfS⟩ := bcell hSw; go_simp; (try with_reducible rfl)
        (try simp only [Act.put, List.setIfInBounds_toArray, List.set_cons_zero, List.set_cons_succ])
        refine takeD 5 38 (v := ?_) rfl rfl (by kernel_rfl) (by kernel_rfl) (by kernel_rfl) (fun _ _ _ h => h) (Or.inl ⟨by rfl, ?_⟩) (by assumption) ?_
        rotate_left
        · intro w1 hSw; obtain ⟨hcS, hfS⟩ := bcell hSw; go_simp; (try with_reducible rfl)
        (try simp only [Act.put, List.setIfInBounds_toArray, List.set_cons_zero, List.set_cons_succ])
        refine takeD 6 39 (v := ?_) rfl rfl (by kernel_rfl) (by kernel_rfl) (by kernel_rfl) (fun _ _ _ h => h) (Or.inl ⟨by rfl, ?_⟩) (by assumption) ?_
        rotate_left
        · intro w1 hSw; obtain ⟨hcS, hfS⟩ := bcell hSw; go_simp; (try with_reducible rfl)
        (try simp only [Act.put, List.setIfInBounds_toArray, List.set_cons_zero, List.set_cons_succ])
        refine takeD 7 40 (v := ?_) rfl rfl (by kernel_rfl) (by kernel_rfl) (by kernel_rfl) (fun _ _ _ h => h) (Or.inl ⟨by rfl, ?_⟩) (by assumption) ?_
        rotate_left
        · intro w1 hSw; obtain ⟨hcS, hfS⟩ := bcell hSw; go_simp; (try with_reducible rfl)
        (try simp only [Act.put, List.setIfInBounds_toArray, List.set_cons_zero, List.set_cons_succ])
        refine takeD 8 41 (v := ?_) rfl rfl (by kernel_rfl) (by kernel_rfl) (by kernel_rfl) (fun _ _ _ h => h) (Or.inl ⟨by rfl, ?_⟩) (by assumption) ?_
        rotate_left
        · intro w1 hSw; obtain ⟨hcS, hfS⟩ := bcell hSw; go_simp; (try with_reducible rfl)
        (try simp only [Act.put, List.setIfInBounds_toArray, List.set_cons_zero, List.set_cons_succ])
        refine wpAnyH_done (by kernel_rfl) ?_ _
        have hbq := hq
        have hB := Lib.hid (Below.and hB.out hbq)
        have K2 := Lib.hid (K2.out.below hbq)
        have F3 := Lib.hid (F3.out.below hbq)
        have K4 := Lib.hid (K4.out.below hbq)
        have Z := Lib.hid (Below.and Z.out hbq)
        have K6 := Lib.hid (K6.out.below hbq)
        have OA := Lib.hid (OA.out.below hbq)
        clear hbq xr0 xr1 xr2 xr3 lx lk lf
        clear p0 p1 p2 p3 p4 p5 y0 y1 y2 y3
        rcases h3 : (x.f == r.f) with _ | _
        · have HA : Hid (∀ y ∈ L.take (j + 1), fromP r.f y = false) := by
            intro y hy
            rw [HT.out, List.mem_append] at hy
            rcases hy with h | h
            · exact ha.out y h
            · simp only [List.mem_singleton] at h
              rw [h]
              exact h3
          clear h3 ha HT
          go_wp2
          go_roundw
          case rel => exact ⟨j + 1, by omega, by go_num, HA.out, hB.out⟩
          case measure => (simp [intOf]; try omega)
        · have H3 := Lib.hid (show decide ((0 : Int) < ((L.countP (fromP r.f) : Nat) : Int)) = true by
            have : 0 < L.countP (fromP r.f) := List.countP_pos_iff.2 ⟨x, HM.out, h3⟩
            exact decide_eq_true (by omega))
          clear ha HT
          obtain ⟨wz, hwz⟩ : ∃ X, X = wr.drew := ⟨_, rfl⟩
          (try rw [← hwz] at K2 F3 K4 Z K6 OA)
          (try rw [← hwz])
          clear hwz
          have HX := Lib.hid (show hearP q L r = ((q, L), false) by unfold hearP; rw [HOK.out, h1, h2, H3.out]; rfl)
          have z0 : wz.cell? ⟨w.heap.size + 1 + 1, 0, none⟩ = some (.int .i64 0) := K4.out.cell 0
          have z1 : wz.cell? ⟨w.heap.size + 1 + 1, 1, none⟩ = some (.int .i64 0) := K4.out.cell 1
          have z2 : wz.cell? ⟨w.heap.size + 1 + 1, 2, none⟩ = some (.int .i64 0) := K4.out.cell 2
          have z3 : wz.cell? ⟨w.heap.size + 1 + 1, 3, none⟩ = some (.int .i64 0) := K4.out.cell 3
          have z4 : wz.cell? ⟨w.heap.size + 1 + 1, 4, none⟩ = some (.int .i64 0) := K4.out.cell 4
          have z5 : wz.cell? ⟨w.heap.size + 1 + 1, 5, none⟩ = some (.slice none 0 0) := K4.out.cell 5
          have zf := K4.out.frozen
          have lz := K4.out.lt
          have x0 : wz.cell? ⟨p6, 0, none⟩ = some (.int .i64 q.c) := K6.out.cell 0
          have x1 : wz.cell? ⟨p6, 1, none⟩ = some (.int .i64 q.n) := K6.out.cell 1
          have x2 : wz.cell? ⟨p6, 2, none⟩ = some (.int .i64 q.o) := K6.out.cell 2
          have x3 : wz.cell? ⟨p6, 3, none⟩ = some (.int .i64 q.x) := K6.out.cell 3
          have x4 : wz.cell? ⟨p6, 4, none⟩ = some (.int .i64 q.y) := K6.out.cell 4
          have x5 : wz.cell? ⟨p6, 5, none⟩ = some (.slice A1 L.length a1) := K6.out.cell 5
          have BG := Lib.hid (Below.setCell (Below.setCell (Below.setCell (Below.setCell (Below.setCell (Below.setCell Z.out (p := ⟨w.heap.size + 1 + 1, 0, none⟩) (by simp; omega) (.int .i64 q.c)) (p := ⟨w.heap.size + 1 + 1, 1, none⟩) (by simp; omega) (.int .i64 q.n)) (p := ⟨w.heap.size + 1 + 1, 2, none⟩) (by simp; omega) (.int .i64 q.o)) (p := ⟨w.heap.size + 1 + 1, 3, none⟩) (by simp; omega) (.int .i64 q.x)) (p := ⟨w.heap.size + 1 + 1, 4, none⟩) (by simp; omega) (.int .i64 q.y)) (p := ⟨w.heap.size + 1 + 1, 5, none⟩) (by simp; omega) (.slice A1 L.length a1))
          have OG := Lib.hid (((((((OA.out.put (q := w.heap.size + 1 + 1) (by omega) 0 (.int .i64 q.c)).put (q := w.heap.size + 1 + 1) (by omega) 1 (.int .i64 q.n)).put (q := w.heap.size + 1 + 1) (by omega) 2 (.int .i64 q.o)).put (q := w.heap.size + 1 + 1) (by omega) 3 (.int .i64 q.x)).put (q := w.heap.size + 1 + 1) (by omega) 4 (.int .i64 q.y)).put (q := w.heap.size + 1 + 1) (by omega) 5 (.slice A1 L.length a1)).base (lo := w.heap.size) (by omega))
          clear K4 Z
          go_wp2
          refine bodyPost_ret (v := .tuple #[playerV q A1 L.length a1, .bool false]) (by simp [results, Try.results12, go_sem, z0, z1, z2, z3, z4, z5, zf]) rfl ?_
          rw [HX.out]
          exact ⟨A1, a1, rfl, OG.out, BG.out⟩
      · have i1 : ¬ (j : Int) < (L.length : Int) := by omega
        obtain rfl : j = L.length := by omega
        rw [List.take_length] at ha
        have H3 := Lib.hid (show decide ((0 : Int) < ((L.countP (fromP r.f) : Nat) : Int)) = false by
          have : L.countP (fromP r.f) = 0 := by
            rw [List.countP_eq_zero]
            intro y hy
            rw [ha.out y hy]
            simp
          rw [this]
          rfl)
        clear ha lk lf
        clear p0 p1 p2 p3 p4 p5 y0 y1 y2 y3
        have HX := Lib.hid (show hearP q L r = ((q, L ++ [r]), true) by unfold hearP; rw [HOK.out, h1, h2, H3.out]; rfl)
        have hba : Below wr.heap.size wr (wr.alloc (.cells #[.int .i64 r.f, .int .i64 r.n, .int .i64 r.c, .int .i64 r.s] 29)) := (Below.refl _ _).alloc (Nat.le_refl _) _
        have OB := Lib.hid (OA.out.below hba)
        have HRd := Lib.hid (rp_one wr 29 r)
        have lo3 : w.heap.size + 3 ≤ wr.heap.size := by have := LZ.out; have := K6.out.lt; omega
        have p0 : wr.cell? ⟨w.heap.size, 0, none⟩ = some (.int .i64 q.c) := K2.out.cell 0
        have p1 : wr.cell? ⟨w.heap.size, 1, none⟩ = some (.int .i64 q.n) := K2.out.cell 1
        have p2 : wr.cell? ⟨w.heap.size, 2, none⟩ = some (.int .i64 q.o) := K2.out.cell 2
        have p3 : wr.cell? ⟨w.heap.size, 3, none⟩ = some (.int .i64 q.x) := K2.out.cell 3
        have p4 : wr.cell? ⟨w.heap.size, 4, none⟩ = some (.int .i64 q.y) := K2.out.cell 4
        have p5 : wr.cell? ⟨w.heap.size, 5, none⟩ = some (.slice A L.length a) := K2.out.cell 5
        have y0 : wr.cell? ⟨w.heap.size + 1, 0, none⟩ = some (.int .i64 r.f) := F3.out.cell 0
        have y1 : wr.cell? ⟨w.heap.size + 1, 1, none⟩ = some (.int .i64 r.n) := F3.out.cell 1
        have y2 : wr.cell? ⟨w.heap.size + 1, 2, none⟩ = some (.int .i64 r.c) := F3.out.cell 2
        have y3 : wr.cell? ⟨w.heap.size + 1, 3, none⟩ = some (.int .i64 r.s) := F3.out.cell 3
        have x0 : wr.cell? ⟨p6, 0, none⟩ = some (.int .i64 q.c) := K6.out.cell 0
        have x1 : wr.cell? ⟨p6, 1, none⟩ = some (.int .i64 q.n) := K6.out.cell 1
        have x2 : wr.cell? ⟨p6, 2, none⟩ = some (.int .i64 q.o) := K6.out.cell 2
        have x3 : wr.cell? ⟨p6, 3, none⟩ = some (.int .i64 q.x) := K6.out.cell 3
        have x4 : wr.cell? ⟨p6, 4, none⟩ = some (.int .i64 q.y) := K6.out.cell 4
        have x5 : wr.cell? ⟨p6, 5, none⟩ = some (.slice A1 L.length a1) := K6.out.cell 5
        have l6 := K6.out.lt
        have l3 := F3.out.lt
        go_wp2_with (at_builtin; go_loud (refine list_app (f := Rp.cells) (fun _ => rfl) rfl _ _ 25 rfl (w.heap.size + 3) 29 I (.agg #[.int .i64 0, .int .i64 0, .int .i64 0, .int .i64 0]) 32 Try.underlying25 I1.out I2.out I3.out I4.out rfl (by decide) _ L.length (L.flatMap Rp.cells) rfl OB.out _ _ 1 [r] rfl rfl HRd.out (fun h => by cases h) (reps_one _) (by unfold maxLen; omega) (by omega) (Nat.le_trans lo3 hba.size) ?_))
        intro v5 w5 ho hg hp
        clear p0 p1 p2 p3 p4 p5 y0 y1 y2 y3
        clear x0 x1 x2 x3 x4 x5
        have K2 := Lib.hid (K2.out.below hba)
        have F3 := Lib.hid (F3.out.below hba)
        have K4 := Lib.hid (K4.out.below hba)
        have K6 := Lib.hid (K6.out.below hba)
        have Z := Lib.hid (Below.and Z.out hba)
        have bt := fun x hx => own_block_ge (show World.ownsRow _ _ _ _ _ _ _ from OB.out) x hx
        have K2 := Lib.hid (K2.out.grown hg (fun e => by have := (bt _ e.symm).1; omega))
        have F3 := Lib.hid (F3.out.grown hg (fun e => by have := (bt _ e.symm).1; omega))
        have K4 := Lib.hid (K4.out.grown hg (fun e => by have := (bt _ e.symm).1; omega))
        have K6 := Lib.hid (K6.out.grown hg (fun e => OB.out.apart K6.out (by decide) e.symm))
        have Z := Lib.hid (Z.out.grown hg Z.out.size (fun q hq => by have := (bt _ hq).1; omega))
        obtain ⟨A5, a5, rfl, oa⟩ := OwL.push ho
        clear ho hg hp hba bt OB HRd OA lo3 l6 l3
        obtain ⟨L5, hL5⟩ : ∃ X, X = L ++ [r] := ⟨_, rfl⟩
        rw [← hL5] at oa HX ⊢
        clear hL5
        have OA := Lib.hid oa
        clear oa
        have x0 : w5.cell? ⟨p6, 0, none⟩ = some (.int .i64 q.c) := K6.out.cell 0
        have x1 : w5.cell? ⟨p6, 1, none⟩ = some (.int .i64 q.n) := K6.out.cell 1
        have x2 : w5.cell? ⟨p6, 2, none⟩ = some (.int .i64 q.o) := K6.out.cell 2
        have x3 : w5.cell? ⟨p6, 3, none⟩ = some (.int .i64 q.x) := K6.out.cell 3
        have x4 : w5.cell? ⟨p6, 4, none⟩ = some (.int .i64 q.y) := K6.out.cell 4
        have x5 : w5.cell? ⟨p6, 5, none⟩ = some (.slice A1 L.length a1) := K6.out.cell 5
        have xf := K6.out.frozen
        have l6 := K6.out.lt
        go_upto_region 12 with (fail)
        have lp6 := LZ.out
        have K4 : Hid (Bkk (w5.setCell ⟨p6, 5, none⟩ (.slice A5 L5.length a5)) (w.heap.size + 1 + 1) 27 #[.int .i64 0, .int .i64 0, .int .i64 0, .int .i64 0, .int .i64 0, .slice none 0 0]) := K4.out.far (show w.heap.size + 1 + 1 ≠ p6 by omega) 5 (.slice A5 L5.length a5)
        have OA := Lib.hid (OA.out.box K6.out (by decide) 5 (.slice A5 L5.length a5))
        have K6 : Hid (Bkk (w5.setCell ⟨p6, 5, none⟩ (.slice A5 L5.length a5)) p6 27 #[.int .i64 q.c, .int .i64 q.n, .int .i64 q.o, .int .i64 q.x, .int .i64 q.y, .slice A5 L5.length a5]) := K6.out.set 5 (.slice A5 L5.length a5)
        have Z := Lib.hid (Z.out.setCell (p := ⟨p6, 5, none⟩) (by simp; omega) (.slice A5 L5.length a5))
        clear x0 x1 x2 x3 x4 x5 xf l6
        obtain ⟨w6, hw6⟩ : ∃ X, X = (w5.setCell ⟨p6, 5, none⟩ (.slice A5 L5.length a5)) := ⟨_, rfl⟩
        rw [← hw6] at K4 OA K6 Z ⊢
        clear hw6
        have x0 : w6.cell? ⟨p6, 0, none⟩ = some (.int .i64 q.c) := K6.out.cell 0
        have x1 : w6.cell? ⟨p6, 1, none⟩ = some (.int .i64 q.n) := K6.out.cell 1
        have x2 : w6.cell? ⟨p6, 2, none⟩ = some (.int .i64 q.o) := K6.out.cell 2
        have x3 : w6.cell? ⟨p6, 3, none⟩ = some (.int .i64 q.x) := K6.out.cell 3
        have x4 : w6.cell? ⟨p6, 4, none⟩ = some (.int .i64 q.y) := K6.out.cell 4
        have x5 : w6.cell? ⟨p6, 5, none⟩ = some (.slice A5 L5.length a5) := K6.out.cell 5
        have z0 : w6.cell? ⟨w.heap.size + 1 + 1, 0, none⟩ = some (.int .i64 0) := K4.out.cell 0
        have z1 : w6.cell? ⟨w.heap.size + 1 + 1, 1, none⟩ = some (.int .i64 0) := K4.out.cell 1
        have z2 : w6.cell? ⟨w.heap.size + 1 + 1, 2, none⟩ = some (.int .i64 0) := K4.out.cell 2
        have z3 : w6.cell? ⟨w.heap.size + 1 + 1, 3, none⟩ = some (.int .i64 0) := K4.out.cell 3
        have z4 : w6.cell? ⟨w.heap.size + 1 + 1, 4, none⟩ = some (.int .i64 0) := K4.out.cell 4
        have z5 : w6.cell? ⟨w.heap.size + 1 + 1, 5, none⟩ = some (.slice none 0 0) := K4.out.cell 5
        have zf := K4.out.frozen
        have lz := K4.out.lt
        have BG := Lib.hid (Below.setCell (Below.setCell (Below.setCell (Below.setCell (Below.setCell (Below.setCell Z.out (p := ⟨w.heap.size + 1 + 1, 0, none⟩) (by simp; omega) (.int .i64 q.c)) (p := ⟨w.heap.size + 1 + 1, 1, none⟩) (by simp; omega) (.int .i64 q.n)) (p := ⟨w.heap.size + 1 + 1, 2, none⟩) (by simp; omega) (.int .i64 q.o)) (p := ⟨w.heap.size + 1 + 1, 3, none⟩) (by simp; omega) (.int .i64 q.x)) (p := ⟨w.heap.size + 1 + 1, 4, none⟩) (by simp; omega) (.int .i64 q.y)) (p := ⟨w.heap.size + 1 + 1, 5, none⟩) (by simp; omega) (.slice A5 L5.length a5))
        have OG := Lib.hid (((((((OA.out.put (q := w.heap.size + 1 + 1) (by omega) 0 (.int .i64 q.c)).put (q := w.heap.size + 1 + 1) (by omega) 1 (.int .i64 q.n)).put (q := w.heap.size + 1 + 1) (by omega) 2 (.int .i64 q.o)).put (q := w.heap.size + 1 + 1) (by omega) 3 (.int .i64 q.x)).put (q := w.heap.size + 1 + 1) (by omega) 4 (.int .i64 q.y)).put (q := w.heap.size + 1 + 1) (by omega) 5 (.slice A5 L5.length a5)).base (lo := w.heap.size) (by omega))
        clear K4 Z
        go_wp2
        refine bodyPost_ret (v := .tuple #[playerV q A5 L5.length a5, .bool true]) (by simp [results, Try.results12, go_sem, z0, z1, z2, z3, z4, z5, zf]) rfl ?_
        rw [HX.out]
        exact ⟨A5, a5, rfl, OG.out, BG.out⟩

end Go.Proofs.Ytdpladihacgobaa
