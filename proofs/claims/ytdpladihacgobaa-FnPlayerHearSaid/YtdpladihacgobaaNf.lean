/- Players: what as many as must answered alike, both ways. -/
import Derived.Test.YtdpladihacgobaaNc
namespace Go.Proofs.Ytdpladihacgobaa
open Go.ChangeShapes Go.WideShapes Go.ChangeAt Go.RowKit
set_option linter.unusedVariables false
set_option linter.unusedSimpArgs false

abbrev sureX (L : List Rp) (x : Rp) : Bool := decide ((2 : Int) ≤ ((L.countP (likeP x) : Nat) : Int))
def sureP (q : Rq) (L : List Rp) : Rp × Bool := if plB q L then firstR (sureX L) L else (⟨0, 0, 0, 0⟩, false)

set_option maxRecDepth 100000 in
set_option maxHeartbeats 2000000 in
theorem sureFn (x : Rp) (q : Rq) (A : Option Addr) (a : Nat) (L : List Rp) (p : Nat) (w : World) (hl : L.length ≤ maxLen) (hr : Rd 4 Rp.cells w A L) (hp : Bkk w p 27 (plCs q A L.length a)) :
    Calls Try.prog 42 #[x.val, .pointer (some ⟨p, 0, none⟩)] w fun e w' => e = .returned (.bool (sureX L x)) ∧ Below w.heap.size w w' := by
  have z0 : Below w.heap.size w (w.alloc (.cells (rpCs x) 29)) := (Below.refl _ _).alloc (Nat.le_refl _) _
  have HR := Lib.hid (Rd.below hr z0)
  have K := Lib.hid (hp.alloc (.cells (rpCs x) 29))
  have X : Hid (Bkk (w.alloc (.cells (rpCs x) 29)) w.heap.size 29 (rpCs x)) := Bkk.new _
  have BB := Lib.hid z0
  have k0 : (w.alloc (.cells (rpCs x) 29)).cell? ⟨p, 0, none⟩ = some (.int .i64 q.c) := K.out.cell 0
  have k1 : (w.alloc (.cells (rpCs x) 29)).cell? ⟨p, 1, none⟩ = some (.int .i64 q.n) := K.out.cell 1
  have k2 : (w.alloc (.cells (rpCs x) 29)).cell? ⟨p, 2, none⟩ = some (.int .i64 q.o) := K.out.cell 2
  have k3 : (w.alloc (.cells (rpCs x) 29)).cell? ⟨p, 3, none⟩ = some (.int .i64 q.x) := K.out.cell 3
  have k4 : (w.alloc (.cells (rpCs x) 29)).cell? ⟨p, 4, none⟩ = some (.int .i64 q.y) := K.out.cell 4
  have k5 : (w.alloc (.cells (rpCs x) 29)).cell? ⟨p, 5, none⟩ = some (.slice A L.length a) := K.out.cell 5
  have lp := hp.lt
  clear hr hp z0
  go_enter Try.func42, Try.ntmps42
  go_wp2_with (fail)
  refine (repliesLike q A a L x _ hl HR.out).mono ?_
  rintro e w1 ⟨rfl, hb⟩
  have BB := Lib.hid (Below.and BB.out hb)
  clear hb k0 k1 k2 k3 k4 k5
  go_wp2
  go_light
  go_ret
  exact ⟨rfl, BB.out⟩

set_option maxRecDepth 100000 in
set_option maxHeartbeats 2000000 in
theorem firstSure (l : List Rp) (q : Rq) (A B : Option Addr) (a b : Nat) (L : List Rp) (p : Nat) (w : World) (hm : l.length ≤ maxLen) (hl : L.length ≤ maxLen) (hb : Rd 4 Rp.cells w B l) (hr : Rd 4 Rp.cells w A L) (hp : Bkk w p 27 (plCs q A L.length a)) :
    Calls Try.prog 39 #[.slice B l.length b, .func (.func 42) #[] #[.pointer (some ⟨p, 0, none⟩)]] w fun e w' => e = .returned (.tuple #[(firstR (sureX L) l).1.val, .bool (firstR (sureX L) l).2]) ∧ Below w.heap.size w w' := by
  have hl0 := hl
  unfold maxLen at hm
  have z0 : Below w.heap.size w (w.alloc (.cells (rpCs ⟨0, 0, 0, 0⟩) 29)) := (Below.refl _ _).alloc (Nat.le_refl _) _
  have HL := Lib.hid (Rd.below hb z0)
  have HR := Lib.hid (Rd.below hr z0)
  have K := Lib.hid (hp.alloc (.cells (rpCs ⟨0, 0, 0, 0⟩) 29))
  have X : Hid (Bkk (w.alloc (.cells (rpCs ⟨0, 0, 0, 0⟩) 29)) w.heap.size 29 (rpCs ⟨0, 0, 0, 0⟩)) := Bkk.new _
  have BB := Lib.hid z0
  clear hr hp hb z0
  go_enter Try.func39, Try.ntmps39
  go_wp2
  obtain ⟨w0, hw0⟩ : ∃ X, X = w.alloc (.cells (rpCs ⟨0, 0, 0, 0⟩) 29) := ⟨_, rfl⟩
  (try rw [show w.alloc (.cells #[.int .i64 0, .int .i64 0, .int .i64 0, .int .i64 0] 29) = w0 from hw0.symm])
  rw [← hw0] at HL HR K X BB
  clear hw0
  go_loopw [11] (fun v wr => ∃ j : Nat, j ≤ l.length ∧ v = .int .i64 (j : Int) ∧ Hid (∀ x ∈ l.take j, (sureX L) x = false) ∧ Hid (Bkk wr w.heap.size 29 (rpCs ⟨0, 0, 0, 0⟩)) ∧ Hid (Below w0.heap.size w0 wr)) (fun v _ => l.length - (intOf v).toNat)
  case atStart => exact ⟨0, Nat.zero_le _, rfl, by simp [Hid], X.out, Below.refl _ _⟩
  case round =>
    obtain ⟨j, hj, rfl, ha, XR, hb⟩ := hrel
    by_cases hlt : j < l.length
    · obtain ⟨g, o, rfl, ca⟩ := Rd.below HL.out hb.out j hlt
      have HT := Lib.hid (List.take_succ_eq_append_getElem hlt)
      have HD := Lib.hid (List.drop_eq_getElem_cons hlt)
      generalize l[j] = x at ca HT HD
      have xr0 : wr.cell? ⟨g, o + j * 4, none⟩ = some (.int .i64 x.f) := ca 0 _ rfl
      have xr1 : wr.cell? ⟨g, o + j * 4 + 1, none⟩ = some (.int .i64 x.n) := ca 1 _ rfl
      have xr2 : wr.cell? ⟨g, o + j * 4 + 2, none⟩ = some (.int .i64 x.c) := ca 2 _ rfl
      have xr3 : wr.cell? ⟨g, o + j * 4 + 3, none⟩ = some (.int .i64 x.s) := ca 3 _ rfl
      clear ca
      have lx : g < wr.heap.size := World.block_lt_of_cell? wr _ xr0
      have i0 : (0 : Int) ≤ (j : Int) := by omega
      have i1 : (j : Int) < (l.length : Int) := by omega
      have hba : Below wr.heap.size wr (wr.alloc (.cells (rpCs x) 29)) := (Below.refl _ _).alloc (Nat.le_refl _) _
      have B1 := Lib.hid (Below.and hb.out hba)
      have XR := Lib.hid (XR.out.below hba)
      have Y : Hid (Bkk (wr.alloc (.cells (rpCs x) 29)) wr.heap.size 29 (rpCs x)) := Bkk.new _
      clear hba
      go_upto_region 4 with (fail)
      obtain ⟨wx, hwx⟩ : ∃ X, X = wr.alloc (.cells (rpCs x) 29) := ⟨_, rfl⟩
      obtain ⟨pp, hpp⟩ : ∃ X, X = wr.heap.size := ⟨_, rfl⟩
      rw [← hwx] at B1 XR Y
      rw [← hpp] at Y
      (try rw [show wr.alloc (.cells #[.int .i64 x.f, .int .i64 x.n, .int .i64 x.c, .int .i64 x.s] 29) = wx from hwx.symm])
      (try rw [← hpp])
      clear hwx hpp xr0 xr1 xr2 xr3 lx
      have y0 : wx.cell? ⟨pp, 0, none⟩ = some (.int .i64 x.f) := Y.out.cell 0
      have y1 : wx.cell? ⟨pp, 1, none⟩ = some (.int .i64 x.n) := Y.out.cell 1
      have y2 : wx.cell? ⟨pp, 2, none⟩ = some (.int .i64 x.c) := Y.out.cell 2
      have y3 : wx.cell? ⟨pp, 3, none⟩ = some (.int .i64 x.s) := Y.out.cell 3
      go_wp2_with (fail)
      refine (sureFn x q A a L p _ hl0 (Rd.below HR.out B1.out) (K.out.below B1.out)).mono ?_
      rintro e w1 ⟨rfl, h1⟩
      have B1 := Lib.hid (Below.and B1.out h1)
      have XR := Lib.hid (XR.out.below h1)
      have Y := Lib.hid (Y.out.below h1)
      clear h1 y0 y1 y2 y3
      rcases hx : (sureX L x) with _ | _
      · have HA : Hid (∀ y ∈ l.take (j + 1), (sureX L) y = false) := by
          intro y hy
          rw [HT.out, List.mem_append] at hy
          rcases hy with h | h
          · exact ha.out y h
          · simp only [List.mem_singleton] at h
            rw [h]
            exact hx
        clear hx
        go_wp2
        go_roundw
        case rel => exact ⟨j + 1, by omega, by go_num, HA.out, XR.out, B1.out⟩
        case measure => (simp [intOf]; try omega)
      · have HF := Lib.hid (show firstR (sureX L) l = (x, true) by
          rw [firstR_skip _ l j ha.out, HD.out]
          show (if (sureX L) x then _ else _) = _
          rw [show (sureX L) x = true from hx]
          rfl)
        clear hx
        obtain ⟨wz, hwz⟩ : ∃ X, X = w1 := ⟨_, rfl⟩
        rw [← hwz] at XR Y B1
        rw [← hwz]
        clear hwz
        have y0 : wz.cell? ⟨pp, 0, none⟩ = some (.int .i64 x.f) := Y.out.cell 0
        have y1 : wz.cell? ⟨pp, 1, none⟩ = some (.int .i64 x.n) := Y.out.cell 1
        have y2 : wz.cell? ⟨pp, 2, none⟩ = some (.int .i64 x.c) := Y.out.cell 2
        have y3 : wz.cell? ⟨pp, 3, none⟩ = some (.int .i64 x.s) := Y.out.cell 3
        have z0 : wz.cell? ⟨w.heap.size, 0, none⟩ = some (.int .i64 0) := XR.out.cell 0
        have z1 : wz.cell? ⟨w.heap.size, 1, none⟩ = some (.int .i64 0) := XR.out.cell 1
        have z2 : wz.cell? ⟨w.heap.size, 2, none⟩ = some (.int .i64 0) := XR.out.cell 2
        have z3 : wz.cell? ⟨w.heap.size, 3, none⟩ = some (.int .i64 0) := XR.out.cell 3
        have lz := XR.out.lt
        have ly := Y.out.lt
        have zf := XR.out.frozen
        have BF := Lib.hid (((((Below.and BB.out B1.out).setCell (p := ⟨w.heap.size, 0, none⟩) (Nat.le_refl _) (.int .i64 x.f)).setCell (p := ⟨w.heap.size, 1, none⟩) (Nat.le_refl _) (.int .i64 x.n)).setCell (p := ⟨w.heap.size, 2, none⟩) (Nat.le_refl _) (.int .i64 x.c)).setCell (p := ⟨w.heap.size, 3, none⟩) (Nat.le_refl _) (.int .i64 x.s))
        go_wp2
        exact bodyPost_ret (v := .tuple #[x.val, .bool true]) (by simp [results, Try.results39, go_sem, z0, z1, z2, z3, zf]) rfl ⟨by rw [HF.out], BF.out⟩
    · have i1 : ¬ (j : Int) < (l.length : Int) := by omega
      obtain rfl : j = l.length := by omega
      have HF := Lib.hid (show firstR (sureX L) l = (⟨0, 0, 0, 0⟩, false) by
        rw [firstR_skip _ l l.length ha.out, List.drop_length]
        rfl)
      have hba : Below wr.heap.size wr (wr.alloc (.cells (rpCs ⟨0, 0, 0, 0⟩) 29)) := (Below.refl _ _).alloc (Nat.le_refl _) _
      have XR := Lib.hid (XR.out.below hba)
      have B1 := Lib.hid (Below.and hb.out hba)
      have Y : Hid (Bkk (wr.alloc (.cells (rpCs ⟨0, 0, 0, 0⟩) 29)) wr.heap.size 29 (rpCs ⟨0, 0, 0, 0⟩)) := Bkk.new _
      clear hba
      go_upto_region 8 with (fail)
      obtain ⟨wx, hwx⟩ : ∃ X, X = wr.alloc (.cells (rpCs ⟨0, 0, 0, 0⟩) 29) := ⟨_, rfl⟩
      obtain ⟨pp, hpp⟩ : ∃ X, X = wr.heap.size := ⟨_, rfl⟩
      rw [← hwx] at B1 XR Y
      rw [← hpp] at Y
      (try rw [show wr.alloc (.cells #[.int .i64 0, .int .i64 0, .int .i64 0, .int .i64 0] 29) = wx from hwx.symm])
      (try rw [← hpp])
      clear hwx hpp
      have y0 : wx.cell? ⟨pp, 0, none⟩ = some (.int .i64 0) := Y.out.cell 0
      have y1 : wx.cell? ⟨pp, 1, none⟩ = some (.int .i64 0) := Y.out.cell 1
      have y2 : wx.cell? ⟨pp, 2, none⟩ = some (.int .i64 0) := Y.out.cell 2
      have y3 : wx.cell? ⟨pp, 3, none⟩ = some (.int .i64 0) := Y.out.cell 3
      have z0 : wx.cell? ⟨w.heap.size, 0, none⟩ = some (.int .i64 0) := XR.out.cell 0
      have z1 : wx.cell? ⟨w.heap.size, 1, none⟩ = some (.int .i64 0) := XR.out.cell 1
      have z2 : wx.cell? ⟨w.heap.size, 2, none⟩ = some (.int .i64 0) := XR.out.cell 2
      have z3 : wx.cell? ⟨w.heap.size, 3, none⟩ = some (.int .i64 0) := XR.out.cell 3
      have lz := XR.out.lt
      have zf := XR.out.frozen
      have BF := Lib.hid (((((Below.and BB.out B1.out).setCell (p := ⟨w.heap.size, 0, none⟩) (Nat.le_refl _) (.int .i64 0)).setCell (p := ⟨w.heap.size, 1, none⟩) (Nat.le_refl _) (.int .i64 0)).setCell (p := ⟨w.heap.size, 2, none⟩) (Nat.le_refl _) (.int .i64 0)).setCell (p := ⟨w.heap.size, 3, none⟩) (Nat.le_refl _) (.int .i64 0))
      go_wp2
      exact bodyPost_ret (v := .tuple #[Rp.val ⟨0, 0, 0, 0⟩, .bool false]) (by simp [results, Try.results39, go_sem, z0, z1, z2, z3, zf]) rfl ⟨by rw [HF.out], BF.out⟩

set_option maxRecDepth 100000 in
set_option maxHeartbeats 2000000 in
theorem implPlayerSure (q : Rq) (A : Option Addr) (a : Nat) (L : List Rp) (w : World) (hl : L.length ≤ maxLen) (hr : Rd 4 Rp.cells w A L) :
    Calls Try.prog 16 #[playerV q A L.length a] w fun e w' => e = .returned (.tuple #[(sureP q L).1.val, .bool (sureP q L).2]) ∧ Below w.heap.size w w' := by
  have z0 : Below w.heap.size w ((w.alloc (.cells #[.int .i64 q.c, .int .i64 q.n, .int .i64 q.o, .int .i64 q.x, .int .i64 q.y, .slice A L.length a] 27)).alloc (.cells #[.int .i64 0, .int .i64 0, .int .i64 0, .int .i64 0] 29)) := below_alloc2 w _ _
  have HR := Lib.hid (Rd.below hr z0)
  have K : Hid (Bkk ((w.alloc (.cells #[.int .i64 q.c, .int .i64 q.n, .int .i64 q.o, .int .i64 q.x, .int .i64 q.y, .slice A L.length a] 27)).alloc (.cells #[.int .i64 0, .int .i64 0, .int .i64 0, .int .i64 0] 29)) w.heap.size 27 #[.int .i64 q.c, .int .i64 q.n, .int .i64 q.o, .int .i64 q.x, .int .i64 q.y, .slice A L.length a]) := (Bkk.new (cs := #[.int .i64 q.c, .int .i64 q.n, .int .i64 q.o, .int .i64 q.x, .int .i64 q.y, .slice A L.length a]) (t := 27) w).alloc _
  have X : Hid (Bkk ((w.alloc (.cells #[.int .i64 q.c, .int .i64 q.n, .int .i64 q.o, .int .i64 q.x, .int .i64 q.y, .slice A L.length a] 27)).alloc (.cells #[.int .i64 0, .int .i64 0, .int .i64 0, .int .i64 0] 29)) (w.heap.size + 1) 29 #[.int .i64 0, .int .i64 0, .int .i64 0, .int .i64 0]) := by have := Bkk.new (cs := #[.int .i64 0, .int .i64 0, .int .i64 0, .int .i64 0]) (t := 29) (w.alloc (.cells #[.int .i64 q.c, .int .i64 q.n, .int .i64 q.o, .int .i64 q.x, .int .i64 q.y, .slice A L.length a] 27)); simpa [Hid] using this
  have BB := Lib.hid z0
  clear hr z0
  go_enter Try.func16, Try.ntmps16
  go_upto_region 1 with (fail)
  obtain ⟨w0, hw0⟩ : ∃ X, X = ((w.alloc (.cells #[.int .i64 q.c, .int .i64 q.n, .int .i64 q.o, .int .i64 q.x, .int .i64 q.y, .slice A L.length a] 27)).alloc (.cells #[.int .i64 0, .int .i64 0, .int .i64 0, .int .i64 0] 29)) := ⟨_, rfl⟩
  rw [← hw0] at HR K X BB ⊢
  clear hw0
  have k0 : w0.cell? ⟨w.heap.size, 0, none⟩ = some (.int .i64 q.c) := K.out.cell 0
  have k1 : w0.cell? ⟨w.heap.size, 1, none⟩ = some (.int .i64 q.n) := K.out.cell 1
  have k2 : w0.cell? ⟨w.heap.size, 2, none⟩ = some (.int .i64 q.o) := K.out.cell 2
  have k3 : w0.cell? ⟨w.heap.size, 3, none⟩ = some (.int .i64 q.x) := K.out.cell 3
  have k4 : w0.cell? ⟨w.heap.size, 4, none⟩ = some (.int .i64 q.y) := K.out.cell 4
  have k5 : w0.cell? ⟨w.heap.size, 5, none⟩ = some (.slice A L.length a) := K.out.cell 5
  go_wp2_with (fail)
  refine (implPlayerOk q A a L _ hl HR.out).mono ?_
  rintro e w1 ⟨rfl, hb⟩
  have HR := Lib.hid (Rd.below HR.out hb)
  have K := Lib.hid (K.out.below hb)
  have X := Lib.hid (X.out.below hb)
  have BB := Lib.hid (Below.and BB.out hb)
  clear hb k0 k1 k2 k3 k4 k5
  rcases hok : plB q L with _ | _
  · skip
    have HF := Lib.hid (show sureP q L = (⟨0, 0, 0, 0⟩, false) by unfold sureP; rw [hok]; rfl)
    have z0 : w1.cell? ⟨w.heap.size + 1, 0, none⟩ = some (.int .i64 0) := X.out.cell 0
    have z1 : w1.cell? ⟨w.heap.size + 1, 1, none⟩ = some (.int .i64 0) := X.out.cell 1
    have z2 : w1.cell? ⟨w.heap.size + 1, 2, none⟩ = some (.int .i64 0) := X.out.cell 2
    have z3 : w1.cell? ⟨w.heap.size + 1, 3, none⟩ = some (.int .i64 0) := X.out.cell 3
    have zf := X.out.frozen
    have lz := X.out.lt
    have BF := Lib.hid (Below.setCell (Below.setCell (Below.setCell (Below.setCell BB.out (p := ⟨w.heap.size + 1, 0, none⟩) (by simp) (.int .i64 0)) (p := ⟨w.heap.size + 1, 1, none⟩) (by simp) (.int .i64 0)) (p := ⟨w.heap.size + 1, 2, none⟩) (by simp) (.int .i64 0)) (p := ⟨w.heap.size + 1, 3, none⟩) (by simp) (.int .i64 0))
    clear hok
    go_wp2
    exact bodyPost_ret (v := .tuple #[Rp.val ⟨0, 0, 0, 0⟩, .bool false]) (by simp [results, Try.results16, go_sem, z0, z1, z2, z3, zf]) rfl ⟨by rw [HF.out], BF.out⟩
  have HF := Lib.hid (show sureP q L = firstR (sureX L) L by unfold sureP; rw [hok]; rfl)
  clear hok
  have k0 : w1.cell? ⟨w.heap.size, 0, none⟩ = some (.int .i64 q.c) := K.out.cell 0
  have k1 : w1.cell? ⟨w.heap.size, 1, none⟩ = some (.int .i64 q.n) := K.out.cell 1
  have k2 : w1.cell? ⟨w.heap.size, 2, none⟩ = some (.int .i64 q.o) := K.out.cell 2
  have k3 : w1.cell? ⟨w.heap.size, 3, none⟩ = some (.int .i64 q.x) := K.out.cell 3
  have k4 : w1.cell? ⟨w.heap.size, 4, none⟩ = some (.int .i64 q.y) := K.out.cell 4
  have k5 : w1.cell? ⟨w.heap.size, 5, none⟩ = some (.slice A L.length a) := K.out.cell 5
  go_wp2_with (fail)
  refine (firstSure L q A A a a L w.heap.size _ hl hl HR.out HR.out K.out).mono ?_
  rintro e w2 ⟨rfl, hb⟩
  obtain ⟨⟨y, u⟩, hy⟩ : ∃ Y, Y = firstR (sureX L) L := ⟨_, rfl⟩
  have HF := Lib.hid (show sureP q L = (y, u) by rw [HF.out, hy])
  rw [← hy]
  clear hy
  have X := Lib.hid (X.out.below hb)
  have BB := Lib.hid (Below.and BB.out hb)
  clear hb k0 k1 k2 k3 k4 k5
  have z0 : w2.cell? ⟨w.heap.size + 1, 0, none⟩ = some (.int .i64 0) := X.out.cell 0
  have z1 : w2.cell? ⟨w.heap.size + 1, 1, none⟩ = some (.int .i64 0) := X.out.cell 1
  have z2 : w2.cell? ⟨w.heap.size + 1, 2, none⟩ = some (.int .i64 0) := X.out.cell 2
  have z3 : w2.cell? ⟨w.heap.size + 1, 3, none⟩ = some (.int .i64 0) := X.out.cell 3
  have zf := X.out.frozen
  have lz := X.out.lt
  have BF := Lib.hid (Below.setCell (Below.setCell (Below.setCell (Below.setCell BB.out (p := ⟨w.heap.size + 1, 0, none⟩) (by simp) (.int .i64 y.f)) (p := ⟨w.heap.size + 1, 1, none⟩) (by simp) (.int .i64 y.n)) (p := ⟨w.heap.size + 1, 2, none⟩) (by simp) (.int .i64 y.c)) (p := ⟨w.heap.size + 1, 3, none⟩) (by simp) (.int .i64 y.s))
  go_wp2
  exact bodyPost_ret (v := .tuple #[Rp.val y, .bool u]) (by simp [results, Try.results16, go_sem, z0, z1, z2, z3, zf]) rfl ⟨by rw [HF.out], BF.out⟩

set_option maxRecDepth 100000 in
set_option maxHeartbeats 4000000 in
theorem l11Most (q : Rq) (A : Option Addr) (a : Nat) (L : List Rp) (r : Rp) (w : World) (hl : L.length ≤ maxLen) (hr : Rd 4 Rp.cells w A L) :
    Calls Try.prog 44 #[playerV q A L.length a, r.val] w fun e w' => e = .returned (.int .i64 ((L.countP (likeP r) : Nat) : Int)) ∧ Below w.heap.size w w' := by
  unfold maxLen at hl
  have z0 : Below w.heap.size w ((w.alloc (.cells #[.int .i64 q.c, .int .i64 q.n, .int .i64 q.o, .int .i64 q.x, .int .i64 q.y, .slice A L.length a] 27)).alloc (.cells #[.int .i64 r.f, .int .i64 r.n, .int .i64 r.c, .int .i64 r.s] 29)) := below_alloc2 w _ _
  have HR := Lib.hid (Rd.below hr z0)
  have K : Hid (Bkk ((w.alloc (.cells #[.int .i64 q.c, .int .i64 q.n, .int .i64 q.o, .int .i64 q.x, .int .i64 q.y, .slice A L.length a] 27)).alloc (.cells #[.int .i64 r.f, .int .i64 r.n, .int .i64 r.c, .int .i64 r.s] 29)) w.heap.size 27 #[.int .i64 q.c, .int .i64 q.n, .int .i64 q.o, .int .i64 q.x, .int .i64 q.y, .slice A L.length a]) := (Bkk.new (cs := #[.int .i64 q.c, .int .i64 q.n, .int .i64 q.o, .int .i64 q.x, .int .i64 q.y, .slice A L.length a]) (t := 27) w).alloc _
  have X : Hid (Bkk ((w.alloc (.cells #[.int .i64 q.c, .int .i64 q.n, .int .i64 q.o, .int .i64 q.x, .int .i64 q.y, .slice A L.length a] 27)).alloc (.cells #[.int .i64 r.f, .int .i64 r.n, .int .i64 r.c, .int .i64 r.s] 29)) (w.heap.size + 1) 29 #[.int .i64 r.f, .int .i64 r.n, .int .i64 r.c, .int .i64 r.s]) := by have := Bkk.new (cs := #[.int .i64 r.f, .int .i64 r.n, .int .i64 r.c, .int .i64 r.s]) (t := 29) (w.alloc (.cells #[.int .i64 q.c, .int .i64 q.n, .int .i64 q.o, .int .i64 q.x, .int .i64 q.y, .slice A L.length a] 27)); simpa [Hid] using this
  have BB := Lib.hid z0
  clear hr z0
  go_enter Try.func44, Try.ntmps44
  go_upto_region 2 with (fail)
  obtain ⟨w0, hw0⟩ : ∃ X, X = ((w.alloc (.cells #[.int .i64 q.c, .int .i64 q.n, .int .i64 q.o, .int .i64 q.x, .int .i64 q.y, .slice A L.length a] 27)).alloc (.cells #[.int .i64 r.f, .int .i64 r.n, .int .i64 r.c, .int .i64 r.s] 29)) := ⟨_, rfl⟩
  rw [← hw0] at HR K X BB ⊢
  clear hw0
  go_wp2
  go_loopw [5, 6] (fun u v wr => ∃ j m : Nat, j ≤ L.length ∧ m ≤ j ∧ u = .int .i64 (m : Int) ∧ v = .int .i64 (j : Int) ∧ Hid ((L.take j).countP (likeP r) = m) ∧ Hid (Bkk wr w.heap.size 27 #[.int .i64 q.c, .int .i64 q.n, .int .i64 q.o, .int .i64 q.x, .int .i64 q.y, .slice A L.length a]) ∧ Hid (Bkk wr (w.heap.size + 1) 29 #[.int .i64 r.f, .int .i64 r.n, .int .i64 r.c, .int .i64 r.s]) ∧ Hid (Below w0.heap.size w0 wr)) (fun _ v _ => L.length - (intOf v).toNat)
  case atStart => exact ⟨0, 0, Nat.zero_le _, Nat.le_refl _, rfl, rfl, by simp [Hid], K.out, X.out, Below.refl _ _⟩
  case round =>
    obtain ⟨j, m, hj, hm, rfl, rfl, ha, KR, XR, hB⟩ := hrel
    have k0 : wr.cell? ⟨w.heap.size, 0, none⟩ = some (.int .i64 q.c) := KR.out.cell 0
    have k1 : wr.cell? ⟨w.heap.size, 1, none⟩ = some (.int .i64 q.n) := KR.out.cell 1
    have k2 : wr.cell? ⟨w.heap.size, 2, none⟩ = some (.int .i64 q.o) := KR.out.cell 2
    have k3 : wr.cell? ⟨w.heap.size, 3, none⟩ = some (.int .i64 q.x) := KR.out.cell 3
    have k4 : wr.cell? ⟨w.heap.size, 4, none⟩ = some (.int .i64 q.y) := KR.out.cell 4
    have k5 : wr.cell? ⟨w.heap.size, 5, none⟩ = some (.slice A L.length a) := KR.out.cell 5
    have lk := KR.out.lt
    by_cases hlt : j < L.length
    · obtain ⟨g, o, rfl, ca⟩ := Rd.below HR.out hB.out j hlt
      have HT := Lib.hid (List.take_succ_eq_append_getElem hlt)
      generalize L[j] = x at ca HT
      have xr0 : wr.cell? ⟨g, o + j * 4, none⟩ = some (.int .i64 x.f) := ca 0 _ rfl
      have xr1 : wr.cell? ⟨g, o + j * 4 + 1, none⟩ = some (.int .i64 x.n) := ca 1 _ rfl
      have xr2 : wr.cell? ⟨g, o + j * 4 + 2, none⟩ = some (.int .i64 x.c) := ca 2 _ rfl
      have xr3 : wr.cell? ⟨g, o + j * 4 + 3, none⟩ = some (.int .i64 x.s) := ca 3 _ rfl
      have r0 : wr.cell? ⟨w.heap.size + 1, 0, none⟩ = some (.int .i64 r.f) := XR.out.cell 0
      have r1 : wr.cell? ⟨w.heap.size + 1, 1, none⟩ = some (.int .i64 r.n) := XR.out.cell 1
      have r2 : wr.cell? ⟨w.heap.size + 1, 2, none⟩ = some (.int .i64 r.c) := XR.out.cell 2
      have r3 : wr.cell? ⟨w.heap.size + 1, 3, none⟩ = some (.int .i64 r.s) := XR.out.cell 3
      have lr := XR.out.lt
      clear ca
      have lx : g < wr.heap.size := World.block_lt_of_cell? wr _ xr0
      have i0 : (0 : Int) ≤ (j : Int) := by omega
      have i1 : (j : Int) < (L.length : Int) := by omega
      go_upto_region 5 with (fail)
      rcases h1 : (x.c == r.c) with _ | _
      · skip
        refine wp_region_held_drew (S := fun w1 => Below wr.heap.size wr w1) (by kernel_rfl) ((Below.refl _ _).drew) (fun hq => ?_)
        refine takeD 0 14 (v := ?_) rfl rfl (by kernel_rfl) (by kernel_rfl) (by kernel_rfl) (fun _ _ _ h => h) (Or.inl ⟨by rfl, ?_⟩) (by assumption) ?_
        rotate_left
        · intro w1 hSw; obtain ⟨hcS, hfS⟩ := bcell hSw; go_simp; (try with_reducible rfl)
        (try simp only [Act.put, List.setIfInBounds_toArray, List.set_cons_zero, List.set_cons_succ])
        refine takeD 1 15 (v := ?_) rfl rfl (by kernel_rfl) (by kernel_rfl) (by kernel_rfl) (fun _ _ _ h => h) (Or.inl ⟨by rfl, ?_⟩) (by assumption) ?_
        rotate_left
        · intro w1 hSw; obtain ⟨hcS, hfS⟩ := bcell hSw; go_simp; (try with_reducible rfl)
        (try simp only [Act.put, List.setIfInBounds_toArray, List.set_cons_zero, List.set_cons_succ])
        refine takeD 2 16 (v := ?_) rfl rfl (by kernel_rfl) (by kernel_rfl) (by kernel_rfl) (fun _ _ _ h => h) (Or.inl ⟨by rfl, ?_⟩) (by assumption) ?_
        rotate_left
        · intro w1 hSw; obtain ⟨hcS, hfS⟩ := bcell hSw; go_simp; (try with_reducible rfl)
        (try simp only [Act.put, List.setIfInBounds_toArray, List.set_cons_zero, List.set_cons_succ])
        refine takeD 3 17 (v := ?_) rfl rfl (by kernel_rfl) (by kernel_rfl) (by kernel_rfl) (fun _ _ _ h => h) (Or.inl ⟨by rfl, ?_⟩) (by assumption) ?_
        rotate_left
        · intro w1 hSw; obtain ⟨hcS, hfS⟩ := bcell hSw; go_simp; (try with_reducible rfl)
        (try simp only [Act.put, List.setIfInBounds_toArray, List.set_cons_zero, List.set_cons_succ])
        refine takeD 4 18 (v := ?_) rfl rfl (by kernel_rfl) (by kernel_rfl) (by kernel_rfl) (fun _ _ _ h => h) (Or.inl ⟨by rfl, ?_⟩) (by assumption) ?_
        rotate_left
        · intro w1 hSw; obtain ⟨hcS, hfS⟩ := bcell hSw; go_simp; (try with_reducible rfl)
        (try simp only [Act.put, List.setIfInBounds_toArray, List.set_cons_zero, List.set_cons_succ])
        refine takeD 5 19 (v := ?_) rfl rfl (by kernel_rfl) (by kernel_rfl) (by kernel_rfl) (fun _ _ _ h => h) (Or.inl ⟨by rfl, ?_⟩) (by assumption) ?_
        rotate_left
        · intro w1 hSw; obtain ⟨hcS, hfS⟩ := bcell hSw; go_simp; (try with_reducible rfl)
        (try simp only [Act.put, List.setIfInBounds_toArray, List.set_cons_zero, List.set_cons_succ])
        refine takeD 6 20 (v := ?_) rfl rfl (by kernel_rfl) (by kernel_rfl) (by kernel_rfl) (fun _ _ _ h => h) (Or.inl ⟨by rfl, ?_⟩) (by assumption) ?_
        rotate_left
        · intro w1 hSw; obtain ⟨hcS, hfS⟩ := bcell hSw; go_simp; (try with_reducible rfl)
        (try simp only [Act.put, List.setIfInBounds_toArray, List.set_cons_zero, List.set_cons_succ])
        refine takeD 7 21 (v := ?_) rfl rfl (by kernel_rfl) (by kernel_rfl) (by kernel_rfl) (fun _ _ _ h => h) (Or.inl ⟨by rfl, ?_⟩) (by assumption) ?_
        rotate_left
        · intro w1 hSw; obtain ⟨hcS, hfS⟩ := bcell hSw; go_simp; (try with_reducible rfl)
        (try simp only [Act.put, List.setIfInBounds_toArray, List.set_cons_zero, List.set_cons_succ])
        refine takeD 8 22 (v := ?_) rfl rfl (by kernel_rfl) (by kernel_rfl) (by kernel_rfl) (fun _ _ _ h => h) (Or.inl ⟨by rfl, ?_⟩) (by assumption) ?_
        rotate_left
        · intro w1 hSw; obtain ⟨hcS, hfS⟩ := bcell hSw; go_simp; (try with_reducible rfl)
        (try simp only [Act.put, List.setIfInBounds_toArray, List.set_cons_zero, List.set_cons_succ])
        refine takeD 9 23 (v := ?_) rfl rfl (by kernel_rfl) (by kernel_rfl) (by kernel_rfl) (fun _ _ _ h => h) (Or.inl ⟨by rfl, ?_⟩) (by assumption) ?_
        rotate_left
        · intro w1 hSw; obtain ⟨hcS, hfS⟩ := bcell hSw; go_simp; (try with_reducible rfl)
        (try simp only [Act.put, List.setIfInBounds_toArray, List.set_cons_zero, List.set_cons_succ])
        refine takeD 10 24 (v := undef) rfl rfl (by kernel_rfl) (by kernel_rfl) (by kernel_rfl) (fun _ _ _ h => h) (Or.inr ⟨by rfl, rfl⟩) (by assumption) ?_
        (try simp only [Act.put, List.setIfInBounds_toArray, List.set_cons_zero, List.set_cons_succ])
        refine takeD 11 25 (v := undef) rfl rfl (by kernel_rfl) (by kernel_rfl) (by kernel_rfl) (fun _ _ _ h => h) (Or.inr ⟨by rfl, rfl⟩) (by assumption) ?_
        (try simp only [Act.put, List.setIfInBounds_toArray, List.set_cons_zero, List.set_cons_succ])
        refine takeD 12 26 (v := undef) rfl rfl (by kernel_rfl) (by kernel_rfl) (by kernel_rfl) (fun _ _ _ h => h) (Or.inr ⟨by rfl, rfl⟩) (by assumption) ?_
        (try simp only [Act.put, List.setIfInBounds_toArray, List.set_cons_zero, List.set_cons_succ])
        refine takeD 13 27 (v := undef) rfl rfl (by kernel_rfl) (by kernel_rfl) (by kernel_rfl) (fun _ _ _ h => h) (Or.inr ⟨by rfl, rfl⟩) (by assumption) ?_
        (try simp only [Act.put, List.setIfInBounds_toArray, List.set_cons_zero, List.set_cons_succ])
        refine takeD 14 28 (v := undef) rfl rfl (by kernel_rfl) (by kernel_rfl) (by kernel_rfl) (fun _ _ _ h => h) (Or.inr ⟨by rfl, rfl⟩) (by assumption) ?_
        (try simp only [Act.put, List.setIfInBounds_toArray, List.set_cons_zero, List.set_cons_succ])
        refine takeD 15 29 (v := undef) rfl rfl (by kernel_rfl) (by kernel_rfl) (by kernel_rfl) (fun _ _ _ h => h) (Or.inr ⟨by rfl, rfl⟩) (by assumption) ?_
        (try simp only [Act.put, List.setIfInBounds_toArray, List.set_cons_zero, List.set_cons_succ])
        refine takeD 16 30 (v := undef) rfl rfl (by kernel_rfl) (by kernel_rfl) (by kernel_rfl) (fun _ _ _ h => h) (Or.inr ⟨by rfl, rfl⟩) (by assumption) ?_
        (try simp only [Act.put, List.setIfInBounds_toArray, List.set_cons_zero, List.set_cons_succ])
        refine takeD 17 31 (v := undef) rfl rfl (by kernel_rfl) (by kernel_rfl) (by kernel_rfl) (fun _ _ _ h => h) (Or.inr ⟨by rfl, rfl⟩) (by assumption) ?_
        (try simp only [Act.put, List.setIfInBounds_toArray, List.set_cons_zero, List.set_cons_succ])
        refine takeD 18 32 (v := undef) rfl rfl (by kernel_rfl) (by kernel_rfl) (by kernel_rfl) (fun _ _ _ h => h) (Or.inr ⟨by rfl, rfl⟩) (by assumption) ?_
        (try simp only [Act.put, List.setIfInBounds_toArray, List.set_cons_zero, List.set_cons_succ])
        refine takeD 19 33 (v := ?_) rfl rfl (by kernel_rfl) (by kernel_rfl) (by kernel_rfl) (fun _ _ _ h => h) (Or.inl ⟨by rfl, ?_⟩) (by assumption) ?_
        rotate_left
        · intro w1 hSw; obtain ⟨hcS, hfS⟩ := bcell hSw; go_simp; (try with_reducible rfl)
        (try simp only [Act.put, List.setIfInBounds_toArray, List.set_cons_zero, List.set_cons_succ])
        refine wpAnyH_done (by kernel_rfl) ?_ _
        have hbq := hq
        have BQ := Lib.hid (Below.and hB.out hbq)
        have KR := Lib.hid (KR.out.below hbq)
        have XR := Lib.hid (XR.out.below hbq)
        have HC := Lib.hid (show (L.take (j + 1)).countP (likeP r) = m + (if likeP r x then 1 else 0) by rw [HT.out, List.countP_append, ha.out]; simp [List.countP_cons])
        clear hbq k0 k1 k2 k3 k4 k5 lk r0 r1 r2 r3 lr xr0 xr1 xr2 xr3 lx ha HT hB
        have HC := Lib.hid (show (L.take (j + 1)).countP (likeP r) = m by rw [HC.out]; simp [likeP, h1])
        go_wp2
        go_roundw
        case rel => exact ⟨j + 1, m, by omega, by omega, rfl, by go_num, HC.out, KR.out, XR.out, BQ.out⟩
        case measure => (simp [intOf]; try omega)
      · skip
        refine wp_region_held_drew (S := fun w1 => Below wr.heap.size wr w1) (by kernel_rfl) ((Below.refl _ _).drew) (fun hq => ?_)
        refine takeD 0 14 (v := ?_) rfl rfl (by kernel_rfl) (by kernel_rfl) (by kernel_rfl) (fun _ _ _ h => h) (Or.inl ⟨by rfl, ?_⟩) (by assumption) ?_
        rotate_left
        · intro w1 hSw; obtain ⟨hcS, hfS⟩ := bcell hSw; go_simp; (try with_reducible rfl)
        (try simp only [Act.put, List.setIfInBounds_toArray, List.set_cons_zero, List.set_cons_succ])
        refine takeD 1 15 (v := ?_) rfl rfl (by kernel_rfl) (by kernel_rfl) (by kernel_rfl) (fun _ _ _ h => h) (Or.inl ⟨by rfl, ?_⟩) (by assumption) ?_
        rotate_left
        · intro w1 hSw; obtain ⟨hcS, hfS⟩ := bcell hSw; go_simp; (try with_reducible rfl)
        (try simp only [Act.put, List.setIfInBounds_toArray, List.set_cons_zero, List.set_cons_succ])
        refine takeD 2 16 (v := ?_) rfl rfl (by kernel_rfl) (by kernel_rfl) (by kernel_rfl) (fun _ _ _ h => h) (Or.inl ⟨by rfl, ?_⟩) (by assumption) ?_
        rotate_left
        · intro w1 hSw; obtain ⟨hcS, hfS⟩ := bcell hSw; go_simp; (try with_reducible rfl)
        (try simp only [Act.put, List.setIfInBounds_toArray, List.set_cons_zero, List.set_cons_succ])
        refine takeD 3 17 (v := ?_) rfl rfl (by kernel_rfl) (by kernel_rfl) (by kernel_rfl) (fun _ _ _ h => h) (Or.inl ⟨by rfl, ?_⟩) (by assumption) ?_
        rotate_left
        · intro w1 hSw; obtain ⟨hcS, hfS⟩ := bcell hSw; go_simp; (try with_reducible rfl)
        (try simp only [Act.put, List.setIfInBounds_toArray, List.set_cons_zero, List.set_cons_succ])
        refine takeD 4 18 (v := ?_) rfl rfl (by kernel_rfl) (by kernel_rfl) (by kernel_rfl) (fun _ _ _ h => h) (Or.inl ⟨by rfl, ?_⟩) (by assumption) ?_
        rotate_left
        · intro w1 hSw; obtain ⟨hcS, hfS⟩ := bcell hSw; go_simp; (try with_reducible rfl)
        (try simp only [Act.put, List.setIfInBounds_toArray, List.set_cons_zero, List.set_cons_succ])
        refine takeD 5 19 (v := ?_) rfl rfl (by kernel_rfl) (by kernel_rfl) (by kernel_rfl) (fun _ _ _ h => h) (Or.inl ⟨by rfl, ?_⟩) (by assumption) ?_
        rotate_left
        · intro w1 hSw; obtain ⟨hcS, hfS⟩ := bcell hSw; go_simp; (try with_reducible rfl)
        (try simp only [Act.put, List.setIfInBounds_toArray, List.set_cons_zero, List.set_cons_succ])
        refine takeD 6 20 (v := ?_) rfl rfl (by kernel_rfl) (by kernel_rfl) (by kernel_rfl) (fun _ _ _ h => h) (Or.inl ⟨by rfl, ?_⟩) (by assumption) ?_
        rotate_left
        · intro w1 hSw; obtain ⟨hcS, hfS⟩ := bcell hSw; go_simp; (try with_reducible rfl)
        (try simp only [Act.put, List.setIfInBounds_toArray, List.set_cons_zero, List.set_cons_succ])
        refine takeD 7 21 (v := ?_) rfl rfl (by kernel_rfl) (by kernel_rfl) (by kernel_rfl) (fun _ _ _ h => h) (Or.inl ⟨by rfl, ?_⟩) (by assumption) ?_
        rotate_left
        · intro w1 hSw; obtain ⟨hcS, hfS⟩ := bcell hSw; go_simp; (try with_reducible rfl)
        (try simp only [Act.put, List.setIfInBounds_toArray, List.set_cons_zero, List.set_cons_succ])
        refine takeD 8 22 (v := ?_) rfl rfl (by kernel_rfl) (by kernel_rfl) (by kernel_rfl) (fun _ _ _ h => h) (Or.inl ⟨by rfl, ?_⟩) (by assumption) ?_
        rotate_left
        · intro w1 hSw; obtain ⟨hcS, hfS⟩ := bcell hSw; go_simp; (try with_reducible rfl)
        (try simp only [Act.put, List.setIfInBounds_toArray, List.set_cons_zero, List.set_cons_succ])
        refine takeD 9 23 (v := ?_) rfl rfl (by kernel_rfl) (by kernel_rfl) (by kernel_rfl) (fun _ _ _ h => h) (Or.inl ⟨by rfl, ?_⟩) (by assumption) ?_
        rotate_left
        · intro w1 hSw; obtain ⟨hcS, hfS⟩ := bcell hSw; go_simp; (try with_reducible rfl)
        (try simp only [Act.put, List.setIfInBounds_toArray, List.set_cons_zero, List.set_cons_succ])
        refine takeD 10 24 (v := ?_) rfl rfl (by kernel_rfl) (by kernel_rfl) (by kernel_rfl) (fun _ _ _ h => h) (Or.inl ⟨by rfl, ?_⟩) (by assumption) ?_
        rotate_left
        · intro w1 hSw; obtain ⟨hcS, hfS⟩ := bcell hSw; go_simp; (try with_reducible rfl)
        (try simp only [Act.put, List.setIfInBounds_toArray, List.set_cons_zero, List.set_cons_succ])
        refine takeD 11 25 (v := ?_) rfl rfl (by kernel_rfl) (by kernel_rfl) (by kernel_rfl) (fun _ _ _ h => h) (Or.inl ⟨by rfl, ?_⟩) (by assumption) ?_
        rotate_left
        · intro w1 hSw; obtain ⟨hcS, hfS⟩ := bcell hSw; go_simp; (try with_reducible rfl)
        (try simp only [Act.put, List.setIfInBounds_toArray, List.set_cons_zero, List.set_cons_succ])
        refine takeD 12 26 (v := ?_) rfl rfl (by kernel_rfl) (by kernel_rfl) (by kernel_rfl) (fun _ _ _ h => h) (Or.inl ⟨by rfl, ?_⟩) (by assumption) ?_
        rotate_left
        · intro w1 hSw; obtain ⟨hcS, hfS⟩ := bcell hSw; go_simp; (try with_reducible rfl)
        (try simp only [Act.put, List.setIfInBounds_toArray, List.set_cons_zero, List.set_cons_succ])
        refine takeD 13 27 (v := ?_) rfl rfl (by kernel_rfl) (by kernel_rfl) (by kernel_rfl) (fun _ _ _ h => h) (Or.inl ⟨by rfl, ?_⟩) (by assumption) ?_
        rotate_left
        · intro w1 hSw; obtain ⟨hcS, hfS⟩ := bcell hSw; go_simp; (try with_reducible rfl)
        (try simp only [Act.put, List.setIfInBounds_toArray, List.set_cons_zero, List.set_cons_succ])
        refine takeD 14 28 (v := ?_) rfl rfl (by kernel_rfl) (by kernel_rfl) (by kernel_rfl) (fun _ _ _ h => h) (Or.inl ⟨by rfl, ?_⟩) (by assumption) ?_
        rotate_left
        · intro w1 hSw; obtain ⟨hcS, hfS⟩ := bcell hSw; go_simp; (try with_reducible rfl)
        (try simp only [Act.put, List.setIfInBounds_toArray, List.set_cons_zero, List.set_cons_succ])
        refine takeD 15 29 (v := ?_) rfl rfl (by kernel_rfl) (by kernel_rfl) (by kernel_rfl) (fun _ _ _ h => h) (Or.inl ⟨by rfl, ?_⟩) (by assumption) ?_
        rotate_left
        · intro w1 hSw; obtain ⟨hcS, hfS⟩ := bcell hSw; go_simp; (try with_reducible rfl)
        (try simp only [Act.put, List.setIfInBounds_toArray, List.set_cons_zero, List.set_cons_succ])
        refine takeD 16 30 (v := ?_) rfl rfl (by kernel_rfl) (by kernel_rfl) (by kernel_rfl) (fun _ _ _ h => h) (Or.inl ⟨by rfl, ?_⟩) (by assumption) ?_
        rotate_left
        · intro w1 hSw; obtain ⟨hcS, hfS⟩ := bcell hSw; go_simp; (try with_reducible rfl)
        (try simp only [Act.put, List.setIfInBounds_toArray, List.set_cons_zero, List.set_cons_succ])
        refine takeD 17 31 (v := ?_) rfl rfl (by kernel_rfl) (by kernel_rfl) (by kernel_rfl) (fun _ _ _ h => h) (Or.inl ⟨by rfl, ?_⟩) (by assumption) ?_
        rotate_left
        · intro w1 hSw; obtain ⟨hcS, hfS⟩ := bcell hSw; go_simp; (try with_reducible rfl)
        (try simp only [Act.put, List.setIfInBounds_toArray, List.set_cons_zero, List.set_cons_succ])
        refine takeD 18 32 (v := ?_) rfl rfl (by kernel_rfl) (by kernel_rfl) (by kernel_rfl) (fun _ _ _ h => h) (Or.inl ⟨by rfl, ?_⟩) (by assumption) ?_
        rotate_left
        · intro w1 hSw; obtain ⟨hcS, hfS⟩ := bcell hSw; go_simp; (try with_reducible rfl)
        (try simp only [Act.put, List.setIfInBounds_toArray, List.set_cons_zero, List.set_cons_succ])
        refine takeD 19 33 (v := ?_) rfl rfl (by kernel_rfl) (by kernel_rfl) (by kernel_rfl) (fun _ _ _ h => h) (Or.inl ⟨by rfl, ?_⟩) (by assumption) ?_
        rotate_left
        · intro w1 hSw; obtain ⟨hcS, hfS⟩ := bcell hSw; go_simp; (try with_reducible rfl)
        (try simp only [Act.put, List.setIfInBounds_toArray, List.set_cons_zero, List.set_cons_succ])
        refine wpAnyH_done (by kernel_rfl) ?_ _
        have hbq := hq
        have BQ := Lib.hid (Below.and hB.out hbq)
        have KR := Lib.hid (KR.out.below hbq)
        have XR := Lib.hid (XR.out.below hbq)
        have HC := Lib.hid (show (L.take (j + 1)).countP (likeP r) = m + (if likeP r x then 1 else 0) by rw [HT.out, List.countP_append, ha.out]; simp [List.countP_cons])
        clear hbq k0 k1 k2 k3 k4 k5 lk r0 r1 r2 r3 lr xr0 xr1 xr2 xr3 lx ha HT hB
        rcases h2 : (x.s == r.s) with _ | _
        · skip
          have HC := Lib.hid (show (L.take (j + 1)).countP (likeP r) = m by rw [HC.out]; simp [likeP, h2])
          go_wp2
          go_roundw
          case rel => exact ⟨j + 1, m, by omega, by omega, rfl, by go_num, HC.out, KR.out, XR.out, BQ.out⟩
          case measure => (simp [intOf]; try omega)
        · skip
          have HC := Lib.hid (show (L.take (j + 1)).countP (likeP r) = m + 1 by rw [HC.out]; simp [likeP, h1, h2])
          go_wp2
          go_roundw
          case rel => exact ⟨j + 1, m + 1, by omega, by omega, by go_num, by go_num, HC.out, KR.out, XR.out, BQ.out⟩
          case measure => (simp [intOf]; try omega)
    · have i1 : ¬ (j : Int) < (L.length : Int) := by omega
      obtain rfl : j = L.length := by omega
      rw [List.take_length] at ha
      have BZ := Lib.hid (Below.and BB.out hB.out)
      have h9 := ha.out
      subst h9
      go_wp2
      go_light
      go_ret
      exact ⟨rfl, BZ.out⟩

set_option maxRecDepth 100000 in
set_option maxHeartbeats 4000000 in
theorem specPlayerSure (q : Rq) (A : Option Addr) (a : Nat) (L : List Rp) (w : World) (hl : L.length ≤ maxLen) (hr : Rd 4 Rp.cells w A L) :
    Calls Try.prog 18 #[playerV q A L.length a] w fun e w' => e = .returned (.tuple #[(sureP q L).1.val, .bool (sureP q L).2]) ∧ Below w.heap.size w w' := by
  have hl0 := hl
  unfold maxLen at hl
  have z0 : Below w.heap.size w ((w.alloc (.cells #[.int .i64 q.c, .int .i64 q.n, .int .i64 q.o, .int .i64 q.x, .int .i64 q.y, .slice A L.length a] 27)).alloc (.cells #[.int .i64 0, .int .i64 0, .int .i64 0, .int .i64 0] 29)) := below_alloc2 w _ _
  have HR := Lib.hid (Rd.below hr z0)
  have K : Hid (Bkk ((w.alloc (.cells #[.int .i64 q.c, .int .i64 q.n, .int .i64 q.o, .int .i64 q.x, .int .i64 q.y, .slice A L.length a] 27)).alloc (.cells #[.int .i64 0, .int .i64 0, .int .i64 0, .int .i64 0] 29)) w.heap.size 27 #[.int .i64 q.c, .int .i64 q.n, .int .i64 q.o, .int .i64 q.x, .int .i64 q.y, .slice A L.length a]) := (Bkk.new (cs := #[.int .i64 q.c, .int .i64 q.n, .int .i64 q.o, .int .i64 q.x, .int .i64 q.y, .slice A L.length a]) (t := 27) w).alloc _
  have X : Hid (Bkk ((w.alloc (.cells #[.int .i64 q.c, .int .i64 q.n, .int .i64 q.o, .int .i64 q.x, .int .i64 q.y, .slice A L.length a] 27)).alloc (.cells #[.int .i64 0, .int .i64 0, .int .i64 0, .int .i64 0] 29)) (w.heap.size + 1) 29 #[.int .i64 0, .int .i64 0, .int .i64 0, .int .i64 0]) := by have := Bkk.new (cs := #[.int .i64 0, .int .i64 0, .int .i64 0, .int .i64 0]) (t := 29) (w.alloc (.cells #[.int .i64 q.c, .int .i64 q.n, .int .i64 q.o, .int .i64 q.x, .int .i64 q.y, .slice A L.length a] 27)); simpa [Hid] using this
  have BB := Lib.hid z0
  clear hr z0
  go_enter Try.func18, Try.ntmps18
  go_upto_region 1 with (fail)
  obtain ⟨w0, hw0⟩ : ∃ X, X = ((w.alloc (.cells #[.int .i64 q.c, .int .i64 q.n, .int .i64 q.o, .int .i64 q.x, .int .i64 q.y, .slice A L.length a] 27)).alloc (.cells #[.int .i64 0, .int .i64 0, .int .i64 0, .int .i64 0] 29)) := ⟨_, rfl⟩
  rw [← hw0] at HR K X BB ⊢
  clear hw0
  have k0 : w0.cell? ⟨w.heap.size, 0, none⟩ = some (.int .i64 q.c) := K.out.cell 0
  have k1 : w0.cell? ⟨w.heap.size, 1, none⟩ = some (.int .i64 q.n) := K.out.cell 1
  have k2 : w0.cell? ⟨w.heap.size, 2, none⟩ = some (.int .i64 q.o) := K.out.cell 2
  have k3 : w0.cell? ⟨w.heap.size, 3, none⟩ = some (.int .i64 q.x) := K.out.cell 3
  have k4 : w0.cell? ⟨w.heap.size, 4, none⟩ = some (.int .i64 q.y) := K.out.cell 4
  have k5 : w0.cell? ⟨w.heap.size, 5, none⟩ = some (.slice A L.length a) := K.out.cell 5
  go_wp2_with (fail)
  refine (l11Ok q A a L _ hl0 HR.out).mono ?_
  rintro e w1 ⟨rfl, hb⟩
  have HR := Lib.hid (Rd.below HR.out hb)
  have K := Lib.hid (K.out.below hb)
  have X := Lib.hid (X.out.below hb)
  have BB := Lib.hid (Below.and BB.out hb)
  clear hb k0 k1 k2 k3 k4 k5
  rcases hok : plB q L with _ | _
  · skip
    have HF := Lib.hid (show sureP q L = (⟨0, 0, 0, 0⟩, false) by unfold sureP; rw [hok]; rfl)
    have z0 : w1.cell? ⟨w.heap.size + 1, 0, none⟩ = some (.int .i64 0) := X.out.cell 0
    have z1 : w1.cell? ⟨w.heap.size + 1, 1, none⟩ = some (.int .i64 0) := X.out.cell 1
    have z2 : w1.cell? ⟨w.heap.size + 1, 2, none⟩ = some (.int .i64 0) := X.out.cell 2
    have z3 : w1.cell? ⟨w.heap.size + 1, 3, none⟩ = some (.int .i64 0) := X.out.cell 3
    have zf := X.out.frozen
    have lz := X.out.lt
    have BF := Lib.hid (Below.setCell (Below.setCell (Below.setCell (Below.setCell BB.out (p := ⟨w.heap.size + 1, 0, none⟩) (by simp) (.int .i64 0)) (p := ⟨w.heap.size + 1, 1, none⟩) (by simp) (.int .i64 0)) (p := ⟨w.heap.size + 1, 2, none⟩) (by simp) (.int .i64 0)) (p := ⟨w.heap.size + 1, 3, none⟩) (by simp) (.int .i64 0))
    clear hok
    go_wp2
    exact bodyPost_ret (v := .tuple #[Rp.val ⟨0, 0, 0, 0⟩, .bool false]) (by simp [results, Try.results18, go_sem, z0, z1, z2, z3, zf]) rfl ⟨by rw [HF.out], BF.out⟩
  have HF := Lib.hid (show sureP q L = firstR (sureX L) L by unfold sureP; rw [hok]; rfl)
  clear hok
  go_wp2
  go_loopw [4] (fun v wr => ∃ j : Nat, j ≤ L.length ∧ v = .int .i64 (j : Int) ∧ Hid (∀ x ∈ L.take j, sureX L x = false) ∧ Hid (Bkk wr w.heap.size 27 #[.int .i64 q.c, .int .i64 q.n, .int .i64 q.o, .int .i64 q.x, .int .i64 q.y, .slice A L.length a]) ∧ Hid (Bkk wr (w.heap.size + 1) 29 #[.int .i64 0, .int .i64 0, .int .i64 0, .int .i64 0]) ∧ Hid (Below w1.heap.size w1 wr)) (fun v _ => L.length - (intOf v).toNat)
  case atStart => exact ⟨0, Nat.zero_le _, rfl, by simp [Hid], K.out, X.out, Below.refl _ _⟩
  case round =>
    obtain ⟨j, hj, rfl, ha, KR, XR, hB⟩ := hrel
    have k0 : wr.cell? ⟨w.heap.size, 0, none⟩ = some (.int .i64 q.c) := KR.out.cell 0
    have k1 : wr.cell? ⟨w.heap.size, 1, none⟩ = some (.int .i64 q.n) := KR.out.cell 1
    have k2 : wr.cell? ⟨w.heap.size, 2, none⟩ = some (.int .i64 q.o) := KR.out.cell 2
    have k3 : wr.cell? ⟨w.heap.size, 3, none⟩ = some (.int .i64 q.x) := KR.out.cell 3
    have k4 : wr.cell? ⟨w.heap.size, 4, none⟩ = some (.int .i64 q.y) := KR.out.cell 4
    have k5 : wr.cell? ⟨w.heap.size, 5, none⟩ = some (.slice A L.length a) := KR.out.cell 5
    have lk := KR.out.lt
    by_cases hlt : j < L.length
    · obtain ⟨g, o, rfl, ca⟩ := Rd.below HR.out hB.out j hlt
      have HT := Lib.hid (List.take_succ_eq_append_getElem hlt)
      have HD := Lib.hid (List.drop_eq_getElem_cons hlt)
      generalize L[j] = x at ca HT HD
      have xr0 : wr.cell? ⟨g, o + j * 4, none⟩ = some (.int .i64 x.f) := ca 0 _ rfl
      have xr1 : wr.cell? ⟨g, o + j * 4 + 1, none⟩ = some (.int .i64 x.n) := ca 1 _ rfl
      have xr2 : wr.cell? ⟨g, o + j * 4 + 2, none⟩ = some (.int .i64 x.c) := ca 2 _ rfl
      have xr3 : wr.cell? ⟨g, o + j * 4 + 3, none⟩ = some (.int .i64 x.s) := ca 3 _ rfl
      clear ca
      have lx : g < wr.heap.size := World.block_lt_of_cell? wr _ xr0
      have i0 : (0 : Int) ≤ (j : Int) := by omega
      have i1 : (j : Int) < (L.length : Int) := by omega
      go_upto_region 6 with (fail)
      refine wp_region_held_drew (S := fun w1 => Below wr.heap.size wr w1) (by kernel_rfl) ((Below.refl _ _).drew) (fun hq => ?_)
      refine takeD 0 16 (v := ?_) rfl rfl (by kernel_rfl) (by kernel_rfl) (by kernel_rfl) (fun _ _ _ h => h) (Or.inl ⟨by rfl, ?_⟩) (by assumption) ?_
      rotate_left
      · intro w1 hSw; obtain ⟨hcS, hfS⟩ := bcell hSw; go_simp; (try with_reducible rfl)
      (try simp only [Act.put, List.setIfInBounds_toArray, List.set_cons_zero, List.set_cons_succ])
      refine takeD 1 17 (v := ?_) rfl rfl (by kernel_rfl) (by kernel_rfl) (by kernel_rfl) (fun _ _ _ h => h) (Or.inl ⟨by rfl, ?_⟩) (by assumption) ?_
      rotate_left
      · intro w1 hSw; obtain ⟨hcS, hfS⟩ := bcell hSw; go_simp; (try with_reducible rfl)
      (try simp only [Act.put, List.setIfInBounds_toArray, List.set_cons_zero, List.set_cons_succ])
      refine takeD 2 18 (v := ?_) rfl rfl (by kernel_rfl) (by kernel_rfl) (by kernel_rfl) (fun _ _ _ h => h) (Or.inl ⟨by rfl, ?_⟩) (by assumption) ?_
      rotate_left
      · intro w1 hSw; obtain ⟨hcS, hfS⟩ := bcell hSw; go_simp; (try with_reducible rfl)
      (try simp only [Act.put, List.setIfInBounds_toArray, List.set_cons_zero, List.set_cons_succ])
      refine takeD 3 19 (v := ?_) rfl rfl (by kernel_rfl) (by kernel_rfl) (by kernel_rfl) (fun _ _ _ h => h) (Or.inl ⟨by rfl, ?_⟩) (by assumption) ?_
      rotate_left
      · intro w1 hSw; obtain ⟨hcS, hfS⟩ := bcell hSw; go_simp; (try with_reducible rfl)
      (try simp only [Act.put, List.setIfInBounds_toArray, List.set_cons_zero, List.set_cons_succ])
      refine takeD 4 20 (v := ?_) rfl rfl (by kernel_rfl) (by kernel_rfl) (by kernel_rfl) (fun _ _ _ h => h) (Or.inl ⟨by rfl, ?_⟩) (by assumption) ?_
      rotate_left
      · intro w1 hSw; obtain ⟨hcS, hfS⟩ := bcell hSw; go_simp; (try with_reducible rfl)
      (try simp only [Act.put, List.setIfInBounds_toArray, List.set_cons_zero, List.set_cons_succ])
      refine takeD 5 21 (v := ?_) rfl rfl (by kernel_rfl) (by kernel_rfl) (by kernel_rfl) (fun _ _ _ h => h) (Or.inl ⟨by rfl, ?_⟩) (by assumption) ?_
      rotate_left
      · intro w1 hSw; obtain ⟨hcS, hfS⟩ := bcell hSw; go_simp; (try with_reducible rfl)
      (try simp only [Act.put, List.setIfInBounds_toArray, List.set_cons_zero, List.set_cons_succ])
      refine wpAnyH_ready (rs := [6]) (by kernel_rfl) (by simp) ?_
      refine AllReadyH.cons rfl (fun K hK => ?_) AllReadyH.nil
      go_simp
      refine (l11Most q _ a L x _ hl0 (Rd.below HR.out (Below.and hB.out hq))).mono ?_
      rintro e w2 ⟨rfl, hb⟩
      refine hK.out _ _ (Below.and hq hb) (fun hq2 => ?_)
      clear hK K
      (try simp only [Act.put, List.setIfInBounds_toArray, List.set_cons_zero, List.set_cons_succ])
      refine takeD 7 23 (v := ?_) rfl rfl (by kernel_rfl) (by kernel_rfl) (by kernel_rfl) (fun _ _ _ h => h) (Or.inl ⟨by rfl, ?_⟩) (by assumption) ?_
      rotate_left
      · intro w1 hSw; obtain ⟨hcS, hfS⟩ := bcell hSw; go_simp; (try with_reducible rfl)
      (try simp only [Act.put, List.setIfInBounds_toArray, List.set_cons_zero, List.set_cons_succ])
      refine wpAnyH_done (by kernel_rfl) ?_ _
      have hbq := hq2
      have XX := Lib.hid (show wr.cell? ⟨g, o + j * 4, none⟩ = some (.int .i64 x.f) ∧ wr.cell? ⟨g, o + j * 4 + 1, none⟩ = some (.int .i64 x.n) ∧ wr.cell? ⟨g, o + j * 4 + 2, none⟩ = some (.int .i64 x.c) ∧ wr.cell? ⟨g, o + j * 4 + 3, none⟩ = some (.int .i64 x.s) from ⟨xr0, xr1, xr2, xr3⟩)
      have XX := Lib.hid (show w2.cell? ⟨g, o + j * 4, none⟩ = some (.int .i64 x.f) ∧ w2.cell? ⟨g, o + j * 4 + 1, none⟩ = some (.int .i64 x.n) ∧ w2.cell? ⟨g, o + j * 4 + 2, none⟩ = some (.int .i64 x.c) ∧ w2.cell? ⟨g, o + j * 4 + 3, none⟩ = some (.int .i64 x.s) from ⟨cell_kept hbq XX.out.1, cell_kept hbq XX.out.2.1, cell_kept hbq XX.out.2.2.1, cell_kept hbq XX.out.2.2.2⟩)
      have BQ := Lib.hid (Below.and hB.out hbq)
      have KR := Lib.hid (KR.out.below hbq)
      have XR := Lib.hid (XR.out.below hbq)
      clear hbq k0 k1 k2 k3 k4 k5 lk xr0 xr1 xr2 xr3 lx hB
      obtain ⟨bx, hbx⟩ : ∃ bx, sureX L x = bx := ⟨_, rfl⟩
      have HX := Lib.hid hbx
      rw [show decide ((2 : Int) ≤ ((L.countP (likeP x) : Nat) : Int)) = bx from hbx]
      clear hbx
      rcases bx with _ | _
      · have HA : Hid (∀ y ∈ L.take (j + 1), sureX L y = false) := by
          intro y hy
          rw [HT.out, List.mem_append] at hy
          rcases hy with h | h
          · exact ha.out y h
          · simp only [List.mem_singleton] at h
            rw [h]
            exact HX.out
        clear HX ha HT
        go_wp2
        go_roundw
        case rel => exact ⟨j + 1, by omega, by go_num, HA.out, KR.out, XR.out, BQ.out⟩
        case measure => (simp [intOf]; try omega)
      · have HF := Lib.hid (show sureP q L = (x, true) by
          rw [HF.out, firstR_skip _ L j ha.out, HD.out]
          show (if sureX L x then _ else _) = _
          rw [HX.out]
          rfl)
        clear HX ha HT HD
        have k0 : w2.cell? ⟨w.heap.size, 0, none⟩ = some (.int .i64 q.c) := KR.out.cell 0
        have k1 : w2.cell? ⟨w.heap.size, 1, none⟩ = some (.int .i64 q.n) := KR.out.cell 1
        have k2 : w2.cell? ⟨w.heap.size, 2, none⟩ = some (.int .i64 q.o) := KR.out.cell 2
        have k3 : w2.cell? ⟨w.heap.size, 3, none⟩ = some (.int .i64 q.x) := KR.out.cell 3
        have k4 : w2.cell? ⟨w.heap.size, 4, none⟩ = some (.int .i64 q.y) := KR.out.cell 4
        have k5 : w2.cell? ⟨w.heap.size, 5, none⟩ = some (.slice (some ⟨g, o, none⟩) L.length a) := KR.out.cell 5
        have z0 : w2.cell? ⟨w.heap.size + 1, 0, none⟩ = some (.int .i64 0) := XR.out.cell 0
        have z1 : w2.cell? ⟨w.heap.size + 1, 1, none⟩ = some (.int .i64 0) := XR.out.cell 1
        have z2 : w2.cell? ⟨w.heap.size + 1, 2, none⟩ = some (.int .i64 0) := XR.out.cell 2
        have z3 : w2.cell? ⟨w.heap.size + 1, 3, none⟩ = some (.int .i64 0) := XR.out.cell 3
        obtain ⟨xr0, xr1, xr2, xr3⟩ := XX.out
        have zf := XR.out.frozen
        have lz := XR.out.lt
        have BZ := Lib.hid (Below.and BB.out BQ.out)
        have BF := Lib.hid (Below.setCell (Below.setCell (Below.setCell (Below.setCell BZ.out (p := ⟨w.heap.size + 1, 0, none⟩) (by simp) (.int .i64 x.f)) (p := ⟨w.heap.size + 1, 1, none⟩) (by simp) (.int .i64 x.n)) (p := ⟨w.heap.size + 1, 2, none⟩) (by simp) (.int .i64 x.c)) (p := ⟨w.heap.size + 1, 3, none⟩) (by simp) (.int .i64 x.s))
        go_wp2
        exact bodyPost_ret (v := .tuple #[Rp.val x, .bool true]) (by simp [results, Try.results18, go_sem, z0, z1, z2, z3, zf]) rfl ⟨by rw [HF.out], BF.out⟩
    · have i1 : ¬ (j : Int) < (L.length : Int) := by omega
      obtain rfl : j = L.length := by omega
      have HF := Lib.hid (show sureP q L = (⟨0, 0, 0, 0⟩, false) by
        rw [HF.out, firstR_skip _ L L.length ha.out, List.drop_length]
        rfl)
      have z0 : wr.cell? ⟨w.heap.size + 1, 0, none⟩ = some (.int .i64 0) := XR.out.cell 0
      have z1 : wr.cell? ⟨w.heap.size + 1, 1, none⟩ = some (.int .i64 0) := XR.out.cell 1
      have z2 : wr.cell? ⟨w.heap.size + 1, 2, none⟩ = some (.int .i64 0) := XR.out.cell 2
      have z3 : wr.cell? ⟨w.heap.size + 1, 3, none⟩ = some (.int .i64 0) := XR.out.cell 3
      have zf := XR.out.frozen
      have lz := XR.out.lt
      have BZ := Lib.hid (Below.and BB.out hB.out)
      have BF := Lib.hid (Below.setCell (Below.setCell (Below.setCell (Below.setCell BZ.out (p := ⟨w.heap.size + 1, 0, none⟩) (by simp) (.int .i64 0)) (p := ⟨w.heap.size + 1, 1, none⟩) (by simp) (.int .i64 0)) (p := ⟨w.heap.size + 1, 2, none⟩) (by simp) (.int .i64 0)) (p := ⟨w.heap.size + 1, 3, none⟩) (by simp) (.int .i64 0))
      go_wp2
      exact bodyPost_ret (v := .tuple #[Rp.val ⟨0, 0, 0, 0⟩, .bool false]) (by simp [results, Try.results18, go_sem, z0, z1, z2, z3, zf]) rfl ⟨by rw [HF.out], BF.out⟩

end Go.Proofs.Ytdpladihacgobaa
