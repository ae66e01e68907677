/- Players: whether one is ok, the program's way. -/
import Derived.Test.YtdpladihacgobaaNa
namespace Go.Proofs.Ytdpladihacgobaa
open Go.ChangeShapes Go.WideShapes Go.ChangeAt Go.RowKit
set_option linter.unusedVariables false
set_option linter.unusedSimpArgs false

/-- Whether an answer fits a player, whose answers are L. -/
def okR (q : Rq) (L : List Rp) (x : Rp) : Bool := rpB x && (!(x.n != q.n) && !(((L.countP (fromP x.f) : Nat) : Int) != 1))
def plB (q : Rq) (L : List Rp) : Bool := rqB q && L.all (okR q L)
def firstR (P : Rp → Bool) : List Rp → Rp × Bool
  | [] => (⟨0, 0, 0, 0⟩, false)
  | x :: l => if P x then (x, true) else firstR P l
theorem firstR_all (P : Rp → Bool) (l : List Rp) : (firstR P l).2 = !(l.all fun x => !P x) := by
  induction l with
  | nil => rfl
  | cons x l ih =>
    rcases h : P x with _ | _
    · simp [firstR, h, ih]
    · simp [firstR, h]
theorem firstR_skip (P : Rp → Bool) : ∀ (l : List Rp) (j : Nat), (∀ x ∈ l.take j, P x = false) → firstR P l = firstR P (l.drop j)
  | l, 0, _ => rfl
  | [], j + 1, _ => rfl
  | x :: l, j + 1, h => by
    have h1 : P x = false := h x (by simp)
    show (if P x then (x, true) else firstR P l) = _
    rw [h1]
    exact firstR_skip P l j (fun y hy => h y (by simp [hy]))

set_option maxRecDepth 100000 in
set_option maxHeartbeats 2000000 in
theorem okFn (x : Rp) (q : Rq) (A : Option Addr) (a : Nat) (L : List Rp) (p : Nat) (w : World) (hl : L.length ≤ maxLen) (hr : Rd 4 Rp.cells w A L) (hp : Bkk w p 27 (plCs q A L.length a)) :
    Calls Try.prog 40 #[x.val, .pointer (some ⟨p, 0, none⟩)] w fun e w' => e = .returned (.bool (!okR q L x)) ∧ Below w.heap.size w w' := by
  have z0 : Below w.heap.size w (w.alloc (.cells (rpCs x) 29)) := (Below.refl _ _).alloc (Nat.le_refl _) _
  have HR := Lib.hid (Rd.below hr z0)
  have K := Lib.hid (hp.alloc (.cells (rpCs x) 29))
  have X : Hid (Bkk (w.alloc (.cells (rpCs x) 29)) w.heap.size 29 (rpCs x)) := Bkk.new _
  have BB := Lib.hid z0
  clear hr hp z0
  go_enter Try.func40, Try.ntmps40
  go_wp2_with (fail)
  refine (implReplyOk x _).mono ?_
  rintro e w1 ⟨rfl, hb⟩
  have HR := Lib.hid (Rd.below HR.out hb)
  have BB := Lib.hid (Below.and BB.out hb)
  have K := Lib.hid (K.out.below hb)
  have X := Lib.hid (X.out.below hb)
  clear hb
  rcases h1 : rpB x with _ | _
  · go_wp2
    go_light
    go_ret
    exact ⟨ret_bool (by unfold okR; rw [h1]; rfl), BB.out⟩
  have k0 : w1.cell? ⟨p, 0, none⟩ = some (.int .i64 q.c) := K.out.cell 0
  have k1 : w1.cell? ⟨p, 1, none⟩ = some (.int .i64 q.n) := K.out.cell 1
  have k2 : w1.cell? ⟨p, 2, none⟩ = some (.int .i64 q.o) := K.out.cell 2
  have k3 : w1.cell? ⟨p, 3, none⟩ = some (.int .i64 q.x) := K.out.cell 3
  have k4 : w1.cell? ⟨p, 4, none⟩ = some (.int .i64 q.y) := K.out.cell 4
  have k5 : w1.cell? ⟨p, 5, none⟩ = some (.slice A L.length a) := K.out.cell 5
  have x0 : w1.cell? ⟨w.heap.size, 0, none⟩ = some (.int .i64 x.f) := X.out.cell 0
  have x1 : w1.cell? ⟨w.heap.size, 1, none⟩ = some (.int .i64 x.n) := X.out.cell 1
  have x2 : w1.cell? ⟨w.heap.size, 2, none⟩ = some (.int .i64 x.c) := X.out.cell 2
  have x3 : w1.cell? ⟨w.heap.size, 3, none⟩ = some (.int .i64 x.s) := X.out.cell 3
  rcases h2 : (x.n != q.n) with _ | _
  · go_wp2_with (fail)
    refine (repliesFrom q A a L x.f _ hl HR.out).mono ?_
    rintro e w2 ⟨rfl, hb⟩
    have BB := Lib.hid (Below.and BB.out hb)
    clear hb
    obtain ⟨b3, hb3⟩ : ∃ b3, (((L.countP (fromP x.f) : Nat) : Int) != 1) = b3 := ⟨_, rfl⟩
    have H3 := Lib.hid hb3
    go_wp2
    go_light
    go_ret
    exact ⟨ret_bool (by unfold okR; rw [h1, h2, H3.out]; cases b3 <;> rfl), BB.out⟩
  · go_wp2
    go_light
    go_ret
    exact ⟨ret_bool (by unfold okR; rw [h1, h2]; rfl), BB.out⟩

set_option maxRecDepth 100000 in
set_option maxHeartbeats 2000000 in
theorem firstOk (l : List Rp) (q : Rq) (A B : Option Addr) (a b : Nat) (L : List Rp) (p : Nat) (w : World) (hm : l.length ≤ maxLen) (hl : L.length ≤ maxLen) (hb : Rd 4 Rp.cells w B l) (hr : Rd 4 Rp.cells w A L) (hp : Bkk w p 27 (plCs q A L.length a)) :
    Calls Try.prog 39 #[.slice B l.length b, .func (.func 40) #[] #[.pointer (some ⟨p, 0, none⟩)]] w fun e w' => e = .returned (.tuple #[(firstR (fun x => !okR q L x) l).1.val, .bool (firstR (fun x => !okR q L x) l).2]) ∧ Below w.heap.size w w' := by
  have hl0 := hl
  unfold maxLen at hm
  have z0 : Below w.heap.size w (w.alloc (.cells (rpCs ⟨0, 0, 0, 0⟩) 29)) := (Below.refl _ _).alloc (Nat.le_refl _) _
  have HL := Lib.hid (Rd.below hb z0)
  have HR := Lib.hid (Rd.below hr z0)
  have K := Lib.hid (hp.alloc (.cells (rpCs ⟨0, 0, 0, 0⟩) 29))
  have X : Hid (Bkk (w.alloc (.cells (rpCs ⟨0, 0, 0, 0⟩) 29)) w.heap.size 29 (rpCs ⟨0, 0, 0, 0⟩)) := Bkk.new _
  have BB := Lib.hid z0
  clear hr hp hb z0
  go_enter Try.func39, Try.ntmps39
  go_wp2
  obtain ⟨w0, hw0⟩ : ∃ X, X = w.alloc (.cells (rpCs ⟨0, 0, 0, 0⟩) 29) := ⟨_, rfl⟩
  (try rw [show w.alloc (.cells #[.int .i64 0, .int .i64 0, .int .i64 0, .int .i64 0] 29) = w0 from hw0.symm])
  rw [← hw0] at HL HR K X BB
  clear hw0
  go_loopw [11] (fun v wr => ∃ j : Nat, j ≤ l.length ∧ v = .int .i64 (j : Int) ∧ Hid (∀ x ∈ l.take j, (fun x => !okR q L x) x = false) ∧ Hid (Bkk wr w.heap.size 29 (rpCs ⟨0, 0, 0, 0⟩)) ∧ Hid (Below w0.heap.size w0 wr)) (fun v _ => l.length - (intOf v).toNat)
  case atStart => exact ⟨0, Nat.zero_le _, rfl, by simp [Hid], X.out, Below.refl _ _⟩
  case round =>
    obtain ⟨j, hj, rfl, ha, XR, hb⟩ := hrel
    by_cases hlt : j < l.length
    · obtain ⟨g, o, rfl, ca⟩ := Rd.below HL.out hb.out j hlt
      have HT := Lib.hid (List.take_succ_eq_append_getElem hlt)
      have HD := Lib.hid (List.drop_eq_getElem_cons hlt)
      generalize l[j] = x at ca HT HD
      have xr0 : wr.cell? ⟨g, o + j * 4, none⟩ = some (.int .i64 x.f) := ca 0 _ rfl
      have xr1 : wr.cell? ⟨g, o + j * 4 + 1, none⟩ = some (.int .i64 x.n) := ca 1 _ rfl
      have xr2 : wr.cell? ⟨g, o + j * 4 + 2, none⟩ = some (.int .i64 x.c) := ca 2 _ rfl
      have xr3 : wr.cell? ⟨g, o + j * 4 + 3, none⟩ = some (.int .i64 x.s) := ca 3 _ rfl
      clear ca
      have lx : g < wr.heap.size := World.block_lt_of_cell? wr _ xr0
      have i0 : (0 : Int) ≤ (j : Int) := by omega
      have i1 : (j : Int) < (l.length : Int) := by omega
      have hba : Below wr.heap.size wr (wr.alloc (.cells (rpCs x) 29)) := (Below.refl _ _).alloc (Nat.le_refl _) _
      have B1 := Lib.hid (Below.and hb.out hba)
      have XR := Lib.hid (XR.out.below hba)
      have Y : Hid (Bkk (wr.alloc (.cells (rpCs x) 29)) wr.heap.size 29 (rpCs x)) := Bkk.new _
      clear hba
      go_upto_region 4 with (fail)
      obtain ⟨wx, hwx⟩ : ∃ X, X = wr.alloc (.cells (rpCs x) 29) := ⟨_, rfl⟩
      obtain ⟨pp, hpp⟩ : ∃ X, X = wr.heap.size := ⟨_, rfl⟩
      rw [← hwx] at B1 XR Y
      rw [← hpp] at Y
      (try rw [show wr.alloc (.cells #[.int .i64 x.f, .int .i64 x.n, .int .i64 x.c, .int .i64 x.s] 29) = wx from hwx.symm])
      (try rw [← hpp])
      clear hwx hpp xr0 xr1 xr2 xr3 lx
      have y0 : wx.cell? ⟨pp, 0, none⟩ = some (.int .i64 x.f) := Y.out.cell 0
      have y1 : wx.cell? ⟨pp, 1, none⟩ = some (.int .i64 x.n) := Y.out.cell 1
      have y2 : wx.cell? ⟨pp, 2, none⟩ = some (.int .i64 x.c) := Y.out.cell 2
      have y3 : wx.cell? ⟨pp, 3, none⟩ = some (.int .i64 x.s) := Y.out.cell 3
      go_wp2_with (fail)
      refine (okFn x q A a L p _ hl0 (Rd.below HR.out B1.out) (K.out.below B1.out)).mono ?_
      rintro e w1 ⟨rfl, h1⟩
      have B1 := Lib.hid (Below.and B1.out h1)
      have XR := Lib.hid (XR.out.below h1)
      have Y := Lib.hid (Y.out.below h1)
      clear h1 y0 y1 y2 y3
      rcases hx : (!okR q L x) with _ | _
      · have HA : Hid (∀ y ∈ l.take (j + 1), (fun x => !okR q L x) y = false) := by
          intro y hy
          rw [HT.out, List.mem_append] at hy
          rcases hy with h | h
          · exact ha.out y h
          · simp only [List.mem_singleton] at h
            rw [h]
            exact hx
        clear hx
        go_wp2
        go_roundw
        case rel => exact ⟨j + 1, by omega, by go_num, HA.out, XR.out, B1.out⟩
        case measure => (simp [intOf]; try omega)
      · have HF := Lib.hid (show firstR (fun x => !okR q L x) l = (x, true) by
          rw [firstR_skip _ l j ha.out, HD.out]
          show (if (fun x => !okR q L x) x then _ else _) = _
          rw [show (fun x => !okR q L x) x = true from hx]
          rfl)
        clear hx
        obtain ⟨wz, hwz⟩ : ∃ X, X = w1 := ⟨_, rfl⟩
        rw [← hwz] at XR Y B1
        rw [← hwz]
        clear hwz
        have y0 : wz.cell? ⟨pp, 0, none⟩ = some (.int .i64 x.f) := Y.out.cell 0
        have y1 : wz.cell? ⟨pp, 1, none⟩ = some (.int .i64 x.n) := Y.out.cell 1
        have y2 : wz.cell? ⟨pp, 2, none⟩ = some (.int .i64 x.c) := Y.out.cell 2
        have y3 : wz.cell? ⟨pp, 3, none⟩ = some (.int .i64 x.s) := Y.out.cell 3
        have z0 : wz.cell? ⟨w.heap.size, 0, none⟩ = some (.int .i64 0) := XR.out.cell 0
        have z1 : wz.cell? ⟨w.heap.size, 1, none⟩ = some (.int .i64 0) := XR.out.cell 1
        have z2 : wz.cell? ⟨w.heap.size, 2, none⟩ = some (.int .i64 0) := XR.out.cell 2
        have z3 : wz.cell? ⟨w.heap.size, 3, none⟩ = some (.int .i64 0) := XR.out.cell 3
        have lz := XR.out.lt
        have ly := Y.out.lt
        have zf := XR.out.frozen
        have BF := Lib.hid (((((Below.and BB.out B1.out).setCell (p := ⟨w.heap.size, 0, none⟩) (Nat.le_refl _) (.int .i64 x.f)).setCell (p := ⟨w.heap.size, 1, none⟩) (Nat.le_refl _) (.int .i64 x.n)).setCell (p := ⟨w.heap.size, 2, none⟩) (Nat.le_refl _) (.int .i64 x.c)).setCell (p := ⟨w.heap.size, 3, none⟩) (Nat.le_refl _) (.int .i64 x.s))
        go_wp2
        exact bodyPost_ret (v := .tuple #[x.val, .bool true]) (by simp [results, Try.results39, go_sem, z0, z1, z2, z3, zf]) rfl ⟨by rw [HF.out], BF.out⟩
    · have i1 : ¬ (j : Int) < (l.length : Int) := by omega
      obtain rfl : j = l.length := by omega
      have HF := Lib.hid (show firstR (fun x => !okR q L x) l = (⟨0, 0, 0, 0⟩, false) by
        rw [firstR_skip _ l l.length ha.out, List.drop_length]
        rfl)
      have hba : Below wr.heap.size wr (wr.alloc (.cells (rpCs ⟨0, 0, 0, 0⟩) 29)) := (Below.refl _ _).alloc (Nat.le_refl _) _
      have XR := Lib.hid (XR.out.below hba)
      have B1 := Lib.hid (Below.and hb.out hba)
      have Y : Hid (Bkk (wr.alloc (.cells (rpCs ⟨0, 0, 0, 0⟩) 29)) wr.heap.size 29 (rpCs ⟨0, 0, 0, 0⟩)) := Bkk.new _
      clear hba
      go_upto_region 8 with (fail)
      obtain ⟨wx, hwx⟩ : ∃ X, X = wr.alloc (.cells (rpCs ⟨0, 0, 0, 0⟩) 29) := ⟨_, rfl⟩
      obtain ⟨pp, hpp⟩ : ∃ X, X = wr.heap.size := ⟨_, rfl⟩
      rw [← hwx] at B1 XR Y
      rw [← hpp] at Y
      (try rw [show wr.alloc (.cells #[.int .i64 0, .int .i64 0, .int .i64 0, .int .i64 0] 29) = wx from hwx.symm])
      (try rw [← hpp])
      clear hwx hpp
      have y0 : wx.cell? ⟨pp, 0, none⟩ = some (.int .i64 0) := Y.out.cell 0
      have y1 : wx.cell? ⟨pp, 1, none⟩ = some (.int .i64 0) := Y.out.cell 1
      have y2 : wx.cell? ⟨pp, 2, none⟩ = some (.int .i64 0) := Y.out.cell 2
      have y3 : wx.cell? ⟨pp, 3, none⟩ = some (.int .i64 0) := Y.out.cell 3
      have z0 : wx.cell? ⟨w.heap.size, 0, none⟩ = some (.int .i64 0) := XR.out.cell 0
      have z1 : wx.cell? ⟨w.heap.size, 1, none⟩ = some (.int .i64 0) := XR.out.cell 1
      have z2 : wx.cell? ⟨w.heap.size, 2, none⟩ = some (.int .i64 0) := XR.out.cell 2
      have z3 : wx.cell? ⟨w.heap.size, 3, none⟩ = some (.int .i64 0) := XR.out.cell 3
      have lz := XR.out.lt
      have zf := XR.out.frozen
      have BF := Lib.hid (((((Below.and BB.out B1.out).setCell (p := ⟨w.heap.size, 0, none⟩) (Nat.le_refl _) (.int .i64 0)).setCell (p := ⟨w.heap.size, 1, none⟩) (Nat.le_refl _) (.int .i64 0)).setCell (p := ⟨w.heap.size, 2, none⟩) (Nat.le_refl _) (.int .i64 0)).setCell (p := ⟨w.heap.size, 3, none⟩) (Nat.le_refl _) (.int .i64 0))
      go_wp2
      exact bodyPost_ret (v := .tuple #[Rp.val ⟨0, 0, 0, 0⟩, .bool false]) (by simp [results, Try.results39, go_sem, z0, z1, z2, z3, zf]) rfl ⟨by rw [HF.out], BF.out⟩

set_option maxRecDepth 100000 in
set_option maxHeartbeats 2000000 in
theorem implPlayerOk (q : Rq) (A : Option Addr) (a : Nat) (L : List Rp) (w : World) (hl : L.length ≤ maxLen) (hr : Rd 4 Rp.cells w A L) :
    Calls Try.prog 14 #[playerV q A L.length a] w fun e w' => e = .returned (.bool (plB q L)) ∧ Below w.heap.size w w' := by
  have z0 : Below w.heap.size w (w.alloc (.cells (plCs q A L.length a) 27)) := (Below.refl _ _).alloc (Nat.le_refl _) _
  have HR := Lib.hid (Rd.below hr z0)
  have BB := Lib.hid z0
  have K : Hid (Bkk (w.alloc (.cells (plCs q A L.length a) 27)) w.heap.size 27 (plCs q A L.length a)) := Bkk.new _
  clear hr z0
  go_enter Try.func14, Try.ntmps14
  go_wp2_with (fail)
  refine (firstOk L q A A a a L w.heap.size _ hl hl HR.out HR.out K.out).mono ?_
  rintro e w1 ⟨rfl, hb⟩
  have HA := Lib.hid (firstR_all (fun x => !okR q L x) L)
  obtain ⟨⟨y, u⟩, hy⟩ : ∃ Y, Y = firstR (fun x => !okR q L x) L := ⟨_, rfl⟩
  rw [← hy] at HA ⊢
  have HU : Hid (u = !(L.all (okR q L))) := by have := HA.out; simpa [Hid] using this
  clear hy HA
  have BB := Lib.hid (Below.and BB.out hb)
  have K := Lib.hid (K.out.below hb)
  clear hb
  have hba : Below w1.heap.size w1 (w1.alloc (.cells (rpCs y) 29)) := (Below.refl _ _).alloc (Nat.le_refl _) _
  have BB := Lib.hid (Below.and BB.out hba)
  have K := Lib.hid (K.out.below hba)
  clear hba
  go_upto_region 2 with (fail)
  obtain ⟨wx, hwx⟩ : ∃ X, X = w1.alloc (.cells (rpCs y) 29) := ⟨_, rfl⟩
  rw [← hwx] at BB K
  (try rw [show w1.alloc (.cells #[.int .i64 y.f, .int .i64 y.n, .int .i64 y.c, .int .i64 y.s] 29) = wx from hwx.symm])
  clear hwx
  have k0 : wx.cell? ⟨w.heap.size, 0, none⟩ = some (.int .i64 q.c) := K.out.cell 0
  have k1 : wx.cell? ⟨w.heap.size, 1, none⟩ = some (.int .i64 q.n) := K.out.cell 1
  have k2 : wx.cell? ⟨w.heap.size, 2, none⟩ = some (.int .i64 q.o) := K.out.cell 2
  have k3 : wx.cell? ⟨w.heap.size, 3, none⟩ = some (.int .i64 q.x) := K.out.cell 3
  have k4 : wx.cell? ⟨w.heap.size, 4, none⟩ = some (.int .i64 q.y) := K.out.cell 4
  have k5 : wx.cell? ⟨w.heap.size, 5, none⟩ = some (.slice A L.length a) := K.out.cell 5
  go_wp2_with (fail)
  refine (implReqOk q.c q.n q.o q.x q.y _).mono ?_
  rintro e w2 ⟨rfl, hb⟩
  have BB := Lib.hid (Below.and BB.out hb)
  clear hb
  rcases h1 : reqB q.c q.n q.o q.x q.y with _ | _
  · go_wp2
    go_light
    go_ret
    exact ⟨ret_bool (by unfold plB rqB; rw [h1]; rfl), BB.out⟩
  · go_wp2
    go_light
    go_ret
    exact ⟨ret_bool (by unfold plB rqB; rw [h1, HU.out]; simp), BB.out⟩

end Go.Proofs.Ytdpladihacgobaa
