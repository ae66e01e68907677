/- Gfh, Gfi, Gfj, Gfk, Gfl -/
import Derived.Test.YtagjkngiijmokaaMM
import Derived.Test.YtagjkngiijmokaaMH
import Derived.Test.YtagjkngiijmokaaMQ
import Derived.Test.YtagjkngiijmokaaMU
import Derived.Test.YtagjkngiijmokaaMC
import Derived.Deep.Cut
/- Requests drawn: what a round of the draw keeps. -/
namespace Go.Proofs.Ytagjkngiijmokaa
open Go.ChangeShapes Go.WideShapes Go.ChangeAt Go.RowKit
set_option linter.unusedVariables false
set_option linter.unusedSimpArgs false

/-- A round of the draw: the reader, the list so far, the numbers, and the request at work. -/
structure Rs (w W : World) (R : Nat) (A : Option Addr) (n c : Nat) (q : Int) (gN pX : Nat) (Nl : List Int) (B : Option Addr) (d : Nat) (l : List Rq) (xs : Array Value) : Prop where
 rd : Reader W R A n c q
 gr : w.grownBy W (some R)
 oo : W.ownsRow w.heap.size 35 5 (.slice B l.length d) l.length (l.flatMap Rq.cells)
 no : W.ownsRow w.heap.size 3 1 (.slice (some ⟨gN, 0, none⟩) 3 3) 3 (ints Nl)
 xb : W.heap[pX]? = some (.cells xs 35)
 ox : (Value.slice B l.length d).ownBlock ≠ some pX
 hx : w.heap.size ≤ pX
theorem heap_ltG {w : World} {g : Nat} {o : Obj} (h : w.heap[g]? = some o) : g < w.heap.size := by
 rcases Nat.lt_or_ge g w.heap.size with h1 | h1
 · exact h1
 · rw [Array.getElem?_eq_none h1] at h; cases h
theorem own_ge_ne {w W : World} {base R : Nat} {e : TypeId} {size m : Nat} {v : Value} {xs : List Value} (h : W.ownsRow base e size v m xs) (hR : R < base) : v.ownBlock ≠ some R := fun e => by
 have := (own_block_ge h R e).1; omega
theorem Rs.draw {w W : World} {R : Nat} {A : Option Addr} {n c : Nat} {q : Int} {gN pX : Nat} {Nl : List Int} {B : Option Addr} {d : Nat} {l : List Rq} {xs : Array Value} {W' : World} {q' : Int} (h : Rs w W R A n c q gN pX Nl B d l xs) (hR : R < w.heap.size) (hr : Reader W' R A n c q') (hg : W.grownBy W' (some R)) : Rs w W' R A n c q' gN pX Nl B d l xs :=
 ⟨hr, grownBy_trans h.gr hg, h.oo.kept hg (.inr (own_ge_ne (w := w) h.oo hR)), h.no.kept hg (.inr (own_ge_ne (w := w) h.no hR)), (hg.block pX (heap_ltG h.xb) (by have := h.hx; simp; omega)).trans h.xb, h.ox, h.hx⟩
theorem Rs.gx {w W : World} {R : Nat} {A : Option Addr} {n c : Nat} {q : Int} {gN pX : Nat} {Nl : List Int} {B : Option Addr} {d : Nat} {l : List Rq} {xs : Array Value} (h : Rs w W R A n c q gN pX Nl B d l xs) : gN ≠ pX := fun e => by
 have := own_type h.no h.xb (by decide)
 exact this (by rw [e]; rfl)
theorem Rs.num {w W : World} {R : Nat} {A : Option Addr} {n c : Nat} {q : Int} {gN pX : Nat} {Nl : List Int} {B : Option Addr} {d : Nat} {l : List Rq} {xs : Array Value} (h : Rs w W R A n c q gN pX Nl B d l xs) (hOld : ∀ b off, A = some ⟨b, off, none⟩ → 0 < n → b < w.heap.size) (hR : R < w.heap.size) (hN : Nl.length = 3) (j : Nat) (hj : j < 3) (v : Int) : Rs w (W.setCell ⟨gN, j, none⟩ (.int .i64 v)) R A n c q gN pX (Nl.set j v) B d l xs := by
 have hg0 := (own_block_ge h.no gN rfl).1
 obtain ⟨h1, h2⟩ := own_set1 j (.int .i64 v) (by simpa [hN] using hj) h.no
 have hi : (ints Nl).set j (.int .i64 v) = ints (Nl.set j v) := by unfold ints; rw [List.map_set]
 rw [hi] at h1
 refine ⟨h.rd.set w.heap.size gN j _ hOld hR hg0, grown_new h.gr (grownBy_set W gN j _) hg0, own_same h.oo (fun k hk => heap_setCell_other W ⟨gN, j, none⟩ k _ (fun e => ?_)), h1, (heap_setCell_other W ⟨gN, j, none⟩ pX _ (Ne.symm h.gx)).trans h.xb, h.ox, h.hx⟩
 exact own_row_ne h.oo h.no (by decide) k hk (by rw [e]; rfl)
theorem Rs.x {w W : World} {R : Nat} {A : Option Addr} {n c : Nat} {q : Int} {gN pX : Nat} {Nl : List Int} {B : Option Addr} {d : Nat} {l : List Rq} {xs : Array Value} (h : Rs w W R A n c q gN pX Nl B d l xs) (hOld : ∀ b off, A = some ⟨b, off, none⟩ → 0 < n → b < w.heap.size) (hR : R < w.heap.size) (j : Nat) (v : Value) : Rs w (W.setCell ⟨pX, j, none⟩ v) R A n c q gN pX Nl B d l (xs.setIfInBounds j v) :=
 ⟨h.rd.set w.heap.size pX j v hOld hR h.hx, grown_new h.gr (grownBy_set W pX j v) h.hx, own_same h.oo (fun k hk => heap_setCell_other W ⟨pX, j, none⟩ k _ (fun e => h.ox (by rw [hk]; exact congrArg some e))), own_same h.no (fun k hk => heap_setCell_other W ⟨pX, j, none⟩ k _ (fun e => by
  simp only [Value.ownBlock, Option.some.injEq] at hk
  exact h.gx (hk.trans e))), heap_setCell_same W pX j _ _ v h.xb, h.ox, h.hx⟩
theorem Rs.c5 {w W : World} {R : Nat} {A : Option Addr} {n c : Nat} {q : Int} {gN pX : Nat} {Nl : List Int} {B : Option Addr} {d : Nat} {l : List Rq} {v0 v1 v2 v3 v4 : Int} (h : Rs w W R A n c q gN pX Nl B d l #[.int .i64 v0, .int .i64 v1, .int .i64 v2, .int .i64 v3, .int .i64 v4]) :
 W.cell? ⟨pX, 0, none⟩ = some (.int .i64 v0) ∧ W.cell? ⟨pX, 1, none⟩ = some (.int .i64 v1) ∧ W.cell? ⟨pX, 2, none⟩ = some (.int .i64 v2) ∧ W.cell? ⟨pX, 3, none⟩ = some (.int .i64 v3) ∧ W.cell? ⟨pX, 4, none⟩ = some (.int .i64 v4) ∧ ∀ j, W.frozen? ⟨pX, j, none⟩ = false :=
 ⟨cell_of_row _ _ 0 _ _ (0, 0) h.xb, cell_of_row _ _ 1 _ _ (0, 0) h.xb, cell_of_row _ _ 2 _ _ (0, 0) h.xb, cell_of_row _ _ 3 _ _ (0, 0) h.xb, cell_of_row _ _ 4 _ _ (0, 0) h.xb, fun j => frozen_of_row W pX j _ _ h.xb⟩
theorem Rs.al {w W : World} {R : Nat} {A : Option Addr} {n c : Nat} {q : Int} {gN pX : Nat} {Nl : List Int} {B : Option Addr} {d : Nat} {l : List Rq} {xs : Array Value} (h : Rs w W R A n c q gN pX Nl B d l xs) (o : Obj) : Hid ((W.alloc o).ownsRow w.heap.size 35 5 (.slice B l.length d) l.length (l.flatMap Rq.cells)) ∧ Hid ((W.alloc o).ownsRow w.heap.size 3 1 (.slice (some ⟨gN, 0, none⟩) 3 3) 3 (ints Nl)) ∧ Hid (Reader (W.alloc o) R A n c q) ∧ Hid (w.grownBy (W.alloc o) (some R)) ∧ w.heap.size ≤ W.heap.size :=
 ⟨h.oo.alloc _, h.no.alloc _, h.rd.below ((Below.refl _ _).alloc (Nat.le_refl _) _), grownBy_trans h.gr (World.grownBy_alloc _ _ (some R)), h.gr.size⟩
theorem rq_one (w : World) (t : TypeId) (x : Rq) : Rd 5 Rq.cells (w.alloc (.cells #[.int .i64 x.c, .int .i64 x.n, .int .i64 x.o, .int .i64 x.x, .int .i64 x.y] t)) (some ⟨w.heap.size, 0, none⟩) [x] := by
 intro i h
 have hi : i = 0 := by simpa using h
 subst hi
 refine ⟨w.heap.size, 0, rfl, fun j u hu => ?_⟩
 have hb := cell_of_row _ _ j _ t (0, 0) (heap_alloc_new w (.cells #[.int .i64 x.c, .int .i64 x.n, .int .i64 x.o, .int .i64 x.x, .int .i64 x.y] t))
 rw [show 0 + 0 * 5 + j = j by omega, hb]
 simpa [Rq.cells] using hu
theorem reqs_one (L : List Rq) : ∀ u ∈ L.flatMap Rq.cells, u.oneCell' = true := by
 intro u hu
 simp only [List.mem_flatMap, Rq.cells] at hu
 obtain ⟨a, _, hu⟩ := hu
 simp at hu
 rcases hu with rfl | rfl | rfl | rfl | rfl <;> rfl

theorem grown_rowG {a b c : World} {R : Nat} {row : Option Nat} (h : a.grownBy b (some R)) (k : b.grownBy c row) (hx : ∀ x, row = some x → a.heap.size ≤ x) : a.grownBy c (some R) :=
 ⟨k.os.trans h.os, k.tape.trans h.tape, k.output.trans h.output, Nat.le_trans h.size k.size, fun i hi hr => (k.block i (Nat.lt_of_lt_of_le hi h.size) (fun e => by have := hx i e.symm; omega)).trans (h.block i hi hr)⟩
theorem Reader.rowG {w w' : World} {R : Nat} {A : Option Addr} {n c : Nat} {p : Int} {row : Option Nat} {B : Nat} (h : Reader w R A n c p) (hg : w.grownBy w' row) (hR : R < B) (hB : ∀ b off, A = some ⟨b, off, none⟩ → 0 < n → b < B) (hx : ∀ x, row = some x → B ≤ x) : Reader w' R A n c p :=
 ⟨(hg.block R h.lt (fun e => by have := hx R e.symm; omega)).trans h.at_, fun i hi => by
  obtain ⟨b, off, u, hA, hc, hu⟩ := h.bytes i hi
  exact ⟨b, off, u, hA, hg.cell hc (fun e => by have := hx _ e.symm; have := hB b off hA (by omega); simp at *; omega), hu⟩, h.far, h.lo, h.len⟩

end Go.Proofs.Ytagjkngiijmokaa

/- Requests drawn. -/
namespace Go.Proofs.Ytagjkngiijmokaa
open Go.ChangeShapes Go.WideShapes Go.ChangeAt Go.RowKit
set_option linter.unusedVariables false
set_option linter.unusedSimpArgs false

theorem okB_of {c n o x y : Int} (h : reqB c n o x y = true) : okB ⟨c, n, o, x, y⟩ = true := by simp [okB, rqB, h]
theorem req_num {c n o x y : Int} (h : reqB c n o x y = true) (m : Int) (hm : 1 ≤ m ∧ m ≤ 30) : reqB c m o x y = true := by
 simp only [reqB, inB, Bool.and_eq_true, decide_eq_true_eq] at h ⊢
 exact ⟨h.1, hm, h.2.2⟩
theorem req_join {c n o x y : Int} (h : reqB c n o x y = true) : reqB c 1 1 0 0 = true := by
 simp only [reqB, inB, Bool.and_eq_true, decide_eq_true_eq] at h ⊢
 exact ⟨h.1, by omega, by decide⟩

set_option maxRecDepth 100000 in
set_option maxHeartbeats 30000000 in
theorem l20Reqs {w : World} {R : Nat} {A : Option Addr} {n c : Nat} {p : Int} (h : Reader w R A n c p) (hp : p ≤ 90000) (M : Nat) (hM : M ≤ 40) :
 Calls Try.prog 26 #[.pointer (some ⟨R, 0, none⟩), .int .i64 (M : Int)] w fun e w' => ∃ (B : Option Addr) (d : Nat) (l : List Rq), e = .returned (.slice B l.length d) ∧ l.length ≤ M ∧ (∀ r ∈ l, okB r = true) ∧ w'.ownsRow w.heap.size 35 5 (.slice B l.length d) l.length (l.flatMap Rq.cells) ∧ Drawn w R A n c p 281 w' := by
 obtain ⟨I, hi, hz0, hz1, hz2⟩ := info_parts infoReq
 have I1 := Lib.hid hi
 have I2 := Lib.hid hz0
 have I3 := Lib.hid hz1
 have I4 := Lib.hid hz2
 have hOld := Lib.hid h.old
 have hRlt := h.lt
 have hlo := h.lo
 have O0 : Hid (((w.alloc (.cells #[] 35)).alloc (.cells #[.int .i64 0, .int .i64 0, .int .i64 0] 3)).ownsRow w.heap.size 35 5 (.slice (some ⟨w.heap.size, 0, none⟩) 0 0) 0 []) := (own_nil_new w 35 5 rfl).alloc _
 have N0 : Hid (((w.alloc (.cells #[] 35)).alloc (.cells #[.int .i64 0, .int .i64 0, .int .i64 0] 3)).ownsRow w.heap.size 3 1 (.slice (some ⟨w.heap.size + 1, 0, none⟩) 3 3) 3 (ints [0, 0, 0])) := by
  have h := own_of_block (w := ((w.alloc (.cells #[] 35)).alloc (.cells #[.int .i64 0, .int .i64 0, .int .i64 0] 3))) (base := w.heap.size) (g := w.heap.size + 1) (e := 3) (cur := #[.int .i64 0, .int .i64 0, .int .i64 0]) (n := 3) (xs := ints [0, 0, 0]) (by have := heap_alloc_new (w.alloc (.cells #[] 35)) (.cells #[.int .i64 0, .int .i64 0, .int .i64 0] 3); simpa using this) (by omega) (by unfold maxLen; omega) rfl rfl
  exact h
 have hb0 : Below w.heap.size w ((w.alloc (.cells #[] 35)).alloc (.cells #[.int .i64 0, .int .i64 0, .int .i64 0] 3)) := below_alloc2 w _ _
 have RD0 := Lib.hid (h.below hb0)
 have GR0 : Hid (w.grownBy ((w.alloc (.cells #[] 35)).alloc (.cells #[.int .i64 0, .int .i64 0, .int .i64 0] 3)) (some R)) := Below.grownBy hb0 (some R)
 have wM : IntKind.i64.wrap ((M : Int) + 1) = (M : Int) + 1 := IntWalk.i64_in _ (by omega)
 clear h hi hz0 hz1 hz2 hb0
 go_enter Try.func26, Try.ntmps26
 go_wp2_with (fail)
 refine (pickR ((M : Int) + 1) RD0.out (by omega) (by omega) (by omega)).mono ?_
 rintro e wa ⟨v, v0, v1, rfl, qa, qa0, qa1, hr, hgr⟩
 have RD := Lib.hid hr
 have GR := Lib.hid (grownBy_trans GR0.out hgr)
 have O1 := Lib.hid (O0.out.kept hgr (.inr (own_ge_ne (w := w) O0.out hRlt)))
 have N1 := Lib.hid (N0.out.kept hgr (.inr (own_ge_ne (w := w) N0.out hRlt)))
 clear hr hgr O0 N0 RD0 GR0 wM
 obtain ⟨m, rfl⟩ : ∃ m : Nat, v = (m : Int) := ⟨v.toNat, by omega⟩
 go_wp2
 go_loopw [5, 7] (fun o v wr => ∃ (k : Nat) (q : Int) (B : Option Addr) (d : Nat) (l : List Rq) (Nl : List Int), v = .int .i64 (k : Int) ∧ o = .slice B l.length d ∧ l.length + k ≤ M ∧ p ≤ q ∧ q + 7 * (k : Int) ≤ p + 1 + 7 * (M : Int) ∧ Nl.length = 3 ∧ Hid (∀ i (hi : i < Nl.length), 0 ≤ Nl[i] ∧ Nl[i] ≤ 30) ∧ Hid (∀ r ∈ l, okB r = true) ∧ Hid (wr.ownsRow w.heap.size 35 5 (.slice B l.length d) l.length (l.flatMap Rq.cells)) ∧ Hid (wr.ownsRow w.heap.size 3 1 (.slice (some ⟨w.heap.size + 1, 0, none⟩) 3 3) 3 (ints Nl)) ∧ Hid (Reader wr R A n c q) ∧ Hid (w.grownBy wr (some R))) (fun _ v _ => (intOf v).toNat)
 case atStart => exact ⟨m, qa, some ⟨w.heap.size, 0, none⟩, 0, [], [0, 0, 0], rfl, rfl, by simp; omega, by omega, by omega, rfl, (fun i hi => by
  have : i < 3 := hi
  rcases i with _ | _ | _ | i
  · simp
  · simp
  · simp
  · omega), (fun r hr => by cases hr), O1.out, N1.out, RD.out, GR.out⟩
 case round =>
  clear O1 N1 RD GR
  obtain ⟨k0, q, B, d, l, Nl, rfl, rfl, hlk, hq0, hq1, hN, HNB, HOK, OO, NO, RD, GR⟩ := hrel
  rcases k0 with _ | k
  · go_wp2
    go_ret
    exact ⟨B, d, l, rfl, by omega, HOK.out, OO.out, q, by omega, by omega, RD.out, GR.out⟩
  · have i0 : decide ((0 : Int) < ((k + 1 : Nat) : Int)) = true := decide_eq_true (by omega)
    go_wp2_with (fail)
    refine (l20ReqK RD.out (by omega)).mono ?_
    rintro e wb0 ⟨rc, rn, ro, rx, ry, rfl, ⟨hq, hc3⟩, qa, qa0, qa1, hr, hgr⟩
    have hc1 : 1 ≤ rc := by simp only [reqB, inB, Bool.and_eq_true, decide_eq_true_eq] at hq; exact hq.1.1
    have HQ := Lib.hid hq
    have gsz : w.heap.size ≤ wb0.heap.size := Nat.le_trans GR.out.size hgr.size
    have OO1 := OO.out.kept hgr (.inr (own_ge_ne (w := w) OO.out hRlt))
    have RS0 : Hid (Rs w (wb0.alloc (.cells #[.int .i64 rc, .int .i64 rn, .int .i64 ro, .int .i64 rx, .int .i64 ry] 35)) R A n c qa (w.heap.size + 1) wb0.heap.size Nl B d l #[.int .i64 rc, .int .i64 rn, .int .i64 ro, .int .i64 rx, .int .i64 ry]) :=
     ⟨hr.below ((Below.refl _ _).alloc (Nat.le_refl _) _), grownBy_trans (grownBy_trans GR.out hgr) (World.grownBy_alloc _ _ _), OO1.alloc _, (NO.out.kept hgr (.inr (own_ge_ne (w := w) NO.out hRlt))).alloc _, heap_alloc_new wb0 _, (fun e => by have := (own_block_ge OO1 _ e).2; omega), gsz⟩
    clear hr hgr OO NO RD GR hq OO1 gsz
    obtain ⟨j, hj⟩ : ∃ j : Nat, rc - 1 = (j : Int) := ⟨(rc - 1).toNat, by omega⟩
    have hj3 : j < 3 := by omega
    have hjl : j < Nl.length := by omega
    have q1 : IntKind.i64.wrap (rc - 1) = (j : Int) := by rw [hj]; exact IntWalk.i64_in _ (by omega)
    obtain ⟨u, hu⟩ : ∃ u, u = Nl[j]'hjl := ⟨_, rfl⟩
    have hub := HNB.out j hjl
    rw [← hu] at hub
    have HU := Lib.hid hu
    have HJ := Lib.hid hj
    have j0 : (0 : Int) ≤ (j : Int) := by omega
    have j1 : (j : Int) < 3 := by omega
    clear hu hj
    go_upto_region 7 with (fail)
    obtain ⟨pX, hpX⟩ : ∃ X, X = wb0.heap.size := ⟨_, rfl⟩
    obtain ⟨W1, hW1⟩ : ∃ X, X = wb0.alloc (.cells #[.int .i64 rc, .int .i64 rn, .int .i64 ro, .int .i64 rx, .int .i64 ry] 35) := ⟨_, rfl⟩
    rw [← hW1] at RS0 ⊢
    rw [← hpX] at RS0 ⊢
    clear hW1 hpX
    have RS := RS0
    clear RS0
    by_cases h30 : u < 30
    · have d30 : decide (u < 30) = true := by simpa using h30
      have y0 : W1.cell? ⟨pX, 0, none⟩ = some (.int .i64 rc) := cell_of_row _ _ 0 _ _ (0, 0) RS.out.xb
      have yu : W1.cell? ⟨w.heap.size + 1, j, none⟩ = some (.int .i64 u) := by rw [RS.out.no.cellAt j (by omega)]; simp [hjl, HU.out]
      go_wp2_with (fail)
      clear y0 yu
      refine (pickR 8 RS.out.rd (by omega) (by omega) (by omega)).mono ?_
      rintro e wb ⟨v8, u0, u1, rfl, qb, qb0, qb1, hr, hgr⟩
      replace RS := Lib.hid (RS.out.draw hRlt hr hgr)
      clear hr hgr
      by_cases h8 : 0 < v8
      · have d8 : decide (0 < v8) = true := by simpa using h8
        have NB1 : Hid (∀ i (hi : i < (Nl.set j (u + 1)).length), 0 ≤ (Nl.set j (u + 1))[i] ∧ (Nl.set j (u + 1))[i] ≤ 30) := fun i hi => by
         rw [List.getElem_set]
         split
         · omega
         · exact HNB.out i (by simpa using hi)
        replace HNB := NB1
        clear NB1
        have d0 : decide (0 < u + 1) = true := by simp; omega
        have wu : IntKind.i64.wrap (u + 1) = u + 1 := IntWalk.i64_in _ (by omega)
        replace HQ := Lib.hid (req_num HQ.out (u + 1) (by omega))
        obtain ⟨x0, x1, x2, x3, x4, xf⟩ := RS.out.c5
        have nf : ∀ j, wb.frozen? ⟨w.heap.size + 1, j, none⟩ = false := fun j => RS.out.no.frozenAt j
        have gx := RS.out.gx
        have gx2 : pX ≠ w.heap.size + 1 := fun e => gx e.symm
        have xu : wb.cell? ⟨w.heap.size + 1, j, none⟩ = some (.int .i64 u) := by rw [RS.out.no.cellAt j (by omega)]; simp [hjl, HU.out]
        replace RS := Lib.hid (RS.out.num hOld.out hRlt hN j hj3 (u + 1))
        replace RS := Lib.hid (RS.out.x hOld.out hRlt 1 (.int .i64 (u + 1)))
        by_cases h1 : (u + 1) = 1
        · have e1 : ((u + 1) == 1) = true := by simpa using h1
          replace RS := Lib.hid (RS.out.x hOld.out hRlt 0 (.int .i64 rc))
          replace RS := Lib.hid (RS.out.x hOld.out hRlt 1 (.int .i64 1))
          replace RS := Lib.hid (RS.out.x hOld.out hRlt 2 (.int .i64 1))
          replace RS := Lib.hid (RS.out.x hOld.out hRlt 3 (.int .i64 0))
          replace RS := Lib.hid (RS.out.x hOld.out hRlt 4 (.int .i64 0))
          replace RS : Hid (Rs w (((((((wb.setCell ⟨w.heap.size + 1, j, none⟩ (.int .i64 (u + 1))).setCell ⟨pX, 1, none⟩ (.int .i64 (u + 1))).setCell ⟨pX, 0, none⟩ (.int .i64 rc)).setCell ⟨pX, 1, none⟩ (.int .i64 1)).setCell ⟨pX, 2, none⟩ (.int .i64 1)).setCell ⟨pX, 3, none⟩ (.int .i64 0)).setCell ⟨pX, 4, none⟩ (.int .i64 0)) R A n c qb (w.heap.size + 1) pX (Nl.set j (u + 1)) B d l #[.int .i64 rc, .int .i64 1, .int .i64 1, .int .i64 0, .int .i64 0]) := RS
          replace HQ := Lib.hid (req_join HQ.out)
          clear h1
          go_wp2_with (fail)
          obtain ⟨Wz, hWz⟩ : ∃ X, X = (((((((wb.setCell ⟨w.heap.size + 1, j, none⟩ (.int .i64 (u + 1))).setCell ⟨pX, 1, none⟩ (.int .i64 (u + 1))).setCell ⟨pX, 0, none⟩ (.int .i64 rc)).setCell ⟨pX, 1, none⟩ (.int .i64 1)).setCell ⟨pX, 2, none⟩ (.int .i64 1)).setCell ⟨pX, 3, none⟩ (.int .i64 0)).setCell ⟨pX, 4, none⟩ (.int .i64 0)) := ⟨_, rfl⟩
          rw [← hWz] at RS ⊢
          clear hWz
          clear x0 x1 x2 x3 x4 xf
          clear xu nf
          refine (pickR 12 RS.out.rd (by omega) (by omega) (by omega)).mono ?_
          rintro e wf ⟨v12, w0, w1, rfl, qf, qf0, qf1, hr, hgr⟩
          replace RS := Lib.hid (RS.out.draw hRlt hr hgr)
          clear hr hgr
          by_cases h12 : v12 = 0
          · subst h12
            obtain ⟨x0, x1, x2, x3, x4, xf⟩ := RS.out.c5
            replace RS := Lib.hid (RS.out.x hOld.out hRlt 0 (.int .i64 0))
            replace RS := Lib.hid (RS.out.x hOld.out hRlt 1 (.int .i64 0))
            replace RS := Lib.hid (RS.out.x hOld.out hRlt 2 (.int .i64 0))
            replace RS := Lib.hid (RS.out.x hOld.out hRlt 3 (.int .i64 0))
            replace RS := Lib.hid (RS.out.x hOld.out hRlt 4 (.int .i64 0))
            replace RS : Hid (Rs w (((((wf.setCell ⟨pX, 0, none⟩ (.int .i64 0)).setCell ⟨pX, 1, none⟩ (.int .i64 0)).setCell ⟨pX, 2, none⟩ (.int .i64 0)).setCell ⟨pX, 3, none⟩ (.int .i64 0)).setCell ⟨pX, 4, none⟩ (.int .i64 0)) R A n c qf (w.heap.size + 1) pX (Nl.set j (u + 1)) B d l #[.int .i64 0, .int .i64 0, .int .i64 0, .int .i64 0, .int .i64 0]) := RS
            go_upto_region 16 with (fail)
            clear x0 x1 x2 x3 x4 xf
            obtain ⟨Wy, hWy⟩ : ∃ X, X = (((((wf.setCell ⟨pX, 0, none⟩ (.int .i64 0)).setCell ⟨pX, 1, none⟩ (.int .i64 0)).setCell ⟨pX, 2, none⟩ (.int .i64 0)).setCell ⟨pX, 3, none⟩ (.int .i64 0)).setCell ⟨pX, 4, none⟩ (.int .i64 0)) := ⟨_, rfl⟩
            rw [← hWy] at RS ⊢
            clear hWy
            obtain ⟨x0, x1, x2, x3, x4, xf⟩ := RS.out.c5
            obtain ⟨OA, NA, RDA, GRA, hsz⟩ := RS.out.al (.cells #[.int .i64 0, .int .i64 0, .int .i64 0, .int .i64 0, .int .i64 0] 35)
            have HRd := Lib.hid (rq_one Wy 35 ⟨0, 0, 0, 0, 0⟩)
            go_wp2_with (at_builtin; go_loud (refine list_app (f := Rq.cells) (fun _ => rfl) rfl _ _ 23 rfl w.heap.size 35 I (.agg #[.int .i64 0, .int .i64 0, .int .i64 0, .int .i64 0, .int .i64 0]) 40 Try.underlying23 I1.out I2.out I3.out I4.out rfl (by decide) _ l.length (l.flatMap Rq.cells) rfl OA.out _ _ 1 [⟨0, 0, 0, 0, 0⟩] rfl rfl HRd.out (fun h => by cases h) (reqs_one _) (by unfold maxLen; omega) (by omega) (by simp; omega) ?_))
            intro v1 w1 ho1 hg1 hp1
            have hb0 : ∀ x, (Value.slice B l.length d).ownBlock = some x → w.heap.size ≤ x := fun x hx => (own_block_ge OA.out x hx).1
            have RD1 := Lib.hid (RDA.out.rowG hg1 hRlt hOld.out hb0)
            have GR1 := Lib.hid (grown_rowG GRA.out hg1 hb0)
            have NN1 := Lib.hid (own_keepR (base' := 0) (e' := 0) NA.out hg1 (fun x hx => own_row_ne OA.out NA.out (by decide) x hx))
            obtain ⟨B1, d1, rfl, _⟩ := own_form ho1
            have OO1 : Hid (w1.ownsRow w.heap.size 35 5 (.slice B1 (l ++ [(⟨0, 0, 0, 0, 0⟩ : Rq)]).length d1) (l ++ [(⟨0, 0, 0, 0, 0⟩ : Rq)]).length ((l ++ [(⟨0, 0, 0, 0, 0⟩ : Rq)]).flatMap Rq.cells)) := by
             show w1.ownsRow _ _ _ _ _ _
             rw [List.flatMap_append, List.length_append]
             exact ho1
            have OK1 : Hid (∀ r ∈ l ++ [(⟨0, 0, 0, 0, 0⟩ : Rq)], okB r = true) := fun r hr => by
             rw [List.mem_append] at hr
             rcases hr with hr | hr
             · exact HOK.out r hr
             · simp only [List.mem_singleton] at hr
               subst hr
               rfl
            have HLE : (l ++ [(⟨0, 0, 0, 0, 0⟩ : Rq)]).length = l.length + 1 := by simp
            clear ho1 hg1 hp1 hb0 OA NA RDA GRA HRd hsz RS x0 x1 x2 x3 x4 xf
            go_wp2
            go_roundw
            case rel => exact ⟨k, qf, B1, d1, l ++ [(⟨0, 0, 0, 0, 0⟩ : Rq)], (Nl.set j (u + 1)), by go_num, by rw [HLE], by rw [HLE]; omega, by omega, by omega, by simp [hN], HNB.out, OK1, OO1, NN1, RD1, GR1⟩
            case measure => (simp [intOf]; try omega)
          · have h12' : (v12 == 0) = false := by simpa using h12
            clear h12
            obtain ⟨x0, x1, x2, x3, x4, xf⟩ := RS.out.c5
            obtain ⟨OA, NA, RDA, GRA, hsz⟩ := RS.out.al (.cells #[.int .i64 rc, .int .i64 1, .int .i64 1, .int .i64 0, .int .i64 0] 35)
            have HRd := Lib.hid (rq_one wf 35 ⟨rc, 1, 1, 0, 0⟩)
            go_wp2_with (at_builtin; go_loud (refine list_app (f := Rq.cells) (fun _ => rfl) rfl _ _ 23 rfl w.heap.size 35 I (.agg #[.int .i64 0, .int .i64 0, .int .i64 0, .int .i64 0, .int .i64 0]) 40 Try.underlying23 I1.out I2.out I3.out I4.out rfl (by decide) _ l.length (l.flatMap Rq.cells) rfl OA.out _ _ 1 [⟨rc, 1, 1, 0, 0⟩] rfl rfl HRd.out (fun h => by cases h) (reqs_one _) (by unfold maxLen; omega) (by omega) (by simp; omega) ?_))
            intro v1 w1 ho1 hg1 hp1
            have hb0 : ∀ x, (Value.slice B l.length d).ownBlock = some x → w.heap.size ≤ x := fun x hx => (own_block_ge OA.out x hx).1
            have RD1 := Lib.hid (RDA.out.rowG hg1 hRlt hOld.out hb0)
            have GR1 := Lib.hid (grown_rowG GRA.out hg1 hb0)
            have NN1 := Lib.hid (own_keepR (base' := 0) (e' := 0) NA.out hg1 (fun x hx => own_row_ne OA.out NA.out (by decide) x hx))
            obtain ⟨B1, d1, rfl, _⟩ := own_form ho1
            have OO1 : Hid (w1.ownsRow w.heap.size 35 5 (.slice B1 (l ++ [(⟨rc, 1, 1, 0, 0⟩ : Rq)]).length d1) (l ++ [(⟨rc, 1, 1, 0, 0⟩ : Rq)]).length ((l ++ [(⟨rc, 1, 1, 0, 0⟩ : Rq)]).flatMap Rq.cells)) := by
             show w1.ownsRow _ _ _ _ _ _
             rw [List.flatMap_append, List.length_append]
             exact ho1
            have OK1 : Hid (∀ r ∈ l ++ [(⟨rc, 1, 1, 0, 0⟩ : Rq)], okB r = true) := fun r hr => by
             rw [List.mem_append] at hr
             rcases hr with hr | hr
             · exact HOK.out r hr
             · simp only [List.mem_singleton] at hr
               subst hr
               exact okB_of HQ.out
            have HLE : (l ++ [(⟨rc, 1, 1, 0, 0⟩ : Rq)]).length = l.length + 1 := by simp
            clear ho1 hg1 hp1 hb0 OA NA RDA GRA HRd hsz RS x0 x1 x2 x3 x4 xf
            go_wp2
            go_roundw
            case rel => exact ⟨k, qf, B1, d1, l ++ [(⟨rc, 1, 1, 0, 0⟩ : Rq)], (Nl.set j (u + 1)), by go_num, by rw [HLE], by rw [HLE]; omega, by omega, by omega, by simp [hN], HNB.out, OK1, OO1, NN1, RD1, GR1⟩
            case measure => (simp [intOf]; try omega)
        · have e1 : ((u + 1) == 1) = false := by simpa using h1
          replace RS : Hid (Rs w ((wb.setCell ⟨w.heap.size + 1, j, none⟩ (.int .i64 (u + 1))).setCell ⟨pX, 1, none⟩ (.int .i64 (u + 1))) R A n c qb (w.heap.size + 1) pX (Nl.set j (u + 1)) B d l #[.int .i64 rc, .int .i64 (u + 1), .int .i64 ro, .int .i64 rx, .int .i64 ry]) := RS
          clear h1
          go_wp2_with (fail)
          obtain ⟨Wz, hWz⟩ : ∃ X, X = ((wb.setCell ⟨w.heap.size + 1, j, none⟩ (.int .i64 (u + 1))).setCell ⟨pX, 1, none⟩ (.int .i64 (u + 1))) := ⟨_, rfl⟩
          rw [← hWz] at RS ⊢
          clear hWz
          clear x0 x1 x2 x3 x4 xf
          clear xu nf
          refine (pickR 12 RS.out.rd (by omega) (by omega) (by omega)).mono ?_
          rintro e wf ⟨v12, w0, w1, rfl, qf, qf0, qf1, hr, hgr⟩
          replace RS := Lib.hid (RS.out.draw hRlt hr hgr)
          clear hr hgr
          by_cases h12 : v12 = 0
          · subst h12
            obtain ⟨x0, x1, x2, x3, x4, xf⟩ := RS.out.c5
            replace RS := Lib.hid (RS.out.x hOld.out hRlt 0 (.int .i64 0))
            replace RS := Lib.hid (RS.out.x hOld.out hRlt 1 (.int .i64 0))
            replace RS := Lib.hid (RS.out.x hOld.out hRlt 2 (.int .i64 0))
            replace RS := Lib.hid (RS.out.x hOld.out hRlt 3 (.int .i64 0))
            replace RS := Lib.hid (RS.out.x hOld.out hRlt 4 (.int .i64 0))
            replace RS : Hid (Rs w (((((wf.setCell ⟨pX, 0, none⟩ (.int .i64 0)).setCell ⟨pX, 1, none⟩ (.int .i64 0)).setCell ⟨pX, 2, none⟩ (.int .i64 0)).setCell ⟨pX, 3, none⟩ (.int .i64 0)).setCell ⟨pX, 4, none⟩ (.int .i64 0)) R A n c qf (w.heap.size + 1) pX (Nl.set j (u + 1)) B d l #[.int .i64 0, .int .i64 0, .int .i64 0, .int .i64 0, .int .i64 0]) := RS
            go_upto_region 16 with (fail)
            clear x0 x1 x2 x3 x4 xf
            obtain ⟨Wy, hWy⟩ : ∃ X, X = (((((wf.setCell ⟨pX, 0, none⟩ (.int .i64 0)).setCell ⟨pX, 1, none⟩ (.int .i64 0)).setCell ⟨pX, 2, none⟩ (.int .i64 0)).setCell ⟨pX, 3, none⟩ (.int .i64 0)).setCell ⟨pX, 4, none⟩ (.int .i64 0)) := ⟨_, rfl⟩
            rw [← hWy] at RS ⊢
            clear hWy
            obtain ⟨x0, x1, x2, x3, x4, xf⟩ := RS.out.c5
            obtain ⟨OA, NA, RDA, GRA, hsz⟩ := RS.out.al (.cells #[.int .i64 0, .int .i64 0, .int .i64 0, .int .i64 0, .int .i64 0] 35)
            have HRd := Lib.hid (rq_one Wy 35 ⟨0, 0, 0, 0, 0⟩)
            go_wp2_with (at_builtin; go_loud (refine list_app (f := Rq.cells) (fun _ => rfl) rfl _ _ 23 rfl w.heap.size 35 I (.agg #[.int .i64 0, .int .i64 0, .int .i64 0, .int .i64 0, .int .i64 0]) 40 Try.underlying23 I1.out I2.out I3.out I4.out rfl (by decide) _ l.length (l.flatMap Rq.cells) rfl OA.out _ _ 1 [⟨0, 0, 0, 0, 0⟩] rfl rfl HRd.out (fun h => by cases h) (reqs_one _) (by unfold maxLen; omega) (by omega) (by simp; omega) ?_))
            intro v1 w1 ho1 hg1 hp1
            have hb0 : ∀ x, (Value.slice B l.length d).ownBlock = some x → w.heap.size ≤ x := fun x hx => (own_block_ge OA.out x hx).1
            have RD1 := Lib.hid (RDA.out.rowG hg1 hRlt hOld.out hb0)
            have GR1 := Lib.hid (grown_rowG GRA.out hg1 hb0)
            have NN1 := Lib.hid (own_keepR (base' := 0) (e' := 0) NA.out hg1 (fun x hx => own_row_ne OA.out NA.out (by decide) x hx))
            obtain ⟨B1, d1, rfl, _⟩ := own_form ho1
            have OO1 : Hid (w1.ownsRow w.heap.size 35 5 (.slice B1 (l ++ [(⟨0, 0, 0, 0, 0⟩ : Rq)]).length d1) (l ++ [(⟨0, 0, 0, 0, 0⟩ : Rq)]).length ((l ++ [(⟨0, 0, 0, 0, 0⟩ : Rq)]).flatMap Rq.cells)) := by
             show w1.ownsRow _ _ _ _ _ _
             rw [List.flatMap_append, List.length_append]
             exact ho1
            have OK1 : Hid (∀ r ∈ l ++ [(⟨0, 0, 0, 0, 0⟩ : Rq)], okB r = true) := fun r hr => by
             rw [List.mem_append] at hr
             rcases hr with hr | hr
             · exact HOK.out r hr
             · simp only [List.mem_singleton] at hr
               subst hr
               rfl
            have HLE : (l ++ [(⟨0, 0, 0, 0, 0⟩ : Rq)]).length = l.length + 1 := by simp
            clear ho1 hg1 hp1 hb0 OA NA RDA GRA HRd hsz RS x0 x1 x2 x3 x4 xf
            go_wp2
            go_roundw
            case rel => exact ⟨k, qf, B1, d1, l ++ [(⟨0, 0, 0, 0, 0⟩ : Rq)], (Nl.set j (u + 1)), by go_num, by rw [HLE], by rw [HLE]; omega, by omega, by omega, by simp [hN], HNB.out, OK1, OO1, NN1, RD1, GR1⟩
            case measure => (simp [intOf]; try omega)
          · have h12' : (v12 == 0) = false := by simpa using h12
            clear h12
            obtain ⟨x0, x1, x2, x3, x4, xf⟩ := RS.out.c5
            obtain ⟨OA, NA, RDA, GRA, hsz⟩ := RS.out.al (.cells #[.int .i64 rc, .int .i64 (u + 1), .int .i64 ro, .int .i64 rx, .int .i64 ry] 35)
            have HRd := Lib.hid (rq_one wf 35 ⟨rc, (u + 1), ro, rx, ry⟩)
            go_wp2_with (at_builtin; go_loud (refine list_app (f := Rq.cells) (fun _ => rfl) rfl _ _ 23 rfl w.heap.size 35 I (.agg #[.int .i64 0, .int .i64 0, .int .i64 0, .int .i64 0, .int .i64 0]) 40 Try.underlying23 I1.out I2.out I3.out I4.out rfl (by decide) _ l.length (l.flatMap Rq.cells) rfl OA.out _ _ 1 [⟨rc, (u + 1), ro, rx, ry⟩] rfl rfl HRd.out (fun h => by cases h) (reqs_one _) (by unfold maxLen; omega) (by omega) (by simp; omega) ?_))
            intro v1 w1 ho1 hg1 hp1
            have hb0 : ∀ x, (Value.slice B l.length d).ownBlock = some x → w.heap.size ≤ x := fun x hx => (own_block_ge OA.out x hx).1
            have RD1 := Lib.hid (RDA.out.rowG hg1 hRlt hOld.out hb0)
            have GR1 := Lib.hid (grown_rowG GRA.out hg1 hb0)
            have NN1 := Lib.hid (own_keepR (base' := 0) (e' := 0) NA.out hg1 (fun x hx => own_row_ne OA.out NA.out (by decide) x hx))
            obtain ⟨B1, d1, rfl, _⟩ := own_form ho1
            have OO1 : Hid (w1.ownsRow w.heap.size 35 5 (.slice B1 (l ++ [(⟨rc, (u + 1), ro, rx, ry⟩ : Rq)]).length d1) (l ++ [(⟨rc, (u + 1), ro, rx, ry⟩ : Rq)]).length ((l ++ [(⟨rc, (u + 1), ro, rx, ry⟩ : Rq)]).flatMap Rq.cells)) := by
             show w1.ownsRow _ _ _ _ _ _
             rw [List.flatMap_append, List.length_append]
             exact ho1
            have OK1 : Hid (∀ r ∈ l ++ [(⟨rc, (u + 1), ro, rx, ry⟩ : Rq)], okB r = true) := fun r hr => by
             rw [List.mem_append] at hr
             rcases hr with hr | hr
             · exact HOK.out r hr
             · simp only [List.mem_singleton] at hr
               subst hr
               exact okB_of HQ.out
            have HLE : (l ++ [(⟨rc, (u + 1), ro, rx, ry⟩ : Rq)]).length = l.length + 1 := by simp
            clear ho1 hg1 hp1 hb0 OA NA RDA GRA HRd hsz RS x0 x1 x2 x3 x4 xf
            go_wp2
            go_roundw
            case rel => exact ⟨k, qf, B1, d1, l ++ [(⟨rc, (u + 1), ro, rx, ry⟩ : Rq)], (Nl.set j (u + 1)), by go_num, by rw [HLE], by rw [HLE]; omega, by omega, by omega, by simp [hN], HNB.out, OK1, OO1, NN1, RD1, GR1⟩
            case measure => (simp [intOf]; try omega)
      · have d8 : decide (0 < v8) = false := by simpa using h8
        by_cases hu0 : 0 < u
        · have d0 : decide (0 < u) = true := by simpa using hu0
          replace HQ := Lib.hid (req_num HQ.out u (by omega))
          obtain ⟨x0, x1, x2, x3, x4, xf⟩ := RS.out.c5
          have nf : ∀ j, wb.frozen? ⟨w.heap.size + 1, j, none⟩ = false := fun j => RS.out.no.frozenAt j
          have gx := RS.out.gx
          have gx2 : pX ≠ w.heap.size + 1 := fun e => gx e.symm
          have xu : wb.cell? ⟨w.heap.size + 1, j, none⟩ = some (.int .i64 u) := by rw [RS.out.no.cellAt j (by omega)]; simp [hjl, HU.out]
          replace RS := Lib.hid (RS.out.x hOld.out hRlt 1 (.int .i64 u))
          by_cases h1 : u = 1
          · have e1 : (u == 1) = true := by simpa using h1
            replace RS := Lib.hid (RS.out.x hOld.out hRlt 0 (.int .i64 rc))
            replace RS := Lib.hid (RS.out.x hOld.out hRlt 1 (.int .i64 1))
            replace RS := Lib.hid (RS.out.x hOld.out hRlt 2 (.int .i64 1))
            replace RS := Lib.hid (RS.out.x hOld.out hRlt 3 (.int .i64 0))
            replace RS := Lib.hid (RS.out.x hOld.out hRlt 4 (.int .i64 0))
            replace RS : Hid (Rs w ((((((wb.setCell ⟨pX, 1, none⟩ (.int .i64 u)).setCell ⟨pX, 0, none⟩ (.int .i64 rc)).setCell ⟨pX, 1, none⟩ (.int .i64 1)).setCell ⟨pX, 2, none⟩ (.int .i64 1)).setCell ⟨pX, 3, none⟩ (.int .i64 0)).setCell ⟨pX, 4, none⟩ (.int .i64 0)) R A n c qb (w.heap.size + 1) pX Nl B d l #[.int .i64 rc, .int .i64 1, .int .i64 1, .int .i64 0, .int .i64 0]) := RS
            replace HQ := Lib.hid (req_join HQ.out)
            clear h1
            go_wp2_with (fail)
            obtain ⟨Wz, hWz⟩ : ∃ X, X = ((((((wb.setCell ⟨pX, 1, none⟩ (.int .i64 u)).setCell ⟨pX, 0, none⟩ (.int .i64 rc)).setCell ⟨pX, 1, none⟩ (.int .i64 1)).setCell ⟨pX, 2, none⟩ (.int .i64 1)).setCell ⟨pX, 3, none⟩ (.int .i64 0)).setCell ⟨pX, 4, none⟩ (.int .i64 0)) := ⟨_, rfl⟩
            rw [← hWz] at RS ⊢
            clear hWz
            clear x0 x1 x2 x3 x4 xf
            clear xu nf
            refine (pickR 12 RS.out.rd (by omega) (by omega) (by omega)).mono ?_
            rintro e wf ⟨v12, w0, w1, rfl, qf, qf0, qf1, hr, hgr⟩
            replace RS := Lib.hid (RS.out.draw hRlt hr hgr)
            clear hr hgr
            by_cases h12 : v12 = 0
            · subst h12
              obtain ⟨x0, x1, x2, x3, x4, xf⟩ := RS.out.c5
              replace RS := Lib.hid (RS.out.x hOld.out hRlt 0 (.int .i64 0))
              replace RS := Lib.hid (RS.out.x hOld.out hRlt 1 (.int .i64 0))
              replace RS := Lib.hid (RS.out.x hOld.out hRlt 2 (.int .i64 0))
              replace RS := Lib.hid (RS.out.x hOld.out hRlt 3 (.int .i64 0))
              replace RS := Lib.hid (RS.out.x hOld.out hRlt 4 (.int .i64 0))
              replace RS : Hid (Rs w (((((wf.setCell ⟨pX, 0, none⟩ (.int .i64 0)).setCell ⟨pX, 1, none⟩ (.int .i64 0)).setCell ⟨pX, 2, none⟩ (.int .i64 0)).setCell ⟨pX, 3, none⟩ (.int .i64 0)).setCell ⟨pX, 4, none⟩ (.int .i64 0)) R A n c qf (w.heap.size + 1) pX Nl B d l #[.int .i64 0, .int .i64 0, .int .i64 0, .int .i64 0, .int .i64 0]) := RS
              go_upto_region 16 with (fail)
              clear x0 x1 x2 x3 x4 xf
              obtain ⟨Wy, hWy⟩ : ∃ X, X = (((((wf.setCell ⟨pX, 0, none⟩ (.int .i64 0)).setCell ⟨pX, 1, none⟩ (.int .i64 0)).setCell ⟨pX, 2, none⟩ (.int .i64 0)).setCell ⟨pX, 3, none⟩ (.int .i64 0)).setCell ⟨pX, 4, none⟩ (.int .i64 0)) := ⟨_, rfl⟩
              rw [← hWy] at RS ⊢
              clear hWy
              obtain ⟨x0, x1, x2, x3, x4, xf⟩ := RS.out.c5
              obtain ⟨OA, NA, RDA, GRA, hsz⟩ := RS.out.al (.cells #[.int .i64 0, .int .i64 0, .int .i64 0, .int .i64 0, .int .i64 0] 35)
              have HRd := Lib.hid (rq_one Wy 35 ⟨0, 0, 0, 0, 0⟩)
              go_wp2_with (at_builtin; go_loud (refine list_app (f := Rq.cells) (fun _ => rfl) rfl _ _ 23 rfl w.heap.size 35 I (.agg #[.int .i64 0, .int .i64 0, .int .i64 0, .int .i64 0, .int .i64 0]) 40 Try.underlying23 I1.out I2.out I3.out I4.out rfl (by decide) _ l.length (l.flatMap Rq.cells) rfl OA.out _ _ 1 [⟨0, 0, 0, 0, 0⟩] rfl rfl HRd.out (fun h => by cases h) (reqs_one _) (by unfold maxLen; omega) (by omega) (by simp; omega) ?_))
              intro v1 w1 ho1 hg1 hp1
              have hb0 : ∀ x, (Value.slice B l.length d).ownBlock = some x → w.heap.size ≤ x := fun x hx => (own_block_ge OA.out x hx).1
              have RD1 := Lib.hid (RDA.out.rowG hg1 hRlt hOld.out hb0)
              have GR1 := Lib.hid (grown_rowG GRA.out hg1 hb0)
              have NN1 := Lib.hid (own_keepR (base' := 0) (e' := 0) NA.out hg1 (fun x hx => own_row_ne OA.out NA.out (by decide) x hx))
              obtain ⟨B1, d1, rfl, _⟩ := own_form ho1
              have OO1 : Hid (w1.ownsRow w.heap.size 35 5 (.slice B1 (l ++ [(⟨0, 0, 0, 0, 0⟩ : Rq)]).length d1) (l ++ [(⟨0, 0, 0, 0, 0⟩ : Rq)]).length ((l ++ [(⟨0, 0, 0, 0, 0⟩ : Rq)]).flatMap Rq.cells)) := by
               show w1.ownsRow _ _ _ _ _ _
               rw [List.flatMap_append, List.length_append]
               exact ho1
              have OK1 : Hid (∀ r ∈ l ++ [(⟨0, 0, 0, 0, 0⟩ : Rq)], okB r = true) := fun r hr => by
               rw [List.mem_append] at hr
               rcases hr with hr | hr
               · exact HOK.out r hr
               · simp only [List.mem_singleton] at hr
                 subst hr
                 rfl
              have HLE : (l ++ [(⟨0, 0, 0, 0, 0⟩ : Rq)]).length = l.length + 1 := by simp
              clear ho1 hg1 hp1 hb0 OA NA RDA GRA HRd hsz RS x0 x1 x2 x3 x4 xf
              go_wp2
              go_roundw
              case rel => exact ⟨k, qf, B1, d1, l ++ [(⟨0, 0, 0, 0, 0⟩ : Rq)], Nl, by go_num, by rw [HLE], by rw [HLE]; omega, by omega, by omega, by simp [hN], HNB.out, OK1, OO1, NN1, RD1, GR1⟩
              case measure => (simp [intOf]; try omega)
            · have h12' : (v12 == 0) = false := by simpa using h12
              clear h12
              obtain ⟨x0, x1, x2, x3, x4, xf⟩ := RS.out.c5
              obtain ⟨OA, NA, RDA, GRA, hsz⟩ := RS.out.al (.cells #[.int .i64 rc, .int .i64 1, .int .i64 1, .int .i64 0, .int .i64 0] 35)
              have HRd := Lib.hid (rq_one wf 35 ⟨rc, 1, 1, 0, 0⟩)
              go_wp2_with (at_builtin; go_loud (refine list_app (f := Rq.cells) (fun _ => rfl) rfl _ _ 23 rfl w.heap.size 35 I (.agg #[.int .i64 0, .int .i64 0, .int .i64 0, .int .i64 0, .int .i64 0]) 40 Try.underlying23 I1.out I2.out I3.out I4.out rfl (by decide) _ l.length (l.flatMap Rq.cells) rfl OA.out _ _ 1 [⟨rc, 1, 1, 0, 0⟩] rfl rfl HRd.out (fun h => by cases h) (reqs_one _) (by unfold maxLen; omega) (by omega) (by simp; omega) ?_))
              intro v1 w1 ho1 hg1 hp1
              have hb0 : ∀ x, (Value.slice B l.length d).ownBlock = some x → w.heap.size ≤ x := fun x hx => (own_block_ge OA.out x hx).1
              have RD1 := Lib.hid (RDA.out.rowG hg1 hRlt hOld.out hb0)
              have GR1 := Lib.hid (grown_rowG GRA.out hg1 hb0)
              have NN1 := Lib.hid (own_keepR (base' := 0) (e' := 0) NA.out hg1 (fun x hx => own_row_ne OA.out NA.out (by decide) x hx))
              obtain ⟨B1, d1, rfl, _⟩ := own_form ho1
              have OO1 : Hid (w1.ownsRow w.heap.size 35 5 (.slice B1 (l ++ [(⟨rc, 1, 1, 0, 0⟩ : Rq)]).length d1) (l ++ [(⟨rc, 1, 1, 0, 0⟩ : Rq)]).length ((l ++ [(⟨rc, 1, 1, 0, 0⟩ : Rq)]).flatMap Rq.cells)) := by
               show w1.ownsRow _ _ _ _ _ _
               rw [List.flatMap_append, List.length_append]
               exact ho1
              have OK1 : Hid (∀ r ∈ l ++ [(⟨rc, 1, 1, 0, 0⟩ : Rq)], okB r = true) := fun r hr => by
               rw [List.mem_append] at hr
               rcases hr with hr | hr
               · exact HOK.out r hr
               · simp only [List.mem_singleton] at hr
                 subst hr
                 exact okB_of HQ.out
              have HLE : (l ++ [(⟨rc, 1, 1, 0, 0⟩ : Rq)]).length = l.length + 1 := by simp
              clear ho1 hg1 hp1 hb0 OA NA RDA GRA HRd hsz RS x0 x1 x2 x3 x4 xf
              go_wp2
              go_roundw
              case rel => exact ⟨k, qf, B1, d1, l ++ [(⟨rc, 1, 1, 0, 0⟩ : Rq)], Nl, by go_num, by rw [HLE], by rw [HLE]; omega, by omega, by omega, by simp [hN], HNB.out, OK1, OO1, NN1, RD1, GR1⟩
              case measure => (simp [intOf]; try omega)
          · have e1 : (u == 1) = false := by simpa using h1
            replace RS : Hid (Rs w (wb.setCell ⟨pX, 1, none⟩ (.int .i64 u)) R A n c qb (w.heap.size + 1) pX Nl B d l #[.int .i64 rc, .int .i64 u, .int .i64 ro, .int .i64 rx, .int .i64 ry]) := RS
            clear h1
            go_wp2_with (fail)
            obtain ⟨Wz, hWz⟩ : ∃ X, X = (wb.setCell ⟨pX, 1, none⟩ (.int .i64 u)) := ⟨_, rfl⟩
            rw [← hWz] at RS ⊢
            clear hWz
            clear x0 x1 x2 x3 x4 xf
            clear xu nf
            refine (pickR 12 RS.out.rd (by omega) (by omega) (by omega)).mono ?_
            rintro e wf ⟨v12, w0, w1, rfl, qf, qf0, qf1, hr, hgr⟩
            replace RS := Lib.hid (RS.out.draw hRlt hr hgr)
            clear hr hgr
            by_cases h12 : v12 = 0
            · subst h12
              obtain ⟨x0, x1, x2, x3, x4, xf⟩ := RS.out.c5
              replace RS := Lib.hid (RS.out.x hOld.out hRlt 0 (.int .i64 0))
              replace RS := Lib.hid (RS.out.x hOld.out hRlt 1 (.int .i64 0))
              replace RS := Lib.hid (RS.out.x hOld.out hRlt 2 (.int .i64 0))
              replace RS := Lib.hid (RS.out.x hOld.out hRlt 3 (.int .i64 0))
              replace RS := Lib.hid (RS.out.x hOld.out hRlt 4 (.int .i64 0))
              replace RS : Hid (Rs w (((((wf.setCell ⟨pX, 0, none⟩ (.int .i64 0)).setCell ⟨pX, 1, none⟩ (.int .i64 0)).setCell ⟨pX, 2, none⟩ (.int .i64 0)).setCell ⟨pX, 3, none⟩ (.int .i64 0)).setCell ⟨pX, 4, none⟩ (.int .i64 0)) R A n c qf (w.heap.size + 1) pX Nl B d l #[.int .i64 0, .int .i64 0, .int .i64 0, .int .i64 0, .int .i64 0]) := RS
              go_upto_region 16 with (fail)
              clear x0 x1 x2 x3 x4 xf
              obtain ⟨Wy, hWy⟩ : ∃ X, X = (((((wf.setCell ⟨pX, 0, none⟩ (.int .i64 0)).setCell ⟨pX, 1, none⟩ (.int .i64 0)).setCell ⟨pX, 2, none⟩ (.int .i64 0)).setCell ⟨pX, 3, none⟩ (.int .i64 0)).setCell ⟨pX, 4, none⟩ (.int .i64 0)) := ⟨_, rfl⟩
              rw [← hWy] at RS ⊢
              clear hWy
              obtain ⟨x0, x1, x2, x3, x4, xf⟩ := RS.out.c5
              obtain ⟨OA, NA, RDA, GRA, hsz⟩ := RS.out.al (.cells #[.int .i64 0, .int .i64 0, .int .i64 0, .int .i64 0, .int .i64 0] 35)
              have HRd := Lib.hid (rq_one Wy 35 ⟨0, 0, 0, 0, 0⟩)
              go_wp2_with (at_builtin; go_loud (refine list_app (f := Rq.cells) (fun _ => rfl) rfl _ _ 23 rfl w.heap.size 35 I (.agg #[.int .i64 0, .int .i64 0, .int .i64 0, .int .i64 0, .int .i64 0]) 40 Try.underlying23 I1.out I2.out I3.out I4.out rfl (by decide) _ l.length (l.flatMap Rq.cells) rfl OA.out _ _ 1 [⟨0, 0, 0, 0, 0⟩] rfl rfl HRd.out (fun h => by cases h) (reqs_one _) (by unfold maxLen; omega) (by omega) (by simp; omega) ?_))
              intro v1 w1 ho1 hg1 hp1
              have hb0 : ∀ x, (Value.slice B l.length d).ownBlock = some x → w.heap.size ≤ x := fun x hx => (own_block_ge OA.out x hx).1
              have RD1 := Lib.hid (RDA.out.rowG hg1 hRlt hOld.out hb0)
              have GR1 := Lib.hid (grown_rowG GRA.out hg1 hb0)
              have NN1 := Lib.hid (own_keepR (base' := 0) (e' := 0) NA.out hg1 (fun x hx => own_row_ne OA.out NA.out (by decide) x hx))
              obtain ⟨B1, d1, rfl, _⟩ := own_form ho1
              have OO1 : Hid (w1.ownsRow w.heap.size 35 5 (.slice B1 (l ++ [(⟨0, 0, 0, 0, 0⟩ : Rq)]).length d1) (l ++ [(⟨0, 0, 0, 0, 0⟩ : Rq)]).length ((l ++ [(⟨0, 0, 0, 0, 0⟩ : Rq)]).flatMap Rq.cells)) := by
               show w1.ownsRow _ _ _ _ _ _
               rw [List.flatMap_append, List.length_append]
               exact ho1
              have OK1 : Hid (∀ r ∈ l ++ [(⟨0, 0, 0, 0, 0⟩ : Rq)], okB r = true) := fun r hr => by
               rw [List.mem_append] at hr
               rcases hr with hr | hr
               · exact HOK.out r hr
               · simp only [List.mem_singleton] at hr
                 subst hr
                 rfl
              have HLE : (l ++ [(⟨0, 0, 0, 0, 0⟩ : Rq)]).length = l.length + 1 := by simp
              clear ho1 hg1 hp1 hb0 OA NA RDA GRA HRd hsz RS x0 x1 x2 x3 x4 xf
              go_wp2
              go_roundw
              case rel => exact ⟨k, qf, B1, d1, l ++ [(⟨0, 0, 0, 0, 0⟩ : Rq)], Nl, by go_num, by rw [HLE], by rw [HLE]; omega, by omega, by omega, by simp [hN], HNB.out, OK1, OO1, NN1, RD1, GR1⟩
              case measure => (simp [intOf]; try omega)
            · have h12' : (v12 == 0) = false := by simpa using h12
              clear h12
              obtain ⟨x0, x1, x2, x3, x4, xf⟩ := RS.out.c5
              obtain ⟨OA, NA, RDA, GRA, hsz⟩ := RS.out.al (.cells #[.int .i64 rc, .int .i64 u, .int .i64 ro, .int .i64 rx, .int .i64 ry] 35)
              have HRd := Lib.hid (rq_one wf 35 ⟨rc, u, ro, rx, ry⟩)
              go_wp2_with (at_builtin; go_loud (refine list_app (f := Rq.cells) (fun _ => rfl) rfl _ _ 23 rfl w.heap.size 35 I (.agg #[.int .i64 0, .int .i64 0, .int .i64 0, .int .i64 0, .int .i64 0]) 40 Try.underlying23 I1.out I2.out I3.out I4.out rfl (by decide) _ l.length (l.flatMap Rq.cells) rfl OA.out _ _ 1 [⟨rc, u, ro, rx, ry⟩] rfl rfl HRd.out (fun h => by cases h) (reqs_one _) (by unfold maxLen; omega) (by omega) (by simp; omega) ?_))
              intro v1 w1 ho1 hg1 hp1
              have hb0 : ∀ x, (Value.slice B l.length d).ownBlock = some x → w.heap.size ≤ x := fun x hx => (own_block_ge OA.out x hx).1
              have RD1 := Lib.hid (RDA.out.rowG hg1 hRlt hOld.out hb0)
              have GR1 := Lib.hid (grown_rowG GRA.out hg1 hb0)
              have NN1 := Lib.hid (own_keepR (base' := 0) (e' := 0) NA.out hg1 (fun x hx => own_row_ne OA.out NA.out (by decide) x hx))
              obtain ⟨B1, d1, rfl, _⟩ := own_form ho1
              have OO1 : Hid (w1.ownsRow w.heap.size 35 5 (.slice B1 (l ++ [(⟨rc, u, ro, rx, ry⟩ : Rq)]).length d1) (l ++ [(⟨rc, u, ro, rx, ry⟩ : Rq)]).length ((l ++ [(⟨rc, u, ro, rx, ry⟩ : Rq)]).flatMap Rq.cells)) := by
               show w1.ownsRow _ _ _ _ _ _
               rw [List.flatMap_append, List.length_append]
               exact ho1
              have OK1 : Hid (∀ r ∈ l ++ [(⟨rc, u, ro, rx, ry⟩ : Rq)], okB r = true) := fun r hr => by
               rw [List.mem_append] at hr
               rcases hr with hr | hr
               · exact HOK.out r hr
               · simp only [List.mem_singleton] at hr
                 subst hr
                 exact okB_of HQ.out
              have HLE : (l ++ [(⟨rc, u, ro, rx, ry⟩ : Rq)]).length = l.length + 1 := by simp
              clear ho1 hg1 hp1 hb0 OA NA RDA GRA HRd hsz RS x0 x1 x2 x3 x4 xf
              go_wp2
              go_roundw
              case rel => exact ⟨k, qf, B1, d1, l ++ [(⟨rc, u, ro, rx, ry⟩ : Rq)], Nl, by go_num, by rw [HLE], by rw [HLE]; omega, by omega, by omega, by simp [hN], HNB.out, OK1, OO1, NN1, RD1, GR1⟩
              case measure => (simp [intOf]; try omega)
        · have d0 : decide (0 < u) = false := by simpa using hu0
          obtain ⟨x0, x1, x2, x3, x4, xf⟩ := RS.out.c5
          have nf : ∀ j, wb.frozen? ⟨w.heap.size + 1, j, none⟩ = false := fun j => RS.out.no.frozenAt j
          have gx := RS.out.gx
          have gx2 : pX ≠ w.heap.size + 1 := fun e => gx e.symm
          have xu : wb.cell? ⟨w.heap.size + 1, j, none⟩ = some (.int .i64 u) := by rw [RS.out.no.cellAt j (by omega)]; simp [hjl, HU.out]
          by_cases h1 : rn = 1
          · have e1 : (rn == 1) = true := by simpa using h1
            replace RS := Lib.hid (RS.out.x hOld.out hRlt 0 (.int .i64 rc))
            replace RS := Lib.hid (RS.out.x hOld.out hRlt 1 (.int .i64 1))
            replace RS := Lib.hid (RS.out.x hOld.out hRlt 2 (.int .i64 1))
            replace RS := Lib.hid (RS.out.x hOld.out hRlt 3 (.int .i64 0))
            replace RS := Lib.hid (RS.out.x hOld.out hRlt 4 (.int .i64 0))
            replace RS : Hid (Rs w (((((wb.setCell ⟨pX, 0, none⟩ (.int .i64 rc)).setCell ⟨pX, 1, none⟩ (.int .i64 1)).setCell ⟨pX, 2, none⟩ (.int .i64 1)).setCell ⟨pX, 3, none⟩ (.int .i64 0)).setCell ⟨pX, 4, none⟩ (.int .i64 0)) R A n c qb (w.heap.size + 1) pX Nl B d l #[.int .i64 rc, .int .i64 1, .int .i64 1, .int .i64 0, .int .i64 0]) := RS
            replace HQ := Lib.hid (req_join HQ.out)
            clear h1
            go_wp2_with (fail)
            obtain ⟨Wz, hWz⟩ : ∃ X, X = (((((wb.setCell ⟨pX, 0, none⟩ (.int .i64 rc)).setCell ⟨pX, 1, none⟩ (.int .i64 1)).setCell ⟨pX, 2, none⟩ (.int .i64 1)).setCell ⟨pX, 3, none⟩ (.int .i64 0)).setCell ⟨pX, 4, none⟩ (.int .i64 0)) := ⟨_, rfl⟩
            rw [← hWz] at RS ⊢
            clear hWz
            clear x0 x1 x2 x3 x4 xf
            clear xu nf
            refine (pickR 12 RS.out.rd (by omega) (by omega) (by omega)).mono ?_
            rintro e wf ⟨v12, w0, w1, rfl, qf, qf0, qf1, hr, hgr⟩
            replace RS := Lib.hid (RS.out.draw hRlt hr hgr)
            clear hr hgr
            by_cases h12 : v12 = 0
            · subst h12
              obtain ⟨x0, x1, x2, x3, x4, xf⟩ := RS.out.c5
              replace RS := Lib.hid (RS.out.x hOld.out hRlt 0 (.int .i64 0))
              replace RS := Lib.hid (RS.out.x hOld.out hRlt 1 (.int .i64 0))
              replace RS := Lib.hid (RS.out.x hOld.out hRlt 2 (.int .i64 0))
              replace RS := Lib.hid (RS.out.x hOld.out hRlt 3 (.int .i64 0))
              replace RS := Lib.hid (RS.out.x hOld.out hRlt 4 (.int .i64 0))
              replace RS : Hid (Rs w (((((wf.setCell ⟨pX, 0, none⟩ (.int .i64 0)).setCell ⟨pX, 1, none⟩ (.int .i64 0)).setCell ⟨pX, 2, none⟩ (.int .i64 0)).setCell ⟨pX, 3, none⟩ (.int .i64 0)).setCell ⟨pX, 4, none⟩ (.int .i64 0)) R A n c qf (w.heap.size + 1) pX Nl B d l #[.int .i64 0, .int .i64 0, .int .i64 0, .int .i64 0, .int .i64 0]) := RS
              go_upto_region 16 with (fail)
              clear x0 x1 x2 x3 x4 xf
              obtain ⟨Wy, hWy⟩ : ∃ X, X = (((((wf.setCell ⟨pX, 0, none⟩ (.int .i64 0)).setCell ⟨pX, 1, none⟩ (.int .i64 0)).setCell ⟨pX, 2, none⟩ (.int .i64 0)).setCell ⟨pX, 3, none⟩ (.int .i64 0)).setCell ⟨pX, 4, none⟩ (.int .i64 0)) := ⟨_, rfl⟩
              rw [← hWy] at RS ⊢
              clear hWy
              obtain ⟨x0, x1, x2, x3, x4, xf⟩ := RS.out.c5
              obtain ⟨OA, NA, RDA, GRA, hsz⟩ := RS.out.al (.cells #[.int .i64 0, .int .i64 0, .int .i64 0, .int .i64 0, .int .i64 0] 35)
              have HRd := Lib.hid (rq_one Wy 35 ⟨0, 0, 0, 0, 0⟩)
              go_wp2_with (at_builtin; go_loud (refine list_app (f := Rq.cells) (fun _ => rfl) rfl _ _ 23 rfl w.heap.size 35 I (.agg #[.int .i64 0, .int .i64 0, .int .i64 0, .int .i64 0, .int .i64 0]) 40 Try.underlying23 I1.out I2.out I3.out I4.out rfl (by decide) _ l.length (l.flatMap Rq.cells) rfl OA.out _ _ 1 [⟨0, 0, 0, 0, 0⟩] rfl rfl HRd.out (fun h => by cases h) (reqs_one _) (by unfold maxLen; omega) (by omega) (by simp; omega) ?_))
              intro v1 w1 ho1 hg1 hp1
              have hb0 : ∀ x, (Value.slice B l.length d).ownBlock = some x → w.heap.size ≤ x := fun x hx => (own_block_ge OA.out x hx).1
              have RD1 := Lib.hid (RDA.out.rowG hg1 hRlt hOld.out hb0)
              have GR1 := Lib.hid (grown_rowG GRA.out hg1 hb0)
              have NN1 := Lib.hid (own_keepR (base' := 0) (e' := 0) NA.out hg1 (fun x hx => own_row_ne OA.out NA.out (by decide) x hx))
              obtain ⟨B1, d1, rfl, _⟩ := own_form ho1
              have OO1 : Hid (w1.ownsRow w.heap.size 35 5 (.slice B1 (l ++ [(⟨0, 0, 0, 0, 0⟩ : Rq)]).length d1) (l ++ [(⟨0, 0, 0, 0, 0⟩ : Rq)]).length ((l ++ [(⟨0, 0, 0, 0, 0⟩ : Rq)]).flatMap Rq.cells)) := by
               show w1.ownsRow _ _ _ _ _ _
               rw [List.flatMap_append, List.length_append]
               exact ho1
              have OK1 : Hid (∀ r ∈ l ++ [(⟨0, 0, 0, 0, 0⟩ : Rq)], okB r = true) := fun r hr => by
               rw [List.mem_append] at hr
               rcases hr with hr | hr
               · exact HOK.out r hr
               · simp only [List.mem_singleton] at hr
                 subst hr
                 rfl
              have HLE : (l ++ [(⟨0, 0, 0, 0, 0⟩ : Rq)]).length = l.length + 1 := by simp
              clear ho1 hg1 hp1 hb0 OA NA RDA GRA HRd hsz RS x0 x1 x2 x3 x4 xf
              go_wp2
              go_roundw
              case rel => exact ⟨k, qf, B1, d1, l ++ [(⟨0, 0, 0, 0, 0⟩ : Rq)], Nl, by go_num, by rw [HLE], by rw [HLE]; omega, by omega, by omega, by simp [hN], HNB.out, OK1, OO1, NN1, RD1, GR1⟩
              case measure => (simp [intOf]; try omega)
            · have h12' : (v12 == 0) = false := by simpa using h12
              clear h12
              obtain ⟨x0, x1, x2, x3, x4, xf⟩ := RS.out.c5
              obtain ⟨OA, NA, RDA, GRA, hsz⟩ := RS.out.al (.cells #[.int .i64 rc, .int .i64 1, .int .i64 1, .int .i64 0, .int .i64 0] 35)
              have HRd := Lib.hid (rq_one wf 35 ⟨rc, 1, 1, 0, 0⟩)
              go_wp2_with (at_builtin; go_loud (refine list_app (f := Rq.cells) (fun _ => rfl) rfl _ _ 23 rfl w.heap.size 35 I (.agg #[.int .i64 0, .int .i64 0, .int .i64 0, .int .i64 0, .int .i64 0]) 40 Try.underlying23 I1.out I2.out I3.out I4.out rfl (by decide) _ l.length (l.flatMap Rq.cells) rfl OA.out _ _ 1 [⟨rc, 1, 1, 0, 0⟩] rfl rfl HRd.out (fun h => by cases h) (reqs_one _) (by unfold maxLen; omega) (by omega) (by simp; omega) ?_))
              intro v1 w1 ho1 hg1 hp1
              have hb0 : ∀ x, (Value.slice B l.length d).ownBlock = some x → w.heap.size ≤ x := fun x hx => (own_block_ge OA.out x hx).1
              have RD1 := Lib.hid (RDA.out.rowG hg1 hRlt hOld.out hb0)
              have GR1 := Lib.hid (grown_rowG GRA.out hg1 hb0)
              have NN1 := Lib.hid (own_keepR (base' := 0) (e' := 0) NA.out hg1 (fun x hx => own_row_ne OA.out NA.out (by decide) x hx))
              obtain ⟨B1, d1, rfl, _⟩ := own_form ho1
              have OO1 : Hid (w1.ownsRow w.heap.size 35 5 (.slice B1 (l ++ [(⟨rc, 1, 1, 0, 0⟩ : Rq)]).length d1) (l ++ [(⟨rc, 1, 1, 0, 0⟩ : Rq)]).length ((l ++ [(⟨rc, 1, 1, 0, 0⟩ : Rq)]).flatMap Rq.cells)) := by
               show w1.ownsRow _ _ _ _ _ _
               rw [List.flatMap_append, List.length_append]
               exact ho1
              have OK1 : Hid (∀ r ∈ l ++ [(⟨rc, 1, 1, 0, 0⟩ : Rq)], okB r = true) := fun r hr => by
               rw [List.mem_append] at hr
               rcases hr with hr | hr
               · exact HOK.out r hr
               · simp only [List.mem_singleton] at hr
                 subst hr
                 exact okB_of HQ.out
              have HLE : (l ++ [(⟨rc, 1, 1, 0, 0⟩ : Rq)]).length = l.length + 1 := by simp
              clear ho1 hg1 hp1 hb0 OA NA RDA GRA HRd hsz RS x0 x1 x2 x3 x4 xf
              go_wp2
              go_roundw
              case rel => exact ⟨k, qf, B1, d1, l ++ [(⟨rc, 1, 1, 0, 0⟩ : Rq)], Nl, by go_num, by rw [HLE], by rw [HLE]; omega, by omega, by omega, by simp [hN], HNB.out, OK1, OO1, NN1, RD1, GR1⟩
              case measure => (simp [intOf]; try omega)
          · have e1 : (rn == 1) = false := by simpa using h1
            replace RS : Hid (Rs w wb R A n c qb (w.heap.size + 1) pX Nl B d l #[.int .i64 rc, .int .i64 rn, .int .i64 ro, .int .i64 rx, .int .i64 ry]) := RS
            clear h1
            go_wp2_with (fail)
            obtain ⟨Wz, hWz⟩ : ∃ X, X = wb := ⟨_, rfl⟩
            rw [← hWz] at RS ⊢
            clear hWz
            clear x0 x1 x2 x3 x4 xf
            clear xu nf
            refine (pickR 12 RS.out.rd (by omega) (by omega) (by omega)).mono ?_
            rintro e wf ⟨v12, w0, w1, rfl, qf, qf0, qf1, hr, hgr⟩
            replace RS := Lib.hid (RS.out.draw hRlt hr hgr)
            clear hr hgr
            by_cases h12 : v12 = 0
            · subst h12
              obtain ⟨x0, x1, x2, x3, x4, xf⟩ := RS.out.c5
              replace RS := Lib.hid (RS.out.x hOld.out hRlt 0 (.int .i64 0))
              replace RS := Lib.hid (RS.out.x hOld.out hRlt 1 (.int .i64 0))
              replace RS := Lib.hid (RS.out.x hOld.out hRlt 2 (.int .i64 0))
              replace RS := Lib.hid (RS.out.x hOld.out hRlt 3 (.int .i64 0))
              replace RS := Lib.hid (RS.out.x hOld.out hRlt 4 (.int .i64 0))
              replace RS : Hid (Rs w (((((wf.setCell ⟨pX, 0, none⟩ (.int .i64 0)).setCell ⟨pX, 1, none⟩ (.int .i64 0)).setCell ⟨pX, 2, none⟩ (.int .i64 0)).setCell ⟨pX, 3, none⟩ (.int .i64 0)).setCell ⟨pX, 4, none⟩ (.int .i64 0)) R A n c qf (w.heap.size + 1) pX Nl B d l #[.int .i64 0, .int .i64 0, .int .i64 0, .int .i64 0, .int .i64 0]) := RS
              go_upto_region 16 with (fail)
              clear x0 x1 x2 x3 x4 xf
              obtain ⟨Wy, hWy⟩ : ∃ X, X = (((((wf.setCell ⟨pX, 0, none⟩ (.int .i64 0)).setCell ⟨pX, 1, none⟩ (.int .i64 0)).setCell ⟨pX, 2, none⟩ (.int .i64 0)).setCell ⟨pX, 3, none⟩ (.int .i64 0)).setCell ⟨pX, 4, none⟩ (.int .i64 0)) := ⟨_, rfl⟩
              rw [← hWy] at RS ⊢
              clear hWy
              obtain ⟨x0, x1, x2, x3, x4, xf⟩ := RS.out.c5
              obtain ⟨OA, NA, RDA, GRA, hsz⟩ := RS.out.al (.cells #[.int .i64 0, .int .i64 0, .int .i64 0, .int .i64 0, .int .i64 0] 35)
              have HRd := Lib.hid (rq_one Wy 35 ⟨0, 0, 0, 0, 0⟩)
              go_wp2_with (at_builtin; go_loud (refine list_app (f := Rq.cells) (fun _ => rfl) rfl _ _ 23 rfl w.heap.size 35 I (.agg #[.int .i64 0, .int .i64 0, .int .i64 0, .int .i64 0, .int .i64 0]) 40 Try.underlying23 I1.out I2.out I3.out I4.out rfl (by decide) _ l.length (l.flatMap Rq.cells) rfl OA.out _ _ 1 [⟨0, 0, 0, 0, 0⟩] rfl rfl HRd.out (fun h => by cases h) (reqs_one _) (by unfold maxLen; omega) (by omega) (by simp; omega) ?_))
              intro v1 w1 ho1 hg1 hp1
              have hb0 : ∀ x, (Value.slice B l.length d).ownBlock = some x → w.heap.size ≤ x := fun x hx => (own_block_ge OA.out x hx).1
              have RD1 := Lib.hid (RDA.out.rowG hg1 hRlt hOld.out hb0)
              have GR1 := Lib.hid (grown_rowG GRA.out hg1 hb0)
              have NN1 := Lib.hid (own_keepR (base' := 0) (e' := 0) NA.out hg1 (fun x hx => own_row_ne OA.out NA.out (by decide) x hx))
              obtain ⟨B1, d1, rfl, _⟩ := own_form ho1
              have OO1 : Hid (w1.ownsRow w.heap.size 35 5 (.slice B1 (l ++ [(⟨0, 0, 0, 0, 0⟩ : Rq)]).length d1) (l ++ [(⟨0, 0, 0, 0, 0⟩ : Rq)]).length ((l ++ [(⟨0, 0, 0, 0, 0⟩ : Rq)]).flatMap Rq.cells)) := by
               show w1.ownsRow _ _ _ _ _ _
               rw [List.flatMap_append, List.length_append]
               exact ho1
              have OK1 : Hid (∀ r ∈ l ++ [(⟨0, 0, 0, 0, 0⟩ : Rq)], okB r = true) := fun r hr => by
               rw [List.mem_append] at hr
               rcases hr with hr | hr
               · exact HOK.out r hr
               · simp only [List.mem_singleton] at hr
                 subst hr
                 rfl
              have HLE : (l ++ [(⟨0, 0, 0, 0, 0⟩ : Rq)]).length = l.length + 1 := by simp
              clear ho1 hg1 hp1 hb0 OA NA RDA GRA HRd hsz RS x0 x1 x2 x3 x4 xf
              go_wp2
              go_roundw
              case rel => exact ⟨k, qf, B1, d1, l ++ [(⟨0, 0, 0, 0, 0⟩ : Rq)], Nl, by go_num, by rw [HLE], by rw [HLE]; omega, by omega, by omega, by simp [hN], HNB.out, OK1, OO1, NN1, RD1, GR1⟩
              case measure => (simp [intOf]; try omega)
            · have h12' : (v12 == 0) = false := by simpa using h12
              clear h12
              obtain ⟨x0, x1, x2, x3, x4, xf⟩ := RS.out.c5
              obtain ⟨OA, NA, RDA, GRA, hsz⟩ := RS.out.al (.cells #[.int .i64 rc, .int .i64 rn, .int .i64 ro, .int .i64 rx, .int .i64 ry] 35)
              have HRd := Lib.hid (rq_one wf 35 ⟨rc, rn, ro, rx, ry⟩)
              go_wp2_with (at_builtin; go_loud (refine list_app (f := Rq.cells) (fun _ => rfl) rfl _ _ 23 rfl w.heap.size 35 I (.agg #[.int .i64 0, .int .i64 0, .int .i64 0, .int .i64 0, .int .i64 0]) 40 Try.underlying23 I1.out I2.out I3.out I4.out rfl (by decide) _ l.length (l.flatMap Rq.cells) rfl OA.out _ _ 1 [⟨rc, rn, ro, rx, ry⟩] rfl rfl HRd.out (fun h => by cases h) (reqs_one _) (by unfold maxLen; omega) (by omega) (by simp; omega) ?_))
              intro v1 w1 ho1 hg1 hp1
              have hb0 : ∀ x, (Value.slice B l.length d).ownBlock = some x → w.heap.size ≤ x := fun x hx => (own_block_ge OA.out x hx).1
              have RD1 := Lib.hid (RDA.out.rowG hg1 hRlt hOld.out hb0)
              have GR1 := Lib.hid (grown_rowG GRA.out hg1 hb0)
              have NN1 := Lib.hid (own_keepR (base' := 0) (e' := 0) NA.out hg1 (fun x hx => own_row_ne OA.out NA.out (by decide) x hx))
              obtain ⟨B1, d1, rfl, _⟩ := own_form ho1
              have OO1 : Hid (w1.ownsRow w.heap.size 35 5 (.slice B1 (l ++ [(⟨rc, rn, ro, rx, ry⟩ : Rq)]).length d1) (l ++ [(⟨rc, rn, ro, rx, ry⟩ : Rq)]).length ((l ++ [(⟨rc, rn, ro, rx, ry⟩ : Rq)]).flatMap Rq.cells)) := by
               show w1.ownsRow _ _ _ _ _ _
               rw [List.flatMap_append, List.length_append]
               exact ho1
              have OK1 : Hid (∀ r ∈ l ++ [(⟨rc, rn, ro, rx, ry⟩ : Rq)], okB r = true) := fun r hr => by
               rw [List.mem_append] at hr
               rcases hr with hr | hr
               · exact HOK.out r hr
               · simp only [List.mem_singleton] at hr
                 subst hr
                 exact okB_of HQ.out
              have HLE : (l ++ [(⟨rc, rn, ro, rx, ry⟩ : Rq)]).length = l.length + 1 := by simp
              clear ho1 hg1 hp1 hb0 OA NA RDA GRA HRd hsz RS x0 x1 x2 x3 x4 xf
              go_wp2
              go_roundw
              case rel => exact ⟨k, qf, B1, d1, l ++ [(⟨rc, rn, ro, rx, ry⟩ : Rq)], Nl, by go_num, by rw [HLE], by rw [HLE]; omega, by omega, by omega, by simp [hN], HNB.out, OK1, OO1, NN1, RD1, GR1⟩
              case measure => (simp [intOf]; try omega)
    · have d30 : decide (u < 30) = false := by simpa using h30
      have u30 : u = 30 := by omega
      have d0 : decide (0 < u) = true := by simp; omega
      clear u30
      replace HQ := Lib.hid (req_num HQ.out u (by omega))
      obtain ⟨x0, x1, x2, x3, x4, xf⟩ := RS.out.c5
      have nf : ∀ j, W1.frozen? ⟨w.heap.size + 1, j, none⟩ = false := fun j => RS.out.no.frozenAt j
      have gx := RS.out.gx
      have gx2 : pX ≠ w.heap.size + 1 := fun e => gx e.symm
      have xu : W1.cell? ⟨w.heap.size + 1, j, none⟩ = some (.int .i64 u) := by rw [RS.out.no.cellAt j (by omega)]; simp [hjl, HU.out]
      replace RS := Lib.hid (RS.out.x hOld.out hRlt 1 (.int .i64 u))
      by_cases h1 : u = 1
      · have e1 : (u == 1) = true := by simpa using h1
        replace RS := Lib.hid (RS.out.x hOld.out hRlt 0 (.int .i64 rc))
        replace RS := Lib.hid (RS.out.x hOld.out hRlt 1 (.int .i64 1))
        replace RS := Lib.hid (RS.out.x hOld.out hRlt 2 (.int .i64 1))
        replace RS := Lib.hid (RS.out.x hOld.out hRlt 3 (.int .i64 0))
        replace RS := Lib.hid (RS.out.x hOld.out hRlt 4 (.int .i64 0))
        replace RS : Hid (Rs w ((((((W1.setCell ⟨pX, 1, none⟩ (.int .i64 u)).setCell ⟨pX, 0, none⟩ (.int .i64 rc)).setCell ⟨pX, 1, none⟩ (.int .i64 1)).setCell ⟨pX, 2, none⟩ (.int .i64 1)).setCell ⟨pX, 3, none⟩ (.int .i64 0)).setCell ⟨pX, 4, none⟩ (.int .i64 0)) R A n c qa (w.heap.size + 1) pX Nl B d l #[.int .i64 rc, .int .i64 1, .int .i64 1, .int .i64 0, .int .i64 0]) := RS
        replace HQ := Lib.hid (req_join HQ.out)
        clear h1
        go_wp2_with (fail)
        obtain ⟨Wz, hWz⟩ : ∃ X, X = ((((((W1.setCell ⟨pX, 1, none⟩ (.int .i64 u)).setCell ⟨pX, 0, none⟩ (.int .i64 rc)).setCell ⟨pX, 1, none⟩ (.int .i64 1)).setCell ⟨pX, 2, none⟩ (.int .i64 1)).setCell ⟨pX, 3, none⟩ (.int .i64 0)).setCell ⟨pX, 4, none⟩ (.int .i64 0)) := ⟨_, rfl⟩
        rw [← hWz] at RS ⊢
        clear hWz
        clear x0 x1 x2 x3 x4 xf
        clear xu nf
        refine (pickR 12 RS.out.rd (by omega) (by omega) (by omega)).mono ?_
        rintro e wf ⟨v12, w0, w1, rfl, qf, qf0, qf1, hr, hgr⟩
        replace RS := Lib.hid (RS.out.draw hRlt hr hgr)
        clear hr hgr
        by_cases h12 : v12 = 0
        · subst h12
          obtain ⟨x0, x1, x2, x3, x4, xf⟩ := RS.out.c5
          replace RS := Lib.hid (RS.out.x hOld.out hRlt 0 (.int .i64 0))
          replace RS := Lib.hid (RS.out.x hOld.out hRlt 1 (.int .i64 0))
          replace RS := Lib.hid (RS.out.x hOld.out hRlt 2 (.int .i64 0))
          replace RS := Lib.hid (RS.out.x hOld.out hRlt 3 (.int .i64 0))
          replace RS := Lib.hid (RS.out.x hOld.out hRlt 4 (.int .i64 0))
          replace RS : Hid (Rs w (((((wf.setCell ⟨pX, 0, none⟩ (.int .i64 0)).setCell ⟨pX, 1, none⟩ (.int .i64 0)).setCell ⟨pX, 2, none⟩ (.int .i64 0)).setCell ⟨pX, 3, none⟩ (.int .i64 0)).setCell ⟨pX, 4, none⟩ (.int .i64 0)) R A n c qf (w.heap.size + 1) pX Nl B d l #[.int .i64 0, .int .i64 0, .int .i64 0, .int .i64 0, .int .i64 0]) := RS
          go_upto_region 16 with (fail)
          clear x0 x1 x2 x3 x4 xf
          obtain ⟨Wy, hWy⟩ : ∃ X, X = (((((wf.setCell ⟨pX, 0, none⟩ (.int .i64 0)).setCell ⟨pX, 1, none⟩ (.int .i64 0)).setCell ⟨pX, 2, none⟩ (.int .i64 0)).setCell ⟨pX, 3, none⟩ (.int .i64 0)).setCell ⟨pX, 4, none⟩ (.int .i64 0)) := ⟨_, rfl⟩
          rw [← hWy] at RS ⊢
          clear hWy
          obtain ⟨x0, x1, x2, x3, x4, xf⟩ := RS.out.c5
          obtain ⟨OA, NA, RDA, GRA, hsz⟩ := RS.out.al (.cells #[.int .i64 0, .int .i64 0, .int .i64 0, .int .i64 0, .int .i64 0] 35)
          have HRd := Lib.hid (rq_one Wy 35 ⟨0, 0, 0, 0, 0⟩)
          go_wp2_with (at_builtin; go_loud (refine list_app (f := Rq.cells) (fun _ => rfl) rfl _ _ 23 rfl w.heap.size 35 I (.agg #[.int .i64 0, .int .i64 0, .int .i64 0, .int .i64 0, .int .i64 0]) 40 Try.underlying23 I1.out I2.out I3.out I4.out rfl (by decide) _ l.length (l.flatMap Rq.cells) rfl OA.out _ _ 1 [⟨0, 0, 0, 0, 0⟩] rfl rfl HRd.out (fun h => by cases h) (reqs_one _) (by unfold maxLen; omega) (by omega) (by simp; omega) ?_))
          intro v1 w1 ho1 hg1 hp1
          have hb0 : ∀ x, (Value.slice B l.length d).ownBlock = some x → w.heap.size ≤ x := fun x hx => (own_block_ge OA.out x hx).1
          have RD1 := Lib.hid (RDA.out.rowG hg1 hRlt hOld.out hb0)
          have GR1 := Lib.hid (grown_rowG GRA.out hg1 hb0)
          have NN1 := Lib.hid (own_keepR (base' := 0) (e' := 0) NA.out hg1 (fun x hx => own_row_ne OA.out NA.out (by decide) x hx))
          obtain ⟨B1, d1, rfl, _⟩ := own_form ho1
          have OO1 : Hid (w1.ownsRow w.heap.size 35 5 (.slice B1 (l ++ [(⟨0, 0, 0, 0, 0⟩ : Rq)]).length d1) (l ++ [(⟨0, 0, 0, 0, 0⟩ : Rq)]).length ((l ++ [(⟨0, 0, 0, 0, 0⟩ : Rq)]).flatMap Rq.cells)) := by
           show w1.ownsRow _ _ _ _ _ _
           rw [List.flatMap_append, List.length_append]
           exact ho1
          have OK1 : Hid (∀ r ∈ l ++ [(⟨0, 0, 0, 0, 0⟩ : Rq)], okB r = true) := fun r hr => by
           rw [List.mem_append] at hr
           rcases hr with hr | hr
           · exact HOK.out r hr
           · simp only [List.mem_singleton] at hr
             subst hr
             rfl
          have HLE : (l ++ [(⟨0, 0, 0, 0, 0⟩ : Rq)]).length = l.length + 1 := by simp
          clear ho1 hg1 hp1 hb0 OA NA RDA GRA HRd hsz RS x0 x1 x2 x3 x4 xf
          go_wp2
          go_roundw
          case rel => exact ⟨k, qf, B1, d1, l ++ [(⟨0, 0, 0, 0, 0⟩ : Rq)], Nl, by go_num, by rw [HLE], by rw [HLE]; omega, by omega, by omega, by simp [hN], HNB.out, OK1, OO1, NN1, RD1, GR1⟩
          case measure => (simp [intOf]; try omega)
        · have h12' : (v12 == 0) = false := by simpa using h12
          clear h12
          obtain ⟨x0, x1, x2, x3, x4, xf⟩ := RS.out.c5
          obtain ⟨OA, NA, RDA, GRA, hsz⟩ := RS.out.al (.cells #[.int .i64 rc, .int .i64 1, .int .i64 1, .int .i64 0, .int .i64 0] 35)
          have HRd := Lib.hid (rq_one wf 35 ⟨rc, 1, 1, 0, 0⟩)
          go_wp2_with (at_builtin; go_loud (refine list_app (f := Rq.cells) (fun _ => rfl) rfl _ _ 23 rfl w.heap.size 35 I (.agg #[.int .i64 0, .int .i64 0, .int .i64 0, .int .i64 0, .int .i64 0]) 40 Try.underlying23 I1.out I2.out I3.out I4.out rfl (by decide) _ l.length (l.flatMap Rq.cells) rfl OA.out _ _ 1 [⟨rc, 1, 1, 0, 0⟩] rfl rfl HRd.out (fun h => by cases h) (reqs_one _) (by unfold maxLen; omega) (by omega) (by simp; omega) ?_))
          intro v1 w1 ho1 hg1 hp1
          have hb0 : ∀ x, (Value.slice B l.length d).ownBlock = some x → w.heap.size ≤ x := fun x hx => (own_block_ge OA.out x hx).1
          have RD1 := Lib.hid (RDA.out.rowG hg1 hRlt hOld.out hb0)
          have GR1 := Lib.hid (grown_rowG GRA.out hg1 hb0)
          have NN1 := Lib.hid (own_keepR (base' := 0) (e' := 0) NA.out hg1 (fun x hx => own_row_ne OA.out NA.out (by decide) x hx))
          obtain ⟨B1, d1, rfl, _⟩ := own_form ho1
          have OO1 : Hid (w1.ownsRow w.heap.size 35 5 (.slice B1 (l ++ [(⟨rc, 1, 1, 0, 0⟩ : Rq)]).length d1) (l ++ [(⟨rc, 1, 1, 0, 0⟩ : Rq)]).length ((l ++ [(⟨rc, 1, 1, 0, 0⟩ : Rq)]).flatMap Rq.cells)) := by
           show w1.ownsRow _ _ _ _ _ _
           rw [List.flatMap_append, List.length_append]
           exact ho1
          have OK1 : Hid (∀ r ∈ l ++ [(⟨rc, 1, 1, 0, 0⟩ : Rq)], okB r = true) := fun r hr => by
           rw [List.mem_append] at hr
           rcases hr with hr | hr
           · exact HOK.out r hr
           · simp only [List.mem_singleton] at hr
             subst hr
             exact okB_of HQ.out
          have HLE : (l ++ [(⟨rc, 1, 1, 0, 0⟩ : Rq)]).length = l.length + 1 := by simp
          clear ho1 hg1 hp1 hb0 OA NA RDA GRA HRd hsz RS x0 x1 x2 x3 x4 xf
          go_wp2
          go_roundw
          case rel => exact ⟨k, qf, B1, d1, l ++ [(⟨rc, 1, 1, 0, 0⟩ : Rq)], Nl, by go_num, by rw [HLE], by rw [HLE]; omega, by omega, by omega, by simp [hN], HNB.out, OK1, OO1, NN1, RD1, GR1⟩
          case measure => (simp [intOf]; try omega)
      · have e1 : (u == 1) = false := by simpa using h1
        replace RS : Hid (Rs w (W1.setCell ⟨pX, 1, none⟩ (.int .i64 u)) R A n c qa (w.heap.size + 1) pX Nl B d l #[.int .i64 rc, .int .i64 u, .int .i64 ro, .int .i64 rx, .int .i64 ry]) := RS
        clear h1
        go_wp2_with (fail)
        obtain ⟨Wz, hWz⟩ : ∃ X, X = (W1.setCell ⟨pX, 1, none⟩ (.int .i64 u)) := ⟨_, rfl⟩
        rw [← hWz] at RS ⊢
        clear hWz
        clear x0 x1 x2 x3 x4 xf
        clear xu nf
        refine (pickR 12 RS.out.rd (by omega) (by omega) (by omega)).mono ?_
        rintro e wf ⟨v12, w0, w1, rfl, qf, qf0, qf1, hr, hgr⟩
        replace RS := Lib.hid (RS.out.draw hRlt hr hgr)
        clear hr hgr
        by_cases h12 : v12 = 0
        · subst h12
          obtain ⟨x0, x1, x2, x3, x4, xf⟩ := RS.out.c5
          replace RS := Lib.hid (RS.out.x hOld.out hRlt 0 (.int .i64 0))
          replace RS := Lib.hid (RS.out.x hOld.out hRlt 1 (.int .i64 0))
          replace RS := Lib.hid (RS.out.x hOld.out hRlt 2 (.int .i64 0))
          replace RS := Lib.hid (RS.out.x hOld.out hRlt 3 (.int .i64 0))
          replace RS := Lib.hid (RS.out.x hOld.out hRlt 4 (.int .i64 0))
          replace RS : Hid (Rs w (((((wf.setCell ⟨pX, 0, none⟩ (.int .i64 0)).setCell ⟨pX, 1, none⟩ (.int .i64 0)).setCell ⟨pX, 2, none⟩ (.int .i64 0)).setCell ⟨pX, 3, none⟩ (.int .i64 0)).setCell ⟨pX, 4, none⟩ (.int .i64 0)) R A n c qf (w.heap.size + 1) pX Nl B d l #[.int .i64 0, .int .i64 0, .int .i64 0, .int .i64 0, .int .i64 0]) := RS
          go_upto_region 16 with (fail)
          clear x0 x1 x2 x3 x4 xf
          obtain ⟨Wy, hWy⟩ : ∃ X, X = (((((wf.setCell ⟨pX, 0, none⟩ (.int .i64 0)).setCell ⟨pX, 1, none⟩ (.int .i64 0)).setCell ⟨pX, 2, none⟩ (.int .i64 0)).setCell ⟨pX, 3, none⟩ (.int .i64 0)).setCell ⟨pX, 4, none⟩ (.int .i64 0)) := ⟨_, rfl⟩
          rw [← hWy] at RS ⊢
          clear hWy
          obtain ⟨x0, x1, x2, x3, x4, xf⟩ := RS.out.c5
          obtain ⟨OA, NA, RDA, GRA, hsz⟩ := RS.out.al (.cells #[.int .i64 0, .int .i64 0, .int .i64 0, .int .i64 0, .int .i64 0] 35)
          have HRd := Lib.hid (rq_one Wy 35 ⟨0, 0, 0, 0, 0⟩)
          go_wp2_with (at_builtin; go_loud (refine list_app (f := Rq.cells) (fun _ => rfl) rfl _ _ 23 rfl w.heap.size 35 I (.agg #[.int .i64 0, .int .i64 0, .int .i64 0, .int .i64 0, .int .i64 0]) 40 Try.underlying23 I1.out I2.out I3.out I4.out rfl (by decide) _ l.length (l.flatMap Rq.cells) rfl OA.out _ _ 1 [⟨0, 0, 0, 0, 0⟩] rfl rfl HRd.out (fun h => by cases h) (reqs_one _) (by unfold maxLen; omega) (by omega) (by simp; omega) ?_))
          intro v1 w1 ho1 hg1 hp1
          have hb0 : ∀ x, (Value.slice B l.length d).ownBlock = some x → w.heap.size ≤ x := fun x hx => (own_block_ge OA.out x hx).1
          have RD1 := Lib.hid (RDA.out.rowG hg1 hRlt hOld.out hb0)
          have GR1 := Lib.hid (grown_rowG GRA.out hg1 hb0)
          have NN1 := Lib.hid (own_keepR (base' := 0) (e' := 0) NA.out hg1 (fun x hx => own_row_ne OA.out NA.out (by decide) x hx))
          obtain ⟨B1, d1, rfl, _⟩ := own_form ho1
          have OO1 : Hid (w1.ownsRow w.heap.size 35 5 (.slice B1 (l ++ [(⟨0, 0, 0, 0, 0⟩ : Rq)]).length d1) (l ++ [(⟨0, 0, 0, 0, 0⟩ : Rq)]).length ((l ++ [(⟨0, 0, 0, 0, 0⟩ : Rq)]).flatMap Rq.cells)) := by
           show w1.ownsRow _ _ _ _ _ _
           rw [List.flatMap_append, List.length_append]
           exact ho1
          have OK1 : Hid (∀ r ∈ l ++ [(⟨0, 0, 0, 0, 0⟩ : Rq)], okB r = true) := fun r hr => by
           rw [List.mem_append] at hr
           rcases hr with hr | hr
           · exact HOK.out r hr
           · simp only [List.mem_singleton] at hr
             subst hr
             rfl
          have HLE : (l ++ [(⟨0, 0, 0, 0, 0⟩ : Rq)]).length = l.length + 1 := by simp
          clear ho1 hg1 hp1 hb0 OA NA RDA GRA HRd hsz RS x0 x1 x2 x3 x4 xf
          go_wp2
          go_roundw
          case rel => exact ⟨k, qf, B1, d1, l ++ [(⟨0, 0, 0, 0, 0⟩ : Rq)], Nl, by go_num, by rw [HLE], by rw [HLE]; omega, by omega, by omega, by simp [hN], HNB.out, OK1, OO1, NN1, RD1, GR1⟩
          case measure => (simp [intOf]; try omega)
        · have h12' : (v12 == 0) = false := by simpa using h12
          clear h12
          obtain ⟨x0, x1, x2, x3, x4, xf⟩ := RS.out.c5
          obtain ⟨OA, NA, RDA, GRA, hsz⟩ := RS.out.al (.cells #[.int .i64 rc, .int .i64 u, .int .i64 ro, .int .i64 rx, .int .i64 ry] 35)
          have HRd := Lib.hid (rq_one wf 35 ⟨rc, u, ro, rx, ry⟩)
          go_wp2_with (at_builtin; go_loud (refine list_app (f := Rq.cells) (fun _ => rfl) rfl _ _ 23 rfl w.heap.size 35 I (.agg #[.int .i64 0, .int .i64 0, .int .i64 0, .int .i64 0, .int .i64 0]) 40 Try.underlying23 I1.out I2.out I3.out I4.out rfl (by decide) _ l.length (l.flatMap Rq.cells) rfl OA.out _ _ 1 [⟨rc, u, ro, rx, ry⟩] rfl rfl HRd.out (fun h => by cases h) (reqs_one _) (by unfold maxLen; omega) (by omega) (by simp; omega) ?_))
          intro v1 w1 ho1 hg1 hp1
          have hb0 : ∀ x, (Value.slice B l.length d).ownBlock = some x → w.heap.size ≤ x := fun x hx => (own_block_ge OA.out x hx).1
          have RD1 := Lib.hid (RDA.out.rowG hg1 hRlt hOld.out hb0)
          have GR1 := Lib.hid (grown_rowG GRA.out hg1 hb0)
          have NN1 := Lib.hid (own_keepR (base' := 0) (e' := 0) NA.out hg1 (fun x hx => own_row_ne OA.out NA.out (by decide) x hx))
          obtain ⟨B1, d1, rfl, _⟩ := own_form ho1
          have OO1 : Hid (w1.ownsRow w.heap.size 35 5 (.slice B1 (l ++ [(⟨rc, u, ro, rx, ry⟩ : Rq)]).length d1) (l ++ [(⟨rc, u, ro, rx, ry⟩ : Rq)]).length ((l ++ [(⟨rc, u, ro, rx, ry⟩ : Rq)]).flatMap Rq.cells)) := by
           show w1.ownsRow _ _ _ _ _ _
           rw [List.flatMap_append, List.length_append]
           exact ho1
          have OK1 : Hid (∀ r ∈ l ++ [(⟨rc, u, ro, rx, ry⟩ : Rq)], okB r = true) := fun r hr => by
           rw [List.mem_append] at hr
           rcases hr with hr | hr
           · exact HOK.out r hr
           · simp only [List.mem_singleton] at hr
             subst hr
             exact okB_of HQ.out
          have HLE : (l ++ [(⟨rc, u, ro, rx, ry⟩ : Rq)]).length = l.length + 1 := by simp
          clear ho1 hg1 hp1 hb0 OA NA RDA GRA HRd hsz RS x0 x1 x2 x3 x4 xf
          go_wp2
          go_roundw
          case rel => exact ⟨k, qf, B1, d1, l ++ [(⟨rc, u, ro, rx, ry⟩ : Rq)], Nl, by go_num, by rw [HLE], by rw [HLE]; omega, by omega, by omega, by simp [hN], HNB.out, OK1, OO1, NN1, RD1, GR1⟩
          case measure => (simp [intOf]; try omega)

end Go.Proofs.Ytagjkngiijmokaa

/- The laws own comparison of games that read alike; requests drawn for a fold. -/
namespace Go.Proofs.Ytagjkngiijmokaa
open Go.ChangeShapes Go.WideShapes Go.ChangeAt Go.RowKit
set_option linter.unusedVariables false
set_option linter.unusedSimpArgs false

set_option maxRecDepth 100000 in
theorem fieldsEnt (d : Nat) (a b : Fig) (w : World) (xs ys : Array Value) (hx : xs = a.cells.toArray) (hy : ys = b.cells.toArray) : (Op.eqFields (d + 1) xs ys (Try.prog.fieldsOf 59).toList).run Try.prog w = .ok (decide (a = b)) w := by
 obtain ⟨a1, a2, a3, a4, a5⟩ := a
 obtain ⟨b1, b2, b3, b4, b5⟩ := b
 subst hx hy
 have hf : (Try.prog.fieldsOf 59).toList.map (fun f => (f.name, f.type, f.offset)) = [("Client", 3, 0), ("X", 3, 1), ("Y", 3, 2), ("Life", 3, 3), ("Gold", 3, 4)] := by kernel_rfl
 generalize (Try.prog.fieldsOf 59).toList = fs at hf ⊢
 obtain ⟨f1, f2, f3, f4, f5, rfl⟩ := len5 fs (by have := congrArg List.length hf; simpa using this)
 simp only [List.map_cons, List.map_nil, List.cons.injEq, Prod.mk.injEq, and_true] at hf
 obtain ⟨⟨n1, t1, o1⟩, ⟨n2, t2, o2⟩, ⟨n3, t3, o3⟩, ⟨n4, t4, o4⟩, ⟨n5, t5, o5⟩⟩ := hf
 simp [Op.eqFields, n1, t1, o1, n2, t2, o2, n3, t3, o3, n4, t4, o4, n5, t5, o5, Fig.cells, go_sem]
 repeat' split
 all_goals simp_all

theorem neqEntG (a b : Fig) (w : World) : (binOp .neq 59 (.agg #[.int .i64 a.c, .int .i64 a.x, .int .i64 a.y, .int .i64 a.l, .int .i64 a.g]) (.agg #[.int .i64 b.c, .int .i64 b.x, .int .i64 b.y, .int .i64 b.l, .int .i64 b.g])).run Try.prog w = .ok (.bool (!decide (a = b))) w := by
 rw [run_neq_struct, run_equalIn_struct _ _ _ _ _ (by kernel_rfl) (by kernel_rfl), fieldsEnt 9998 a b w #[.int .i64 a.c, .int .i64 a.x, .int .i64 a.y, .int .i64 a.l, .int .i64 a.g] #[.int .i64 b.c, .int .i64 b.x, .int .i64 b.y, .int .i64 b.l, .int .i64 b.g] rfl rfl]
 rfl

theorem neqEnt (f : Fig) (w : World) : (binOp .neq 59 (.agg #[.int .i64 f.c, .int .i64 f.x, .int .i64 f.y, .int .i64 f.l, .int .i64 f.g]) (.agg #[.int .i64 f.c, .int .i64 f.x, .int .i64 f.y, .int .i64 f.l, .int .i64 f.g])).run Try.prog w = .ok (.bool false) w := by
 have h := neqEntG f f w
 simpa using h

set_option maxRecDepth 100000 in
set_option maxHeartbeats 4000000 in
theorem wpInts_rd {w : World} (A B : Option Addr) (a b : Nat) (l : List Int) (h : RdI w A l) (h' : RdI w B l) (hl : l.length ≤ 1048576) :
 Calls Try.prog 29 #[.slice A l.length a, .slice B l.length b] w fun e w' => e = .returned (.bool true) ∧ Below w.heap.size w w' := by
 have H := Lib.hid h
 have H' := Lib.hid h'
 have nn : ((l.length : Int) != (l.length : Int)) = false := by simp
 clear h h'
 go_enter Try.func29, Try.ntmps29
 go_wp2
 go_loopw [5] (fun v wr => ∃ k : Nat, k ≤ l.length ∧ v = .int .i64 (k : Int) ∧ Hid (Below w.heap.size w wr)) (fun v _ => l.length - (intOf v).toNat)
 case atStart => exact ⟨0, Nat.zero_le _, rfl, Below.refl _ _⟩
 case round =>
  obtain ⟨k, hk, rfl, hb⟩ := hrel
  by_cases hlt : k < l.length
  · obtain ⟨g, rfl, xa⟩ := (H.out.below hb.out) k hlt
    obtain ⟨g', rfl, xb⟩ := (H'.out.below hb.out) k hlt
    generalize l[k] = u at xa xb
    have i0 : (0 : Int) ≤ (k : Int) := by omega
    have i1 : (k : Int) < (l.length : Int) := by omega
    have la : g < wr.heap.size := World.block_lt_of_cell? wr _ xa
    have lb : g' < wr.heap.size := World.block_lt_of_cell? wr _ xb
    have uu : (u != u) = false := by simp
    go_wp2_with (fail)
    refine wp_region_held_drew (S := fun WS => Below wr.heap.size wr WS) (by kernel_rfl) ((Below.refl _ _).drew) (fun hS0 => ?_)
    refine tkI 0 17 (v := ?_) rfl rfl ?_ ?_
    rotate_left
    · intro wS hSw; obtain ⟨hcS, hfS⟩ := bcell hSw; go_simp; (try with_reducible rfl)
    (try simp only [Act.put, pu1, pu2, pu3])
    refine tkI 1 18 (v := ?_) rfl rfl ?_ ?_
    rotate_left
    · intro wS hSw; obtain ⟨hcS, hfS⟩ := bcell hSw; go_simp; (try with_reducible rfl)
    (try simp only [Act.put, pu1, pu2, pu3])
    refine tkI 2 19 (v := ?_) rfl rfl ?_ ?_
    rotate_left
    · intro wS hSw; obtain ⟨hcS, hfS⟩ := bcell hSw; go_simp; (try with_reducible rfl)
    (try simp only [Act.put, pu1, pu2, pu3])
    refine tkI 3 20 (v := ?_) rfl rfl ?_ ?_
    rotate_left
    · intro wS hSw; obtain ⟨hcS, hfS⟩ := bcell hSw; go_simp; (try with_reducible rfl)
    (try simp only [Act.put, pu1, pu2, pu3])
    refine tkI 4 21 (v := ?_) rfl rfl ?_ ?_
    rotate_left
    · intro wS hSw; obtain ⟨hcS, hfS⟩ := bcell hSw; go_simp; (try with_reducible rfl)
    (try simp only [Act.put, pu1, pu2, pu3])
    refine tkI 5 22 (v := ?_) rfl rfl ?_ ?_
    rotate_left
    · intro wS hSw; obtain ⟨hcS, hfS⟩ := bcell hSw; go_simp; (try with_reducible rfl)
    (try simp only [Act.put, pu1, pu2, pu3])
    refine tkI 6 23 (v := ?_) rfl rfl ?_ ?_
    rotate_left
    · intro wS hSw; obtain ⟨hcS, hfS⟩ := bcell hSw; go_simp; (try with_reducible rfl)
    (try simp only [Act.put, pu1, pu2, pu3])
    refine tkI 7 24 (v := ?_) rfl rfl ?_ ?_
    rotate_left
    · intro wS hSw; obtain ⟨hcS, hfS⟩ := bcell hSw; go_simp; (try with_reducible rfl)
    (try simp only [Act.put, pu1, pu2, pu3])
    refine tkI 8 25 (v := ?_) rfl rfl ?_ ?_
    rotate_left
    · intro wS hSw; obtain ⟨hcS, hfS⟩ := bcell hSw; go_simp; (try with_reducible rfl)
    (try simp only [Act.put, pu1, pu2, pu3])
    refine wpAnyH_done (by kernel_rfl) ?_ _
    have hbd := Lib.hid (Below.and hb.out (Below.refl wr.heap.size wr).drew)
    go_wp2
    go_roundw
    case rel => exact ⟨k + 1, by omega, by go_num, hbd.out⟩
    case measure => (simp [intOf]; try omega)
  · have i1 : ¬ (k : Int) < (l.length : Int) := by omega
    go_wp2
    go_ret
    exact ⟨rfl, hb.out⟩

set_option maxRecDepth 100000 in
set_option maxHeartbeats 4000000 in
theorem wpGame_rd {w : World} {hi hi' : Nat} {A B C A' B' C' : Option Addr} {a b c a' b' c' : Nat} {E : List Fig} {F L : List Int} (h : RdG w hi A B C E F L) (h' : RdG w hi' A' B' C' E F L) (hE : E.length ≤ 1048576) (hF : F.length ≤ 1048576) (hL : L.length ≤ 1048576) :
 Calls Try.prog 8 #[gameV A E.length a B F.length b C L.length c, gameV A' E.length a' B' F.length b' C' L.length c'] w fun e w' => e = .returned (.bool true) ∧ Below w.heap.size w w' := by
 have BW : Hid (Below w.heap.size w ((w.alloc (.cells #[.slice A E.length a, .slice B F.length b, .slice C L.length c] 28)).alloc (.cells #[.slice A' E.length a', .slice B' F.length b', .slice C' L.length c'] 28))) := below_alloc2 w _ _
 have K0 : Hid (Three ((w.alloc (.cells #[.slice A E.length a, .slice B F.length b, .slice C L.length c] 28)).alloc (.cells #[.slice A' E.length a', .slice B' F.length b', .slice C' L.length c'] 28)) w.heap.size 28 (.slice A E.length a) (.slice B F.length b) (.slice C L.length c)) := (Three.new w).alloc _
 have K1 : Hid (Three ((w.alloc (.cells #[.slice A E.length a, .slice B F.length b, .slice C L.length c] 28)).alloc (.cells #[.slice A' E.length a', .slice B' F.length b', .slice C' L.length c'] 28)) (w.heap.size + 1) 28 (.slice A' E.length a') (.slice B' F.length b') (.slice C' L.length c')) := by have := Three.new (t := 28) (u0 := .slice A' E.length a') (u1 := .slice B' F.length b') (u2 := .slice C' L.length c') (w.alloc (.cells #[.slice A E.length a, .slice B F.length b, .slice C L.length c] 28)); simpa [Hid] using this
 have H := Lib.hid h
 have H' := Lib.hid h'
 have nn : ((E.length : Int) != (E.length : Int)) = false := by simp
 clear h h'
 unfold gameV
 go_enter Try.func8, Try.ntmps8
 go_wp2
 go_loopw [5] (fun v wr => ∃ k : Nat, k ≤ E.length ∧ v = .int .i64 (k : Int) ∧ Hid (Three wr w.heap.size 28 (.slice A E.length a) (.slice B F.length b) (.slice C L.length c)) ∧ Hid (Three wr (w.heap.size + 1) 28 (.slice A' E.length a') (.slice B' F.length b') (.slice C' L.length c')) ∧ Hid (Below w.heap.size w wr)) (fun v _ => E.length - (intOf v).toNat)
 case atStart => exact ⟨0, Nat.zero_le _, rfl, K0, K1, BW⟩
 case round =>
  clear K0 K1 BW
  obtain ⟨k, hk, rfl, K0, K1, hb⟩ := hrel
  obtain ⟨p0, p1, p2⟩ := K0.out.cells
  obtain ⟨q0, q1, q2⟩ := K1.out.cells
  have l0 := K0.out.lt
  have l1 := K1.out.lt
  by_cases hlt : k < E.length
  · obtain ⟨g, rfl, xa0, xa1, xa2, xa3, xa4⟩ := (RdF.below H.out.e hb.out) k hlt
    obtain ⟨g', rfl, xb0, xb1, xb2, xb3, xb4⟩ := (RdF.below H'.out.e hb.out) k hlt
    generalize E[k] = f at xa0 xa1 xa2 xa3 xa4 xb0 xb1 xb2 xb3 xb4
    have i0 : (0 : Int) ≤ (k : Int) := by omega
    have i1 : (k : Int) < (E.length : Int) := by omega
    have la : g < wr.heap.size := World.block_lt_of_cell? wr _ xa0
    have lb : g' < wr.heap.size := World.block_lt_of_cell? wr _ xb0
    have hq : ∀ W, (binOp .neq 59 (.agg #[.int .i64 f.c, .int .i64 f.x, .int .i64 f.y, .int .i64 f.l, .int .i64 f.g]) (.agg #[.int .i64 f.c, .int .i64 f.x, .int .i64 f.y, .int .i64 f.l, .int .i64 f.g])).run Try.prog W = .ok (.bool false) W := fun W => neqEnt f W
    go_wp2_with (fail)
    refine wp_region_held_drew (S := fun WS => Below wr.heap.size wr WS) (by kernel_rfl) ((Below.refl _ _).drew) (fun hS0 => ?_)
    refine tkI 0 20 (v := ?_) rfl rfl ?_ ?_
    rotate_left
    · intro wS hSw; obtain ⟨hcS, hfS⟩ := bcell hSw; go_simp; (try with_reducible rfl)
    (try simp only [Act.put, pu1, pu2, pu3])
    refine tkI 1 21 (v := ?_) rfl rfl ?_ ?_
    rotate_left
    · intro wS hSw; obtain ⟨hcS, hfS⟩ := bcell hSw; go_simp; (try with_reducible rfl)
    (try simp only [Act.put, pu1, pu2, pu3])
    refine tkI 2 22 (v := ?_) rfl rfl ?_ ?_
    rotate_left
    · intro wS hSw; obtain ⟨hcS, hfS⟩ := bcell hSw; go_simp; (try with_reducible rfl)
    (try simp only [Act.put, pu1, pu2, pu3])
    refine tkI 3 23 (v := ?_) rfl rfl ?_ ?_
    rotate_left
    · intro wS hSw; obtain ⟨hcS, hfS⟩ := bcell hSw; go_simp; (try with_reducible rfl)
    (try simp only [Act.put, pu1, pu2, pu3])
    refine tkI 4 24 (v := ?_) rfl rfl ?_ ?_
    rotate_left
    · intro wS hSw; obtain ⟨hcS, hfS⟩ := bcell hSw; go_simp; (try with_reducible rfl)
    (try simp only [Act.put, pu1, pu2, pu3])
    refine tkI 5 25 (v := ?_) rfl rfl ?_ ?_
    rotate_left
    · intro wS hSw; obtain ⟨hcS, hfS⟩ := bcell hSw; go_simp; (try with_reducible rfl)
    (try simp only [Act.put, pu1, pu2, pu3])
    refine tkI 6 26 (v := ?_) rfl rfl ?_ ?_
    rotate_left
    · intro wS hSw; obtain ⟨hcS, hfS⟩ := bcell hSw; go_simp; (try with_reducible rfl)
    (try simp only [Act.put, pu1, pu2, pu3])
    refine tkI 7 27 (v := ?_) rfl rfl ?_ ?_
    rotate_left
    · intro wS hSw; obtain ⟨hcS, hfS⟩ := bcell hSw; go_simp; (try with_reducible rfl)
    (try simp only [Act.put, pu1, pu2, pu3])
    refine tkI 8 28 (v := ?_) rfl rfl ?_ ?_
    rotate_left
    · intro wS hSw; obtain ⟨hcS, hfS⟩ := bcell hSw; go_simp; (try with_reducible rfl)
    (try simp only [Act.put, pu1, pu2, pu3])
    refine tkI 9 29 (v := ?_) rfl rfl ?_ ?_
    rotate_left
    · intro wS hSw; obtain ⟨hcS, hfS⟩ := bcell hSw; go_simp; (try with_reducible rfl)
    (try simp only [Act.put, pu1, pu2, pu3])
    refine tkI 10 30 (v := ?_) rfl rfl ?_ ?_
    rotate_left
    · intro wS hSw; obtain ⟨hcS, hfS⟩ := bcell hSw; go_simp; (try with_reducible rfl)
    (try simp only [Act.put, pu1, pu2, pu3])
    refine wpAnyH_done (by kernel_rfl) ?_ _
    have hd := (Below.refl wr.heap.size wr).drew
    have K0d := Lib.hid K0.out.drew
    have K1d := Lib.hid K1.out.drew
    have hbd := Lib.hid (Below.and hb.out hd)
    go_wp2
    go_roundw
    case rel => exact ⟨k + 1, by omega, by go_num, K0d.out, K1d.out, hbd.out⟩
    case measure => (simp [intOf]; try omega)
  · have i1 : ¬ (k : Int) < (E.length : Int) := by omega
    go_wp2_with (fail)
    refine (wpInts_rd B B' b b' F (RdI.below H.out.f hb.out) (RdI.below H'.out.f hb.out) hF).mono ?_
    rintro e w1 ⟨rfl, h1⟩
    have K0a := Lib.hid (Three.below K0.out h1 K0.out.lt)
    have K1a := Lib.hid (Three.below K1.out h1 K1.out.lt)
    have hbd := Lib.hid (Below.and hb.out h1)
    clear p0 p1 p2 q0 q1 q2 h1
    obtain ⟨p0, p1, p2⟩ := K0a.out.cells
    obtain ⟨q0, q1, q2⟩ := K1a.out.cells
    go_wp2_with (fail)
    refine (wpInts_rd C C' c c' L (RdI.below H.out.l hbd.out) (RdI.below H'.out.l hbd.out) hL).mono ?_
    rintro e w2 ⟨rfl, h2⟩
    have hbe := Lib.hid (Below.and hbd.out h2)
    clear h2
    go_wp2
    go_ret
    exact ⟨rfl, hbe.out⟩

end Go.Proofs.Ytagjkngiijmokaa

/- Requests drawn for a fold. -/
namespace Go.Proofs.Ytagjkngiijmokaa
open Go.ChangeShapes Go.WideShapes Go.ChangeAt Go.RowKit
set_option linter.unusedVariables false
set_option linter.unusedSimpArgs false

set_option maxRecDepth 100000 in
set_option maxHeartbeats 4000000 in
theorem drawGameFold {w : World} {A : Option Addr} {n c : Nat} (hn : n ≤ 1048576) (hc : n ≤ c) (hb : InB w A n) :
 Calls Try.prog 6 #[.slice A n c] w fun e w' => ∃ (B : Option Addr) (d : Nat) (l : List Rq), e = .returned (.slice B l.length d) ∧ l.length ≤ 41 ∧ w'.ownsRow w.heap.size 35 5 (.slice B l.length d) l.length (l.flatMap Rq.cells) ∧ Below w.heap.size w w' := by
 obtain ⟨I, hi, hz0, hz1, hz2⟩ := info_parts infoReq
 have I1 := Lib.hid hi
 have I2 := Lib.hid hz0
 have I3 := Lib.hid hz1
 have I4 := Lib.hid hz2
 clear hi hz0 hz1 hz2
 go_enter Try.func6, Try.ntmps6
 go_wp2_with (fail)
 refine (l20Open hn hc hb).mono ?_
 rintro e w1 ⟨m, rfl, hr, h1⟩
 have RD := Lib.hid hr
 have BA := Lib.hid h1
 have hR : w.heap.size < w1.heap.size := hr.lt
 clear hr h1 hb
 go_wp2_with (fail)
 refine (l20Reqs RD.out (by omega) 40 (by omega)).mono ?_
 rintro e w2 ⟨B, d, l, rfl, hl, _, ho, q, q0, q1, hr, hg⟩
 have OO := Lib.hid (own_base ho (Nat.le_of_lt hR))
 have OH := Lib.hid ho
 have BB := Lib.hid (BA.out.trans (Below.of_grown hg (Nat.le_of_lt hR) (fun k hk => by injection hk with hk; omega)))
 have RD := Lib.hid hr
 have hs2 : w1.heap.size ≤ w2.heap.size := hg.size
 clear ho hr hg BA
 go_wp2_with (fail)
 refine (pickR 10 RD.out (by omega) (by omega) (by omega)).mono ?_
 rintro e w3 ⟨v, v0, v1, rfl, qb, qb0, qb1, hr, hg⟩
 have hne : (Value.slice B l.length d).ownBlock ≠ some w.heap.size := fun e => by have := (own_block_ge OH.out _ e).1; omega
 have OO := Lib.hid (OO.out.kept hg (.inr hne))
 have BB := Lib.hid (BB.out.trans (Below.of_grown hg (by omega) (fun k hk => by injection hk with hk; omega)))
 have RD := Lib.hid hr
 have hs3 : w2.heap.size ≤ w3.heap.size := hg.size
 clear hr hg OH
 by_cases hv : v = 0
 · subst hv
   go_wp2_with (fail)
   refine (l20AnyReq RD.out (by omega)).mono ?_
   rintro e w4 ⟨rc, rn, ro, rx, ry, rfl, qc, qc0, qc1, hr, hg⟩
   have OO := Lib.hid ((OO.out.kept hg (.inr hne)).alloc (.cells #[.int .i64 rc, .int .i64 rn, .int .i64 ro, .int .i64 rx, .int .i64 ry] 35))
   have hs4 : w3.heap.size ≤ w4.heap.size := hg.size
   have BB := Lib.hid ((BB.out.trans (Below.of_grown hg (by omega) (fun k hk => by injection hk with hk; omega))).alloc (by omega) (.cells #[.int .i64 rc, .int .i64 rn, .int .i64 ro, .int .i64 rx, .int .i64 ry] 35))
   have HRd := Lib.hid (rq_one w4 35 ⟨rc, rn, ro, rx, ry⟩)
   clear hr hg RD hne
   go_wp2_with (at_builtin; go_loud (refine list_app (f := Rq.cells) (fun _ => rfl) rfl _ _ 23 rfl w.heap.size 35 I (.agg #[.int .i64 0, .int .i64 0, .int .i64 0, .int .i64 0, .int .i64 0]) 40 Try.underlying23 I1.out I2.out I3.out I4.out rfl (by decide) _ l.length (l.flatMap Rq.cells) rfl OO.out _ _ 1 [⟨rc, rn, ro, rx, ry⟩] rfl rfl HRd.out (fun h => by cases h) (reqs_one _) (by unfold maxLen; omega) (by omega) (by simp; omega) ?_))
   intro v1 w5 ho1 hg1 hp1
   obtain ⟨B1, d1, rfl, _⟩ := own_form ho1
   have OO1 : Hid (w5.ownsRow w.heap.size 35 5 (.slice B1 (l ++ [(⟨rc, rn, ro, rx, ry⟩ : Rq)]).length d1) (l ++ [(⟨rc, rn, ro, rx, ry⟩ : Rq)]).length ((l ++ [(⟨rc, rn, ro, rx, ry⟩ : Rq)]).flatMap Rq.cells)) := by
    show w5.ownsRow _ _ _ _ _ _
    rw [List.flatMap_append, List.length_append]
    exact ho1
   have BB := Lib.hid (BB.out.trans (Below.of_grown hg1 (by simp; omega) (fun x hx => (own_block_ge OO.out x hx).1)))
   have HLE : (l ++ [(⟨rc, rn, ro, rx, ry⟩ : Rq)]).length = l.length + 1 := by simp
   clear ho1 hg1 hp1 HRd OO
   go_wp2
   go_ret
   exact ⟨B1, d1, l ++ [⟨rc, rn, ro, rx, ry⟩], by simp, by simp; omega, OO1.out, BB.out⟩
 · have hv' : (v == 0) = false := by simpa using hv
   clear hv hne
   go_wp2
   go_ret
   exact ⟨B, d, l, rfl, by omega, OO.out, BB.out⟩

end Go.Proofs.Ytagjkngiijmokaa

/- Requests are done one by one: the law. -/
namespace Go.Proofs.Ytagjkngiijmokaa
open Go.ChangeShapes Go.WideShapes Go.ChangeAt Go.RowKit
set_option linter.unusedVariables false
set_option linter.unusedSimpArgs false

theorem own_box {w : World} {lo p : Nat} {e t : TypeId} {size n : Nat} {v : Value} {xs : List Value} {u0 u1 u2 : Value} (h : w.ownsRow lo e size v n xs) (hT : Three w p t u0 u1 u2) (hne : e ≠ t) (o : Nat) (u : Value) : (w.setCell ⟨p, o, none⟩ u).ownsRow lo e size v n xs :=
 own_same h (fun k hk => heap_setCell_other w ⟨p, o, none⟩ k _ (by
  intro e
  subst e
  exact own_type h hT hne hk))
theorem foldR_gok {P : List Rq} (h : gokB (foldR P).1 (foldR P).2.1 (foldR P).2.2 = true) : (∀ r ∈ P, okB r = true) ∧ P.length ≤ 60 := by
 unfold foldR at h
 split at h
 · rename_i hc
   exact ⟨List.all_eq_true.1 hc.1, hc.2⟩
 · exact absurd h (by decide)
theorem foldR_len5 (P : List Rq) : (foldR P).1.length ≤ 1048576 ∧ (foldR P).2.1.length ≤ 1048576 ∧ (foldR P).2.2.length ≤ 1048576 := by
 unfold foldR
 split
 · rename_i h
   have this : OkG (foldG P).1 (foldG P).2.1 (foldG P).2.2 := okG_of (foldG_ok P g0 g0_ok (List.all_eq_true.1 h.1))
   exact ⟨by have := this.e.len; omega, by have := this.f; omega, by have := this.l; omega⟩
 · simp

set_option maxRecDepth 100000 in
set_option maxHeartbeats 8000000 in
theorem lawGameFold {w : World} {A B : Option Addr} {n c m d : Nat} (hm : n ≤ maxLen) (hm' : m ≤ maxLen) (hc : n ≤ c) (hd : m ≤ d) (hb : InB w A n) :
 Calls Try.prog 3 #[.slice A n c, .slice B m d] w fun e w' => e = .returned (.bool true) ∧ Below w.heap.size w w' := by
 have HB := Lib.hid hb
 unfold maxLen at hm hm'
 clear hb
 by_cases hn : ¬ n ≤ 1048576
 · have e1 : decide ((1048576 : Int) < (n : Int)) = true := by simp; omega
   go_enter Try.func3, Try.ntmps3
   go_wp2
   go_ret
   exact ⟨rfl, Below.refl _ _⟩
 have hn : n ≤ 1048576 := by omega
 have e1 : decide ((1048576 : Int) < (n : Int)) = false := by simp; omega
 by_cases hm2 : ¬ m ≤ 1048576
 · have e2 : decide ((1048576 : Int) < (m : Int)) = true := by simp; omega
   go_enter Try.func3, Try.ntmps3
   go_wp2
   go_ret
   exact ⟨rfl, Below.refl _ _⟩
 have hm2 : m ≤ 1048576 := by omega
 have e2 : decide ((1048576 : Int) < (m : Int)) = false := by simp; omega
 go_enter Try.func3, Try.ntmps3
 go_wp2_with (fail)
 refine (drawGameFold hn hc HB.out).mono ?_
 rintro e w1 ⟨C, k1, l, rfl, hl, ho, h1⟩
 have Z := Lib.hid h1
 have OO := Lib.hid ho
 have HCP := Lib.hid (own_cap ho).1
 obtain ⟨X, hX⟩ : ∃ X, X = foldR l := ⟨_, rfl⟩
 have hlen := foldR_len5 l
 rw [← hX] at hlen
 have HX := Lib.hid hX
 have HLN := Lib.hid hlen
 clear h1 ho hX hlen HB
 go_wp2_with (fail)
 have hf := implGameFold C k1 l w1 (by omega) HCP.out (Rd.of_own (f := Rq.cells) (k := 5) (fun _ => rfl) OO.out rfl)
 rw [← HX.out] at hf
 refine hf.mono ?_
 clear hf
 rintro e w2 ⟨A3, a3, B3, b3, C3, c3, rfl, g3, hb⟩
 have hba : Below w2.heap.size w2 (w2.alloc (.cells #[.slice A3 X.1.length a3, .slice B3 X.2.1.length b3, .slice C3 X.2.2.length c3] 28)) := (Below.refl _ _).alloc (Nat.le_refl _) _
 have T6 := Lib.hid (Three.new (u0 := .slice A3 X.1.length a3) (u1 := .slice B3 X.2.1.length b3) (u2 := .slice C3 X.2.2.length c3) (t := 28) w2)
 have G6 := Lib.hid (g3.below hba)
 have OO := Lib.hid (own_below (own_below OO.out hb) hba)
 have Z := Lib.hid (Below.and (Below.and Z.out hb) hba)
 clear hb hba g3
 unfold gameV
 go_upto_region 5 with (fail)
 obtain ⟨p6, hp6⟩ : ∃ Y, Y = w2.heap.size := ⟨_, rfl⟩
 obtain ⟨wE, hwE⟩ : ∃ Y, Y = w2.alloc (.cells #[.slice A3 X.1.length a3, .slice B3 X.2.1.length b3, .slice C3 X.2.2.length c3] 28) := ⟨_, rfl⟩
 rw [← hwE] at T6 G6 OO Z ⊢
 rw [← hp6] at T6 ⊢
 clear hwE hp6
 obtain ⟨bb, hbb⟩ : ∃ bb, bb = gokB X.1 X.2.1 X.2.2 := ⟨_, rfl⟩
 have HBB := Lib.hid hbb
 clear hbb
 go_cut [31] from 10 (fun s31 wc => s31 = .bool (!bb) ∧ Hid (Below wE.heap.size wE wc))
 case first =>
  obtain ⟨p0, p1, p2⟩ := T6.out.cells
  have lx := T6.out.lt
  refine wp_region_held_drew (S := fun WS => Below wE.heap.size wE WS) (by kernel_rfl) ((Below.refl _ _).drew) (fun hS0 => ?_)
  refine tkI 0 22 (v := ?_) rfl rfl ?_ ?_
  rotate_left
  · intro w1 hSw; obtain ⟨hcS, hfS⟩ := bcell hSw; go_simp; (try with_reducible rfl)
  (try simp only [Act.put, pu1, pu2, pu3])
  refine tkI 1 23 (v := ?_) rfl rfl ?_ ?_
  rotate_left
  · intro w1 hSw; obtain ⟨hcS, hfS⟩ := bcell hSw; go_simp; (try with_reducible rfl)
  (try simp only [Act.put, pu1, pu2, pu3])
  have hd0 : Hid (Below wE.heap.size wE wE.drew) := (Below.refl _ _).drew
  refine wpAnyH_ready (rs := [2]) (by kernel_rfl) (by simp) ?_
  refine AllReadyH.cons rfl (fun KK hK => ?_) AllReadyH.nil
  go_simp
  have hs := specGameFold C k1 l wE.drew (by omega) HCP.out (Rd.of_own (f := Rq.cells) (k := 5) (fun _ => rfl) (own_below OO.out hd0.out) rfl)
  rw [← HX.out] at hs
  refine hs.mono ?_
  clear hs
  rintro e wx ⟨A4, a4, B4, b4, C4, c4, rfl, g4, hx⟩
  have HXa := Lib.hid (Below.and hd0.out hx)
  have G4 := Lib.hid g4.rd
  clear hx g4
  refine hK.out _ _ HXa.out (fun hS1 => ?_)
  clear hK KK
  (try simp only [Act.put, pu1, pu2, pu3])
  refine wpAnyH_ready (rs := [3]) (by kernel_rfl) (by simp) ?_
  refine AllReadyH.cons rfl (fun KK hK => ?_) AllReadyH.nil
  go_simp
  have G6a := Lib.hid (G6.out.below HXa.out).gmR.rd
  refine (wpGame_rd G6a.out G4.out HLN.out.1 HLN.out.2.1 HLN.out.2.2).mono ?_
  rintro e wy ⟨rfl, hy⟩
  have HY := Lib.hid (Below.and HXa.out hy)
  have G6b := Lib.hid (G6a.out.below hy)
  clear hy G4 G6a
  refine hK.out _ _ HY.out (fun hS2 => ?_)
  clear hK KK
  (try simp only [Act.put, pu1, pu2, pu3])
  refine tkI 4 26 (v := ?_) rfl rfl ?_ ?_
  rotate_left
  · intro w1 hSw; obtain ⟨hcS, hfS⟩ := bcell hSw; go_simp; (try with_reducible rfl)
  (try simp only [Act.put, pu1, pu2, pu3])
  refine tkI 5 27 (v := ?_) rfl rfl ?_ ?_
  rotate_left
  · intro w1 hSw; obtain ⟨hcS, hfS⟩ := bcell hSw; go_simp; (try with_reducible rfl)
  (try simp only [Act.put, pu1, pu2, pu3])
  refine tkI 6 28 (v := ?_) rfl rfl ?_ ?_
  rotate_left
  · intro w1 hSw; obtain ⟨hcS, hfS⟩ := bcell hSw; go_simp; (try with_reducible rfl)
  (try simp only [Act.put, pu1, pu2, pu3])
  refine wpAnyH_ready (rs := [7]) (by kernel_rfl) (by simp) ?_
  refine AllReadyH.cons rfl (fun KK hK => ?_) AllReadyH.nil
  go_simp
  refine (gameOk A3 a3 B3 b3 C3 c3 X.1 X.2.1 X.2.2 _ HLN.out.1 HLN.out.2.1 HLN.out.2.2 G6b.out.e G6b.out.f G6b.out.l).mono ?_
  rintro e wz ⟨rfl, hz⟩
  rw [← HBB.out]
  have HZ := Lib.hid (Below.and HY.out hz)
  refine hK.out _ _ HZ.out (fun hS9 => ?_)
  clear hK KK
  (try simp only [Act.put, pu1, pu2, pu3])
  refine tkI 8 30 (v := ?_) rfl rfl ?_ ?_
  rotate_left
  · intro w1 hSw; obtain ⟨hcS, hfS⟩ := bcell hSw; go_simp; (try with_reducible rfl)
  (try simp only [Act.put, pu1, pu2, pu3])
  refine tkI 9 31 (v := ?_) rfl rfl ?_ ?_
  rotate_left
  · intro w1 hSw; obtain ⟨hcS, hfS⟩ := bcell hSw; go_simp; (try with_reducible rfl)
  (try simp only [Act.put, pu1, pu2, pu3])
  refine wpAnyH_done (by kernel_rfl) ?_ _
  go_wp2_with (fail)
  go_meet
  case rel => exact ⟨rfl, HZ.out⟩
 case rest =>
  obtain ⟨rfl, HB5⟩ := hcut
  have T6 := Lib.hid (Three.below T6.out HB5.out T6.out.lt)
  have G6 := Lib.hid (G6.out.below HB5.out)
  have OO := Lib.hid (own_below OO.out HB5.out)
  have Z := Lib.hid (Below.and Z.out HB5.out)
  clear HB5
  rcases bb with _ | _
  · go_wp2_with (fail)
    obtain ⟨p0, p1, p2⟩ := T6.out.cells
    have lx := T6.out.lt
    refine wp_region_held_drew (S := fun WS => Below wc.heap.size wc WS) (by kernel_rfl) ((Below.refl _ _).drew) (fun hS0 => ?_)
    refine tkI 0 32 (v := ?_) rfl rfl ?_ ?_
    rotate_left
    · intro w1 hSw; obtain ⟨hcS, hfS⟩ := bcell hSw; go_simp; (try with_reducible rfl)
    (try simp only [Act.put, pu1, pu2, pu3])
    refine tkI 1 33 (v := ?_) rfl rfl ?_ ?_
    rotate_left
    · intro w1 hSw; obtain ⟨hcS, hfS⟩ := bcell hSw; go_simp; (try with_reducible rfl)
    (try simp only [Act.put, pu1, pu2, pu3])
    have hd0 : Hid (Below wc.heap.size wc wc.drew) := (Below.refl _ _).drew
    refine wpAnyH_ready (rs := [2]) (by kernel_rfl) (by simp) ?_
    refine AllReadyH.cons rfl (fun KK hK => ?_) AllReadyH.nil
    go_simp
    have hs := specGameFold C k1 l wc.drew (by omega) HCP.out (Rd.of_own (f := Rq.cells) (k := 5) (fun _ => rfl) (own_below OO.out hd0.out) rfl)
    rw [← HX.out] at hs
    refine hs.mono ?_
    clear hs
    rintro e wx ⟨A4, a4, B4, b4, C4, c4, rfl, g4, hx⟩
    have HXa := Lib.hid (Below.and hd0.out hx)
    have G4 := Lib.hid g4.rd
    clear hx g4
    refine hK.out _ _ HXa.out (fun hS1 => ?_)
    clear hK KK
    (try simp only [Act.put, pu1, pu2, pu3])
    refine wpAnyH_ready (rs := [3]) (by kernel_rfl) (by simp) ?_
    refine AllReadyH.cons rfl (fun KK hK => ?_) AllReadyH.nil
    go_simp
    have G6a := Lib.hid (G6.out.below HXa.out).gmR.rd
    refine (wpGame_rd G6a.out G4.out HLN.out.1 HLN.out.2.1 HLN.out.2.2).mono ?_
    rintro e wy ⟨rfl, hy⟩
    have HY := Lib.hid (Below.and HXa.out hy)
    have G6b := Lib.hid (G6a.out.below hy)
    clear hy G4 G6a
    refine hK.out _ _ HY.out (fun hS2 => ?_)
    clear hK KK
    (try simp only [Act.put, pu1, pu2, pu3])
    refine tkI 4 4 (v := ?_) rfl rfl ?_ ?_
    rotate_left
    · intro w1 hSw; obtain ⟨hcS, hfS⟩ := bcell hSw; go_simp; (try with_reducible rfl)
    (try simp only [Act.put, pu1, pu2, pu3])
    refine wpAnyH_done (by kernel_rfl) ?_ _
    have Z := Lib.hid (Below.and Z.out HY.out)
    clear p0 p1 p2
    go_wp2
    go_light
    go_ret
    exact ⟨rfl, Z.out⟩
  · obtain ⟨hok, hl60⟩ := foldR_gok (P := l) (by rw [← HX.out, ← HBB.out])
    have HOK := Lib.hid hok
    have HXG := Lib.hid (show X = foldG l by rw [HX.out]; exact foldR_good hok hl60)
    clear hok
    have wl : IntKind.i64.wrap ((l.length : Int) + 1) = (l.length : Int) + 1 := IntWalk.i64_in _ (by omega)
    have nz : ¬ ((l.length : Int) + 1 = 0) := by omega
    have nz2 : (((l.length : Int) + 1) == 0) = false := by simp; omega
    go_upto_region 8 with (fail)
    obtain ⟨k, hk⟩ : ∃ k : Nat, (m : Int) % ((l.length : Int) + 1) = (k : Int) := ⟨((m : Int) % ((l.length : Int) + 1)).toNat, by have := Int.emod_nonneg (m : Int) nz; omega⟩
    have hkl : k ≤ l.length := by have := Int.emod_lt_of_pos (m : Int) (show (0 : Int) < (l.length : Int) + 1 by omega); omega
    rw [hk]
    clear hk wl nz nz2
    have hcp := HCP.out
    have j0 : (0 : Int) ≤ (k : Int) := by omega
    have j1 : (k : Int) ≤ (k1 : Int) := by omega
    have j2 : k ≤ k1 := by omega
    go_wp2_with (fail)
    have hlk : (l.take k).length = k := by rw [List.length_take]; omega
    have hf := implGameFold C k1 (l.take k) wc (by omega) (by omega) ((Rd.of_own (f := Rq.cells) (k := 5) (fun _ => rfl) OO.out rfl).take k)
    rw [hlk, foldR_good (fun r hr => HOK.out r (List.mem_of_mem_take hr)) (by omega)] at hf
    refine hf.mono ?_
    clear hf hlk
    rintro e wd ⟨A5, a5, B5, b5, C5, c5, rfl, g5, hb⟩
    obtain ⟨Y0, hY0⟩ : ∃ Y, Y = foldG (l.take k) := ⟨_, rfl⟩
    rw [← hY0] at g5
    have HY0 := Lib.hid hY0
    have hba : Below wd.heap.size wd (wd.alloc (.cells #[.slice A5 Y0.1.length a5, .slice B5 Y0.2.1.length b5, .slice C5 Y0.2.2.length c5] 28)) := (Below.refl _ _).alloc (Nat.le_refl _) _
    have T8 := Lib.hid (Three.new (u0 := .slice A5 Y0.1.length a5) (u1 := .slice B5 Y0.2.1.length b5) (u2 := .slice C5 Y0.2.2.length c5) (t := 28) wd)
    have G8 := Lib.hid ((g5.below hba).gmR)
    have N8 := Lib.hid (show p6 < wd.heap.size by have := T6.out.lt; have := hb.size; omega)
    have N9 := Lib.hid (show w.heap.size ≤ wd.heap.size by have := Z.out.size; have := hb.size; omega)
    have T6 := Lib.hid (Three.below (Three.below T6.out hb T6.out.lt) hba (Three.below T6.out hb T6.out.lt).lt)
    have G6 := Lib.hid ((G6.out.below hb).below hba)
    have OO := Lib.hid (own_below (own_below OO.out hb) hba)
    have Z := Lib.hid (Below.and (Below.and Z.out hb) hba)
    clear hb hba g5
    rw [← hY0]
    clear hY0
    unfold gameV
    go_upto_region 9 with (fail)
    obtain ⟨p8, hp8⟩ : ∃ Y, Y = wd.heap.size := ⟨_, rfl⟩
    obtain ⟨wF, hwF⟩ : ∃ Y, Y = wd.alloc (.cells #[.slice A5 Y0.1.length a5, .slice B5 Y0.2.1.length b5, .slice C5 Y0.2.2.length c5] 28) := ⟨_, rfl⟩
    rw [← hwF] at T6 G6 OO Z T8 G8 ⊢
    rw [← hp8] at T8 N8 N9 ⊢
    clear hwF hp8 hcp j0 j1 j2
    go_wp2
    go_loopw [9] (fun v wr => ∃ (i : Nat) (A7 : Option Addr) (a7 : Nat) (B7 : Option Addr) (b7 : Nat) (C7 : Option Addr) (c7 : Nat), i ≤ l.length ∧ v = .int .i64 (i : Int) ∧ Hid (Three wr p8 28 (.slice A7 (foldG (l.take i)).1.length a7) (.slice B7 (foldG (l.take i)).2.1.length b7) (.slice C7 (foldG (l.take i)).2.2.length c7)) ∧ Hid (GmR wr A7 a7 B7 b7 C7 c7 (foldG (l.take i)).1 (foldG (l.take i)).2.1 (foldG (l.take i)).2.2) ∧ Hid (Three wr p6 28 (.slice A3 X.1.length a3) (.slice B3 X.2.1.length b3) (.slice C3 X.2.2.length c3)) ∧ Hid (OwG wr w1.heap.size A3 a3 B3 b3 C3 c3 X.1 X.2.1 X.2.2) ∧ Hid (wr.ownsRow w.heap.size 35 5 (.slice C l.length k1) l.length (l.flatMap Rq.cells)) ∧ Hid (Below w.heap.size w wr)) (fun v _ => l.length - (intOf v).toNat)
    case atStart => exact ⟨k, A5, a5, B5, b5, C5, c5, hkl, rfl, by rw [← HY0.out]; exact T8.out, by rw [← HY0.out]; exact G8.out, T6.out, G6.out, OO.out, Z.out⟩
    case round =>
     clear T8 G8 T6 G6 OO Z HY0
     obtain ⟨i, A7, a7, B7, b7, C7, c7, hi, rfl, T8, G8, T6, G6, OO, Z⟩ := hrel
     by_cases hlt : i < l.length
     · obtain ⟨g, o, rfl, ca⟩ := (Rd.of_own (f := Rq.cells) (k := 5) (fun _ => rfl) OO.out rfl) i hlt
       have HX1 := Lib.hid (foldG_succ hlt)
       have HKo := Lib.hid (foldG_takeok HOK.out i)
       have HKr := Lib.hid (HOK.out _ (List.getElem_mem hlt))
       generalize l[i] = x at ca HX1 HKr
       obtain ⟨X0, hX0⟩ : ∃ X, X = foldG (l.take i) := ⟨_, rfl⟩
       rw [← hX0] at T8 G8 HX1 HKo
       clear hX0
       obtain ⟨E, F, L⟩ := X0
       have hsg := stepG_good (g := (E, F, L)) HKo.out HKr.out
       obtain ⟨Y, hY⟩ : ∃ Y, Y = stepG E F L x := ⟨_, rfl⟩
       have HYF := Lib.hid (show Y.1 = foldG (l.take (i + 1)) by rw [HX1.out, hY]; exact hsg.1)
       have okf := okG_of HKo.out
       have e1 : E.length ≤ 4 := okf.e.len
       have e2 : F.length = 16 := okf.f
       have e3 : L.length = 4 := okf.l
       have HI : Hid (∀ (wx : World) (A' : Option Addr) (a' : Nat) (B' : Option Addr) (b' : Nat) (C' : Option Addr) (d' : Nat), GmR wx A' a' B' b' C' d' E F L → Calls Try.prog 11 #[gameV A' E.length a' B' F.length b' C' L.length d', .agg #[.int .i64 x.c, .int .i64 x.n, .int .i64 x.o, .int .i64 x.x, .int .i64 x.y]] wx (DoI Y wx)) :=
        fun wx A' a' B' b' C' d' hg => by have := implGameDo A' a' B' b' C' d' E F L x wx (by omega) (by omega) (by omega) hg; rw [← hY] at this; exact this
       clear hY okf e1 e2 e3 hsg HKo HKr HX1
       have xr0 : wr.cell? ⟨g, o + i * 5, none⟩ = some (.int .i64 x.c) := ca 0 _ rfl
       have xr1 : wr.cell? ⟨g, o + i * 5 + 1, none⟩ = some (.int .i64 x.n) := ca 1 _ rfl
       have xr2 : wr.cell? ⟨g, o + i * 5 + 2, none⟩ = some (.int .i64 x.o) := ca 2 _ rfl
       have xr3 : wr.cell? ⟨g, o + i * 5 + 3, none⟩ = some (.int .i64 x.x) := ca 3 _ rfl
       have xr4 : wr.cell? ⟨g, o + i * 5 + 4, none⟩ = some (.int .i64 x.y) := ca 4 _ rfl
       clear ca
       obtain ⟨p0, p1, p2⟩ := T8.out.cells
       have lx : g < wr.heap.size := World.block_lt_of_cell? wr _ xr0
       have lp := T8.out.lt
       have i0 : (0 : Int) ≤ (i : Int) := by omega
       have i1 : (i : Int) < (l.length : Int) := by omega
       go_wp2_with (fail)
       refine wp_region_held_drew (S := fun _ => True) (by kernel_rfl) trivial (fun hS0 => ?_)
       refine tkI 1 55 (v := ?_) rfl rfl ?_ ?_
       rotate_left
       · intro wS hSw; go_simp; (try with_reducible rfl)
       (try simp only [Act.put, pu1, pu2, pu3])
       refine tkI 2 56 (v := ?_) rfl rfl ?_ ?_
       rotate_left
       · intro wS hSw; go_simp; (try with_reducible rfl)
       (try simp only [Act.put, pu1, pu2, pu3])
       refine tkI 3 57 (v := ?_) rfl rfl ?_ ?_
       rotate_left
       · intro wS hSw; go_simp; (try with_reducible rfl)
       (try simp only [Act.put, pu1, pu2, pu3])
       have hd0 : Hid (Below wr.heap.size wr wr.drew) := (Below.refl _ _).drew
       refine wpAnyH_ready (rs := [0, 4]) (by kernel_rfl) (by simp) ?_
       refine AllReadyH.cons rfl (fun KK hK => ?_) (AllReadyH.cons rfl (fun KK hK => ?_) AllReadyH.nil)
       · go_simp
         refine hK.out _ _ trivial (fun _ => ?_)
         clear hK KK
         (try simp only [Act.put, pu1, pu2, pu3])
         refine wpAnyH_ready (rs := [4]) (by kernel_rfl) (by simp) ?_
         refine AllReadyH.cons rfl (fun KK hK => ?_) AllReadyH.nil
         go_simp
         refine hK.out _ _ trivial (fun _ => ?_)
         clear hK KK
         (try simp only [Act.put, pu1, pu2, pu3])
         refine wpAnyH_ready (rs := [5]) (by kernel_rfl) (by simp) ?_
         refine AllReadyH.cons rfl (fun KK hK => ?_) AllReadyH.nil
         go_simp
         refine (HI.out _ _ _ _ _ _ _ (G8.out.below hd0.out)).mono ?_
         unfold DoI
         rintro e wx ⟨A9, a9, B9, b9, C9, c9, rfl, g9, hx⟩
         unfold gameV
         have HXa := Lib.hid (Below.and hd0.out hx)
         have G9 := Lib.hid g9.gmR
         clear hx g9
         refine hK.out _ _ trivial (fun _ => ?_)
         clear hK KK
         (try simp only [Act.put, pu1, pu2, pu3])
         refine tkI 6 53 (v := ?_) rfl rfl ?_ ?_
         rotate_left
         · intro wS hSw; go_simp; (try with_reducible rfl)
         (try simp only [Act.put, pu1, pu2, pu3])
         refine tkI 7 60 (v := ?_) rfl rfl ?_ ?_
         rotate_left
         · intro wS hSw; go_simp; (try with_reducible rfl)
         (try simp only [Act.put, pu1, pu2, pu3])
         refine tkI 8 61 (v := ?_) rfl rfl ?_ ?_
         rotate_left
         · intro wS hSw; go_simp; (try with_reducible rfl)
         (try simp only [Act.put, pu1, pu2, pu3])
         have T8x := Lib.hid (Three.below T8.out HXa.out T8.out.lt)
         have T6x := Lib.hid (Three.below T6.out HXa.out T6.out.lt)
         have G6x := Lib.hid (G6.out.below HXa.out)
         have OOx := Lib.hid (own_below OO.out HXa.out)
         have Zx := Lib.hid (Below.and Z.out HXa.out)
         clear p0 p1 p2 xr0 xr1 xr2 xr3 xr4 lx lp i0 i1
         obtain ⟨z0, z1, z2⟩ := T8x.out.cells
         have zf := T8x.out.frozen
         refine wpAnyH_ready (rs := [9]) (by kernel_rfl) (by simp) ?_
         refine AllReadyH.cons rfl (fun KK hK => ?_) AllReadyH.nil
         go_simp
         refine hK.out _ _ trivial (fun _ => ?_)
         clear hK KK
         (try simp only [Act.put, pu1, pu2, pu3])
         refine wpAnyH_done (by kernel_rfl) ?_ _
         have np : p6 ≠ p8 := by have := N8.out; omega
         have T8n := Lib.hid (((T8x.out.set0 (.slice A9 Y.1.1.length a9)).set1 (.slice B9 Y.1.2.1.length b9)).set2 (.slice C9 Y.1.2.2.length c9))
         have T6n := Lib.hid (((T6x.out.far np (j := 0) (.slice A9 Y.1.1.length a9)).far np (j := 1) (.slice B9 Y.1.2.1.length b9)).far np (j := 2) (.slice C9 Y.1.2.2.length c9))
         have G6n := Lib.hid (((G6x.out.box T8x.out 0 (.slice A9 Y.1.1.length a9)).box (T8x.out.set0 _) 1 (.slice B9 Y.1.2.1.length b9)).box ((T8x.out.set0 _).set1 _) 2 (.slice C9 Y.1.2.2.length c9))
         have OOn := Lib.hid (own_box (own_box (own_box OOx.out T8x.out (by decide) 0 (.slice A9 Y.1.1.length a9)) (T8x.out.set0 _) (by decide) 1 (.slice B9 Y.1.2.1.length b9)) ((T8x.out.set0 _).set1 _) (by decide) 2 (.slice C9 Y.1.2.2.length c9))
         have Zn := Lib.hid (((Zx.out.setCell N9.out (p := ⟨p8, 0, none⟩) (.slice A9 Y.1.1.length a9)).setCell N9.out (p := ⟨p8, 1, none⟩) (.slice B9 Y.1.2.1.length b9)).setCell N9.out (p := ⟨p8, 2, none⟩) (.slice C9 Y.1.2.2.length c9))
         have G9n := Lib.hid (((G9.out.box (p := p8) T8x.out.cells.1 0 (.slice A9 Y.1.1.length a9)).box (p := p8) (T8x.out.set0 _).cells.1 1 (.slice B9 Y.1.2.1.length b9)).box (p := p8) ((T8x.out.set0 _).set1 _).cells.1 2 (.slice C9 Y.1.2.2.length c9))
         clear z0 z1 z2 zf T8x T6x G6x OOx Zx HXa G9
         go_wp2
         go_roundw
         case rel => exact ⟨i + 1, A9, a9, B9, b9, C9, c9, by omega, by go_num, by rw [← HYF.out]; exact T8n.out, by rw [← HYF.out]; exact G9n.out, T6n.out, G6n.out, OOn.out, Zn.out⟩
         case measure => (simp [intOf]; try omega)
       · go_simp
         refine hK.out _ _ trivial (fun _ => ?_)
         clear hK KK
         (try simp only [Act.put, pu1, pu2, pu3])
         refine wpAnyH_ready (rs := [0]) (by kernel_rfl) (by simp) ?_
         refine AllReadyH.cons rfl (fun KK hK => ?_) AllReadyH.nil
         go_simp
         refine hK.out _ _ trivial (fun _ => ?_)
         clear hK KK
         (try simp only [Act.put, pu1, pu2, pu3])
         refine wpAnyH_ready (rs := [5]) (by kernel_rfl) (by simp) ?_
         refine AllReadyH.cons rfl (fun KK hK => ?_) AllReadyH.nil
         go_simp
         refine (HI.out _ _ _ _ _ _ _ (G8.out.below hd0.out)).mono ?_
         unfold DoI
         rintro e wx ⟨A9, a9, B9, b9, C9, c9, rfl, g9, hx⟩
         unfold gameV
         have HXa := Lib.hid (Below.and hd0.out hx)
         have G9 := Lib.hid g9.gmR
         clear hx g9
         refine hK.out _ _ trivial (fun _ => ?_)
         clear hK KK
         (try simp only [Act.put, pu1, pu2, pu3])
         refine tkI 6 53 (v := ?_) rfl rfl ?_ ?_
         rotate_left
         · intro wS hSw; go_simp; (try with_reducible rfl)
         (try simp only [Act.put, pu1, pu2, pu3])
         refine tkI 7 60 (v := ?_) rfl rfl ?_ ?_
         rotate_left
         · intro wS hSw; go_simp; (try with_reducible rfl)
         (try simp only [Act.put, pu1, pu2, pu3])
         refine tkI 8 61 (v := ?_) rfl rfl ?_ ?_
         rotate_left
         · intro wS hSw; go_simp; (try with_reducible rfl)
         (try simp only [Act.put, pu1, pu2, pu3])
         have T8x := Lib.hid (Three.below T8.out HXa.out T8.out.lt)
         have T6x := Lib.hid (Three.below T6.out HXa.out T6.out.lt)
         have G6x := Lib.hid (G6.out.below HXa.out)
         have OOx := Lib.hid (own_below OO.out HXa.out)
         have Zx := Lib.hid (Below.and Z.out HXa.out)
         clear p0 p1 p2 xr0 xr1 xr2 xr3 xr4 lx lp i0 i1
         obtain ⟨z0, z1, z2⟩ := T8x.out.cells
         have zf := T8x.out.frozen
         refine wpAnyH_ready (rs := [9]) (by kernel_rfl) (by simp) ?_
         refine AllReadyH.cons rfl (fun KK hK => ?_) AllReadyH.nil
         go_simp
         refine hK.out _ _ trivial (fun _ => ?_)
         clear hK KK
         (try simp only [Act.put, pu1, pu2, pu3])
         refine wpAnyH_done (by kernel_rfl) ?_ _
         have np : p6 ≠ p8 := by have := N8.out; omega
         have T8n := Lib.hid (((T8x.out.set0 (.slice A9 Y.1.1.length a9)).set1 (.slice B9 Y.1.2.1.length b9)).set2 (.slice C9 Y.1.2.2.length c9))
         have T6n := Lib.hid (((T6x.out.far np (j := 0) (.slice A9 Y.1.1.length a9)).far np (j := 1) (.slice B9 Y.1.2.1.length b9)).far np (j := 2) (.slice C9 Y.1.2.2.length c9))
         have G6n := Lib.hid (((G6x.out.box T8x.out 0 (.slice A9 Y.1.1.length a9)).box (T8x.out.set0 _) 1 (.slice B9 Y.1.2.1.length b9)).box ((T8x.out.set0 _).set1 _) 2 (.slice C9 Y.1.2.2.length c9))
         have OOn := Lib.hid (own_box (own_box (own_box OOx.out T8x.out (by decide) 0 (.slice A9 Y.1.1.length a9)) (T8x.out.set0 _) (by decide) 1 (.slice B9 Y.1.2.1.length b9)) ((T8x.out.set0 _).set1 _) (by decide) 2 (.slice C9 Y.1.2.2.length c9))
         have Zn := Lib.hid (((Zx.out.setCell N9.out (p := ⟨p8, 0, none⟩) (.slice A9 Y.1.1.length a9)).setCell N9.out (p := ⟨p8, 1, none⟩) (.slice B9 Y.1.2.1.length b9)).setCell N9.out (p := ⟨p8, 2, none⟩) (.slice C9 Y.1.2.2.length c9))
         have G9n := Lib.hid (((G9.out.box (p := p8) T8x.out.cells.1 0 (.slice A9 Y.1.1.length a9)).box (p := p8) (T8x.out.set0 _).cells.1 1 (.slice B9 Y.1.2.1.length b9)).box (p := p8) ((T8x.out.set0 _).set1 _).cells.1 2 (.slice C9 Y.1.2.2.length c9))
         clear z0 z1 z2 zf T8x T6x G6x OOx Zx HXa G9
         go_wp2
         go_roundw
         case rel => exact ⟨i + 1, A9, a9, B9, b9, C9, c9, by omega, by go_num, by rw [← HYF.out]; exact T8n.out, by rw [← HYF.out]; exact G9n.out, T6n.out, G6n.out, OOn.out, Zn.out⟩
         case measure => (simp [intOf]; try omega)
     · have i1 : ¬ (i : Int) < (l.length : Int) := by omega
       obtain rfl : i = l.length := by omega
       rw [List.take_length, ← HXG.out] at T8 G8
       obtain ⟨p0, p1, p2⟩ := T8.out.cells
       obtain ⟨q0, q1, q2⟩ := T6.out.cells
       go_wp2_with (fail)
       refine (wpGame_rd G8.out.rd G6.out.gmR.rd HLN.out.1 HLN.out.2.1 HLN.out.2.2).mono ?_
       rintro e wa ⟨rfl, hb⟩
       have Z := Lib.hid (Below.and Z.out hb)
       clear hb p0 p1 p2 q0 q1 q2 T8 T6 G8 G6 OO
       go_wp2_with (fail)
       have hf := implGameFold none 0 [] wa (by simp) (by simp) (fun i h => by simp at h)
       rw [show foldR [] = g0 by rfl] at hf
       refine hf.mono ?_
       clear hf
       rintro e wb ⟨A1, a1, B1, b1, C1, c1, rfl, g1, hb⟩
       have R1 := Lib.hid g1.gmR.rd
       have Z := Lib.hid (Below.and Z.out hb)
       clear hb g1
       go_wp2_with (fail)
       refine (gameNew _).mono ?_
       unfold NewAt
       rintro e we ⟨B2, b2, C2, c2, rfl, g2, hb⟩
       have R1 := Lib.hid (R1.out.below hb)
       have R2 := Lib.hid g2.gmR.rd
       have Z := Lib.hid (Below.and Z.out hb)
       clear hb g2
       go_wp2_with (fail)
       refine (wpGame_rd (E := []) (F := floorAt 20) (L := [0, 0, 0, 0]) R1.out R2.out (by simp) (by rw [floorAt_length]; omega) (by simp)).mono ?_
       rintro e wf ⟨rfl, hb⟩
       have Z := Lib.hid (Below.and Z.out hb)
       clear hb R1 R2
       go_wp2_with (fail)
       refine (gameNew _).mono ?_
       unfold NewAt
       rintro e wg ⟨B2, b2, C2, c2, rfl, g2, hb⟩
       have R1 := Lib.hid g2.gmR.rd
       have Z := Lib.hid (Below.and Z.out hb)
       clear hb g2
       go_wp2_with (fail)
       refine (specGameNew _).mono ?_
       unfold NewAt
       rintro e wh ⟨B1, b1, C1, c1, rfl, g2, hb⟩
       have R1 := Lib.hid (R1.out.below hb)
       have R2 := Lib.hid g2.gmR.rd
       have Z := Lib.hid (Below.and Z.out hb)
       clear hb g2
       go_wp2_with (fail)
       refine (wpGame_rd (E := []) (F := floorAt 20) (L := [0, 0, 0, 0]) R1.out R2.out (by simp) (by rw [floorAt_length]; omega) (by simp)).mono ?_
       rintro e wi ⟨rfl, hb⟩
       have Z := Lib.hid (Below.and Z.out hb)
       clear hb R1 R2
       go_wp2
       go_light
       go_ret
       exact ⟨rfl, Z.out⟩

end Go.Proofs.Ytagjkngiijmokaa
