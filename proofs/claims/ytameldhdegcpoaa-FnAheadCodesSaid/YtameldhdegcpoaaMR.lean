import Derived.Test.YtameldhdegcpoaaMM
import Derived.Test.YtameldhdegcpoaaMH
import Derived.Test.YtameldhdegcpoaaMQ
import Derived.Test.YtameldhdegcpoaaMU
import Derived.Test.YtameldhdegcpoaaMC
import Derived.Deep.Cut
namespace Go.Proofs.Ytameldhdegcpoaa
open Go.ChangeShapes Go.WideShapes Go.ChangeAt Go.RowKit
set_option linter.unusedVariables false
set_option linter.unusedSimpArgs false
structure Rs (w W : World) (R : Nat) (A : Option Addr) (n c : Nat) (q : Int) (gN pX : Nat) (Nl : List Int) (B : Option Addr) (d : Nat) (l : List Rq) (xs : Array Value) : Prop where
 rd : Reader W R A n c q
 gr : w.grownBy W (some R)
 oo : W.ownsRow w.heap.size 49 5 (.slice B l.length d) l.length (l.flatMap Rq.cells)
 no : W.ownsRow w.heap.size 3 1 (.slice (some ⟨gN, 0, none⟩) 3 3) 3 (ints Nl)
 xb : W.heap[pX]? = some (.cells xs 49)
 ox : (Value.slice B l.length d).ownBlock ≠ some pX
 hx : w.heap.size ≤ pX
theorem heap_ltG {w : World} {g : Nat} {o : Obj} (h : w.heap[g]? = some o) : g < w.heap.size := by
 rcases Nat.lt_or_ge g w.heap.size with h1 | h1
 · exact h1
 · rw [Array.getElem?_eq_none h1] at h; cases h
theorem own_ge_ne {w W : World} {base R : Nat} {e : TypeId} {size m : Nat} {v : Value} {xs : List Value} (h : W.ownsRow base e size v m xs) (hR : R < base) : v.ownBlock ≠ some R := fun e => by
 have := (own_block_ge h R e).1; omega
theorem Rs.draw {w W : World} {R : Nat} {A : Option Addr} {n c : Nat} {q : Int} {gN pX : Nat} {Nl : List Int} {B : Option Addr} {d : Nat} {l : List Rq} {xs : Array Value} {W' : World} {q' : Int} (h : Rs w W R A n c q gN pX Nl B d l xs) (hR : R < w.heap.size) (hr : Reader W' R A n c q') (hg : W.grownBy W' (some R)) : Rs w W' R A n c q' gN pX Nl B d l xs :=
 ⟨hr, grownBy_trans h.gr hg, h.oo.kept hg (.inr (own_ge_ne (w := w) h.oo hR)), h.no.kept hg (.inr (own_ge_ne (w := w) h.no hR)), (hg.block pX (heap_ltG h.xb) (by have := h.hx; simp; omega)).trans h.xb, h.ox, h.hx⟩
theorem Rs.gx {w W : World} {R : Nat} {A : Option Addr} {n c : Nat} {q : Int} {gN pX : Nat} {Nl : List Int} {B : Option Addr} {d : Nat} {l : List Rq} {xs : Array Value} (h : Rs w W R A n c q gN pX Nl B d l xs) : gN ≠ pX := fun e => by
 have := own_type h.no h.xb (by decide)
 exact this (by rw [e]; rfl)
theorem Rs.num {w W : World} {R : Nat} {A : Option Addr} {n c : Nat} {q : Int} {gN pX : Nat} {Nl : List Int} {B : Option Addr} {d : Nat} {l : List Rq} {xs : Array Value} (h : Rs w W R A n c q gN pX Nl B d l xs) (hOld : ∀ b off, A = some ⟨b, off, none⟩ → 0 < n → b < w.heap.size) (hR : R < w.heap.size) (hN : Nl.length = 3) (j : Nat) (hj : j < 3) (v : Int) : Rs w (W.setCell ⟨gN, j, none⟩ (.int .i64 v)) R A n c q gN pX (Nl.set j v) B d l xs := by
 have hg0 := (own_block_ge h.no gN rfl).1
 obtain ⟨h1, h2⟩ := own_set1 j (.int .i64 v) (by simpa [hN] using hj) h.no
 have hi : (ints Nl).set j (.int .i64 v) = ints (Nl.set j v) := by unfold ints; rw [List.map_set]
 rw [hi] at h1
 refine ⟨h.rd.set w.heap.size gN j _ hOld hR hg0, grown_new h.gr (grownBy_set W gN j _) hg0, own_same h.oo (fun k hk => heap_setCell_other W ⟨gN, j, none⟩ k _ (fun e => ?_)), h1, (heap_setCell_other W ⟨gN, j, none⟩ pX _ (Ne.symm h.gx)).trans h.xb, h.ox, h.hx⟩
 exact own_row_ne h.oo h.no (by decide) k hk (by rw [e]; rfl)
theorem Rs.x {w W : World} {R : Nat} {A : Option Addr} {n c : Nat} {q : Int} {gN pX : Nat} {Nl : List Int} {B : Option Addr} {d : Nat} {l : List Rq} {xs : Array Value} (h : Rs w W R A n c q gN pX Nl B d l xs) (hOld : ∀ b off, A = some ⟨b, off, none⟩ → 0 < n → b < w.heap.size) (hR : R < w.heap.size) (j : Nat) (v : Value) : Rs w (W.setCell ⟨pX, j, none⟩ v) R A n c q gN pX Nl B d l (xs.setIfInBounds j v) :=
 ⟨h.rd.set w.heap.size pX j v hOld hR h.hx, grown_new h.gr (grownBy_set W pX j v) h.hx, own_same h.oo (fun k hk => heap_setCell_other W ⟨pX, j, none⟩ k _ (fun e => h.ox (by rw [hk]; exact congrArg some e))), own_same h.no (fun k hk => heap_setCell_other W ⟨pX, j, none⟩ k _ (fun e => by
  simp only [Value.ownBlock, Option.some.injEq] at hk
  exact h.gx (hk.trans e))), heap_setCell_same W pX j _ _ v h.xb, h.ox, h.hx⟩
theorem Rs.c5 {w W : World} {R : Nat} {A : Option Addr} {n c : Nat} {q : Int} {gN pX : Nat} {Nl : List Int} {B : Option Addr} {d : Nat} {l : List Rq} {v0 v1 v2 v3 v4 : Int} (h : Rs w W R A n c q gN pX Nl B d l #[.int .i64 v0, .int .i64 v1, .int .i64 v2, .int .i64 v3, .int .i64 v4]) :
 W.cell? ⟨pX, 0, none⟩ = some (.int .i64 v0) ∧ W.cell? ⟨pX, 1, none⟩ = some (.int .i64 v1) ∧ W.cell? ⟨pX, 2, none⟩ = some (.int .i64 v2) ∧ W.cell? ⟨pX, 3, none⟩ = some (.int .i64 v3) ∧ W.cell? ⟨pX, 4, none⟩ = some (.int .i64 v4) ∧ ∀ j, W.frozen? ⟨pX, j, none⟩ = false :=
 ⟨cell_of_row _ _ 0 _ _ (0, 0) h.xb, cell_of_row _ _ 1 _ _ (0, 0) h.xb, cell_of_row _ _ 2 _ _ (0, 0) h.xb, cell_of_row _ _ 3 _ _ (0, 0) h.xb, cell_of_row _ _ 4 _ _ (0, 0) h.xb, fun j => frozen_of_row W pX j _ _ h.xb⟩
theorem Rs.al {w W : World} {R : Nat} {A : Option Addr} {n c : Nat} {q : Int} {gN pX : Nat} {Nl : List Int} {B : Option Addr} {d : Nat} {l : List Rq} {xs : Array Value} (h : Rs w W R A n c q gN pX Nl B d l xs) (o : Obj) : Hid ((W.alloc o).ownsRow w.heap.size 49 5 (.slice B l.length d) l.length (l.flatMap Rq.cells)) ∧ Hid ((W.alloc o).ownsRow w.heap.size 3 1 (.slice (some ⟨gN, 0, none⟩) 3 3) 3 (ints Nl)) ∧ Hid (Reader (W.alloc o) R A n c q) ∧ Hid (w.grownBy (W.alloc o) (some R)) ∧ w.heap.size ≤ W.heap.size :=
 ⟨h.oo.alloc _, h.no.alloc _, h.rd.below ((Below.refl _ _).alloc (Nat.le_refl _) _), grownBy_trans h.gr (World.grownBy_alloc _ _ (some R)), h.gr.size⟩
theorem rq_one (w : World) (t : TypeId) (x : Rq) : Rd 5 Rq.cells (w.alloc (.cells #[.int .i64 x.c, .int .i64 x.n, .int .i64 x.o, .int .i64 x.x, .int .i64 x.y] t)) (some ⟨w.heap.size, 0, none⟩) [x] := by
 intro i h
 have hi : i = 0 := by simpa using h
 subst hi
 refine ⟨w.heap.size, 0, rfl, fun j u hu => ?_⟩
 have hb := cell_of_row _ _ j _ t (0, 0) (heap_alloc_new w (.cells #[.int .i64 x.c, .int .i64 x.n, .int .i64 x.o, .int .i64 x.x, .int .i64 x.y] t))
 rw [show 0 + 0 * 5 + j = j by omega, hb]
 simpa [Rq.cells] using hu
theorem reqs_one (L : List Rq) : ∀ u ∈ L.flatMap Rq.cells, u.oneCell' = true := by
 intro u hu
 simp only [List.mem_flatMap, Rq.cells] at hu
 obtain ⟨a, _, hu⟩ := hu
 simp at hu
 rcases hu with rfl | rfl | rfl | rfl | rfl <;> rfl
theorem grown_rowG {a b c : World} {R : Nat} {row : Option Nat} (h : a.grownBy b (some R)) (k : b.grownBy c row) (hx : ∀ x, row = some x → a.heap.size ≤ x) : a.grownBy c (some R) :=
 ⟨k.os.trans h.os, k.tape.trans h.tape, k.output.trans h.output, Nat.le_trans h.size k.size, fun i hi hr => (k.block i (Nat.lt_of_lt_of_le hi h.size) (fun e => by have := hx i e.symm; omega)).trans (h.block i hi hr)⟩
theorem Reader.rowG {w w' : World} {R : Nat} {A : Option Addr} {n c : Nat} {p : Int} {row : Option Nat} {B : Nat} (h : Reader w R A n c p) (hg : w.grownBy w' row) (hR : R < B) (hB : ∀ b off, A = some ⟨b, off, none⟩ → 0 < n → b < B) (hx : ∀ x, row = some x → B ≤ x) : Reader w' R A n c p :=
 ⟨(hg.block R h.lt (fun e => by have := hx R e.symm; omega)).trans h.at_, fun i hi => by
  obtain ⟨b, off, u, hA, hc, hu⟩ := h.bytes i hi
  exact ⟨b, off, u, hA, hg.cell hc (fun e => by have := hx _ e.symm; have := hB b off hA (by omega); simp at *; omega), hu⟩, h.far, h.lo, h.len⟩
end Go.Proofs.Ytameldhdegcpoaa
namespace Go.Proofs.Ytameldhdegcpoaa
open Go.ChangeShapes Go.WideShapes Go.ChangeAt Go.RowKit
set_option linter.unusedVariables false
set_option linter.unusedSimpArgs false
theorem okB_of {c n o x y : Int} (h : reqB c n o x y = true) : okB ⟨c, n, o, x, y⟩ = true := by simp [okB, rqB, h]
theorem req_num {c n o x y : Int} (h : reqB c n o x y = true) (m : Int) (hm : 1 ≤ m ∧ m ≤ 30) : reqB c m o x y = true := by
 simp only [reqB, inB, Bool.and_eq_true, decide_eq_true_eq] at h ⊢
 exact ⟨h.1, hm, h.2.2⟩
theorem req_join {c n o x y : Int} (h : reqB c n o x y = true) : reqB c 1 1 0 0 = true := by
 simp only [reqB, inB, Bool.and_eq_true, decide_eq_true_eq] at h ⊢
 exact ⟨h.1, by omega, by decide⟩
set_option maxRecDepth 100000 in
set_option maxHeartbeats 30000000 in
theorem l20Reqs {w : World} {R : Nat} {A : Option Addr} {n c : Nat} {p : Int} (h : Reader w R A n c p) (hp : p ≤ 90000) (M : Nat) (hM : M ≤ 40) :
 Calls Try.prog 89 #[.pointer (some ⟨R, 0, none⟩), .int .i64 (M : Int)] w fun e w' => ∃ (B : Option Addr) (d : Nat) (l : List Rq), e = .returned (.slice B l.length d) ∧ l.length ≤ M ∧ (∀ r ∈ l, okB r = true) ∧ w'.ownsRow w.heap.size 49 5 (.slice B l.length d) l.length (l.flatMap Rq.cells) ∧ Drawn w R A n c p 281 w' := by
 obtain ⟨I, hi, hz0, hz1, hz2⟩ := info_parts infoReq
 have I1 := Lib.hid hi
 have I2 := Lib.hid hz0
 have I3 := Lib.hid hz1
 have I4 := Lib.hid hz2
 have hOld := Lib.hid h.old
 have hRlt := h.lt
 have hlo := h.lo
 have O0 : Hid (((w.alloc (.cells #[] 49)).alloc (.cells #[.int .i64 0, .int .i64 0, .int .i64 0] 3)).ownsRow w.heap.size 49 5 (.slice (some ⟨w.heap.size, 0, none⟩) 0 0) 0 []) := (own_nil_new w 49 5 rfl).alloc _
 have N0 : Hid (((w.alloc (.cells #[] 49)).alloc (.cells #[.int .i64 0, .int .i64 0, .int .i64 0] 3)).ownsRow w.heap.size 3 1 (.slice (some ⟨w.heap.size + 1, 0, none⟩) 3 3) 3 (ints [0, 0, 0])) := by
  have h := own_of_block (w := ((w.alloc (.cells #[] 49)).alloc (.cells #[.int .i64 0, .int .i64 0, .int .i64 0] 3))) (base := w.heap.size) (g := w.heap.size + 1) (e := 3) (cur := #[.int .i64 0, .int .i64 0, .int .i64 0]) (n := 3) (xs := ints [0, 0, 0]) (by have := heap_alloc_new (w.alloc (.cells #[] 49)) (.cells #[.int .i64 0, .int .i64 0, .int .i64 0] 3); simpa using this) (by omega) (by unfold maxLen; omega) rfl rfl
  exact h
 have hb0 : Below w.heap.size w ((w.alloc (.cells #[] 49)).alloc (.cells #[.int .i64 0, .int .i64 0, .int .i64 0] 3)) := below_alloc2 w _ _
 have RD0 := Lib.hid (h.below hb0)
 have GR0 : Hid (w.grownBy ((w.alloc (.cells #[] 49)).alloc (.cells #[.int .i64 0, .int .i64 0, .int .i64 0] 3)) (some R)) := Below.grownBy hb0 (some R)
 have wM : IntKind.i64.wrap ((M : Int) + 1) = (M : Int) + 1 := IntWalk.i64_in _ (by omega)
 clear h hi hz0 hz1 hz2 hb0
 go_enter Try.func89, Try.ntmps89
 go_wp2_with (fail)
 refine (pickR ((M : Int) + 1) RD0.out (by omega) (by omega) (by omega)).mono ?_
 rintro e wa ⟨v, v0, v1, rfl, qa, qa0, qa1, hr, hgr⟩
 have RD := Lib.hid hr
 have GR := Lib.hid (grownBy_trans GR0.out hgr)
 have O1 := Lib.hid (O0.out.kept hgr (.inr (own_ge_ne (w := w) O0.out hRlt)))
 have N1 := Lib.hid (N0.out.kept hgr (.inr (own_ge_ne (w := w) N0.out hRlt)))
 clear hr hgr O0 N0 RD0 GR0 wM
 obtain ⟨m, rfl⟩ : ∃ m : Nat, v = (m : Int) := ⟨v.toNat, by omega⟩
 go_wp2
 go_loopw [5, 7] (fun o v wr => ∃ (k : Nat) (q : Int) (B : Option Addr) (d : Nat) (l : List Rq) (Nl : List Int), v = .int .i64 (k : Int) ∧ o = .slice B l.length d ∧ l.length + k ≤ M ∧ p ≤ q ∧ q + 7 * (k : Int) ≤ p + 1 + 7 * (M : Int) ∧ Nl.length = 3 ∧ Hid (∀ i (hi : i < Nl.length), 0 ≤ Nl[i] ∧ Nl[i] ≤ 30) ∧ Hid (∀ r ∈ l, okB r = true) ∧ Hid (wr.ownsRow w.heap.size 49 5 (.slice B l.length d) l.length (l.flatMap Rq.cells)) ∧ Hid (wr.ownsRow w.heap.size 3 1 (.slice (some ⟨w.heap.size + 1, 0, none⟩) 3 3) 3 (ints Nl)) ∧ Hid (Reader wr R A n c q) ∧ Hid (w.grownBy wr (some R))) (fun _ v _ => (intOf v).toNat)
 case atStart => exact ⟨m, qa, some ⟨w.heap.size, 0, none⟩, 0, [], [0, 0, 0], rfl, rfl, by simp; omega, by omega, by omega, rfl, (fun i hi => by
  have : i < 3 := hi
  rcases i with _ | _ | _ | i
  · simp
  · simp
  · simp
  · omega), (fun r hr => by cases hr), O1.out, N1.out, RD.out, GR.out⟩
 case round =>
  clear O1 N1 RD GR
  obtain ⟨k0, q, B, d, l, Nl, rfl, rfl, hlk, hq0, hq1, hN, HNB, HOK, OO, NO, RD, GR⟩ := hrel
  rcases k0 with _ | k
  · go_wp2
    go_ret
    exact ⟨B, d, l, rfl, by omega, HOK.out, OO.out, q, by omega, by omega, RD.out, GR.out⟩
  · have i0 : decide ((0 : Int) < ((k + 1 : Nat) : Int)) = true := decide_eq_true (by omega)
    go_wp2_with (fail)
    refine (l20ReqK RD.out (by omega)).mono ?_
    rintro e wb0 ⟨rc, rn, ro, rx, ry, rfl, ⟨hq, hc3⟩, qa, qa0, qa1, hr, hgr⟩
    have hc1 : 1 ≤ rc := by simp only [reqB, inB, Bool.and_eq_true, decide_eq_true_eq] at hq; exact hq.1.1
    have HQ := Lib.hid hq
    have gsz : w.heap.size ≤ wb0.heap.size := Nat.le_trans GR.out.size hgr.size
    have OO1 := OO.out.kept hgr (.inr (own_ge_ne (w := w) OO.out hRlt))
    have RS0 : Hid (Rs w (wb0.alloc (.cells #[.int .i64 rc, .int .i64 rn, .int .i64 ro, .int .i64 rx, .int .i64 ry] 49)) R A n c qa (w.heap.size + 1) wb0.heap.size Nl B d l #[.int .i64 rc, .int .i64 rn, .int .i64 ro, .int .i64 rx, .int .i64 ry]) :=
     ⟨hr.below ((Below.refl _ _).alloc (Nat.le_refl _) _), grownBy_trans (grownBy_trans GR.out hgr) (World.grownBy_alloc _ _ _), OO1.alloc _, (NO.out.kept hgr (.inr (own_ge_ne (w := w) NO.out hRlt))).alloc _, heap_alloc_new wb0 _, (fun e => by have := (own_block_ge OO1 _ e).2; omega), gsz⟩
    clear hr hgr OO NO RD GR hq OO1 gsz
    obtain ⟨j, hj⟩ : ∃ j : Nat, rc - 1 = (j : Int) := ⟨(rc - 1).toNat, by omega⟩
    have hj3 : j < 3 := by omega
    have hjl : j < Nl.length := by omega
    have q1 : IntKind.i64.wrap (rc - 1) = (j : Int) := by rw [hj]; exact IntWalk.i64_in _ (by omega)
    obtain ⟨u, hu⟩ : ∃ u, u = Nl[j]'hjl := ⟨_, rfl⟩
    have hub := HNB.out j hjl
    rw [← hu] at hub
    have HU := Lib.hid hu
    have HJ := Lib.hid hj
    have j0 : (0 : Int) ≤ (j : Int) := by omega
    have j1 : (j : Int) < 3 := by omega
    clear hu hj
    go_upto_region 7 with (fail)
    obtain ⟨pX, hpX⟩ : ∃ X, X = wb0.heap.size := ⟨_, rfl⟩
    obtain ⟨W1, hW1⟩ : ∃ X, X = wb0.alloc (.cells #[.int .i64 rc, .int .i64 rn, .int .i64 ro, .int .i64 rx, .int .i64 ry] 49) := ⟨_, rfl⟩
    rw [← hW1] at RS0 ⊢
    rw [← hpX] at RS0 ⊢
    clear hW1 hpX
    have RS := RS0
    clear RS0
    by_cases h30 : u < 30
    · have d30 : decide (u < 30) = true := by simpa using h30
      have y0 : W1.cell? ⟨pX, 0, none⟩ = some (.int .i64 rc) := cell_of_row _ _ 0 _ _ (0, 0) RS.out.xb
      have yu : W1.cell? ⟨w.heap.size + 1, j, none⟩ = some (.int .i64 u) := by rw [RS.out.no.cellAt j (by omega)]; simp [hjl, HU.out]
      go_wp2_with (fail)
      clear y0 yu
      refine (pickR 8 RS.out.rd (by omega) (by omega) (by omega)).mono ?_
      rintro e wb ⟨v8, u0, u1, rfl, qb, qb0, qb1, hr, hgr⟩
      replace RS := Lib.hid (RS.out.draw hRlt hr hgr)
      clear hr hgr
      by_cases h8 : 0 < v8
      · have d8 : decide (0 < v8) = true := by simpa using h8
        have NB1 : Hid (∀ i (hi : i < (Nl.set j (u + 1)).length), 0 ≤ (Nl.set j (u + 1))[i] ∧ (Nl.set j (u + 1))[i] ≤ 30) := fun i hi => by
         rw [List.getElem_set]
         split
         · omega
         · exact HNB.out i (by simpa using hi)
        replace HNB := NB1
        clear NB1
        have d0 : decide (0 < u + 1) = true := by simp; omega
        have wu : IntKind.i64.wrap (u + 1) = u + 1 := IntWalk.i64_in _ (by omega)
        replace HQ := Lib.hid (req_num HQ.out (u + 1) (by omega))
        obtain ⟨x0, x1, x2, x3, x4, xf⟩ := RS.out.c5
        have nf : ∀ j, wb.frozen? ⟨w.heap.size + 1, j, none⟩ = false := fun j => RS.out.no.frozenAt j
        have gx := RS.out.gx
        have gx2 : pX ≠ w.heap.size + 1 := fun e => gx e.symm
        have xu : wb.cell? ⟨w.heap.size + 1, j, none⟩ = some (.int .i64 u) := by rw [RS.out.no.cellAt j (by omega)]; simp [hjl, HU.out]
        replace RS := Lib.hid (RS.out.num hOld.out hRlt hN j hj3 (u + 1))
        replace RS := Lib.hid (RS.out.x hOld.out hRlt 1 (.int .i64 (u + 1)))
        by_cases h1 : (u + 1) = 1
        · have e1 : ((u + 1) == 1) = true := by simpa using h1
          replace RS := Lib.hid (RS.out.x hOld.out hRlt 0 (.int .i64 rc))
          replace RS := Lib.hid (RS.out.x hOld.out hRlt 1 (.int .i64 1))
          replace RS := Lib.hid (RS.out.x hOld.out hRlt 2 (.int .i64 1))
          replace RS := Lib.hid (RS.out.x hOld.out hRlt 3 (.int .i64 0))
          replace RS := Lib.hid (RS.out.x hOld.out hRlt 4 (.int .i64 0))
          replace RS : Hid (Rs w (((((((wb.setCell ⟨w.heap.size + 1, j, none⟩ (.int .i64 (u + 1))).setCell ⟨pX, 1, none⟩ (.int .i64 (u + 1))).setCell ⟨pX, 0, none⟩ (.int .i64 rc)).setCell ⟨pX, 1, none⟩ (.int .i64 1)).setCell ⟨pX, 2, none⟩ (.int .i64 1)).setCell ⟨pX, 3, none⟩ (.int .i64 0)).setCell ⟨pX, 4, none⟩ (.int .i64 0)) R A n c qb (w.heap.size + 1) pX (Nl.set j (u + 1)) B d l #[.int .i64 rc, .int .i64 1, .int .i64 1, .int .i64 0, .int .i64 0]) := RS
          replace HQ := Lib.hid (req_join HQ.out)
          clear h1
          go_wp2_with (fail)
          obtain ⟨Wz, hWz⟩ : ∃ X, X = (((((((wb.setCell ⟨w.heap.size + 1, j, none⟩ (.int .i64 (u + 1))).setCell ⟨pX, 1, none⟩ (.int .i64 (u + 1))).setCell ⟨pX, 0, none⟩ (.int .i64 rc)).setCell ⟨pX, 1, none⟩ (.int .i64 1)).setCell ⟨pX, 2, none⟩ (.int .i64 1)).setCell ⟨pX, 3, none⟩ (.int .i64 0)).setCell ⟨pX, 4, none⟩ (.int .i64 0)) := ⟨_, rfl⟩
          rw [← hWz] at RS ⊢
          clear hWz
          clear x0 x1 x2 x3 x4 xf
          clear xu nf
          refine (pickR 12 RS.out.rd (by omega) (by omega) (by omega)).mono ?_
          rintro e wf ⟨v12, w0, w1, rfl, qf, qf0, qf1, hr, hgr⟩
          replace RS := Lib.hid (RS.out.draw hRlt hr hgr)
          clear hr hgr
          by_cases h12 : v12 = 0
          · subst h12
            obtain ⟨x0, x1, x2, x3, x4, xf⟩ := RS.out.c5
            replace RS := Lib.hid (RS.out.x hOld.out hRlt 0 (.int .i64 0))
            replace RS := Lib.hid (RS.out.x hOld.out hRlt 1 (.int .i64 0))
            replace RS := Lib.hid (RS.out.x hOld.out hRlt 2 (.int .i64 0))
            replace RS := Lib.hid (RS.out.x hOld.out hRlt 3 (.int .i64 0))
            replace RS := Lib.hid (RS.out.x hOld.out hRlt 4 (.int .i64 0))
            replace RS : Hid (Rs w (((((wf.setCell ⟨pX, 0, none⟩ (.int .i64 0)).setCell ⟨pX, 1, none⟩ (.int .i64 0)).setCell ⟨pX, 2, none⟩ (.int .i64 0)).setCell ⟨pX, 3, none⟩ (.int .i64 0)).setCell ⟨pX, 4, none⟩ (.int .i64 0)) R A n c qf (w.heap.size + 1) pX (Nl.set j (u + 1)) B d l #[.int .i64 0, .int .i64 0, .int .i64 0, .int .i64 0, .int .i64 0]) := RS
            go_upto_region 16 with (fail)
            clear x0 x1 x2 x3 x4 xf
            obtain ⟨Wy, hWy⟩ : ∃ X, X = (((((wf.setCell ⟨pX, 0, none⟩ (.int .i64 0)).setCell ⟨pX, 1, none⟩ (.int .i64 0)).setCell ⟨pX, 2, none⟩ (.int .i64 0)).setCell ⟨pX, 3, none⟩ (.int .i64 0)).setCell ⟨pX, 4, none⟩ (.int .i64 0)) := ⟨_, rfl⟩
            rw [← hWy] at RS ⊢
            clear hWy
            obtain ⟨x0, x1, x2, x3, x4, xf⟩ := RS.out.c5
            obtain ⟨OA, NA, RDA, GRA, hsz⟩ := RS.out.al (.cells #[.int .i64 0, .int .i64 0, .int .i64 0, .int .i64 0, .int .i64 0] 49)
            have HRd := Lib.hid (rq_one Wy 49 ⟨0, 0, 0, 0, 0⟩)
            go_wp2_with (at_builtin; go_loud (refine list_app (f := Rq.cells) (fun _ => rfl) rfl _ _ 31 rfl w.heap.size 49 I (.agg #[.int .i64 0, .int .i64 0, .int .i64 0, .int .i64 0, .int .i64 0]) 40 Try.underlying31 I1.out I2.out I3.out I4.out rfl (by decide) _ l.length (l.flatMap Rq.cells) rfl OA.out _ _ 1 [⟨0, 0, 0, 0, 0⟩] rfl rfl HRd.out (fun h => by cases h) (reqs_one _) (by unfold maxLen; omega) (by omega) (by simp; omega) ?_))
            intro v1 w1 ho1 hg1 hp1
            have hb0 : ∀ x, (Value.slice B l.length d).ownBlock = some x → w.heap.size ≤ x := fun x hx => (own_block_ge OA.out x hx).1
            have RD1 := Lib.hid (RDA.out.rowG hg1 hRlt hOld.out hb0)
            have GR1 := Lib.hid (grown_rowG GRA.out hg1 hb0)
            have NN1 := Lib.hid (own_keepR (base' := 0) (e' := 0) NA.out hg1 (fun x hx => own_row_ne OA.out NA.out (by decide) x hx))
            obtain ⟨B1, d1, rfl, _⟩ := own_form ho1
            have OO1 : Hid (w1.ownsRow w.heap.size 49 5 (.slice B1 (l ++ [(⟨0, 0, 0, 0, 0⟩ : Rq)]).length d1) (l ++ [(⟨0, 0, 0, 0, 0⟩ : Rq)]).length ((l ++ [(⟨0, 0, 0, 0, 0⟩ : Rq)]).flatMap Rq.cells)) := by
             show w1.ownsRow _ _ _ _ _ _
             rw [List.flatMap_append, List.length_append]
             exact ho1
            have OK1 : Hid (∀ r ∈ l ++ [(⟨0, 0, 0, 0, 0⟩ : Rq)], okB r = true) := fun r hr => by
             rw [List.mem_append] at hr
             rcases hr with hr | hr
             · exact HOK.out r hr
             · simp only [List.mem_singleton] at hr
               subst hr
               rfl
            have HLE : (l ++ [(⟨0, 0, 0, 0, 0⟩ : Rq)]).length = l.length + 1 := by simp
            clear ho1 hg1 hp1 hb0 OA NA RDA GRA HRd hsz RS x0 x1 x2 x3 x4 xf
            go_wp2
            go_roundw
            case rel => exact ⟨k, qf, B1, d1, l ++ [(⟨0, 0, 0, 0, 0⟩ : Rq)], (Nl.set j (u + 1)), by go_num, by rw [HLE], by rw [HLE]; omega, by omega, by omega, by simp [hN], HNB.out, OK1, OO1, NN1, RD1, GR1⟩
            case measure => (simp [intOf]; try omega)
          · have h12' : (v12 == 0) = false := by simpa using h12
            clear h12
            obtain ⟨x0, x1, x2, x3, x4, xf⟩ := RS.out.c5
            obtain ⟨OA, NA, RDA, GRA, hsz⟩ := RS.out.al (.cells #[.int .i64 rc, .int .i64 1, .int .i64 1, .int .i64 0, .int .i64 0] 49)
            have HRd := Lib.hid (rq_one wf 49 ⟨rc, 1, 1, 0, 0⟩)
            go_wp2_with (at_builtin; go_loud (refine list_app (f := Rq.cells) (fun _ => rfl) rfl _ _ 31 rfl w.heap.size 49 I (.agg #[.int .i64 0, .int .i64 0, .int .i64 0, .int .i64 0, .int .i64 0]) 40 Try.underlying31 I1.out I2.out I3.out I4.out rfl (by decide) _ l.length (l.flatMap Rq.cells) rfl OA.out _ _ 1 [⟨rc, 1, 1, 0, 0⟩] rfl rfl HRd.out (fun h => by cases h) (reqs_one _) (by unfold maxLen; omega) (by omega) (by simp; omega) ?_))
            intro v1 w1 ho1 hg1 hp1
            have hb0 : ∀ x, (Value.slice B l.length d).ownBlock = some x → w.heap.size ≤ x := fun x hx => (own_block_ge OA.out x hx).1
            have RD1 := Lib.hid (RDA.out.rowG hg1 hRlt hOld.out hb0)
            have GR1 := Lib.hid (grown_rowG GRA.out hg1 hb0)
            have NN1 := Lib.hid (own_keepR (base' := 0) (e' := 0) NA.out hg1 (fun x hx => own_row_ne OA.out NA.out (by decide) x hx))
            obtain ⟨B1, d1, rfl, _⟩ := own_form ho1
            have OO1 : Hid (w1.ownsRow w.heap.size 49 5 (.slice B1 (l ++ [(⟨rc, 1, 1, 0, 0⟩ : Rq)]).length d1) (l ++ [(⟨rc, 1, 1, 0, 0⟩ : Rq)]).length ((l ++ [(⟨rc, 1, 1, 0, 0⟩ : Rq)]).flatMap Rq.cells)) := by
             show w1.ownsRow _ _ _ _ _ _
             rw [List.flatMap_append, List.length_append]
             exact ho1
            have OK1 : Hid (∀ r ∈ l ++ [(⟨rc, 1, 1, 0, 0⟩ : Rq)], okB r = true) := fun r hr => by
             rw [List.mem_append] at hr
             rcases hr with hr | hr
             · exact HOK.out r hr
             · simp only [List.mem_singleton] at hr
               subst hr
               exact okB_of HQ.out
            have HLE : (l ++ [(⟨rc, 1, 1, 0, 0⟩ : Rq)]).length = l.length + 1 := by simp
            clear ho1 hg1 hp1 hb0 OA NA RDA GRA HRd hsz RS x0 x1 x2 x3 x4 xf
            go_wp2
            go_roundw
            case rel => exact ⟨k, qf, B1, d1, l ++ [(⟨rc, 1, 1, 0, 0⟩ : Rq)], (Nl.set j (u + 1)), by go_num, by rw [HLE], by rw [HLE]; omega, by omega, by omega, by simp [hN], HNB.out, OK1, OO1, NN1, RD1, GR1⟩
            case measure => (simp [intOf]; try omega)
        · have e1 : ((u + 1) == 1) = false := by simpa using h1
          replace RS : Hid (Rs w ((wb.setCell ⟨w.heap.size + 1, j, none⟩ (.int .i64 (u + 1))).setCell ⟨pX, 1, none⟩ (.int .i64 (u + 1))) R A n c qb (w.heap.size + 1) pX (Nl.set j (u + 1)) B d l #[.int .i64 rc, .int .i64 (u + 1), .int .i64 ro, .int .i64 rx, .int .i64 ry]) := RS
          clear h1
          go_wp2_with (fail)
          obtain ⟨Wz, hWz⟩ : ∃ X, X = ((wb.setCell ⟨w.heap.size + 1, j, none⟩ (.int .i64 (u + 1))).setCell ⟨pX, 1, none⟩ (.int .i64 (u + 1))) := ⟨_, rfl⟩
          rw [← hWz] at RS ⊢
          clear hWz
          clear x0 x1 x2 x3 x4 xf
          clear xu nf
          refine (pickR 12 RS.out.rd (by omega) (by omega) (by omega)).mono ?_
          rintro e wf ⟨v12, w0, w1, rfl, qf, qf0, qf1, hr, hgr⟩
          replace RS := Lib.hid (RS.out.draw hRlt hr hgr)
          clear hr hgr
          by_cases h12 : v12 = 0
          · subst h12
            obtain ⟨x0, x1, x2, x3, x4, xf⟩ := RS.out.c5
            replace RS := Lib.hid (RS.out.x hOld.out hRlt 0 (.int .i64 0))
            replace RS := Lib.hid (RS.out.x hOld.out hRlt 1 (.int .i64 0))
            replace RS := Lib.hid (RS.out.x hOld.out hRlt 2 (.int .i64 0))
            replace RS := Lib.hid (RS.out.x hOld.out hRlt 3 (.int .i64 0))
            replace RS := Lib.hid (RS.out.x hOld.out hRlt 4 (.int .i64 0))
            replace RS : Hid (Rs w (((((wf.setCell ⟨pX, 0, none⟩ (.int .i64 0)).setCell ⟨pX, 1, none⟩ (.int .i64 0)).setCell ⟨pX, 2, none⟩ (.int .i64 0)).setCell ⟨pX, 3, none⟩ (.int .i64 0)).setCell ⟨pX, 4, none⟩ (.int .i64 0)) R A n c qf (w.heap.size + 1) pX (Nl.set j (u + 1)) B d l #[.int .i64 0, .int .i64 0, .int .i64 0, .int .i64 0, .int .i64 0]) := RS
            go_upto_region 16 with (fail)
            clear x0 x1 x2 x3 x4 xf
            obtain ⟨Wy, hWy⟩ : ∃ X, X = (((((wf.setCell ⟨pX, 0, none⟩ (.int .i64 0)).setCell ⟨pX, 1, none⟩ (.int .i64 0)).setCell ⟨pX, 2, none⟩ (.int .i64 0)).setCell ⟨pX, 3, none⟩ (.int .i64 0)).setCell ⟨pX, 4, none⟩ (.int .i64 0)) := ⟨_, rfl⟩
            rw [← hWy] at RS ⊢
            clear hWy
            obtain ⟨x0, x1, x2, x3, x4, xf⟩ := RS.out.c5
            obtain ⟨OA, NA, RDA, GRA, hsz⟩ := RS.out.al (.cells #[.int .i64 0, .int .i64 0, .int .i64 0, .int .i64 0, .int .i64 0] 49)
            have HRd := Lib.hid (rq_one Wy 49 ⟨0, 0, 0, 0, 0⟩)
            go_wp2_with (at_builtin; go_loud (refine list_app (f := Rq.cells) (fun _ => rfl) rfl _ _ 31 rfl w.heap.size 49 I (.agg #[.int .i64 0, .int .i64 0, .int .i64 0, .int .i64 0, .int .i64 0]) 40 Try.underlying31 I1.out I2.out I3.out I4.out rfl (by decide) _ l.length (l.flatMap Rq.cells) rfl OA.out _ _ 1 [⟨0, 0, 0, 0, 0⟩] rfl rfl HRd.out (fun h => by cases h) (reqs_one _) (by unfold maxLen; omega) (by omega) (by simp; omega) ?_))
            intro v1 w1 ho1 hg1 hp1
            have hb0 : ∀ x, (Value.slice B l.length d).ownBlock = some x → w.heap.size ≤ x := fun x hx => (own_block_ge OA.out x hx).1
            have RD1 := Lib.hid (RDA.out.rowG hg1 hRlt hOld.out hb0)
            have GR1 := Lib.hid (grown_rowG GRA.out hg1 hb0)
            have NN1 := Lib.hid (own_keepR (base' := 0) (e' := 0) NA.out hg1 (fun x hx => own_row_ne OA.out NA.out (by decide) x hx))
            obtain ⟨B1, d1, rfl, _⟩ := own_form ho1
            have OO1 : Hid (w1.ownsRow w.heap.size 49 5 (.slice B1 (l ++ [(⟨0, 0, 0, 0, 0⟩ : Rq)]).length d1) (l ++ [(⟨0, 0, 0, 0, 0⟩ : Rq)]).length ((l ++ [(⟨0, 0, 0, 0, 0⟩ : Rq)]).flatMap Rq.cells)) := by
             show w1.ownsRow _ _ _ _ _ _
             rw [List.flatMap_append, List.length_append]
             exact ho1
            have OK1 : Hid (∀ r ∈ l ++ [(⟨0, 0, 0, 0, 0⟩ : Rq)], okB r = true) := fun r hr => by
             rw [List.mem_append] at hr
             rcases hr with hr | hr
             · exact HOK.out r hr
             · simp only [List.mem_singleton] at hr
               subst hr
               rfl
            have HLE : (l ++ [(⟨0, 0, 0, 0, 0⟩ : Rq)]).length = l.length + 1 := by simp
            clear ho1 hg1 hp1 hb0 OA NA RDA GRA HRd hsz RS x0 x1 x2 x3 x4 xf
            go_wp2
            go_roundw
            case rel => exact ⟨k, qf, B1, d1, l ++ [(⟨0, 0, 0, 0, 0⟩ : Rq)], (Nl.set j (u + 1)), by go_num, by rw [HLE], by rw [HLE]; omega, by omega, by omega, by simp [hN], HNB.out, OK1, OO1, NN1, RD1, GR1⟩
            case measure => (simp [intOf]; try omega)
          · have h12' : (v12 == 0) = false := by simpa using h12
            clear h12
            obtain ⟨x0, x1, x2, x3, x4, xf⟩ := RS.out.c5
            obtain ⟨OA, NA, RDA, GRA, hsz⟩ := RS.out.al (.cells #[.int .i64 rc, .int .i64 (u + 1), .int .i64 ro, .int .i64 rx, .int .i64 ry] 49)
            have HRd := Lib.hid (rq_one wf 49 ⟨rc, (u + 1), ro, rx, ry⟩)
            go_wp2_with (at_builtin; go_loud (refine list_app (f := Rq.cells) (fun _ => rfl) rfl _ _ 31 rfl w.heap.size 49 I (.agg #[.int .i64 0, .int .i64 0, .int .i64 0, .int .i64 0, .int .i64 0]) 40 Try.underlying31 I1.out I2.out I3.out I4.out rfl (by decide) _ l.length (l.flatMap Rq.cells) rfl OA.out _ _ 1 [⟨rc, (u + 1), ro, rx, ry⟩] rfl rfl HRd.out (fun h => by cases h) (reqs_one _) (by unfold maxLen; omega) (by omega) (by simp; omega) ?_))
            intro v1 w1 ho1 hg1 hp1
            have hb0 : ∀ x, (Value.slice B l.length d).ownBlock = some x → w.heap.size ≤ x := fun x hx => (own_block_ge OA.out x hx).1
            have RD1 := Lib.hid (RDA.out.rowG hg1 hRlt hOld.out hb0)
            have GR1 := Lib.hid (grown_rowG GRA.out hg1 hb0)
            have NN1 := Lib.hid (own_keepR (base' := 0) (e' := 0) NA.out hg1 (fun x hx => own_row_ne OA.out NA.out (by decide) x hx))
            obtain ⟨B1, d1, rfl, _⟩ := own_form ho1
            have OO1 : Hid (w1.ownsRow w.heap.size 49 5 (.slice B1 (l ++ [(⟨rc, (u + 1), ro, rx, ry⟩ : Rq)]).length d1) (l ++ [(⟨rc, (u + 1), ro, rx, ry⟩ : Rq)]).length ((l ++ [(⟨rc, (u + 1), ro, rx, ry⟩ : Rq)]).flatMap Rq.cells)) := by
             show w1.ownsRow _ _ _ _ _ _
             rw [List.flatMap_append, List.length_append]
             exact ho1
            have OK1 : Hid (∀ r ∈ l ++ [(⟨rc, (u + 1), ro, rx, ry⟩ : Rq)], okB r = true) := fun r hr => by
             rw [List.mem_append] at hr
             rcases hr with hr | hr
             · exact HOK.out r hr
             · simp only [List.mem_singleton] at hr
               subst hr
               exact okB_of HQ.out
            have HLE : (l ++ [(⟨rc, (u + 1), ro, rx, ry⟩ : Rq)]).length = l.length + 1 := by simp
            clear ho1 hg1 hp1 hb0 OA NA RDA GRA HRd hsz RS x0 x1 x2 x3 x4 xf
            go_wp2
            go_roundw
            case rel => exact ⟨k, qf, B1, d1, l ++ [(⟨rc, (u + 1), ro, rx, ry⟩ : Rq)], (Nl.set j (u + 1)), by go_num, by rw [HLE], by rw [HLE]; omega, by omega, by omega, by simp [hN], HNB.out, OK1, OO1, NN1, RD1, GR1⟩
            case measure => (simp [intOf]; try omega)
      · have d8 : decide (0 < v8) = false := by simpa using h8
        by_cases hu0 : 0 < u
        · have d0 : decide (0 < u) = true := by simpa using hu0
          replace HQ := Lib.hid (req_num HQ.out u (by omega))
          obtain ⟨x0, x1, x2, x3, x4, xf⟩ := RS.out.c5
          have nf : ∀ j, wb.frozen? ⟨w.heap.size + 1, j, none⟩ = false := fun j => RS.out.no.frozenAt j
          have gx := RS.out.gx
          have gx2 : pX ≠ w.heap.size + 1 := fun e => gx e.symm
          have xu : wb.cell? ⟨w.heap.size + 1, j, none⟩ = some (.int .i64 u) := by rw [RS.out.no.cellAt j (by omega)]; simp [hjl, HU.out]
          replace RS := Lib.hid (RS.out.x hOld.out hRlt 1 (.int .i64 u))
          by_cases h1 : u = 1
          · have e1 : (u == 1) = true := by simpa using h1
            replace RS := Lib.hid (RS.out.x hOld.out hRlt 0 (.int .i64 rc))
            replace RS := Lib.hid (RS.out.x hOld.out hRlt 1 (.int .i64 1))
            replace RS := Lib.hid (RS.out.x hOld.out hRlt 2 (.int .i64 1))
            replace RS := Lib.hid (RS.out.x hOld.out hRlt 3 (.int .i64 0))
            replace RS := Lib.hid (RS.out.x hOld.out hRlt 4 (.int .i64 0))
            replace RS : Hid (Rs w ((((((wb.setCell ⟨pX, 1, none⟩ (.int .i64 u)).setCell ⟨pX, 0, none⟩ (.int .i64 rc)).setCell ⟨pX, 1, none⟩ (.int .i64 1)).setCell ⟨pX, 2, none⟩ (.int .i64 1)).setCell ⟨pX, 3, none⟩ (.int .i64 0)).setCell ⟨pX, 4, none⟩ (.int .i64 0)) R A n c qb (w.heap.size + 1) pX Nl B d l #[.int .i64 rc, .int .i64 1, .int .i64 1, .int .i64 0, .int .i64 0]) := RS
            replace HQ := Lib.hid (req_join HQ.out)
            clear h1
            go_wp2_with (fail)
            obtain ⟨Wz, hWz⟩ : ∃ X, X = ((((((wb.setCell ⟨pX, 1, none⟩ (.int .i64 u)).setCell ⟨pX, 0, none⟩ (.int .i64 rc)).setCell ⟨pX, 1, none⟩ (.int .i64 1)).setCell ⟨pX, 2, none⟩ (.int .i64 1)).setCell ⟨pX, 3, none⟩ (.int .i64 0)).setCell ⟨pX, 4, none⟩ (.int .i64 0)) := ⟨_, rfl⟩
            rw [← hWz] at RS ⊢
            clear hWz
            clear x0 x1 x2 x3 x4 xf
            clear xu nf
            refine (pickR 12 RS.out.rd (by omega) (by omega) (by omega)).mono ?_
            rintro e wf ⟨v12, w0, w1, rfl, qf, qf0, qf1, hr, hgr⟩
            replace RS := Lib.hid (RS.out.draw hRlt hr hgr)
            clear hr hgr
            by_cases h12 : v12 = 0
            · subst h12
              obtain ⟨x0, x1, x2, x3, x4, xf⟩ := RS.out.c5
              replace RS := Lib.hid (RS.out.x hOld.out hRlt 0 (.int .i64 0))
              replace RS := Lib.hid (RS.out.x hOld.out hRlt 1 (.int .i64 0))
              replace RS := Lib.hid (RS.out.x hOld.out hRlt 2 (.int .i64 0))
              replace RS := Lib.hid (RS.out.x hOld.out hRlt 3 (.int .i64 0))
              replace RS := Lib.hid (RS.out.x hOld.out hRlt 4 (.int .i64 0))
              replace RS : Hid (Rs w (((((wf.setCell ⟨pX, 0, none⟩ (.int .i64 0)).setCell ⟨pX, 1, none⟩ (.int .i64 0)).setCell ⟨pX, 2, none⟩ (.int .i64 0)).setCell ⟨pX, 3, none⟩ (.int .i64 0)).setCell ⟨pX, 4, none⟩ (.int .i64 0)) R A n c qf (w.heap.size + 1) pX Nl B d l #[.int .i64 0, .int .i64 0, .int .i64 0, .int .i64 0, .int .i64 0]) := RS
              go_upto_region 16 with (fail)
              clear x0 x1 x2 x3 x4 xf
              obtain ⟨Wy, hWy⟩ : ∃ X, X = (((((wf.setCell ⟨pX, 0, none⟩ (.int .i64 0)).setCell ⟨pX, 1, none⟩ (.int .i64 0)).setCell ⟨pX, 2, none⟩ (.int .i64 0)).setCell ⟨pX, 3, none⟩ (.int .i64 0)).setCell ⟨pX, 4, none⟩ (.int .i64 0)) := ⟨_, rfl⟩
              rw [← hWy] at RS ⊢
              clear hWy
              obtain ⟨x0, x1, x2, x3, x4, xf⟩ := RS.out.c5
              obtain ⟨OA, NA, RDA, GRA, hsz⟩ := RS.out.al (.cells #[.int .i64 0, .int .i64 0, .int .i64 0, .int .i64 0, .int .i64 0] 49)
              have HRd := Lib.hid (rq_one Wy 49 ⟨0, 0, 0, 0, 0⟩)
              go_wp2_with (at_builtin; go_loud (refine list_app (f := Rq.cells) (fun _ => rfl) rfl _ _ 31 rfl w.heap.size 49 I (.agg #[.int .i64 0, .int .i64 0, .int .i64 0, .int .i64 0, .int .i64 0]) 40 Try.underlying31 I1.out I2.out I3.out I4.out rfl (by decide) _ l.length (l.flatMap Rq.cells) rfl OA.out _ _ 1 [⟨0, 0, 0, 0, 0⟩] rfl rfl HRd.out (fun h => by cases h) (reqs_one _) (by unfold maxLen; omega) (by omega) (by simp; omega) ?_))
              intro v1 w1 ho1 hg1 hp1
              have hb0 : ∀ x, (Value.slice B l.length d).ownBlock = some x → w.heap.size ≤ x := fun x hx => (own_block_ge OA.out x hx).1
              have RD1 := Lib.hid (RDA.out.rowG hg1 hRlt hOld.out hb0)
              have GR1 := Lib.hid (grown_rowG GRA.out hg1 hb0)
              have NN1 := Lib.hid (own_keepR (base' := 0) (e' := 0) NA.out hg1 (fun x hx => own_row_ne OA.out NA.out (by decide) x hx))
              obtain ⟨B1, d1, rfl, _⟩ := own_form ho1
              have OO1 : Hid (w1.ownsRow w.heap.size 49 5 (.slice B1 (l ++ [(⟨0, 0, 0, 0, 0⟩ : Rq)]).length d1) (l ++ [(⟨0, 0, 0, 0, 0⟩ : Rq)]).length ((l ++ [(⟨0, 0, 0, 0, 0⟩ : Rq)]).flatMap Rq.cells)) := by
               show w1.ownsRow _ _ _ _ _ _
               rw [List.flatMap_append, List.length_append]
               exact ho1
              have OK1 : Hid (∀ r ∈ l ++ [(⟨0, 0, 0, 0, 0⟩ : Rq)], okB r = true) := fun r hr => by
               rw [List.mem_append] at hr
               rcases hr with hr | hr
               · exact HOK.out r hr
               · simp only [List.mem_singleton] at hr
                 subst hr
                 rfl
              have HLE : (l ++ [(⟨0, 0, 0, 0, 0⟩ : Rq)]).length = l.length + 1 := by simp
              clear ho1 hg1 hp1 hb0 OA NA RDA GRA HRd hsz RS x0 x1 x2 x3 x4 xf
              go_wp2
              go_roundw
              case rel => exact ⟨k, qf, B1, d1, l ++ [(⟨0, 0, 0, 0, 0⟩ : Rq)], Nl, by go_num, by rw [HLE], by rw [HLE]; omega, by omega, by omega, by simp [hN], HNB.out, OK1, OO1, NN1, RD1, GR1⟩
              case measure => (simp [intOf]; try omega)
            · have h12' : (v12 == 0) = false := by simpa using h12
              clear h12
              obtain ⟨x0, x1, x2, x3, x4, xf⟩ := RS.out.c5
              obtain ⟨OA, NA, RDA, GRA, hsz⟩ := RS.out.al (.cells #[.int .i64 rc, .int .i64 1, .int .i64 1, .int .i64 0, .int .i64 0] 49)
              have HRd := Lib.hid (rq_one wf 49 ⟨rc, 1, 1, 0, 0⟩)
              go_wp2_with (at_builtin; go_loud (refine list_app (f := Rq.cells) (fun _ => rfl) rfl _ _ 31 rfl w.heap.size 49 I (.agg #[.int .i64 0, .int .i64 0, .int .i64 0, .int .i64 0, .int .i64 0]) 40 Try.underlying31 I1.out I2.out I3.out I4.out rfl (by decide) _ l.length (l.flatMap Rq.cells) rfl OA.out _ _ 1 [⟨rc, 1, 1, 0, 0⟩] rfl rfl HRd.out (fun h => by cases h) (reqs_one _) (by unfold maxLen; omega) (by omega) (by simp; omega) ?_))
              intro v1 w1 ho1 hg1 hp1
              have hb0 : ∀ x, (Value.slice B l.length d).ownBlock = some x → w.heap.size ≤ x := fun x hx => (own_block_ge OA.out x hx).1
              have RD1 := Lib.hid (RDA.out.rowG hg1 hRlt hOld.out hb0)
              have GR1 := Lib.hid (grown_rowG GRA.out hg1 hb0)
              have NN1 := Lib.hid (own_keepR (base' := 0) (e' := 0) NA.out hg1 (fun x hx => own_row_ne OA.out NA.out (by decide) x hx))
              obtain ⟨B1, d1, rfl, _⟩ := own_form ho1
              have OO1 : Hid (w1.ownsRow w.heap.size 49 5 (.slice B1 (l ++ [(⟨rc, 1, 1, 0, 0⟩ : Rq)]).length d1) (l ++ [(⟨rc, 1, 1, 0, 0⟩ : Rq)]).length ((l ++ [(⟨rc, 1, 1, 0, 0⟩ : Rq)]).flatMap Rq.cells)) := by
               show w1.ownsRow _ _ _ _ _ _
               rw [List.flatMap_append, List.length_append]
               exact ho1
              have OK1 : Hid (∀ r ∈ l ++ [(⟨rc, 1, 1, 0, 0⟩ : Rq)], okB r = true) := fun r hr => by
               rw [List.mem_append] at hr
               rcases hr with hr | hr
               · exact HOK.out r hr
               · simp only [List.mem_singleton] at hr
                 subst hr
                 exact okB_of HQ.out
              have HLE : (l ++ [(⟨rc, 1, 1, 0, 0⟩ : Rq)]).length = l.length + 1 := by simp
              clear ho1 hg1 hp1 hb0 OA NA RDA GRA HRd hsz RS x0 x1 x2 x3 x4 xf
              go_wp2
              go_roundw
              case rel => exact ⟨k, qf, B1, d1, l ++ [(⟨rc, 1, 1, 0, 0⟩ : Rq)], Nl, by go_num, by rw [HLE], by rw [HLE]; omega, by omega, by omega, by simp [hN], HNB.out, OK1, OO1, NN1, RD1, GR1⟩
              case measure => (simp [intOf]; try omega)
          · have e1 : (u == 1) = false := by simpa using h1
            replace RS : Hid (Rs w (wb.setCell ⟨pX, 1, none⟩ (.int .i64 u)) R A n c qb (w.heap.size + 1) pX Nl B d l #[.int .i64 rc, .int .i64 u, .int .i64 ro, .int .i64 rx, .int .i64 ry]) := RS
            clear h1
            go_wp2_with (fail)
            obtain ⟨Wz, hWz⟩ : ∃ X, X = (wb.setCell ⟨pX, 1, none⟩ (.int .i64 u)) := ⟨_, rfl⟩
            rw [← hWz] at RS ⊢
            clear hWz
            clear x0 x1 x2 x3 x4 xf
            clear xu nf
            refine (pickR 12 RS.out.rd (by omega) (by omega) (by omega)).mono ?_
            rintro e wf ⟨v12, w0, w1, rfl, qf, qf0, qf1, hr, hgr⟩
            replace RS := Lib.hid (RS.out.draw hRlt hr hgr)
            clear hr hgr
            by_cases h12 : v12 = 0
            · subst h12
              obtain ⟨x0, x1, x2, x3, x4, xf⟩ := RS.out.c5
              replace RS := Lib.hid (RS.out.x hOld.out hRlt 0 (.int .i64 0))
              replace RS := Lib.hid (RS.out.x hOld.out hRlt 1 (.int .i64 0))
              replace RS := Lib.hid (RS.out.x hOld.out hRlt 2 (.int .i64 0))
              replace RS := Lib.hid (RS.out.x hOld.out hRlt 3 (.int .i64 0))
              replace RS := Lib.hid (RS.out.x hOld.out hRlt 4 (.int .i64 0))
              replace RS : Hid (Rs w (((((wf.setCell ⟨pX, 0, none⟩ (.int .i64 0)).setCell ⟨pX, 1, none⟩ (.int .i64 0)).setCell ⟨pX, 2, none⟩ (.int .i64 0)).setCell ⟨pX, 3, none⟩ (.int .i64 0)).setCell ⟨pX, 4, none⟩ (.int .i64 0)) R A n c qf (w.heap.size + 1) pX Nl B d l #[.int .i64 0, .int .i64 0, .int .i64 0, .int .i64 0, .int .i64 0]) := RS
              go_upto_region 16 with (fail)
              clear x0 x1 x2 x3 x4 xf
              obtain ⟨Wy, hWy⟩ : ∃ X, X = (((((wf.setCell ⟨pX, 0, none⟩ (.int .i64 0)).setCell ⟨pX, 1, none⟩ (.int .i64 0)).setCell ⟨pX, 2, none⟩ (.int .i64 0)).setCell ⟨pX, 3, none⟩ (.int .i64 0)).setCell ⟨pX, 4, none⟩ (.int .i64 0)) := ⟨_, rfl⟩
              rw [← hWy] at RS ⊢
              clear hWy
              obtain ⟨x0, x1, x2, x3, x4, xf⟩ := RS.out.c5
              obtain ⟨OA, NA, RDA, GRA, hsz⟩ := RS.out.al (.cells #[.int .i64 0, .int .i64 0, .int .i64 0, .int .i64 0, .int .i64 0] 49)
              have HRd := Lib.hid (rq_one Wy 49 ⟨0, 0, 0, 0, 0⟩)
              go_wp2_with (at_builtin; go_loud (refine list_app (f := Rq.cells) (fun _ => rfl) rfl _ _ 31 rfl w.heap.size 49 I (.agg #[.int .i64 0, .int .i64 0, .int .i64 0, .int .i64 0, .int .i64 0]) 40 Try.underlying31 I1.out I2.out I3.out I4.out rfl (by decide) _ l.length (l.flatMap Rq.cells) rfl OA.out _ _ 1 [⟨0, 0, 0, 0, 0⟩] rfl rfl HRd.out (fun h => by cases h) (reqs_one _) (by unfold maxLen; omega) (by omega) (by simp; omega) ?_))
              intro v1 w1 ho1 hg1 hp1
              have hb0 : ∀ x, (Value.slice B l.length d).ownBlock = some x → w.heap.size ≤ x := fun x hx => (own_block_ge OA.out x hx).1
              have RD1 := Lib.hid (RDA.out.rowG hg1 hRlt hOld.out hb0)
              have GR1 := Lib.hid (grown_rowG GRA.out hg1 hb0)
              have NN1 := Lib.hid (own_keepR (base' := 0) (e' := 0) NA.out hg1 (fun x hx => own_row_ne OA.out NA.out (by decide) x hx))
              obtain ⟨B1, d1, rfl, _⟩ := own_form ho1
              have OO1 : Hid (w1.ownsRow w.heap.size 49 5 (.slice B1 (l ++ [(⟨0, 0, 0, 0, 0⟩ : Rq)]).length d1) (l ++ [(⟨0, 0, 0, 0, 0⟩ : Rq)]).length ((l ++ [(⟨0, 0, 0, 0, 0⟩ : Rq)]).flatMap Rq.cells)) := by
               show w1.ownsRow _ _ _ _ _ _
               rw [List.flatMap_append, List.length_append]
               exact ho1
              have OK1 : Hid (∀ r ∈ l ++ [(⟨0, 0, 0, 0, 0⟩ : Rq)], okB r = true) := fun r hr => by
               rw [List.mem_append] at hr
               rcases hr with hr | hr
               · exact HOK.out r hr
               · simp only [List.mem_singleton] at hr
                 subst hr
                 rfl
              have HLE : (l ++ [(⟨0, 0, 0, 0, 0⟩ : Rq)]).length = l.length + 1 := by simp
              clear ho1 hg1 hp1 hb0 OA NA RDA GRA HRd hsz RS x0 x1 x2 x3 x4 xf
              go_wp2
              go_roundw
              case rel => exact ⟨k, qf, B1, d1, l ++ [(⟨0, 0, 0, 0, 0⟩ : Rq)], Nl, by go_num, by rw [HLE], by rw [HLE]; omega, by omega, by omega, by simp [hN], HNB.out, OK1, OO1, NN1, RD1, GR1⟩
              case measure => (simp [intOf]; try omega)
            · have h12' : (v12 == 0) = false := by simpa using h12
              clear h12
              obtain ⟨x0, x1, x2, x3, x4, xf⟩ := RS.out.c5
              obtain ⟨OA, NA, RDA, GRA, hsz⟩ := RS.out.al (.cells #[.int .i64 rc, .int .i64 u, .int .i64 ro, .int .i64 rx, .int .i64 ry] 49)
              have HRd := Lib.hid (rq_one wf 49 ⟨rc, u, ro, rx, ry⟩)
              go_wp2_with (at_builtin; go_loud (refine list_app (f := Rq.cells) (fun _ => rfl) rfl _ _ 31 rfl w.heap.size 49 I (.agg #[.int .i64 0, .int .i64 0, .int .i64 0, .int .i64 0, .int .i64 0]) 40 Try.underlying31 I1.out I2.out I3.out I4.out rfl (by decide) _ l.length (l.flatMap Rq.cells) rfl OA.out _ _ 1 [⟨rc, u, ro, rx, ry⟩] rfl rfl HRd.out (fun h => by cases h) (reqs_one _) (by unfold maxLen; omega) (by omega) (by simp; omega) ?_))
              intro v1 w1 ho1 hg1 hp1
              have hb0 : ∀ x, (Value.slice B l.length d).ownBlock = some x → w.heap.size ≤ x := fun x hx => (own_block_ge OA.out x hx).1
              have RD1 := Lib.hid (RDA.out.rowG hg1 hRlt hOld.out hb0)
              have GR1 := Lib.hid (grown_rowG GRA.out hg1 hb0)
              have NN1 := Lib.hid (own_keepR (base' := 0) (e' := 0) NA.out hg1 (fun x hx => own_row_ne OA.out NA.out (by decide) x hx))
              obtain ⟨B1, d1, rfl, _⟩ := own_form ho1
              have OO1 : Hid (w1.ownsRow w.heap.size 49 5 (.slice B1 (l ++ [(⟨rc, u, ro, rx, ry⟩ : Rq)]).length d1) (l ++ [(⟨rc, u, ro, rx, ry⟩ : Rq)]).length ((l ++ [(⟨rc, u, ro, rx, ry⟩ : Rq)]).flatMap Rq.cells)) := by
               show w1.ownsRow _ _ _ _ _ _
               rw [List.flatMap_append, List.length_append]
               exact ho1
              have OK1 : Hid (∀ r ∈ l ++ [(⟨rc, u, ro, rx, ry⟩ : Rq)], okB r = true) := fun r hr => by
               rw [List.mem_append] at hr
               rcases hr with hr | hr
               · exact HOK.out r hr
               · simp only [List.mem_singleton] at hr
                 subst hr
                 exact okB_of HQ.out
              have HLE : (l ++ [(⟨rc, u, ro, rx, ry⟩ : Rq)]).length = l.length + 1 := by simp
              clear ho1 hg1 hp1 hb0 OA NA RDA GRA HRd hsz RS x0 x1 x2 x3 x4 xf
              go_wp2
              go_roundw
              case rel => exact ⟨k, qf, B1, d1, l ++ [(⟨rc, u, ro, rx, ry⟩ : Rq)], Nl, by go_num, by rw [HLE], by rw [HLE]; omega, by omega, by omega, by simp [hN], HNB.out, OK1, OO1, NN1, RD1, GR1⟩
              case measure => (simp [intOf]; try omega)
        · have d0 : decide (0 < u) = false := by simpa using hu0
          obtain ⟨x0, x1, x2, x3, x4, xf⟩ := RS.out.c5
          have nf : ∀ j, wb.frozen? ⟨w.heap.size + 1, j, none⟩ = false := fun j => RS.out.no.frozenAt j
          have gx := RS.out.gx
          have gx2 : pX ≠ w.heap.size + 1 := fun e => gx e.symm
          have xu : wb.cell? ⟨w.heap.size + 1, j, none⟩ = some (.int .i64 u) := by rw [RS.out.no.cellAt j (by omega)]; simp [hjl, HU.out]
          by_cases h1 : rn = 1
          · have e1 : (rn == 1) = true := by simpa using h1
            replace RS := Lib.hid (RS.out.x hOld.out hRlt 0 (.int .i64 rc))
            replace RS := Lib.hid (RS.out.x hOld.out hRlt 1 (.int .i64 1))
            replace RS := Lib.hid (RS.out.x hOld.out hRlt 2 (.int .i64 1))
            replace RS := Lib.hid (RS.out.x hOld.out hRlt 3 (.int .i64 0))
            replace RS := Lib.hid (RS.out.x hOld.out hRlt 4 (.int .i64 0))
            replace RS : Hid (Rs w (((((wb.setCell ⟨pX, 0, none⟩ (.int .i64 rc)).setCell ⟨pX, 1, none⟩ (.int .i64 1)).setCell ⟨pX, 2, none⟩ (.int .i64 1)).setCell ⟨pX, 3, none⟩ (.int .i64 0)).setCell ⟨pX, 4, none⟩ (.int .i64 0)) R A n c qb (w.heap.size + 1) pX Nl B d l #[.int .i64 rc, .int .i64 1, .int .i64 1, .int .i64 0, .int .i64 0]) := RS
            replace HQ := Lib.hid (req_join HQ.out)
            clear h1
            go_wp2_with (fail)
            obtain ⟨Wz, hWz⟩ : ∃ X, X = (((((wb.setCell ⟨pX, 0, none⟩ (.int .i64 rc)).setCell ⟨pX, 1, none⟩ (.int .i64 1)).setCell ⟨pX, 2, none⟩ (.int .i64 1)).setCell ⟨pX, 3, none⟩ (.int .i64 0)).setCell ⟨pX, 4, none⟩ (.int .i64 0)) := ⟨_, rfl⟩
            rw [← hWz] at RS ⊢
            clear hWz
            clear x0 x1 x2 x3 x4 xf
            clear xu nf
            refine (pickR 12 RS.out.rd (by omega) (by omega) (by omega)).mono ?_
            rintro e wf ⟨v12, w0, w1, rfl, qf, qf0, qf1, hr, hgr⟩
            replace RS := Lib.hid (RS.out.draw hRlt hr hgr)
            clear hr hgr
            by_cases h12 : v12 = 0
            · subst h12
              obtain ⟨x0, x1, x2, x3, x4, xf⟩ := RS.out.c5
              replace RS := Lib.hid (RS.out.x hOld.out hRlt 0 (.int .i64 0))
              replace RS := Lib.hid (RS.out.x hOld.out hRlt 1 (.int .i64 0))
              replace RS := Lib.hid (RS.out.x hOld.out hRlt 2 (.int .i64 0))
              replace RS := Lib.hid (RS.out.x hOld.out hRlt 3 (.int .i64 0))
              replace RS := Lib.hid (RS.out.x hOld.out hRlt 4 (.int .i64 0))
              replace RS : Hid (Rs w (((((wf.setCell ⟨pX, 0, none⟩ (.int .i64 0)).setCell ⟨pX, 1, none⟩ (.int .i64 0)).setCell ⟨pX, 2, none⟩ (.int .i64 0)).setCell ⟨pX, 3, none⟩ (.int .i64 0)).setCell ⟨pX, 4, none⟩ (.int .i64 0)) R A n c qf (w.heap.size + 1) pX Nl B d l #[.int .i64 0, .int .i64 0, .int .i64 0, .int .i64 0, .int .i64 0]) := RS
              go_upto_region 16 with (fail)
              clear x0 x1 x2 x3 x4 xf
              obtain ⟨Wy, hWy⟩ : ∃ X, X = (((((wf.setCell ⟨pX, 0, none⟩ (.int .i64 0)).setCell ⟨pX, 1, none⟩ (.int .i64 0)).setCell ⟨pX, 2, none⟩ (.int .i64 0)).setCell ⟨pX, 3, none⟩ (.int .i64 0)).setCell ⟨pX, 4, none⟩ (.int .i64 0)) := ⟨_, rfl⟩
              rw [← hWy] at RS ⊢
              clear hWy
              obtain ⟨x0, x1, x2, x3, x4, xf⟩ := RS.out.c5
              obtain ⟨OA, NA, RDA, GRA, hsz⟩ := RS.out.al (.cells #[.int .i64 0, .int .i64 0, .int .i64 0, .int .i64 0, .int .i64 0] 49)
              have HRd := Lib.hid (rq_one Wy 49 ⟨0, 0, 0, 0, 0⟩)
              go_wp2_with (at_builtin; go_loud (refine list_app (f := Rq.cells) (fun _ => rfl) rfl _ _ 31 rfl w.heap.size 49 I (.agg #[.int .i64 0, .int .i64 0, .int .i64 0, .int .i64 0, .int .i64 0]) 40 Try.underlying31 I1.out I2.out I3.out I4.out rfl (by decide) _ l.length (l.flatMap Rq.cells) rfl OA.out _ _ 1 [⟨0, 0, 0, 0, 0⟩] rfl rfl HRd.out (fun h => by cases h) (reqs_one _) (by unfold maxLen; omega) (by omega) (by simp; omega) ?_))
              intro v1 w1 ho1 hg1 hp1
              have hb0 : ∀ x, (Value.slice B l.length d).ownBlock = some x → w.heap.size ≤ x := fun x hx => (own_block_ge OA.out x hx).1
              have RD1 := Lib.hid (RDA.out.rowG hg1 hRlt hOld.out hb0)
              have GR1 := Lib.hid (grown_rowG GRA.out hg1 hb0)
              have NN1 := Lib.hid (own_keepR (base' := 0) (e' := 0) NA.out hg1 (fun x hx => own_row_ne OA.out NA.out (by decide) x hx))
              obtain ⟨B1, d1, rfl, _⟩ := own_form ho1
              have OO1 : Hid (w1.ownsRow w.heap.size 49 5 (.slice B1 (l ++ [(⟨0, 0, 0, 0, 0⟩ : Rq)]).length d1) (l ++ [(⟨0, 0, 0, 0, 0⟩ : Rq)]).length ((l ++ [(⟨0, 0, 0, 0, 0⟩ : Rq)]).flatMap Rq.cells)) := by
               show w1.ownsRow _ _ _ _ _ _
               rw [List.flatMap_append, List.length_append]
               exact ho1
              have OK1 : Hid (∀ r ∈ l ++ [(⟨0, 0, 0, 0, 0⟩ : Rq)], okB r = true) := fun r hr => by
               rw [List.mem_append] at hr
               rcases hr with hr | hr
               · exact HOK.out r hr
               · simp only [List.mem_singleton] at hr
                 subst hr
                 rfl
              have HLE : (l ++ [(⟨0, 0, 0, 0, 0⟩ : Rq)]).length = l.length + 1 := by simp
              clear ho1 hg1 hp1 hb0 OA NA RDA GRA HRd hsz RS x0 x1 x2 x3 x4 xf
              go_wp2
              go_roundw
              case rel => exact ⟨k, qf, B1, d1, l ++ [(⟨0, 0, 0, 0, 0⟩ : Rq)], Nl, by go_num, by rw [HLE], by rw [HLE]; omega, by omega, by omega, by simp [hN], HNB.out, OK1, OO1, NN1, RD1, GR1⟩
              case measure => (simp [intOf]; try omega)
            · have h12' : (v12 == 0) = false := by simpa using h12
              clear h12
              obtain ⟨x0, x1, x2, x3, x4, xf⟩ := RS.out.c5
              obtain ⟨OA, NA, RDA, GRA, hsz⟩ := RS.out.al (.cells #[.int .i64 rc, .int .i64 1, .int .i64 1, .int .i64 0, .int .i64 0] 49)
              have HRd := Lib.hid (rq_one wf 49 ⟨rc, 1, 1, 0, 0⟩)
              go_wp2_with (at_builtin; go_loud (refine list_app (f := Rq.cells) (fun _ => rfl) rfl _ _ 31 rfl w.heap.size 49 I (.agg #[.int .i64 0, .int .i64 0, .int .i64 0, .int .i64 0, .int .i64 0]) 40 Try.underlying31 I1.out I2.out I3.out I4.out rfl (by decide) _ l.length (l.flatMap Rq.cells) rfl OA.out _ _ 1 [⟨rc, 1, 1, 0, 0⟩] rfl rfl HRd.out (fun h => by cases h) (reqs_one _) (by unfold maxLen; omega) (by omega) (by simp; omega) ?_))
              intro v1 w1 ho1 hg1 hp1
              have hb0 : ∀ x, (Value.slice B l.length d).ownBlock = some x → w.heap.size ≤ x := fun x hx => (own_block_ge OA.out x hx).1
              have RD1 := Lib.hid (RDA.out.rowG hg1 hRlt hOld.out hb0)
              have GR1 := Lib.hid (grown_rowG GRA.out hg1 hb0)
              have NN1 := Lib.hid (own_keepR (base' := 0) (e' := 0) NA.out hg1 (fun x hx => own_row_ne OA.out NA.out (by decide) x hx))
              obtain ⟨B1, d1, rfl, _⟩ := own_form ho1
              have OO1 : Hid (w1.ownsRow w.heap.size 49 5 (.slice B1 (l ++ [(⟨rc, 1, 1, 0, 0⟩ : Rq)]).length d1) (l ++ [(⟨rc, 1, 1, 0, 0⟩ : Rq)]).length ((l ++ [(⟨rc, 1, 1, 0, 0⟩ : Rq)]).flatMap Rq.cells)) := by
               show w1.ownsRow _ _ _ _ _ _
               rw [List.flatMap_append, List.length_append]
               exact ho1
              have OK1 : Hid (∀ r ∈ l ++ [(⟨rc, 1, 1, 0, 0⟩ : Rq)], okB r = true) := fun r hr => by
               rw [List.mem_append] at hr
               rcases hr with hr | hr
               · exact HOK.out r hr
               · simp only [List.mem_singleton] at hr
                 subst hr
                 exact okB_of HQ.out
              have HLE : (l ++ [(⟨rc, 1, 1, 0, 0⟩ : Rq)]).length = l.length + 1 := by simp
              clear ho1 hg1 hp1 hb0 OA NA RDA GRA HRd hsz RS x0 x1 x2 x3 x4 xf
              go_wp2
              go_roundw
              case rel => exact ⟨k, qf, B1, d1, l ++ [(⟨rc, 1, 1, 0, 0⟩ : Rq)], Nl, by go_num, by rw [HLE], by rw [HLE]; omega, by omega, by omega, by simp [hN], HNB.out, OK1, OO1, NN1, RD1, GR1⟩
              case measure => (simp [intOf]; try omega)
          · have e1 : (rn == 1) = false := by simpa using h1
            replace RS : Hid (Rs w wb R A n c qb (w.heap.size + 1) pX Nl B d l #[.int .i64 rc, .int .i64 rn, .int .i64 ro, .int .i64 rx, .int .i64 ry]) := RS
            clear h1
            go_wp2_with (fail)
            obtain ⟨Wz, hWz⟩ : ∃ X, X = wb := ⟨_, rfl⟩
            rw [← hWz] at RS ⊢
            clear hWz
            clear x0 x1 x2 x3 x4 xf
            clear xu nf
            refine (pickR 12 RS.out.rd (by omega) (by omega) (by omega)).mono ?_
            rintro e wf ⟨v12, w0, w1, rfl, qf, qf0, qf1, hr, hgr⟩
            replace RS := Lib.hid (RS.out.draw hRlt hr hgr)
            clear hr hgr
            by_cases h12 : v12 = 0
            · subst h12
              obtain ⟨x0, x1, x2, x3, x4, xf⟩ := RS.out.c5
              replace RS := Lib.hid (RS.out.x hOld.out hRlt 0 (.int .i64 0))
              replace RS := Lib.hid (RS.out.x hOld.out hRlt 1 (.int .i64 0))
              replace RS := Lib.hid (RS.out.x hOld.out hRlt 2 (.int .i64 0))
              replace RS := Lib.hid (RS.out.x hOld.out hRlt 3 (.int .i64 0))
              replace RS := Lib.hid (RS.out.x hOld.out hRlt 4 (.int .i64 0))
              replace RS : Hid (Rs w (((((wf.setCell ⟨pX, 0, none⟩ (.int .i64 0)).setCell ⟨pX, 1, none⟩ (.int .i64 0)).setCell ⟨pX, 2, none⟩ (.int .i64 0)).setCell ⟨pX, 3, none⟩ (.int .i64 0)).setCell ⟨pX, 4, none⟩ (.int .i64 0)) R A n c qf (w.heap.size + 1) pX Nl B d l #[.int .i64 0, .int .i64 0, .int .i64 0, .int .i64 0, .int .i64 0]) := RS
              go_upto_region 16 with (fail)
              clear x0 x1 x2 x3 x4 xf
              obtain ⟨Wy, hWy⟩ : ∃ X, X = (((((wf.setCell ⟨pX, 0, none⟩ (.int .i64 0)).setCell ⟨pX, 1, none⟩ (.int .i64 0)).setCell ⟨pX, 2, none⟩ (.int .i64 0)).setCell ⟨pX, 3, none⟩ (.int .i64 0)).setCell ⟨pX, 4, none⟩ (.int .i64 0)) := ⟨_, rfl⟩
              rw [← hWy] at RS ⊢
              clear hWy
              obtain ⟨x0, x1, x2, x3, x4, xf⟩ := RS.out.c5
              obtain ⟨OA, NA, RDA, GRA, hsz⟩ := RS.out.al (.cells #[.int .i64 0, .int .i64 0, .int .i64 0, .int .i64 0, .int .i64 0] 49)
              have HRd := Lib.hid (rq_one Wy 49 ⟨0, 0, 0, 0, 0⟩)
              go_wp2_with (at_builtin; go_loud (refine list_app (f := Rq.cells) (fun _ => rfl) rfl _ _ 31 rfl w.heap.size 49 I (.agg #[.int .i64 0, .int .i64 0, .int .i64 0, .int .i64 0, .int .i64 0]) 40 Try.underlying31 I1.out I2.out I3.out I4.out rfl (by decide) _ l.length (l.flatMap Rq.cells) rfl OA.out _ _ 1 [⟨0, 0, 0, 0, 0⟩] rfl rfl HRd.out (fun h => by cases h) (reqs_one _) (by unfold maxLen; omega) (by omega) (by simp; omega) ?_))
              intro v1 w1 ho1 hg1 hp1
              have hb0 : ∀ x, (Value.slice B l.length d).ownBlock = some x → w.heap.size ≤ x := fun x hx => (own_block_ge OA.out x hx).1
              have RD1 := Lib.hid (RDA.out.rowG hg1 hRlt hOld.out hb0)
              have GR1 := Lib.hid (grown_rowG GRA.out hg1 hb0)
              have NN1 := Lib.hid (own_keepR (base' := 0) (e' := 0) NA.out hg1 (fun x hx => own_row_ne OA.out NA.out (by decide) x hx))
              obtain ⟨B1, d1, rfl, _⟩ := own_form ho1
              have OO1 : Hid (w1.ownsRow w.heap.size 49 5 (.slice B1 (l ++ [(⟨0, 0, 0, 0, 0⟩ : Rq)]).length d1) (l ++ [(⟨0, 0, 0, 0, 0⟩ : Rq)]).length ((l ++ [(⟨0, 0, 0, 0, 0⟩ : Rq)]).flatMap Rq.cells)) := by
               show w1.ownsRow _ _ _ _ _ _
               rw [List.flatMap_append, List.length_append]
               exact ho1
              have OK1 : Hid (∀ r ∈ l ++ [(⟨0, 0, 0, 0, 0⟩ : Rq)], okB r = true) := fun r hr => by
               rw [List.mem_append] at hr
               rcases hr with hr | hr
               · exact HOK.out r hr
               · simp only [List.mem_singleton] at hr
                 subst hr
                 rfl
              have HLE : (l ++ [(⟨0, 0, 0, 0, 0⟩ : Rq)]).length = l.length + 1 := by simp
              clear ho1 hg1 hp1 hb0 OA NA RDA GRA HRd hsz RS x0 x1 x2 x3 x4 xf
              go_wp2
              go_roundw
              case rel => exact ⟨k, qf, B1, d1, l ++ [(⟨0, 0, 0, 0, 0⟩ : Rq)], Nl, by go_num, by rw [HLE], by rw [HLE]; omega, by omega, by omega, by simp [hN], HNB.out, OK1, OO1, NN1, RD1, GR1⟩
              case measure => (simp [intOf]; try omega)
            · have h12' : (v12 == 0) = false := by simpa using h12
              clear h12
              obtain ⟨x0, x1, x2, x3, x4, xf⟩ := RS.out.c5
              obtain ⟨OA, NA, RDA, GRA, hsz⟩ := RS.out.al (.cells #[.int .i64 rc, .int .i64 rn, .int .i64 ro, .int .i64 rx, .int .i64 ry] 49)
              have HRd := Lib.hid (rq_one wf 49 ⟨rc, rn, ro, rx, ry⟩)
              go_wp2_with (at_builtin; go_loud (refine list_app (f := Rq.cells) (fun _ => rfl) rfl _ _ 31 rfl w.heap.size 49 I (.agg #[.int .i64 0, .int .i64 0, .int .i64 0, .int .i64 0, .int .i64 0]) 40 Try.underlying31 I1.out I2.out I3.out I4.out rfl (by decide) _ l.length (l.flatMap Rq.cells) rfl OA.out _ _ 1 [⟨rc, rn, ro, rx, ry⟩] rfl rfl HRd.out (fun h => by cases h) (reqs_one _) (by unfold maxLen; omega) (by omega) (by simp; omega) ?_))
              intro v1 w1 ho1 hg1 hp1
              have hb0 : ∀ x, (Value.slice B l.length d).ownBlock = some x → w.heap.size ≤ x := fun x hx => (own_block_ge OA.out x hx).1
              have RD1 := Lib.hid (RDA.out.rowG hg1 hRlt hOld.out hb0)
              have GR1 := Lib.hid (grown_rowG GRA.out hg1 hb0)
              have NN1 := Lib.hid (own_keepR (base' := 0) (e' := 0) NA.out hg1 (fun x hx => own_row_ne OA.out NA.out (by decide) x hx))
              obtain ⟨B1, d1, rfl, _⟩ := own_form ho1
              have OO1 : Hid (w1.ownsRow w.heap.size 49 5 (.slice B1 (l ++ [(⟨rc, rn, ro, rx, ry⟩ : Rq)]).length d1) (l ++ [(⟨rc, rn, ro, rx, ry⟩ : Rq)]).length ((l ++ [(⟨rc, rn, ro, rx, ry⟩ : Rq)]).flatMap Rq.cells)) := by
               show w1.ownsRow _ _ _ _ _ _
               rw [List.flatMap_append, List.length_append]
               exact ho1
              have OK1 : Hid (∀ r ∈ l ++ [(⟨rc, rn, ro, rx, ry⟩ : Rq)], okB r = true) := fun r hr => by
               rw [List.mem_append] at hr
               rcases hr with hr | hr
               · exact HOK.out r hr
               · simp only [List.mem_singleton] at hr
                 subst hr
                 exact okB_of HQ.out
              have HLE : (l ++ [(⟨rc, rn, ro, rx, ry⟩ : Rq)]).length = l.length + 1 := by simp
              clear ho1 hg1 hp1 hb0 OA NA RDA GRA HRd hsz RS x0 x1 x2 x3 x4 xf
              go_wp2
              go_roundw
              case rel => exact ⟨k, qf, B1, d1, l ++ [(⟨rc, rn, ro, rx, ry⟩ : Rq)], Nl, by go_num, by rw [HLE], by rw [HLE]; omega, by omega, by omega, by simp [hN], HNB.out, OK1, OO1, NN1, RD1, GR1⟩
              case measure => (simp [intOf]; try omega)
    · have d30 : decide (u < 30) = false := by simpa using h30
      have u30 : u = 30 := by omega
      have d0 : decide (0 < u) = true := by simp; omega
      clear u30
      replace HQ := Lib.hid (req_num HQ.out u (by omega))
      obtain ⟨x0, x1, x2, x3, x4, xf⟩ := RS.out.c5
      have nf : ∀ j, W1.frozen? ⟨w.heap.size + 1, j, none⟩ = false := fun j => RS.out.no.frozenAt j
      have gx := RS.out.gx
      have gx2 : pX ≠ w.heap.size + 1 := fun e => gx e.symm
      have xu : W1.cell? ⟨w.heap.size + 1, j, none⟩ = some (.int .i64 u) := by rw [RS.out.no.cellAt j (by omega)]; simp [hjl, HU.out]
      replace RS := Lib.hid (RS.out.x hOld.out hRlt 1 (.int .i64 u))
      by_cases h1 : u = 1
      · have e1 : (u == 1) = true := by simpa using h1
        replace RS := Lib.hid (RS.out.x hOld.out hRlt 0 (.int .i64 rc))
        replace RS := Lib.hid (RS.out.x hOld.out hRlt 1 (.int .i64 1))
        replace RS := Lib.hid (RS.out.x hOld.out hRlt 2 (.int .i64 1))
        replace RS := Lib.hid (RS.out.x hOld.out hRlt 3 (.int .i64 0))
        replace RS := Lib.hid (RS.out.x hOld.out hRlt 4 (.int .i64 0))
        replace RS : Hid (Rs w ((((((W1.setCell ⟨pX, 1, none⟩ (.int .i64 u)).setCell ⟨pX, 0, none⟩ (.int .i64 rc)).setCell ⟨pX, 1, none⟩ (.int .i64 1)).setCell ⟨pX, 2, none⟩ (.int .i64 1)).setCell ⟨pX, 3, none⟩ (.int .i64 0)).setCell ⟨pX, 4, none⟩ (.int .i64 0)) R A n c qa (w.heap.size + 1) pX Nl B d l #[.int .i64 rc, .int .i64 1, .int .i64 1, .int .i64 0, .int .i64 0]) := RS
        replace HQ := Lib.hid (req_join HQ.out)
        clear h1
        go_wp2_with (fail)
        obtain ⟨Wz, hWz⟩ : ∃ X, X = ((((((W1.setCell ⟨pX, 1, none⟩ (.int .i64 u)).setCell ⟨pX, 0, none⟩ (.int .i64 rc)).setCell ⟨pX, 1, none⟩ (.int .i64 1)).setCell ⟨pX, 2, none⟩ (.int .i64 1)).setCell ⟨pX, 3, none⟩ (.int .i64 0)).setCell ⟨pX, 4, none⟩ (.int .i64 0)) := ⟨_, rfl⟩
        rw [← hWz] at RS ⊢
        clear hWz
        clear x0 x1 x2 x3 x4 xf
        clear xu nf
        refine (pickR 12 RS.out.rd (by omega) (by omega) (by omega)).mono ?_
        rintro e wf ⟨v12, w0, w1, rfl, qf, qf0, qf1, hr, hgr⟩
        replace RS := Lib.hid (RS.out.draw hRlt hr hgr)
        clear hr hgr
        by_cases h12 : v12 = 0
        · subst h12
          obtain ⟨x0, x1, x2, x3, x4, xf⟩ := RS.out.c5
          replace RS := Lib.hid (RS.out.x hOld.out hRlt 0 (.int .i64 0))
          replace RS := Lib.hid (RS.out.x hOld.out hRlt 1 (.int .i64 0))
          replace RS := Lib.hid (RS.out.x hOld.out hRlt 2 (.int .i64 0))
          replace RS := Lib.hid (RS.out.x hOld.out hRlt 3 (.int .i64 0))
          replace RS := Lib.hid (RS.out.x hOld.out hRlt 4 (.int .i64 0))
          replace RS : Hid (Rs w (((((wf.setCell ⟨pX, 0, none⟩ (.int .i64 0)).setCell ⟨pX, 1, none⟩ (.int .i64 0)).setCell ⟨pX, 2, none⟩ (.int .i64 0)).setCell ⟨pX, 3, none⟩ (.int .i64 0)).setCell ⟨pX, 4, none⟩ (.int .i64 0)) R A n c qf (w.heap.size + 1) pX Nl B d l #[.int .i64 0, .int .i64 0, .int .i64 0, .int .i64 0, .int .i64 0]) := RS
          go_upto_region 16 with (fail)
          clear x0 x1 x2 x3 x4 xf
          obtain ⟨Wy, hWy⟩ : ∃ X, X = (((((wf.setCell ⟨pX, 0, none⟩ (.int .i64 0)).setCell ⟨pX, 1, none⟩ (.int .i64 0)).setCell ⟨pX, 2, none⟩ (.int .i64 0)).setCell ⟨pX, 3, none⟩ (.int .i64 0)).setCell ⟨pX, 4, none⟩ (.int .i64 0)) := ⟨_, rfl⟩
          rw [← hWy] at RS ⊢
          clear hWy
          obtain ⟨x0, x1, x2, x3, x4, xf⟩ := RS.out.c5
          obtain ⟨OA, NA, RDA, GRA, hsz⟩ := RS.out.al (.cells #[.int .i64 0, .int .i64 0, .int .i64 0, .int .i64 0, .int .i64 0] 49)
          have HRd := Lib.hid (rq_one Wy 49 ⟨0, 0, 0, 0, 0⟩)
          go_wp2_with (at_builtin; go_loud (refine list_app (f := Rq.cells) (fun _ => rfl) rfl _ _ 31 rfl w.heap.size 49 I (.agg #[.int .i64 0, .int .i64 0, .int .i64 0, .int .i64 0, .int .i64 0]) 40 Try.underlying31 I1.out I2.out I3.out I4.out rfl (by decide) _ l.length (l.flatMap Rq.cells) rfl OA.out _ _ 1 [⟨0, 0, 0, 0, 0⟩] rfl rfl HRd.out (fun h => by cases h) (reqs_one _) (by unfold maxLen; omega) (by omega) (by simp; omega) ?_))
          intro v1 w1 ho1 hg1 hp1
          have hb0 : ∀ x, (Value.slice B l.length d).ownBlock = some x → w.heap.size ≤ x := fun x hx => (own_block_ge OA.out x hx).1
          have RD1 := Lib.hid (RDA.out.rowG hg1 hRlt hOld.out hb0)
          have GR1 := Lib.hid (grown_rowG GRA.out hg1 hb0)
          have NN1 := Lib.hid (own_keepR (base' := 0) (e' := 0) NA.out hg1 (fun x hx => own_row_ne OA.out NA.out (by decide) x hx))
          obtain ⟨B1, d1, rfl, _⟩ := own_form ho1
          have OO1 : Hid (w1.ownsRow w.heap.size 49 5 (.slice B1 (l ++ [(⟨0, 0, 0, 0, 0⟩ : Rq)]).length d1) (l ++ [(⟨0, 0, 0, 0, 0⟩ : Rq)]).length ((l ++ [(⟨0, 0, 0, 0, 0⟩ : Rq)]).flatMap Rq.cells)) := by
           show w1.ownsRow _ _ _ _ _ _
           rw [List.flatMap_append, List.length_append]
           exact ho1
          have OK1 : Hid (∀ r ∈ l ++ [(⟨0, 0, 0, 0, 0⟩ : Rq)], okB r = true) := fun r hr => by
           rw [List.mem_append] at hr
           rcases hr with hr | hr
           · exact HOK.out r hr
           · simp only [List.mem_singleton] at hr
             subst hr
             rfl
          have HLE : (l ++ [(⟨0, 0, 0, 0, 0⟩ : Rq)]).length = l.length + 1 := by simp
          clear ho1 hg1 hp1 hb0 OA NA RDA GRA HRd hsz RS x0 x1 x2 x3 x4 xf
          go_wp2
          go_roundw
          case rel => exact ⟨k, qf, B1, d1, l ++ [(⟨0, 0, 0, 0, 0⟩ : Rq)], Nl, by go_num, by rw [HLE], by rw [HLE]; omega, by omega, by omega, by simp [hN], HNB.out, OK1, OO1, NN1, RD1, GR1⟩
          case measure => (simp [intOf]; try omega)
        · have h12' : (v12 == 0) = false := by simpa using h12
          clear h12
          obtain ⟨x0, x1, x2, x3, x4, xf⟩ := RS.out.c5
          obtain ⟨OA, NA, RDA, GRA, hsz⟩ := RS.out.al (.cells #[.int .i64 rc, .int .i64 1, .int .i64 1, .int .i64 0, .int .i64 0] 49)
          have HRd := Lib.hid (rq_one wf 49 ⟨rc, 1, 1, 0, 0⟩)
          go_wp2_with (at_builtin; go_loud (refine list_app (f := Rq.cells) (fun _ => rfl) rfl _ _ 31 rfl w.heap.size 49 I (.agg #[.int .i64 0, .int .i64 0, .int .i64 0, .int .i64 0, .int .i64 0]) 40 Try.underlying31 I1.out I2.out I3.out I4.out rfl (by decide) _ l.length (l.flatMap Rq.cells) rfl OA.out _ _ 1 [⟨rc, 1, 1, 0, 0⟩] rfl rfl HRd.out (fun h => by cases h) (reqs_one _) (by unfold maxLen; omega) (by omega) (by simp; omega) ?_))
          intro v1 w1 ho1 hg1 hp1
          have hb0 : ∀ x, (Value.slice B l.length d).ownBlock = some x → w.heap.size ≤ x := fun x hx => (own_block_ge OA.out x hx).1
          have RD1 := Lib.hid (RDA.out.rowG hg1 hRlt hOld.out hb0)
          have GR1 := Lib.hid (grown_rowG GRA.out hg1 hb0)
          have NN1 := Lib.hid (own_keepR (base' := 0) (e' := 0) NA.out hg1 (fun x hx => own_row_ne OA.out NA.out (by decide) x hx))
          obtain ⟨B1, d1, rfl, _⟩ := own_form ho1
          have OO1 : Hid (w1.ownsRow w.heap.size 49 5 (.slice B1 (l ++ [(⟨rc, 1, 1, 0, 0⟩ : Rq)]).length d1) (l ++ [(⟨rc, 1, 1, 0, 0⟩ : Rq)]).length ((l ++ [(⟨rc, 1, 1, 0, 0⟩ : Rq)]).flatMap Rq.cells)) := by
           show w1.ownsRow _ _ _ _ _ _
           rw [List.flatMap_append, List.length_append]
           exact ho1
          have OK1 : Hid (∀ r ∈ l ++ [(⟨rc, 1, 1, 0, 0⟩ : Rq)], okB r = true) := fun r hr => by
           rw [List.mem_append] at hr
           rcases hr with hr | hr
           · exact HOK.out r hr
           · simp only [List.mem_singleton] at hr
             subst hr
             exact okB_of HQ.out
          have HLE : (l ++ [(⟨rc, 1, 1, 0, 0⟩ : Rq)]).length = l.length + 1 := by simp
          clear ho1 hg1 hp1 hb0 OA NA RDA GRA HRd hsz RS x0 x1 x2 x3 x4 xf
          go_wp2
          go_roundw
          case rel => exact ⟨k, qf, B1, d1, l ++ [(⟨rc, 1, 1, 0, 0⟩ : Rq)], Nl, by go_num, by rw [HLE], by rw [HLE]; omega, by omega, by omega, by simp [hN], HNB.out, OK1, OO1, NN1, RD1, GR1⟩
          case measure => (simp [intOf]; try omega)
      · have e1 : (u == 1) = false := by simpa using h1
        replace RS : Hid (Rs w (W1.setCell ⟨pX, 1, none⟩ (.int .i64 u)) R A n c qa (w.heap.size + 1) pX Nl B d l #[.int .i64 rc, .int .i64 u, .int .i64 ro, .int .i64 rx, .int .i64 ry]) := RS
        clear h1
        go_wp2_with (fail)
        obtain ⟨Wz, hWz⟩ : ∃ X, X = (W1.setCell ⟨pX, 1, none⟩ (.int .i64 u)) := ⟨_, rfl⟩
        rw [← hWz] at RS ⊢
        clear hWz
        clear x0 x1 x2 x3 x4 xf
        clear xu nf
        refine (pickR 12 RS.out.rd (by omega) (by omega) (by omega)).mono ?_
        rintro e wf ⟨v12, w0, w1, rfl, qf, qf0, qf1, hr, hgr⟩
        replace RS := Lib.hid (RS.out.draw hRlt hr hgr)
        clear hr hgr
        by_cases h12 : v12 = 0
        · subst h12
          obtain ⟨x0, x1, x2, x3, x4, xf⟩ := RS.out.c5
          replace RS := Lib.hid (RS.out.x hOld.out hRlt 0 (.int .i64 0))
          replace RS := Lib.hid (RS.out.x hOld.out hRlt 1 (.int .i64 0))
          replace RS := Lib.hid (RS.out.x hOld.out hRlt 2 (.int .i64 0))
          replace RS := Lib.hid (RS.out.x hOld.out hRlt 3 (.int .i64 0))
          replace RS := Lib.hid (RS.out.x hOld.out hRlt 4 (.int .i64 0))
          replace RS : Hid (Rs w (((((wf.setCell ⟨pX, 0, none⟩ (.int .i64 0)).setCell ⟨pX, 1, none⟩ (.int .i64 0)).setCell ⟨pX, 2, none⟩ (.int .i64 0)).setCell ⟨pX, 3, none⟩ (.int .i64 0)).setCell ⟨pX, 4, none⟩ (.int .i64 0)) R A n c qf (w.heap.size + 1) pX Nl B d l #[.int .i64 0, .int .i64 0, .int .i64 0, .int .i64 0, .int .i64 0]) := RS
          go_upto_region 16 with (fail)
          clear x0 x1 x2 x3 x4 xf
          obtain ⟨Wy, hWy⟩ : ∃ X, X = (((((wf.setCell ⟨pX, 0, none⟩ (.int .i64 0)).setCell ⟨pX, 1, none⟩ (.int .i64 0)).setCell ⟨pX, 2, none⟩ (.int .i64 0)).setCell ⟨pX, 3, none⟩ (.int .i64 0)).setCell ⟨pX, 4, none⟩ (.int .i64 0)) := ⟨_, rfl⟩
          rw [← hWy] at RS ⊢
          clear hWy
          obtain ⟨x0, x1, x2, x3, x4, xf⟩ := RS.out.c5
          obtain ⟨OA, NA, RDA, GRA, hsz⟩ := RS.out.al (.cells #[.int .i64 0, .int .i64 0, .int .i64 0, .int .i64 0, .int .i64 0] 49)
          have HRd := Lib.hid (rq_one Wy 49 ⟨0, 0, 0, 0, 0⟩)
          go_wp2_with (at_builtin; go_loud (refine list_app (f := Rq.cells) (fun _ => rfl) rfl _ _ 31 rfl w.heap.size 49 I (.agg #[.int .i64 0, .int .i64 0, .int .i64 0, .int .i64 0, .int .i64 0]) 40 Try.underlying31 I1.out I2.out I3.out I4.out rfl (by decide) _ l.length (l.flatMap Rq.cells) rfl OA.out _ _ 1 [⟨0, 0, 0, 0, 0⟩] rfl rfl HRd.out (fun h => by cases h) (reqs_one _) (by unfold maxLen; omega) (by omega) (by simp; omega) ?_))
          intro v1 w1 ho1 hg1 hp1
          have hb0 : ∀ x, (Value.slice B l.length d).ownBlock = some x → w.heap.size ≤ x := fun x hx => (own_block_ge OA.out x hx).1
          have RD1 := Lib.hid (RDA.out.rowG hg1 hRlt hOld.out hb0)
          have GR1 := Lib.hid (grown_rowG GRA.out hg1 hb0)
          have NN1 := Lib.hid (own_keepR (base' := 0) (e' := 0) NA.out hg1 (fun x hx => own_row_ne OA.out NA.out (by decide) x hx))
          obtain ⟨B1, d1, rfl, _⟩ := own_form ho1
          have OO1 : Hid (w1.ownsRow w.heap.size 49 5 (.slice B1 (l ++ [(⟨0, 0, 0, 0, 0⟩ : Rq)]).length d1) (l ++ [(⟨0, 0, 0, 0, 0⟩ : Rq)]).length ((l ++ [(⟨0, 0, 0, 0, 0⟩ : Rq)]).flatMap Rq.cells)) := by
           show w1.ownsRow _ _ _ _ _ _
           rw [List.flatMap_append, List.length_append]
           exact ho1
          have OK1 : Hid (∀ r ∈ l ++ [(⟨0, 0, 0, 0, 0⟩ : Rq)], okB r = true) := fun r hr => by
           rw [List.mem_append] at hr
           rcases hr with hr | hr
           · exact HOK.out r hr
           · simp only [List.mem_singleton] at hr
             subst hr
             rfl
          have HLE : (l ++ [(⟨0, 0, 0, 0, 0⟩ : Rq)]).length = l.length + 1 := by simp
          clear ho1 hg1 hp1 hb0 OA NA RDA GRA HRd hsz RS x0 x1 x2 x3 x4 xf
          go_wp2
          go_roundw
          case rel => exact ⟨k, qf, B1, d1, l ++ [(⟨0, 0, 0, 0, 0⟩ : Rq)], Nl, by go_num, by rw [HLE], by rw [HLE]; omega, by omega, by omega, by simp [hN], HNB.out, OK1, OO1, NN1, RD1, GR1⟩
          case measure => (simp [intOf]; try omega)
        · have h12' : (v12 == 0) = false := by simpa using h12
          clear h12
          obtain ⟨x0, x1, x2, x3, x4, xf⟩ := RS.out.c5
          obtain ⟨OA, NA, RDA, GRA, hsz⟩ := RS.out.al (.cells #[.int .i64 rc, .int .i64 u, .int .i64 ro, .int .i64 rx, .int .i64 ry] 49)
          have HRd := Lib.hid (rq_one wf 49 ⟨rc, u, ro, rx, ry⟩)
          go_wp2_with (at_builtin; go_loud (refine list_app (f := Rq.cells) (fun _ => rfl) rfl _ _ 31 rfl w.heap.size 49 I (.agg #[.int .i64 0, .int .i64 0, .int .i64 0, .int .i64 0, .int .i64 0]) 40 Try.underlying31 I1.out I2.out I3.out I4.out rfl (by decide) _ l.length (l.flatMap Rq.cells) rfl OA.out _ _ 1 [⟨rc, u, ro, rx, ry⟩] rfl rfl HRd.out (fun h => by cases h) (reqs_one _) (by unfold maxLen; omega) (by omega) (by simp; omega) ?_))
          intro v1 w1 ho1 hg1 hp1
          have hb0 : ∀ x, (Value.slice B l.length d).ownBlock = some x → w.heap.size ≤ x := fun x hx => (own_block_ge OA.out x hx).1
          have RD1 := Lib.hid (RDA.out.rowG hg1 hRlt hOld.out hb0)
          have GR1 := Lib.hid (grown_rowG GRA.out hg1 hb0)
          have NN1 := Lib.hid (own_keepR (base' := 0) (e' := 0) NA.out hg1 (fun x hx => own_row_ne OA.out NA.out (by decide) x hx))
          obtain ⟨B1, d1, rfl, _⟩ := own_form ho1
          have OO1 : Hid (w1.ownsRow w.heap.size 49 5 (.slice B1 (l ++ [(⟨rc, u, ro, rx, ry⟩ : Rq)]).length d1) (l ++ [(⟨rc, u, ro, rx, ry⟩ : Rq)]).length ((l ++ [(⟨rc, u, ro, rx, ry⟩ : Rq)]).flatMap Rq.cells)) := by
           show w1.ownsRow _ _ _ _ _ _
           rw [List.flatMap_append, List.length_append]
           exact ho1
          have OK1 : Hid (∀ r ∈ l ++ [(⟨rc, u, ro, rx, ry⟩ : Rq)], okB r = true) := fun r hr => by
           rw [List.mem_append] at hr
           rcases hr with hr | hr
           · exact HOK.out r hr
           · simp only [List.mem_singleton] at hr
             subst hr
             exact okB_of HQ.out
          have HLE : (l ++ [(⟨rc, u, ro, rx, ry⟩ : Rq)]).length = l.length + 1 := by simp
          clear ho1 hg1 hp1 hb0 OA NA RDA GRA HRd hsz RS x0 x1 x2 x3 x4 xf
          go_wp2
          go_roundw
          case rel => exact ⟨k, qf, B1, d1, l ++ [(⟨rc, u, ro, rx, ry⟩ : Rq)], Nl, by go_num, by rw [HLE], by rw [HLE]; omega, by omega, by omega, by simp [hN], HNB.out, OK1, OO1, NN1, RD1, GR1⟩
          case measure => (simp [intOf]; try omega)
end Go.Proofs.Ytameldhdegcpoaa
namespace Go.Proofs.Ytameldhdegcpoaa
open Go.ChangeShapes Go.WideShapes Go.ChangeAt Go.RowKit
set_option linter.unusedVariables false
set_option linter.unusedSimpArgs false
set_option maxRecDepth 100000 in
theorem fieldsEnt (d : Nat) (a b : Fig) (w : World) (xs ys : Array Value) (hx : xs = a.cells.toArray) (hy : ys = b.cells.toArray) : (Op.eqFields (d + 1) xs ys (Try.prog.fieldsOf 72).toList).run Try.prog w = .ok (decide (a = b)) w := by
 obtain ⟨a1, a2, a3, a4, a5⟩ := a
 obtain ⟨b1, b2, b3, b4, b5⟩ := b
 subst hx hy
 have hf : (Try.prog.fieldsOf 72).toList.map (fun f => (f.name, f.type, f.offset)) = [("Client", 3, 0), ("X", 3, 1), ("Y", 3, 2), ("Life", 3, 3), ("Gold", 3, 4)] := by kernel_rfl
 generalize (Try.prog.fieldsOf 72).toList = fs at hf ⊢
 obtain ⟨f1, f2, f3, f4, f5, rfl⟩ := len5 fs (by have := congrArg List.length hf; simpa using this)
 simp only [List.map_cons, List.map_nil, List.cons.injEq, Prod.mk.injEq, and_true] at hf
 obtain ⟨⟨n1, t1, o1⟩, ⟨n2, t2, o2⟩, ⟨n3, t3, o3⟩, ⟨n4, t4, o4⟩, ⟨n5, t5, o5⟩⟩ := hf
 simp [Op.eqFields, n1, t1, o1, n2, t2, o2, n3, t3, o3, n4, t4, o4, n5, t5, o5, Fig.cells, go_sem]
 repeat' split
 all_goals simp_all
theorem neqEntG (a b : Fig) (w : World) : (binOp .neq 72 (.agg #[.int .i64 a.c, .int .i64 a.x, .int .i64 a.y, .int .i64 a.l, .int .i64 a.g]) (.agg #[.int .i64 b.c, .int .i64 b.x, .int .i64 b.y, .int .i64 b.l, .int .i64 b.g])).run Try.prog w = .ok (.bool (!decide (a = b))) w := by
 rw [run_neq_struct, run_equalIn_struct _ _ _ _ _ (by kernel_rfl) (by kernel_rfl), fieldsEnt 9998 a b w #[.int .i64 a.c, .int .i64 a.x, .int .i64 a.y, .int .i64 a.l, .int .i64 a.g] #[.int .i64 b.c, .int .i64 b.x, .int .i64 b.y, .int .i64 b.l, .int .i64 b.g] rfl rfl]
 rfl
theorem neqEnt (f : Fig) (w : World) : (binOp .neq 72 (.agg #[.int .i64 f.c, .int .i64 f.x, .int .i64 f.y, .int .i64 f.l, .int .i64 f.g]) (.agg #[.int .i64 f.c, .int .i64 f.x, .int .i64 f.y, .int .i64 f.l, .int .i64 f.g])).run Try.prog w = .ok (.bool false) w := by
 have h := neqEntG f f w
 simpa using h
set_option maxRecDepth 100000 in
set_option maxHeartbeats 4000000 in
theorem wpInts_rd {w : World} (A B : Option Addr) (a b : Nat) (l : List Int) (h : RdI w A l) (h' : RdI w B l) (hl : l.length ≤ 1048576) :
 Calls Try.prog 43 #[.slice A l.length a, .slice B l.length b] w fun e w' => e = .returned (.bool true) ∧ Below w.heap.size w w' := by
 have H := Lib.hid h
 have H' := Lib.hid h'
 have nn : ((l.length : Int) != (l.length : Int)) = false := by simp
 clear h h'
 go_enter Try.func43, Try.ntmps43
 go_wp2
 go_loopw [5] (fun v wr => ∃ k : Nat, k ≤ l.length ∧ v = .int .i64 (k : Int) ∧ Hid (Below w.heap.size w wr)) (fun v _ => l.length - (intOf v).toNat)
 case atStart => exact ⟨0, Nat.zero_le _, rfl, Below.refl _ _⟩
 case round =>
  obtain ⟨k, hk, rfl, hb⟩ := hrel
  by_cases hlt : k < l.length
  · obtain ⟨g, rfl, xa⟩ := (H.out.below hb.out) k hlt
    obtain ⟨g', rfl, xb⟩ := (H'.out.below hb.out) k hlt
    generalize l[k] = u at xa xb
    have i0 : (0 : Int) ≤ (k : Int) := by omega
    have i1 : (k : Int) < (l.length : Int) := by omega
    have la : g < wr.heap.size := World.block_lt_of_cell? wr _ xa
    have lb : g' < wr.heap.size := World.block_lt_of_cell? wr _ xb
    have uu : (u != u) = false := by simp
    go_wp2_with (fail)
    refine wp_region_held_drew (S := fun WS => Below wr.heap.size wr WS) (by kernel_rfl) ((Below.refl _ _).drew) (fun hS0 => ?_)
    refine tkI 0 17 (v := ?_) rfl rfl ?_ ?_
    rotate_left
    · intro wS hSw; obtain ⟨hcS, hfS⟩ := bcell hSw; go_simp; (try with_reducible rfl)
    (try simp only [Act.put, pu1, pu2, pu3])
    refine tkI 1 18 (v := ?_) rfl rfl ?_ ?_
    rotate_left
    · intro wS hSw; obtain ⟨hcS, hfS⟩ := bcell hSw; go_simp; (try with_reducible rfl)
    (try simp only [Act.put, pu1, pu2, pu3])
    refine tkI 2 19 (v := ?_) rfl rfl ?_ ?_
    rotate_left
    · intro wS hSw; obtain ⟨hcS, hfS⟩ := bcell hSw; go_simp; (try with_reducible rfl)
    (try simp only [Act.put, pu1, pu2, pu3])
    refine tkI 3 20 (v := ?_) rfl rfl ?_ ?_
    rotate_left
    · intro wS hSw; obtain ⟨hcS, hfS⟩ := bcell hSw; go_simp; (try with_reducible rfl)
    (try simp only [Act.put, pu1, pu2, pu3])
    refine tkI 4 21 (v := ?_) rfl rfl ?_ ?_
    rotate_left
    · intro wS hSw; obtain ⟨hcS, hfS⟩ := bcell hSw; go_simp; (try with_reducible rfl)
    (try simp only [Act.put, pu1, pu2, pu3])
    refine tkI 5 22 (v := ?_) rfl rfl ?_ ?_
    rotate_left
    · intro wS hSw; obtain ⟨hcS, hfS⟩ := bcell hSw; go_simp; (try with_reducible rfl)
    (try simp only [Act.put, pu1, pu2, pu3])
    refine tkI 6 23 (v := ?_) rfl rfl ?_ ?_
    rotate_left
    · intro wS hSw; obtain ⟨hcS, hfS⟩ := bcell hSw; go_simp; (try with_reducible rfl)
    (try simp only [Act.put, pu1, pu2, pu3])
    refine tkI 7 24 (v := ?_) rfl rfl ?_ ?_
    rotate_left
    · intro wS hSw; obtain ⟨hcS, hfS⟩ := bcell hSw; go_simp; (try with_reducible rfl)
    (try simp only [Act.put, pu1, pu2, pu3])
    refine tkI 8 25 (v := ?_) rfl rfl ?_ ?_
    rotate_left
    · intro wS hSw; obtain ⟨hcS, hfS⟩ := bcell hSw; go_simp; (try with_reducible rfl)
    (try simp only [Act.put, pu1, pu2, pu3])
    refine wpAnyH_done (by kernel_rfl) ?_ _
    have hbd := Lib.hid (Below.and hb.out (Below.refl wr.heap.size wr).drew)
    go_wp2
    go_roundw
    case rel => exact ⟨k + 1, by omega, by go_num, hbd.out⟩
    case measure => (simp [intOf]; try omega)
  · have i1 : ¬ (k : Int) < (l.length : Int) := by omega
    go_wp2
    go_ret
    exact ⟨rfl, hb.out⟩
set_option maxRecDepth 100000 in
set_option maxHeartbeats 4000000 in
theorem wpGame_rd {w : World} {hi hi' : Nat} {A B C A' B' C' : Option Addr} {a b c a' b' c' : Nat} {E : List Fig} {F L : List Int} (h : RdG w hi A B C E F L) (h' : RdG w hi' A' B' C' E F L) (hE : E.length ≤ 1048576) (hF : F.length ≤ 1048576) (hL : L.length ≤ 1048576) :
 Calls Try.prog 28 #[gameV A E.length a B F.length b C L.length c, gameV A' E.length a' B' F.length b' C' L.length c'] w fun e w' => e = .returned (.bool true) ∧ Below w.heap.size w w' := by
 have BW : Hid (Below w.heap.size w ((w.alloc (.cells #[.slice A E.length a, .slice B F.length b, .slice C L.length c] 29)).alloc (.cells #[.slice A' E.length a', .slice B' F.length b', .slice C' L.length c'] 29))) := below_alloc2 w _ _
 have K0 : Hid (Three ((w.alloc (.cells #[.slice A E.length a, .slice B F.length b, .slice C L.length c] 29)).alloc (.cells #[.slice A' E.length a', .slice B' F.length b', .slice C' L.length c'] 29)) w.heap.size 29 (.slice A E.length a) (.slice B F.length b) (.slice C L.length c)) := (Three.new w).alloc _
 have K1 : Hid (Three ((w.alloc (.cells #[.slice A E.length a, .slice B F.length b, .slice C L.length c] 29)).alloc (.cells #[.slice A' E.length a', .slice B' F.length b', .slice C' L.length c'] 29)) (w.heap.size + 1) 29 (.slice A' E.length a') (.slice B' F.length b') (.slice C' L.length c')) := by have := Three.new (t := 29) (u0 := .slice A' E.length a') (u1 := .slice B' F.length b') (u2 := .slice C' L.length c') (w.alloc (.cells #[.slice A E.length a, .slice B F.length b, .slice C L.length c] 29)); simpa [Hid] using this
 have H := Lib.hid h
 have H' := Lib.hid h'
 have nn : ((E.length : Int) != (E.length : Int)) = false := by simp
 clear h h'
 unfold gameV
 go_enter Try.func28, Try.ntmps28
 go_wp2
 go_loopw [5] (fun v wr => ∃ k : Nat, k ≤ E.length ∧ v = .int .i64 (k : Int) ∧ Hid (Three wr w.heap.size 29 (.slice A E.length a) (.slice B F.length b) (.slice C L.length c)) ∧ Hid (Three wr (w.heap.size + 1) 29 (.slice A' E.length a') (.slice B' F.length b') (.slice C' L.length c')) ∧ Hid (Below w.heap.size w wr)) (fun v _ => E.length - (intOf v).toNat)
 case atStart => exact ⟨0, Nat.zero_le _, rfl, K0, K1, BW⟩
 case round =>
  clear K0 K1 BW
  obtain ⟨k, hk, rfl, K0, K1, hb⟩ := hrel
  obtain ⟨p0, p1, p2⟩ := K0.out.cells
  obtain ⟨q0, q1, q2⟩ := K1.out.cells
  have l0 := K0.out.lt
  have l1 := K1.out.lt
  by_cases hlt : k < E.length
  · obtain ⟨g, rfl, xa0, xa1, xa2, xa3, xa4⟩ := (RdF.below H.out.e hb.out) k hlt
    obtain ⟨g', rfl, xb0, xb1, xb2, xb3, xb4⟩ := (RdF.below H'.out.e hb.out) k hlt
    generalize E[k] = f at xa0 xa1 xa2 xa3 xa4 xb0 xb1 xb2 xb3 xb4
    have i0 : (0 : Int) ≤ (k : Int) := by omega
    have i1 : (k : Int) < (E.length : Int) := by omega
    have la : g < wr.heap.size := World.block_lt_of_cell? wr _ xa0
    have lb : g' < wr.heap.size := World.block_lt_of_cell? wr _ xb0
    have hq : ∀ W, (binOp .neq 72 (.agg #[.int .i64 f.c, .int .i64 f.x, .int .i64 f.y, .int .i64 f.l, .int .i64 f.g]) (.agg #[.int .i64 f.c, .int .i64 f.x, .int .i64 f.y, .int .i64 f.l, .int .i64 f.g])).run Try.prog W = .ok (.bool false) W := fun W => neqEnt f W
    go_wp2_with (fail)
    refine wp_region_held_drew (S := fun WS => Below wr.heap.size wr WS) (by kernel_rfl) ((Below.refl _ _).drew) (fun hS0 => ?_)
    refine tkI 0 20 (v := ?_) rfl rfl ?_ ?_
    rotate_left
    · intro wS hSw; obtain ⟨hcS, hfS⟩ := bcell hSw; go_simp; (try with_reducible rfl)
    (try simp only [Act.put, pu1, pu2, pu3])
    refine tkI 1 21 (v := ?_) rfl rfl ?_ ?_
    rotate_left
    · intro wS hSw; obtain ⟨hcS, hfS⟩ := bcell hSw; go_simp; (try with_reducible rfl)
    (try simp only [Act.put, pu1, pu2, pu3])
    refine tkI 2 22 (v := ?_) rfl rfl ?_ ?_
    rotate_left
    · intro wS hSw; obtain ⟨hcS, hfS⟩ := bcell hSw; go_simp; (try with_reducible rfl)
    (try simp only [Act.put, pu1, pu2, pu3])
    refine tkI 3 23 (v := ?_) rfl rfl ?_ ?_
    rotate_left
    · intro wS hSw; obtain ⟨hcS, hfS⟩ := bcell hSw; go_simp; (try with_reducible rfl)
    (try simp only [Act.put, pu1, pu2, pu3])
    refine tkI 4 24 (v := ?_) rfl rfl ?_ ?_
    rotate_left
    · intro wS hSw; obtain ⟨hcS, hfS⟩ := bcell hSw; go_simp; (try with_reducible rfl)
    (try simp only [Act.put, pu1, pu2, pu3])
    refine tkI 5 25 (v := ?_) rfl rfl ?_ ?_
    rotate_left
    · intro wS hSw; obtain ⟨hcS, hfS⟩ := bcell hSw; go_simp; (try with_reducible rfl)
    (try simp only [Act.put, pu1, pu2, pu3])
    refine tkI 6 26 (v := ?_) rfl rfl ?_ ?_
    rotate_left
    · intro wS hSw; obtain ⟨hcS, hfS⟩ := bcell hSw; go_simp; (try with_reducible rfl)
    (try simp only [Act.put, pu1, pu2, pu3])
    refine tkI 7 27 (v := ?_) rfl rfl ?_ ?_
    rotate_left
    · intro wS hSw; obtain ⟨hcS, hfS⟩ := bcell hSw; go_simp; (try with_reducible rfl)
    (try simp only [Act.put, pu1, pu2, pu3])
    refine tkI 8 28 (v := ?_) rfl rfl ?_ ?_
    rotate_left
    · intro wS hSw; obtain ⟨hcS, hfS⟩ := bcell hSw; go_simp; (try with_reducible rfl)
    (try simp only [Act.put, pu1, pu2, pu3])
    refine tkI 9 29 (v := ?_) rfl rfl ?_ ?_
    rotate_left
    · intro wS hSw; obtain ⟨hcS, hfS⟩ := bcell hSw; go_simp; (try with_reducible rfl)
    (try simp only [Act.put, pu1, pu2, pu3])
    refine tkI 10 30 (v := ?_) rfl rfl ?_ ?_
    rotate_left
    · intro wS hSw; obtain ⟨hcS, hfS⟩ := bcell hSw; go_simp; (try with_reducible rfl)
    (try simp only [Act.put, pu1, pu2, pu3])
    refine wpAnyH_done (by kernel_rfl) ?_ _
    have hd := (Below.refl wr.heap.size wr).drew
    have K0d := Lib.hid K0.out.drew
    have K1d := Lib.hid K1.out.drew
    have hbd := Lib.hid (Below.and hb.out hd)
    go_wp2
    go_roundw
    case rel => exact ⟨k + 1, by omega, by go_num, K0d.out, K1d.out, hbd.out⟩
    case measure => (simp [intOf]; try omega)
  · have i1 : ¬ (k : Int) < (E.length : Int) := by omega
    go_wp2_with (fail)
    refine (wpInts_rd B B' b b' F (RdI.below H.out.f hb.out) (RdI.below H'.out.f hb.out) hF).mono ?_
    rintro e w1 ⟨rfl, h1⟩
    have K0a := Lib.hid (Three.below K0.out h1 K0.out.lt)
    have K1a := Lib.hid (Three.below K1.out h1 K1.out.lt)
    have hbd := Lib.hid (Below.and hb.out h1)
    clear p0 p1 p2 q0 q1 q2 h1
    obtain ⟨p0, p1, p2⟩ := K0a.out.cells
    obtain ⟨q0, q1, q2⟩ := K1a.out.cells
    go_wp2_with (fail)
    refine (wpInts_rd C C' c c' L (RdI.below H.out.l hbd.out) (RdI.below H'.out.l hbd.out) hL).mono ?_
    rintro e w2 ⟨rfl, h2⟩
    have hbe := Lib.hid (Below.and hbd.out h2)
    clear h2
    go_wp2
    go_ret
    exact ⟨rfl, hbe.out⟩
end Go.Proofs.Ytameldhdegcpoaa
namespace Go.Proofs.Ytameldhdegcpoaa
open Go.ChangeShapes Go.WideShapes Go.ChangeAt Go.RowKit
set_option linter.unusedVariables false
set_option linter.unusedSimpArgs false
theorem own_box {w : World} {lo p : Nat} {e t : TypeId} {size n : Nat} {v : Value} {xs : List Value} {u0 u1 u2 : Value} (h : w.ownsRow lo e size v n xs) (hT : Three w p t u0 u1 u2) (hne : e ≠ t) (o : Nat) (u : Value) : (w.setCell ⟨p, o, none⟩ u).ownsRow lo e size v n xs :=
 own_same h (fun k hk => heap_setCell_other w ⟨p, o, none⟩ k _ (by
  intro e
  subst e
  exact own_type h hT hne hk))
end Go.Proofs.Ytameldhdegcpoaa
