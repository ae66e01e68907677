/- Claims and votes drawn. -/
import Derived.Test.YtjpbflehedbijaaTt
import Derived.Test.YtjpbflehedbijaaJd
namespace Go.Proofs.Ytjpbflehedbijaa
open Go.ChangeShapes Go.WideShapes Go.ChangeAt Go.RowKit
set_option linter.unusedVariables false
set_option linter.unusedSimpArgs false

theorem Blk.grown {w w' : World} {g : Nat} {t : TypeId} {cs : Array Value} {row : Option Nat} (h : Blk w g t cs) (hb : w.grownBy w' row) (hg : some g ≠ row) : Blk w' g t cs := (hb.block g h.lt hg).trans h
theorem grown_row {a b c : World} {R : Nat} {row : Option Nat} (h : a.grownBy b (some R)) (k : b.grownBy c row) (hx : ∀ x, row = some x → a.heap.size ≤ x) : a.grownBy c (some R) :=
  ⟨k.os.trans h.os, k.tape.trans h.tape, k.output.trans h.output, Nat.le_trans h.size k.size, fun i hi hr => (k.block i (Nat.lt_of_lt_of_le hi h.size) (fun e => by have := hx i e.symm; omega)).trans (h.block i hi hr)⟩
section
variable {w w' W : World} {R : Nat} {A : Option Addr} {n c : Nat} {p K : Int}
theorem Reader.row {row : Option Nat} {B : Nat} (h : Reader w R A n c p) (hg : w.grownBy w' row) (hR : R < B) (hB : ∀ b off, A = some ⟨b, off, none⟩ → 0 < n → b < B) (hx : ∀ x, row = some x → B ≤ x) : Reader w' R A n c p :=
  ⟨(hg.block R h.lt (fun e => by have := hx R e.symm; omega)).trans h.at_, fun i hi => by
    obtain ⟨b, off, u, hA, hc, hu⟩ := h.bytes i hi
    exact ⟨b, off, u, hA, hg.cell hc (fun e => by have := hx _ e.symm; have := hB b off hA (by omega); simp at *; omega), hu⟩, h.far, h.lo, h.len⟩
/-- At the end: the reader's place, and that nothing else turned. -/
theorem Drawn.mk {q : Int} (h0 : p ≤ q) (h1 : q ≤ p + K) (hr : Reader w' R A n c q) (hg : w.grownBy w' (some R)) : Drawn w R A n c p K w' := ⟨q, h0, h1, hr, hg⟩
theorem Drawn.set (h : Drawn w R A n c p K W) (hOld : ∀ b off, A = some ⟨b, off, none⟩ → 0 < n → b < w.heap.size) (hR : R < w.heap.size) (x j : Nat) (v : Value) (hx : w.heap.size ≤ x) : Drawn w R A n c p K (W.setCell ⟨x, j, none⟩ v) := by
  obtain ⟨q, h0, h1, hr, hg⟩ := h
  exact ⟨q, h0, h1, hr.set w.heap.size x j v hOld hR hx, grown_new hg (grownBy_set W x j v) hx⟩
end

set_option maxRecDepth 100000 in
set_option maxHeartbeats 2000000 in
theorem l20Claim {w : World} {R : Nat} {A : Option Addr} {n c : Nat} {p : Int} (h : Reader w R A n c p) (hp : p ≤ 95000) :
    Calls Try.prog 33 #[.pointer (some ⟨R, 0, none⟩)] w fun e w' => ∃ y : Cl, e = .returned y.val ∧ Drawn w R A n c p 8 w' := by
  have hOld := Lib.hid h.old
  have hRlt := h.lt
  have RD := Lib.hid (h.below ((Below.refl w.heap.size w).alloc (Nat.le_refl _) (.cells #[.int .i64 0, .int .i64 0, .int .i64 0, .int .i64 0, .int .i64 0, .int .i64 0, .int .i64 0] 60)))
  have GR := Lib.hid (World.grownBy_alloc w (.cells #[.int .i64 0, .int .i64 0, .int .i64 0, .int .i64 0, .int .i64 0, .int .i64 0, .int .i64 0] 60) (some R))
  have K0 : Hid (Blk (w.alloc (.cells #[.int .i64 0, .int .i64 0, .int .i64 0, .int .i64 0, .int .i64 0, .int .i64 0, .int .i64 0] 60)) w.heap.size 60 #[.int .i64 0, .int .i64 0, .int .i64 0, .int .i64 0, .int .i64 0, .int .i64 0, .int .i64 0]) := Blk.new w
  have hlo := h.lo
  clear h
  go_enter Try.func33, Try.ntmps33
  go_wp2_with (fail)
  refine (pickR 3 RD.out (by omega) (by omega) (by omega)).mono ?_
  rintro e Wa ⟨a, a0, a1, rfl, qWa, qWa0, qWa1, hr, hgr⟩
  have RD := Lib.hid hr
  have GR := Lib.hid (grownBy_trans GR.out hgr)
  have K0 := Lib.hid (K0.out.grown hgr (by simp; omega))
  clear hr hgr
  go_wp2_with (fail)
  refine (pickR 3 RD.out (by omega) (by omega) (by omega)).mono ?_
  rintro e Wb ⟨b, b0, b1, rfl, qWb, qWb0, qWb1, hr, hgr⟩
  have RD := Lib.hid hr
  have GR := Lib.hid (grownBy_trans GR.out hgr)
  have K0 := Lib.hid (K0.out.grown hgr (by simp; omega))
  clear hr hgr
  go_wp2_with (fail)
  refine (l20Req RD.out (by omega)).mono ?_
  rintro e Wc ⟨rc, rn, ro, rx, ry, rfl, qWc, qWc0, qWc1, hr, hgr⟩
  have RD := Lib.hid hr
  have GR := Lib.hid (grownBy_trans GR.out hgr)
  have K0 := Lib.hid (K0.out.grown hgr (by simp; omega))
  clear hr hgr
  have lc := K0.out.lt
  have RD := Lib.hid (RD.out.below ((Below.refl Wc.heap.size Wc).alloc (Nat.le_refl _) (.cells #[.int .i64 (1 + a), .int .i64 b, .int .i64 rc, .int .i64 rn, .int .i64 ro, .int .i64 rx, .int .i64 ry] 60)))
  have GR := Lib.hid (grownBy_trans GR.out (World.grownBy_alloc Wc (.cells #[.int .i64 (1 + a), .int .i64 b, .int .i64 rc, .int .i64 rn, .int .i64 ro, .int .i64 rx, .int .i64 ry] 60) (some R)))
  have K0 := Lib.hid (K0.out.alloc (.cells #[.int .i64 (1 + a), .int .i64 b, .int .i64 rc, .int .i64 rn, .int .i64 ro, .int .i64 rx, .int .i64 ry] 60))
  have K1 : Hid (Blk (Wc.alloc (.cells #[.int .i64 (1 + a), .int .i64 b, .int .i64 rc, .int .i64 rn, .int .i64 ro, .int .i64 rx, .int .i64 ry] 60)) Wc.heap.size 60 #[.int .i64 (1 + a), .int .i64 b, .int .i64 rc, .int .i64 rn, .int .i64 ro, .int .i64 rx, .int .i64 ry]) := Blk.new Wc
  go_wp2_with (fail)
  refine (pickR 5 RD.out (by omega) (by omega) (by omega)).mono ?_
  rintro e Wd ⟨d, d0, d1, rfl, qWd, qWd0, qWd1, hr, hgr⟩
  have RD := Lib.hid hr
  have GR := Lib.hid (grownBy_trans GR.out hgr)
  have K0 := Lib.hid (K0.out.grown hgr (by simp; omega))
  have K1 := Lib.hid (K1.out.grown hgr (by simp; omega))
  clear hr hgr
  have z0 : Wd.cell? ⟨w.heap.size, 0, none⟩ = some (.int .i64 0) := K0.out.cell 0
  have z1 : Wd.cell? ⟨w.heap.size, 1, none⟩ = some (.int .i64 0) := K0.out.cell 1
  have z2 : Wd.cell? ⟨w.heap.size, 2, none⟩ = some (.int .i64 0) := K0.out.cell 2
  have z3 : Wd.cell? ⟨w.heap.size, 3, none⟩ = some (.int .i64 0) := K0.out.cell 3
  have z4 : Wd.cell? ⟨w.heap.size, 4, none⟩ = some (.int .i64 0) := K0.out.cell 4
  have z5 : Wd.cell? ⟨w.heap.size, 5, none⟩ = some (.int .i64 0) := K0.out.cell 5
  have z6 : Wd.cell? ⟨w.heap.size, 6, none⟩ = some (.int .i64 0) := K0.out.cell 6
  have x0 : Wd.cell? ⟨Wc.heap.size, 0, none⟩ = some (.int .i64 (1 + a)) := K1.out.cell 0
  have x1 : Wd.cell? ⟨Wc.heap.size, 1, none⟩ = some (.int .i64 b) := K1.out.cell 1
  have x2 : Wd.cell? ⟨Wc.heap.size, 2, none⟩ = some (.int .i64 rc) := K1.out.cell 2
  have x3 : Wd.cell? ⟨Wc.heap.size, 3, none⟩ = some (.int .i64 rn) := K1.out.cell 3
  have x4 : Wd.cell? ⟨Wc.heap.size, 4, none⟩ = some (.int .i64 ro) := K1.out.cell 4
  have x5 : Wd.cell? ⟨Wc.heap.size, 5, none⟩ = some (.int .i64 rx) := K1.out.cell 5
  have x6 : Wd.cell? ⟨Wc.heap.size, 6, none⟩ = some (.int .i64 ry) := K1.out.cell 6
  have zf := K0.out.frozen
  have xf := K1.out.frozen
  have ld := K1.out.lt
  by_cases hd : d = 0
  · subst hd
    go_wp2
    go_light
    refine bodyPost_ret (v := .agg #[.int .i64 (1 + a), .int .i64 b, .int .i64 0, .int .i64 0, .int .i64 0, .int .i64 0, .int .i64 0]) (by simp [results, Try.results33, go_sem, z0, z1, z2, z3, z4, z5, z6]) rfl ⟨⟨1 + a, b, ⟨0, 0, 0, 0, 0⟩⟩, rfl, ?_⟩
    iterate 7 (refine Drawn.set ?_ hOld.out hRlt _ _ _ (Nat.le_refl _))
    iterate 5 (refine Drawn.set ?_ hOld.out hRlt _ _ _ (by omega))
    exact Drawn.mk (by omega) (by omega) RD.out GR.out
  · have hd' : (d == 0) = false := by simp [hd]
    clear hd
    go_wp2
    go_light
    refine bodyPost_ret (v := .agg #[.int .i64 (1 + a), .int .i64 b, .int .i64 rc, .int .i64 rn, .int .i64 ro, .int .i64 rx, .int .i64 ry]) (by simp [results, Try.results33, go_sem, z0, z1, z2, z3, z4, z5, z6]) rfl ⟨⟨1 + a, b, ⟨rc, rn, ro, rx, ry⟩⟩, rfl, ?_⟩
    iterate 7 (refine Drawn.set ?_ hOld.out hRlt _ _ _ (Nat.le_refl _))
    exact Drawn.mk (by omega) (by omega) RD.out GR.out

theorem alloc_heap_size (w : World) (o : Obj) : (w.alloc o).heap.size = w.heap.size + 1 := by simp
theorem infoClaim' : (Try.prog.info? 60).map (fun i => (i.zero, i.size, i.bytes)) = some (some (.agg #[.int .i64 0, .int .i64 0, .int .i64 0, .int .i64 0, .int .i64 0, .int .i64 0, .int .i64 0]), 7, 56) := by kernel_rfl
theorem own_nil_start (w : World) (e : TypeId) (size : Nat) (h : (#[] : Array Value).size = 0 * size) : (w.alloc (.cells #[] e)).ownsRow w.heap.size e size (.slice (some ⟨w.heap.size, 0, none⟩) 0 0) 0 [] :=
  World.ownsRow_lit (size := size) w #[] 0 (Nat.le_refl _) (by unfold maxLen; omega) h

set_option maxRecDepth 100000 in
set_option maxHeartbeats 4000000 in
theorem l20Claims {w : World} {R : Nat} {A : Option Addr} {n c : Nat} {p : Int} (h : Reader w R A n c p) (hp : p ≤ 90000) :
    Calls Try.prog 87 #[.pointer (some ⟨R, 0, none⟩)] w fun e w' => ∃ (B : Option Addr) (d : Nat) (l : List Cl), e = .returned (.slice B l.length d) ∧ l.length ≤ 3 ∧ w'.ownsRow w.heap.size 60 7 (.slice B l.length d) l.length (l.flatMap Cl.cells) ∧ Drawn w R A n c p 27 w' := by
  obtain ⟨i0, hi, hz0, hz1, hz2⟩ := info_parts infoClaim'
  have I1 := Lib.hid hi
  have I2 := Lib.hid hz0
  have I3 := Lib.hid hz1
  have I4 := Lib.hid hz2
  have hOld := Lib.hid h.old
  have hRlt := h.lt
  have hlo := h.lo
  have O0 : Hid ((w.alloc (.cells #[] 60)).ownsRow w.heap.size 60 7 (.slice (some ⟨w.heap.size, 0, none⟩) 0 0) 0 []) := own_nil_start w 60 7 rfl
  have RD0 := Lib.hid (h.below ((Below.refl w.heap.size w).alloc (Nat.le_refl _) (.cells #[] 60)))
  have GR0 := Lib.hid (World.grownBy_alloc w (.cells #[] 60) (some R))
  clear h hi hz0 hz1 hz2
  go_enter Try.func87, Try.ntmps87
  go_wp2
  go_loopw [3, 4] (fun v i wr => ∃ (k : Nat) (q : Int) (l : List Cl), k ≤ 3 ∧ i = .int .i64 ((k : Int) + 1) ∧ p ≤ q ∧ q ≤ p + 9 * k ∧ l.length ≤ k ∧ Hid (wr.ownsRow w.heap.size 60 7 v l.length (l.flatMap Cl.cells)) ∧ Hid (Reader wr R A n c q) ∧ Hid (w.grownBy wr (some R))) (fun _ i _ => 4 - (intOf i).toNat)
  case atStart => exact ⟨0, p, [], by omega, rfl, by omega, by omega, by simp, O0, RD0, GR0⟩
  case round =>
    clear O0 RD0 GR0
    obtain ⟨k, q, l, hk, rfl, q0, q1, hl, ho, RD, GR⟩ := hrel
    obtain ⟨B, d, hv, hm⟩ := own_form ho.out
    subst hv
    clear hm
    by_cases hlt : k < 3
    · have hk4 : ¬ (3 : Int) < (k : Int) + 1 := by omega
      have hnR : ∀ x, (Value.slice B l.length d).ownBlock = some x → w.heap.size ≤ x := fun x hx => (own_block_ge ho.out x hx).1
      have hnR' : (Value.slice B l.length d).ownBlock ≠ some R := fun e => by have := hnR R e; omega
      go_wp2_with (fail)
      refine (pickR 2 RD.out (by omega) (by omega) (by omega)).mono ?_
      rintro e wa ⟨a, a0, a1, rfl, qa, qa0, qa1, hr, hgr⟩
      have RD := Lib.hid hr
      have GR := Lib.hid (grownBy_trans GR.out hgr)
      have ho := Lib.hid (ho.out.kept hgr (.inr hnR'))
      clear hr hgr
      by_cases ha : a = 0
      · subst ha
        go_wp2_with (fail)
        refine (l20Claim RD.out (by omega)).mono ?_
        rintro e wb ⟨y, rfl, qb, qb0, qb1, hr, hgr⟩
        have RD := Lib.hid hr
        have GR := Lib.hid (grownBy_trans GR.out hgr)
        have ho := Lib.hid (ho.out.kept hgr (.inr hnR'))
        clear hr hgr
        have RD := Lib.hid (RD.out.below ((Below.refl wb.heap.size wb).alloc (Nat.le_refl _) (.cells #[.int .i64 ((k : Int) + 1), .int .i64 y.v, .int .i64 y.r.c, .int .i64 y.r.n, .int .i64 y.r.o, .int .i64 y.r.x, .int .i64 y.r.y] 60)))
        have GR := Lib.hid (grownBy_trans GR.out (World.grownBy_alloc wb (.cells #[.int .i64 ((k : Int) + 1), .int .i64 y.v, .int .i64 y.r.c, .int .i64 y.r.n, .int .i64 y.r.o, .int .i64 y.r.x, .int .i64 y.r.y] 60) (some R)))
        have ho := Lib.hid (ho.out.alloc (.cells #[.int .i64 ((k : Int) + 1), .int .i64 y.v, .int .i64 y.r.c, .int .i64 y.r.n, .int .i64 y.r.o, .int .i64 y.r.x, .int .i64 y.r.y] 60))
        go_wp2_with (at_builtin; refine wpList_append_own _ rfl _ _ 25 rfl w.heap.size 60 i0 (.agg #[.int .i64 0, .int .i64 0, .int .i64 0, .int .i64 0, .int .i64 0, .int .i64 0, .int .i64 0]) 7 56 Try.underlying25 I1.out I2.out I3.out I4.out rfl (by decide) _ _ _ rfl (ho.out.alloc _) ⟨wb.heap.size + 1, 0, none⟩ 1 1 [.int .i64 ((k : Int) + 1), .int .i64 y.v, .int .i64 y.r.c, .int .i64 y.r.n, .int .i64 y.r.o, .int .i64 y.r.x, .int .i64 y.r.y] rfl rfl ?c1 ?c2 ?c3 ?c4 ?c5 ?_)
        case c1 =>
          intro j u hu
          have h := (Blk.new (t := 60) (cs := #[.int .i64 ((k : Int) + 1), .int .i64 y.v, .int .i64 y.r.c, .int .i64 y.r.n, .int .i64 y.r.o, .int .i64 y.r.x, .int .i64 y.r.y]) (wb.alloc (.cells #[.int .i64 ((k : Int) + 1), .int .i64 y.v, .int .i64 y.r.c, .int .i64 y.r.n, .int .i64 y.r.o, .int .i64 y.r.x, .int .i64 y.r.y] 60))).cell j
          rw [show Addr.add ⟨wb.heap.size + 1, 0, none⟩ j = ⟨wb.heap.size + 1, j, none⟩ by simp [Addr.add]; intro h; exact h.symm]
          simp only [alloc_heap_size] at h
          rw [h]
          simpa using hu
        case c2 => intro u hu; simp at hu; rcases hu with rfl | rfl | rfl | rfl | rfl | rfl | rfl <;> rfl
        case c3 => unfold maxLen; omega
        case c4 => omega
        case c5 => have := GR.out.size; simp at this ⊢; omega
        intro v' w3 ho3 hg3 _
        have RD3 := Lib.hid ((RD.out.below ((Below.refl _ _).alloc (Nat.le_refl _) _)).row hg3 hRlt hOld.out hnR)
        have GR3 := Lib.hid (grown_row (grownBy_trans GR.out (World.grownBy_alloc _ _ (some R))) hg3 hnR)
        have ho4 : Hid (w3.ownsRow w.heap.size 60 7 v' (l ++ [(⟨(k : Int) + 1, y.v, y.r⟩ : Cl)]).length ((l ++ [(⟨(k : Int) + 1, y.v, y.r⟩ : Cl)]).flatMap Cl.cells)) := by
          show w3.ownsRow _ _ _ _ _ _
          rw [List.flatMap_append, List.length_append]
          exact ho3
        clear ho3 hg3 RD GR ho hnR hnR'
        go_wp2
        go_roundw
        case rel => exact ⟨k + 1, qb, l ++ [(⟨(k : Int) + 1, y.v, y.r⟩ : Cl)], by omega, by go_num, by omega, by omega, by simp; omega, ho4, RD3, GR3⟩
        case measure => simp [intOf]; omega
      · have ha' : (a == 0) = false := by simp [ha]
        clear ha hnR hnR'
        go_wp2
        go_roundw
        case rel => exact ⟨k + 1, qa, l, by omega, by go_num, by omega, by omega, by omega, ho, RD, GR⟩
        case measure => simp [intOf]; omega
    · have hk4 : (3 : Int) < (k : Int) + 1 := by omega
      go_wp2
      go_ret
      exact ⟨B, d, l, rfl, by omega, ho.out, q, by omega, by omega, RD.out, GR.out⟩

theorem infoVote' : (Try.prog.info? 66).map (fun i => (i.zero, i.size, i.bytes)) = some (some (.agg #[.int .i64 0, .slice none 0 0]), 2, 32) := by kernel_rfl

set_option maxRecDepth 100000 in
set_option maxHeartbeats 4000000 in
theorem l20Votes {w : World} {R : Nat} {A : Option Addr} {n c : Nat} {p : Int} (h : Reader w R A n c p) (hp : p ≤ 80000) :
    Calls Try.prog 88 #[.pointer (some ⟨R, 0, none⟩)] w fun e w' => ∃ (B : Option Addr) (d : Nat) (V : List VtP), e = .returned (.slice B V.length d) ∧ V.length ≤ 4 ∧ w'.ownsRow w.heap.size 66 2 (.slice B V.length d) V.length (V.flatMap VtP.cells) ∧ (∀ v ∈ V, v.cl.length ≤ 3 ∧ v.own w' w.heap.size) ∧ Drawn w R A n c p 112 w' := by
  obtain ⟨i0, hi, hz0, hz1, hz2⟩ := info_parts infoVote'
  have I1 := Lib.hid hi
  have I2 := Lib.hid hz0
  have I3 := Lib.hid hz1
  have I4 := Lib.hid hz2
  have hOld := Lib.hid h.old
  have hRlt := h.lt
  have hlo := h.lo
  have O0 : Hid ((w.alloc (.cells #[] 66)).ownsRow w.heap.size 66 2 (.slice (some ⟨w.heap.size, 0, none⟩) 0 0) 0 []) := own_nil_start w 66 2 rfl
  have RD0 := Lib.hid (h.below ((Below.refl w.heap.size w).alloc (Nat.le_refl _) (.cells #[] 66)))
  have GR0 := Lib.hid (World.grownBy_alloc w (.cells #[] 66) (some R))
  clear h hi hz0 hz1 hz2
  go_enter Try.func88, Try.ntmps88
  go_wp2
  go_loopw [3, 4] (fun v i wr => ∃ (k : Nat) (q : Int) (V : List VtP), k ≤ 4 ∧ i = .int .i64 (k : Int) ∧ p ≤ q ∧ q ≤ p + 28 * k ∧ V.length ≤ k ∧ Hid (wr.ownsRow w.heap.size 66 2 v V.length (V.flatMap VtP.cells)) ∧ Hid (∀ v ∈ V, v.cl.length ≤ 3 ∧ v.own wr w.heap.size) ∧ Hid (Reader wr R A n c q) ∧ Hid (w.grownBy wr (some R))) (fun _ i _ => 4 - (intOf i).toNat)
  case atStart => exact ⟨0, p, [], by omega, rfl, by omega, by omega, by simp, O0, by simp [Hid], RD0, GR0⟩
  case round =>
    clear O0 RD0 GR0
    obtain ⟨k, q, V, hk, rfl, q0, q1, hl, ho, hO, RD, GR⟩ := hrel
    obtain ⟨B, d, hv, hm⟩ := own_form ho.out
    subst hv
    clear hm
    by_cases hlt : k < 4
    · have hnR : ∀ x, (Value.slice B V.length d).ownBlock = some x → w.heap.size ≤ x := fun x hx => (own_block_ge ho.out x hx).1
      have hnR' : (Value.slice B V.length d).ownBlock ≠ some R := fun e => by have := hnR R e; omega
      have hoR : ∀ {W : World} {u : VtP}, u.own W w.heap.size → (Value.slice u.A u.cl.length u.c).ownBlock ≠ some R := fun hu e => by have := (own_block_ge hu R e).1; omega
      go_wp2_with (fail)
      refine (pickR 4 RD.out (by omega) (by omega) (by omega)).mono ?_
      rintro e wa ⟨a, a0, a1, rfl, qa, qa0, qa1, hr, hgr⟩
      have RD := Lib.hid hr
      have GR := Lib.hid (grownBy_trans GR.out hgr)
      have ho := Lib.hid (ho.out.kept hgr (.inr hnR'))
      have hO : Hid (∀ v ∈ V, v.cl.length ≤ 3 ∧ v.own wa w.heap.size) := fun v hv => ⟨(hO.out v hv).1, (hO.out v hv).2.kept hgr (.inr (hoR (hO.out v hv).2))⟩
      clear hr hgr
      by_cases ha : 0 < a
      · go_wp2_with (fail)
        refine (l20Claims RD.out (by omega)).mono ?_
        rintro e wb ⟨C, m, l, rfl, hl3, hol, qb, qb0, qb1, hr, hgr⟩
        have hsz : w.heap.size ≤ wa.heap.size := GR.out.size
        have RD := Lib.hid hr
        have GR := Lib.hid (grownBy_trans GR.out hgr)
        have ho := Lib.hid (ho.out.kept hgr (.inr hnR'))
        have hO : Hid (∀ v ∈ V ++ [(⟨(k : Int), C, m, l⟩ : VtP)], v.cl.length ≤ 3 ∧ v.own wb w.heap.size) := fun v hv => by
          rcases List.mem_append.1 hv with hv | hv
          · exact ⟨(hO.out v hv).1, (hO.out v hv).2.kept hgr (.inr (hoR (hO.out v hv).2))⟩
          · rw [List.mem_singleton.1 hv]
            exact ⟨hl3, own_base hol hsz⟩
        clear hr hgr hol
        go_wp2_with (at_builtin; refine wpList_append_own _ rfl _ _ 26 rfl w.heap.size 66 i0 (.agg #[.int .i64 0, .slice none 0 0]) 2 32 Try.underlying26 I1.out I2.out I3.out I4.out rfl (by decide) _ _ _ rfl (ho.out.alloc _) ⟨wb.heap.size, 0, none⟩ 1 1 [.int .i64 (k : Int), .slice C l.length m] rfl rfl ?c1 ?c2 ?c3 ?c4 ?c5 ?_)
        case c1 =>
          intro j u hu
          have h := (Blk.new (t := 66) (cs := #[.int .i64 (k : Int), .slice C l.length m]) wb).cell j
          rw [show Addr.add ⟨wb.heap.size, 0, none⟩ j = ⟨wb.heap.size, j, none⟩ by simp [Addr.add]; intro h; exact h.symm, h]
          simpa using hu
        case c2 => intro u hu; simp at hu; rcases hu with rfl | rfl <;> rfl
        case c3 => unfold maxLen; omega
        case c4 => omega
        case c5 => have := GR.out.size; simp at this ⊢; omega
        intro v' w3 ho3 hg3 _
        have RD3 := Lib.hid ((RD.out.below ((Below.refl _ _).alloc (Nat.le_refl _) _)).row hg3 hRlt hOld.out hnR)
        have GR3 := Lib.hid (grown_row (grownBy_trans GR.out (World.grownBy_alloc _ _ (some R))) hg3 hnR)
        have hO3 : Hid (∀ v ∈ V ++ [(⟨(k : Int), C, m, l⟩ : VtP)], v.cl.length ≤ 3 ∧ v.own w3 w.heap.size) := fun v hv => by
          obtain ⟨g1, g2⟩ := hO.out v hv
          refine ⟨g1, World.ownsRow.kept (World.ownsRow.alloc g2 _) hg3 ?_⟩
          rcases hq : (Value.slice v.A v.cl.length v.c).ownBlock with _ | x
          · exact .inl rfl
          · exact .inr fun e => own_row_ne g2 ho.out (by decide) x hq e.symm
        have ho4 : Hid (w3.ownsRow w.heap.size 66 2 v' (V ++ [(⟨(k : Int), C, m, l⟩ : VtP)]).length ((V ++ [(⟨(k : Int), C, m, l⟩ : VtP)]).flatMap VtP.cells)) := by
          show w3.ownsRow _ _ _ _ _ _
          rw [List.flatMap_append, List.length_append]
          exact ho3
        clear ho3 hg3 RD GR ho hnR hnR' hO hoR
        go_wp2
        go_roundw
        case rel => exact ⟨k + 1, qb, V ++ [(⟨(k : Int), C, m, l⟩ : VtP)], by omega, by go_num, by omega, by omega, by simp; omega, ho4, hO3, RD3, GR3⟩
        case measure => simp [intOf]; omega
      · clear hnR hnR' hoR
        go_wp2
        go_roundw
        case rel => exact ⟨k + 1, qa, V, by omega, by go_num, by omega, by omega, by omega, ho, hO, RD, GR⟩
        case measure => simp [intOf]; omega
    · go_wp2
      go_ret
      exact ⟨B, d, V, rfl, by omega, ho.out, hO.out, q, by omega, by omega, RD.out, GR.out⟩

end Go.Proofs.Ytjpbflehedbijaa
