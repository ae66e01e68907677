/- A heap in memory: the first taken out; a heap made of a row. -/
import Derived.Test.YtgnemgnhjallhaaVf
namespace Go.Proofs.Ytgnemgnhjallhaa
open Go.ChangeShapes Go.WideShapes Go.ChangeAt Go.RowKit
set_option linter.unusedVariables false
set_option linter.unusedSimpArgs false

/-- Of the old blocks only the heap's own have turned. -/
structure Fr (w w' : World) (p : Nat) (v : Value) : Prop where
  os : w'.os = w.os
  tape : w'.tape = w.tape
  output : w'.output = w.output
  size : w.heap.size ≤ w'.heap.size
  block : ∀ k, k < w.heap.size → k ≠ p → v.ownBlock ≠ some k → w'.heap[k]? = w.heap[k]?
theorem Fr.refl (w : World) (p : Nat) (v : Value) : Fr w w p v := ⟨rfl, rfl, rfl, Nat.le_refl _, fun _ _ _ _ => rfl⟩
theorem Fr.below {w w1 w2 : World} {p : Nat} {v : Value} (h : Fr w w1 p v) (hb : Below w1.heap.size w1 w2) : Fr w w2 p v :=
  ⟨hb.os.trans h.os, hb.tape.trans h.tape, hb.output.trans h.output, Nat.le_trans h.size hb.size, fun k hk h1 h2 => (hb.block k (Nat.lt_of_lt_of_le hk h.size)).trans (h.block k hk h1 h2)⟩
theorem Fr.row {w w1 w2 : World} {p : Nat} {v u : Value} (h : Fr w w1 p v) (hb : w1.grownBy w2 u.ownBlock) (hu : u.ownBlock = v.ownBlock) : Fr w w2 p v :=
  ⟨hb.os.trans h.os, hb.tape.trans h.tape, hb.output.trans h.output, Nat.le_trans h.size hb.size, fun k hk h1 h2 => (hb.block k (Nat.lt_of_lt_of_le hk h.size) (fun e => h2 (by rw [← hu]; exact e.symm))).trans (h.block k hk h1 h2)⟩
theorem Fr.set {w w1 : World} {p : Nat} {v : Value} (h : Fr w w1 p v) (o : Nat) (u : Value) : Fr w (w1.setCell ⟨p, o, none⟩ u) p v := by
  have hb := grownBy_set w1 p o u
  exact ⟨hb.os.trans h.os, hb.tape.trans h.tape, hb.output.trans h.output, Nat.le_trans h.size hb.size, fun k hk h1 h2 => (hb.block k (Nat.lt_of_lt_of_le hk h.size) (fun e => h1 (by injection e))).trans (h.block k hk h1 h2)⟩
theorem Fr.new {w w1 : World} {p q : Nat} {v : Value} (h : Fr w w1 p v) (hq : w.heap.size ≤ q) (o : Nat) (u : Value) : Fr w (w1.setCell ⟨q, o, none⟩ u) p v := by
  have hb := grownBy_set w1 q o u
  exact ⟨hb.os.trans h.os, hb.tape.trans h.tape, hb.output.trans h.output, Nat.le_trans h.size hb.size, fun k hk h1 h2 => (hb.block k (Nat.lt_of_lt_of_le hk h.size) (fun e => by injection e with e; omega)).trans (h.block k hk h1 h2)⟩
theorem OwT.trunc {w : World} {lo g a : Nat} {L : List Tm} (h : OwT w lo (some ⟨g, 0, none⟩) a L) (m : Nat) (hm : m ≤ L.length) : OwT w lo (some ⟨g, 0, none⟩) a (L.take m) := by
  have hl : (L.take m).length = m := by rw [List.length_take]; omega
  show w.ownsRow _ _ _ _ _ _
  rw [hl]
  have h0 : w.ownsRow lo 25 3 (.slice (some ⟨g, 0, none⟩) L.length a) L.length (L.flatMap Tm.cells) := h
  have ht : (L.flatMap Tm.cells).take (m * 3) = (L.take m).flatMap Tm.cells := by
    clear h0 h hl hm
    induction L generalizing m with
    | nil => simp
    | cons x L ih =>
      cases m with
      | zero => simp
      | succ m =>
        rw [List.flatMap_cons, List.take_succ_cons, List.flatMap_cons, ← ih m, show (m + 1) * 3 = x.cells.length + m * 3 by simp [Tm.cells]; omega, List.take_append]
        simp only [Nat.add_sub_cancel_left]
        rw [List.take_of_length_le (by omega)]
  rw [← ht]
  have hmm : m * 3 ≤ L.length * 3 := Nat.mul_le_mul_right _ hm
  refine ⟨by rw [List.length_take, h0.1]; omega, .inr ?_⟩
  rcases h0.2 with ⟨h1, _⟩ | ⟨g', cap, cur, h1, h2, h3, h4, h5, h6, h7⟩
  · cases h1
  · simp only [Value.slice.injEq] at h1
    obtain ⟨h8, _, h9⟩ := h1
    cases h8
    subst h9
    exact ⟨g, a, cur, rfl, h2, h3, by omega, h5, h6, by rw [← h7, List.take_take, Nat.min_eq_left hmm]⟩
theorem OwT.far {w : World} {lo g a : Nat} {L : List Tm} (h : OwT w lo (some ⟨g, 0, none⟩) a L) {q : Nat} (hq : g ≠ q) (o : Nat) (u : Value) : OwT (w.setCell ⟨q, o, none⟩ u) lo (some ⟨g, 0, none⟩) a L :=
  own_same (show w.ownsRow _ _ _ _ _ _ from h) (fun k hk => heap_setCell_other w ⟨q, o, none⟩ k u (fun e => by
    simp [Value.ownBlock] at hk
    exact hq (hk.trans e)))
theorem own_capV {w : World} {base : Nat} {e : TypeId} {size : Nat} {A : Option Addr} {c n : Nat} {xs : List Value} (h : w.ownsRow base e size (.slice A n c) n xs) : n ≤ c ∧ (A = none → c = 0) ∧ c ≤ maxLen := by
  rcases h.2 with ⟨h1, h2⟩ | ⟨g, cap, cur, h1, h2, h3, h4, h5, h6⟩
  · simp only [Value.slice.injEq] at h1
    exact ⟨by omega, fun _ => h1.2.2, by omega⟩
  · simp only [Value.slice.injEq] at h1
    obtain ⟨h8, _, h9⟩ := h1
    subst h8 h9
    exact ⟨h4, (fun e => by cases e), h5⟩

set_option maxRecDepth 100000 in
set_option maxHeartbeats 4000000 in
theorem nextH (lo p : Nat) (A : Option Addr) (a : Nat) (L : List Tm) (n : Nat) (w : World) (hL : L.length ≤ 1048576) (hn : L.length = n + 1) (h : Hp w lo p A a L) :
    Calls Try.prog 48 #[.pointer (some ⟨p, 0, none⟩)] w fun e w' => e = .returned (at' L 0).val ∧ Hp w' lo p A a (nextT L) ∧ Below lo w w' ∧ Fr w w' p (.slice A L.length a) := by
  obtain ⟨g, rfl, hg, lg, hgp⟩ := h.g (by omega)
  have HLO := Lib.hid (show lo ≤ w.heap.size from Nat.le_trans h.lop (Nat.le_of_lt h.box.lt))
  have HLP := Lib.hid h.lop
  have HGR := Lib.hid (show g ≠ w.heap.size by omega)
  have HPR := Lib.hid (show w.heap.size ≠ p from fun e => by have := h.box.lt; omega)
  have HGP := Lib.hid hgp
  have HLG := Lib.hid hg
  have hca : n + 1 ≤ a := by have := (own_capV (show w.ownsRow _ _ _ _ _ _ from h.row)).1; omega
  have HH := Lib.hid h
  have HN := Lib.hid hn
  have KR : Hid (Bkk (w.alloc (.cells (tmCs ⟨0, 0, 0⟩) 25)) w.heap.size 25 (tmCs ⟨0, 0, 0⟩)) := Bkk.new _
  have FR := Lib.hid (Fr.refl w p (.slice (some ⟨g, 0, none⟩) L.length a))
  have Z : Hid (Below lo w w) := Below.refl _ _
  have hnL : n ≤ 1048576 := by omega
  have hb : Below w.heap.size w (w.alloc (.cells (tmCs ⟨0, 0, 0⟩) 25)) := (Below.refl _ _).alloc (Nat.le_refl _) _
  replace HH := Lib.hid (HH.out.below hb)
  replace FR := Lib.hid (FR.out.below hb)
  replace Z := Lib.hid (Z.out.trans (hb.mono HLO.out))
  obtain ⟨x, hx⟩ : ∃ x, at' L 0 = x := ⟨_, rfl⟩
  have HX := Lib.hid hx
  obtain ⟨R, hR⟩ : ∃ R, nextT L = R := ⟨_, rfl⟩
  have HR := Lib.hid hR
  rw [hx, hR]
  clear h hb hn hx hR hg hgp lg hL
  go_enter Try.func48, Try.ntmps48
  go_upto_region 1 with (fail)
  obtain ⟨rb, hrb⟩ : ∃ X, X = w.heap.size := ⟨_, rfl⟩
  obtain ⟨w0, hw0⟩ : ∃ X, X = (w.alloc (.cells (tmCs ⟨0, 0, 0⟩) 25)) := ⟨_, rfl⟩
  rw [← hw0] at HH KR FR Z ⊢
  rw [← hrb] at KR HGR HPR ⊢
  have HRB := Lib.hid (show w.heap.size ≤ rb from Nat.le_of_eq hrb.symm)
  clear hw0 hrb
  have hc := HH.out.cells 0 (by rw [HN.out]; omega)
  rw [HX.out] at hc
  have q0 : w0.cell? ⟨p, 0, none⟩ = some (.slice (some ⟨g, 0, none⟩) (n + 1) a) := by rw [← HN.out]; exact HH.out.box.cell 0
  have x0 : w0.cell? ⟨g, 0, none⟩ = some (.int .i64 x.a) := by simpa using hc 0 _ rfl
  have x1 : w0.cell? ⟨g, 1, none⟩ = some (.int .i64 x.f) := by simpa using hc 1 _ rfl
  have x2 : w0.cell? ⟨g, 2, none⟩ = some (.int .i64 x.n) := by simpa using hc 2 _ rfl
  have i1 : (0 : Int) < (n : Int) + 1 := by omega
  have lp := HH.out.box.lt
  clear hc
  go_upto_region 2 with (fail)
  have hb : Below w0.heap.size w0 (w0.alloc (.cells (tmCs x) 25)) := (Below.refl _ _).alloc (Nat.le_refl _) _
  have KX : Hid (Bkk (w0.alloc (.cells (tmCs x) 25)) w0.heap.size 25 (tmCs x)) := Bkk.new _
  have HGX := Lib.hid (show g ≠ w0.heap.size from fun e => by have l0 : g < w0.heap.size := World.block_lt_of_cell? w0 _ x0; omega)
  have HPX := Lib.hid (show w0.heap.size ≠ p by omega)
  have HRX := Lib.hid (show rb ≠ w0.heap.size from fun e => by have := KR.out.lt; omega)
  replace HH := Lib.hid (HH.out.below hb)
  replace KR := Lib.hid (KR.out.below hb)
  replace FR := Lib.hid (FR.out.below hb)
  replace Z := Lib.hid (Z.out.trans (hb.mono (Nat.le_trans HLO.out Z.out.size)))
  obtain ⟨xb, hxb⟩ : ∃ X, X = w0.heap.size := ⟨_, rfl⟩
  obtain ⟨w1, hw1⟩ : ∃ X, X = w0.alloc (.cells (tmCs x) 25) := ⟨_, rfl⟩
  rw [← hw1] at HH KR FR Z KX ⊢
  rw [← hxb] at KX HGX HPX HRX ⊢
  clear hw1 hxb hb q0 x0 x1 x2 lp
  have q0 : w1.cell? ⟨p, 0, none⟩ = some (.slice (some ⟨g, 0, none⟩) (n + 1) a) := by rw [← HN.out]; exact HH.out.box.cell 0
  have w9 : IntKind.i64.wrap (n : Int) = (n : Int) := wrap_nat n (by omega)
  have n0 : (0 : Int) ≤ (n : Int) := by omega
  go_wp2_with (fail)
  refine (swapC lo p _ a L 0 n 0 (n : Int) rfl rfl _ (by rw [HN.out]; unfold maxLen; omega) HH.out (by rw [HN.out]; omega) (by rw [HN.out]; omega)).mono ?_
  rintro e w2 ⟨rfl, h1, h2, h3⟩
  replace HH := Lib.hid h1
  replace KR := Lib.hid (KR.out.grownV h3 (fun e => by simp [Value.ownBlock] at e; exact HGR.out e.symm))
  replace KX := Lib.hid (KX.out.grownV h3 (fun e => by simp [Value.ownBlock] at e; exact HGX.out e.symm))
  replace FR := Lib.hid (FR.out.row h3 rfl)
  replace Z := Lib.hid (Z.out.trans h2)
  clear h1 h2 h3 q0 w9
  have HN1 := Lib.hid (show (swp L 0 n).length = n + 1 by rw [swp_len]; exact HN.out)
  have HR1 := Lib.hid (show sinkT ((swp L 0 n).take n) 0 = R by
    rw [← HR.out]
    unfold nextT
    rw [HN.out]
    rfl)
  generalize swp L 0 n = L1 at HH HN1 HR1
  have q0 : w2.cell? ⟨p, 0, none⟩ = some (.slice (some ⟨g, 0, none⟩) (n + 1) a) := by rw [← HN1.out]; exact HH.out.box.cell 0
  have qf := HH.out.box.frozen
  have lp := HH.out.box.lt
  have c1 : (n : Int) ≤ (a : Int) := by omega
  go_upto_region 5 with (fail)
  obtain ⟨L2, hL2⟩ : ∃ X, X = L1.take n := ⟨_, rfl⟩
  have HN2 := Lib.hid (show L2.length = n by rw [hL2, List.length_take, HN1.out]; omega)
  have BX : Hid (Bkk (w2.setCell ⟨p, 0, none⟩ (.slice (some ⟨g, 0, none⟩) n a)) p 62 #[.slice (some ⟨g, 0, none⟩) n a, .func (.func 51) #[] #[]]) := HH.out.box.set 0 (.slice (some ⟨g, 0, none⟩) n a)
  have OA : Hid (OwT (w2.setCell ⟨p, 0, none⟩ (.slice (some ⟨g, 0, none⟩) n a)) lo (some ⟨g, 0, none⟩) a L2) := by
    rw [hL2]
    exact (OwT.trunc (HH.out.row.box HH.out.box (by decide) 0 _) n (by rw [HN1.out]; omega))
  rw [← hL2] at HR1
  replace KR := Lib.hid (KR.out.far HPR.out 0 (.slice (some ⟨g, 0, none⟩) n a))
  replace KX := Lib.hid (KX.out.far HPX.out 0 (.slice (some ⟨g, 0, none⟩) n a))
  replace FR := Lib.hid (FR.out.set 0 (.slice (some ⟨g, 0, none⟩) n a))
  replace Z := Lib.hid (Z.out.setCell (p := ⟨p, 0, none⟩) HLP.out (.slice (some ⟨g, 0, none⟩) n a))
  obtain ⟨w3, hw3⟩ : ∃ X, X = (w2.setCell ⟨p, 0, none⟩ (.slice (some ⟨g, 0, none⟩) n a)) := ⟨_, rfl⟩
  rw [← hw3] at BX OA KR KX FR Z ⊢
  replace HH : Hid (Hp w3 lo p (some ⟨g, 0, none⟩) a L2) := ⟨by rw [HN2.out]; exact BX.out, OA.out, HLP.out⟩
  clear hw3 BX OA hL2 q0 qf lp HN1
  have SK := Lib.hid (sinkH lo p _ a L2 w3 (by rw [HN2.out]; omega) HH.out)
  go_wp2_with (fail)
  refine SK.out.mono ?_
  rintro e w4 ⟨rfl, h1, h2, h3⟩
  rw [HR1.out] at h1
  replace HH := Lib.hid h1
  replace KR := Lib.hid (KR.out.grownV h3 (fun e => by simp [Value.ownBlock] at e; exact HGR.out e.symm))
  replace KX := Lib.hid (KX.out.grownV h3 (fun e => by simp [Value.ownBlock] at e; exact HGX.out e.symm))
  replace FR := Lib.hid (FR.out.row h3 rfl)
  replace Z := Lib.hid (Z.out.trans h2)
  clear h1 h2 h3 SK HR1
  have x0 : w4.cell? ⟨xb, 0, none⟩ = some (.int .i64 x.a) := KX.out.cell 0
  have x1 : w4.cell? ⟨xb, 1, none⟩ = some (.int .i64 x.f) := KX.out.cell 1
  have x2 : w4.cell? ⟨xb, 2, none⟩ = some (.int .i64 x.n) := KX.out.cell 2
  have r0 : w4.cell? ⟨rb, 0, none⟩ = some (.int .i64 0) := KR.out.cell 0
  have r1 : w4.cell? ⟨rb, 1, none⟩ = some (.int .i64 0) := KR.out.cell 1
  have r2 : w4.cell? ⟨rb, 2, none⟩ = some (.int .i64 0) := KR.out.cell 2
  have rf := KR.out.frozen
  have lr := KR.out.lt
  have HG5 := Lib.hid (show rb ≠ p from HPR.out)
  have BX := Lib.hid (((HH.out.box.far (Ne.symm HG5.out) 0 (.int .i64 x.a)).far (Ne.symm HG5.out) 1 (.int .i64 x.f)).far (Ne.symm HG5.out) 2 (.int .i64 x.n))
  have OA := Lib.hid (((HH.out.row.far HGR.out 0 (.int .i64 x.a)).far HGR.out 1 (.int .i64 x.f)).far HGR.out 2 (.int .i64 x.n))
  replace FR := Lib.hid (((FR.out.new HRB.out 0 (.int .i64 x.a)).new HRB.out 1 (.int .i64 x.f)).new HRB.out 2 (.int .i64 x.n))
  replace Z := Lib.hid (((Z.out.setCell (p := ⟨rb, 0, none⟩) (Nat.le_trans HLO.out HRB.out) (.int .i64 x.a)).setCell (p := ⟨rb, 1, none⟩) (Nat.le_trans HLO.out HRB.out) (.int .i64 x.f)).setCell (p := ⟨rb, 2, none⟩) (Nat.le_trans HLO.out HRB.out) (.int .i64 x.n))
  clear HH KR KX
  go_wp2
  refine bodyPost_ret (v := x.val) (by simp [results, Try.results48, go_sem, r0, r1, r2, rf]) rfl ⟨rfl, ⟨BX.out, OA.out, HLP.out⟩, Z.out, FR.out⟩

structure RdT (w : World) (A : Option Addr) (a : Nat) (L : List Tm) : Prop where
  r : Rd 3 Tm.cells w A L
  nA : A = none → a = 0
theorem RdT.below {w w' : World} {A : Option Addr} {a : Nat} {L : List Tm} (h : RdT w A a L) (hb : Below w.heap.size w w') : RdT w' A a L := ⟨Rd.below h.r hb, h.nA⟩
theorem OwT.rdT {w : World} {lo : Nat} {A : Option Addr} {a : Nat} {L : List Tm} (h : OwT w lo A a L) : RdT w A a L := ⟨h.rd, (own_capV (show w.ownsRow _ _ _ _ _ _ from h)).2.1⟩
set_option maxRecDepth 100000 in
set_option maxHeartbeats 2000000 in
theorem queueOf (A : Option Addr) (a : Nat) (L : List Tm) (w : World) (hL : L.length ≤ 2097152) (h : RdT w A a L) :
    Calls Try.prog 39 #[.slice A L.length a] w fun e w' => ∃ p A' a', e = .returned (.pointer (some ⟨p, 0, none⟩)) ∧ Hp w' w.heap.size p A' a' L ∧ Below w.heap.size w w' := by
  obtain ⟨I, hi, hz0, hz1, hz2⟩ := parts_ofH infoTimed
  have I1 := Lib.hid hi
  have I2 := Lib.hid hz0
  have I3 := Lib.hid hz1
  have I4 := Lib.hid hz2
  clear hi hz0 hz1 hz2
  have HR := Lib.hid h
  clear h
  go_enter Try.func39, Try.ntmps39
  go_wp2_with (at_builtin; go_loud (refine list_app (f := Tm.cells) (fun _ => rfl) rfl _ _ 23 rfl w.heap.size 25 I (.agg #[.int .i64 0, .int .i64 0, .int .i64 0]) 24 Try.underlying23 I1.out I2.out I3.out I4.out rfl (by decide) (.slice none 0 0) 0 [] rfl (World.ownsRow_nil _ _ _ _) A a L.length L rfl rfl HR.out.r HR.out.nA (tm_one _) (by unfold maxLen; omega) (by omega) (Nat.le_refl _) ?_))
  intro v3 w3 ho hg hp
  (try simp only [Nat.zero_add, List.nil_append] at ho)
  obtain ⟨A1, a1, rfl⟩ := own_formH ho
  have hb : Below w.heap.size w w3 := Below.of_grown hg (Nat.le_refl _) (fun q hq => by simp [Value.ownBlock] at hq)
  have OA : Hid (OwT w3 w.heap.size A1 a1 L) := ho
  have Z := Lib.hid hb
  clear ho hg hp hb
  have hba : Below w3.heap.size w3 (w3.alloc (.cells #[.slice A1 L.length a1, .func (.func 51) #[] #[]] 62)) := (Below.refl _ _).alloc (Nat.le_refl _) _
  have HP : Hid (Hp (w3.alloc (.cells #[.slice A1 L.length a1, .func (.func 51) #[] #[]] 62)) w.heap.size w3.heap.size A1 a1 L) := ⟨Bkk.new _, OA.out.below hba, Z.out.size⟩
  have Z := Lib.hid (Below.and Z.out hba)
  clear hba OA
  go_wp2
  go_light
  go_ret
  exact ⟨_, A1, a1, rfl, HP.out, Z.out⟩

end Go.Proofs.Ytgnemgnhjallhaa
