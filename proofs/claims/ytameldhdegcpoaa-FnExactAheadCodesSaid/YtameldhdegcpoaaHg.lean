import Derived.Test.YtameldhdegcpoaaHf
import Derived.Test.YtameldhdegcpoaaMC
namespace Go.Proofs.Ytameldhdegcpoaa
open Go.ChangeShapes Go.WideShapes Go.ChangeAt Go.RowKit
set_option linter.unusedVariables false
set_option linter.unusedSimpArgs false
set_option maxRecDepth 100000 in
set_option maxHeartbeats 1000000 in
theorem markReqH (base : Nat) (A : Option Addr) (c n : Nat) (xs : List Value) (k : Int) (w : World) (h0 : 0 ≤ k) (h1 : k + 5 * n ≤ 4611686018427387904) (hn : n ≤ maxLen) (hown : w.ownsRow base 49 5 (.slice A n c) n xs) :
 Calls Try.prog 52 #[.slice A n c, .int .i64 k] w fun e w' => e = .returned (.int .i64 (k + 5 * n)) ∧ w'.ownsRow base 49 5 (.slice A n c) n (ints (marks k (n * 5))) ∧ w.grownBy w' (Value.slice A n c).ownBlock := by
 unfold maxLen at hn
 have HO := Lib.hid hown
 have hxl : n * 5 = xs.length := by have := hown.1; omega
 have HX := Lib.hid hxl
 clear hown hxl
 go_enter Try.func52, Try.ntmps52
 go_wp2
 go_loopw [1, 5] (fun kk i wr => ∃ j : Nat, j ≤ n ∧ i = .int .i64 j ∧ kk = .int .i64 (k + 5 * j) ∧ Hid (wr.ownsRow base 49 5 (.slice A n c) n (ints (marks k (j * 5)) ++ xs.drop (j * 5))) ∧ Hid (w.grownBy wr (Value.slice A n c).ownBlock)) (fun _ i _ => n - (intOf i).toNat)
 case atStart => exact ⟨0, Nat.zero_le _, rfl, by simp, by simpa [Hid, marks] using HO.out, World.grownBy.refl _ _⟩
 case round =>
  obtain ⟨j, hj, rfl, rfl, ho, hg⟩ := hrel
  by_cases hlt : j < n
  · obtain ⟨g, rfl, hb, _⟩ := own_some ho.out (by omega)
    have hf := fun p => ho.out.frozenAt p
    have hc : ∀ p, p < 5 → ∃ u, wr.cell? ⟨g, j * 5 + p, none⟩ = some u := fun p hp => ⟨_, (ho.out.cellAt (j * 5 + p) (by omega)).trans (List.getElem?_eq_getElem (by have := HX.out; simp; omega))⟩
    obtain ⟨u0, hu0⟩ := hc 0 (by omega)
    obtain ⟨u1, hu1⟩ := hc 1 (by omega)
    obtain ⟨u2, hu2⟩ := hc 2 (by omega)
    obtain ⟨u3, hu3⟩ := hc 3 (by omega)
    obtain ⟨u4, hu4⟩ := hc 4 (by omega)
    rw [Nat.add_zero] at hu0
    clear hc
    have i0 : (0 : Int) ≤ (j : Int) := by omega
    have i1 : (j : Int) < (n : Int) := by omega
    obtain ⟨m1, m2⟩ := mark5 (k := k) (xs := xs) j hlt HX.out ho.out
    have M1 := Lib.hid m1
    have M2 := Lib.hid (grownBy_trans hg.out m2)
    clear m1 m2
    go_wp2
    go_roundw
    case rel => exact ⟨j + 1, by omega, by go_num, by go_num, M1.out, M2.out⟩
    case measure => simp [intOf]; omega
  · have hz : j = n := by omega
    have HZ := Lib.hid hz
    clear hz
    go_wp2
    go_ret
    have := ho.out
    rw [HZ.out] at this ⊢
    rw [List.drop_of_length_le (by have := HX.out; omega), List.append_nil] at this
    exact ⟨rfl, this, hg.out⟩
structure Mrkd (w w' : World) (u v : Value) : Prop where
 os : w'.os = w.os
 tape : w'.tape = w.tape
 output : w'.output = w.output
 size : w.heap.size ≤ w'.heap.size
 block : ∀ k, k < w.heap.size → u.ownBlock ≠ some k → v.ownBlock ≠ some k → w'.heap[k]? = w.heap[k]?
theorem Mrkd.of2 {a b c : World} {u v : Value} (h : a.grownBy b u.ownBlock) (k : b.grownBy c v.ownBlock) : Mrkd a c u v :=
 ⟨k.os.trans h.os, k.tape.trans h.tape, k.output.trans h.output, Nat.le_trans h.size k.size, fun i hi h1 h2 => (k.block i (Nat.lt_of_lt_of_le hi h.size) (Ne.symm h2)).trans (h.block i hi (Ne.symm h1))⟩
theorem Mrkd.front {a b c : World} {u v : Value} (h : Below a.heap.size a b) (k : Mrkd b c u v) : Mrkd a c u v :=
 ⟨k.os.trans h.os, k.tape.trans h.tape, k.output.trans h.output, Nat.le_trans h.size k.size, fun i hi h1 h2 => (k.block i (Nat.lt_of_lt_of_le hi h.size) h1 h2).trans (h.block i hi)⟩
structure OwB (w : World) (lo hi : Nat) (A : Option Addr) (a : Nat) (B : Option Addr) (b : Nat) (D T : List Rq) : Prop where
 own : OwA w lo A a B b D T
 ud : ∀ x, (Value.slice A D.length a).ownBlock = some x → x < hi
 ut : ∀ x, (Value.slice B T.length b).ownBlock = some x → x < hi
theorem OwA.bd {w : World} {lo : Nat} {A : Option Addr} {a : Nat} {B : Option Addr} {b : Nat} {D T : List Rq} (h : OwA w lo A a B b D T) : OwB w lo w.heap.size A a B b D T := ⟨h, fun x hx => (own_block_ge h.d x hx).2, fun x hx => (own_block_ge h.t x hx).2⟩
theorem OwB.below {w w' : World} {lo hi : Nat} {A : Option Addr} {a : Nat} {B : Option Addr} {b : Nat} {D T : List Rq} (h : OwB w lo hi A a B b D T) (hb : Below w.heap.size w w') : OwB w' lo hi A a B b D T := ⟨h.own.below hb, h.ud, h.ut⟩
theorem OwB.box {w : World} {lo hi : Nat} {A : Option Addr} {a : Nat} {B : Option Addr} {b : Nat} {D T : List Rq} (h : OwB w lo hi A a B b D T) {p : Nat} {u0 u1 u2 : Value} (hT : Three w p 33 u0 u1 u2) (o : Nat) (u : Value) : OwB (w.setCell ⟨p, o, none⟩ u) lo hi A a B b D T := ⟨h.own.box hT o u, h.ud, h.ut⟩
theorem OwB.three {w w' : World} {lo hi : Nat} {A : Option Addr} {a : Nat} {B : Option Addr} {b : Nat} {D T : List Rq} (h : OwB w lo hi A a B b D T) (hm : Mrkd w w' (.slice A D.length a) (.slice B T.length b)) {p : Nat} {t : TypeId} {u0 u1 u2 : Value} (hT : Three w p t u0 u1 u2) (ht : 49 ≠ t) : Three w' p t u0 u1 u2 :=
 (hm.block p hT.lt (own_typeH h.own.d hT ht) (own_typeH h.own.t hT ht)).trans hT
theorem OwB.five {w w' : World} {lo hi : Nat} {A : Option Addr} {a : Nat} {B : Option Addr} {b : Nat} {D T : List Rq} (h : OwB w lo hi A a B b D T) (hm : Mrkd w w' (.slice A D.length a) (.slice B T.length b)) {p : Nat} {t : TypeId} {u0 u1 u2 u3 u4 : Value} (hT : Five w p t u0 u1 u2 u3 u4) (ht : 49 ≠ t) : Five w' p t u0 u1 u2 u3 u4 :=
 (hm.block p hT.lt (own_typeH h.own.d hT ht) (own_typeH h.own.t hT ht)).trans hT
theorem OwB.under {w w' x : World} {lo hi : Nat} {A : Option Addr} {a : Nat} {B : Option Addr} {b : Nat} {D T : List Rq} (h : OwB w lo hi A a B b D T) (hm : Mrkd w w' (.slice A D.length a) (.slice B T.length b)) (hx : Below x.heap.size x w) (hl : x.heap.size ≤ lo) : Below x.heap.size x w' :=
 hx.trans ⟨hm.os, hm.tape, hm.output, hm.size, fun k hk => hm.block k (Nat.lt_of_lt_of_le hk hx.size) (fun e => by have := (own_block_ge h.own.d k e).1; omega) (fun e => by have := (own_block_ge h.own.t k e).1; omega)⟩
structure MkA (w : World) (A : Option Addr) (n : Nat) (B : Option Addr) (m : Nat) : Prop where
 d : RdM w A (n * 5) 1
 t : RdM w B (m * 5) (1 + 5 * (n : Int))
theorem MkA.below {w w' : World} {A : Option Addr} {n : Nat} {B : Option Addr} {m : Nat} (h : MkA w A n B m) (hb : Below w.heap.size w w') : MkA w' A n B m := ⟨h.d.below hb, h.t.below hb⟩
set_option maxRecDepth 100000 in
set_option maxHeartbeats 1000000 in
theorem markAhead {w : World} {lo hi : Nat} {A : Option Addr} {a : Nat} {B : Option Addr} {b : Nat} {D T : List Rq} (k : Int) (h : OwB w lo hi A a B b D T) (hD : D.length ≤ 1048576) (hT : T.length ≤ 1048576) :
 Calls Try.prog 17 #[aheadV A D.length a B T.length b k, .int .i64 1] w fun e w' => e = .returned (.int .i64 (1 + 5 * (D.length : Int) + 5 * (T.length : Int))) ∧ MkA w' A D.length B T.length ∧ Mrkd w w' (.slice A D.length a) (.slice B T.length b) := by
 have hba : Below w.heap.size w (w.alloc (.cells #[.slice A D.length a, .slice B T.length b, .int .i64 k] 33)) := (Below.refl _ _).alloc (Nat.le_refl _) _
 have H := Lib.hid (h.below hba)
 have K0 := Lib.hid (Three.new (u0 := .slice A D.length a) (u1 := .slice B T.length b) (u2 := .int .i64 k) (t := 33) w)
 have BB := Lib.hid hba
 clear h hba
 go_enter Try.func17, Try.ntmps17
 go_upto_region 1 with (fail)
 obtain ⟨w0, hw0⟩ : ∃ X, X = w.alloc (.cells #[.slice A D.length a, .slice B T.length b, .int .i64 k] 33) := ⟨_, rfl⟩
 rw [← hw0] at H K0 BB ⊢
 clear hw0
 obtain ⟨p0, p1, p2⟩ := K0.out.cells
 go_wp2_with (fail)
 refine (markReqH lo A a D.length _ 1 _ (by omega) (by omega) (by unfold maxLen; omega) H.out.own.d).mono ?_
 rintro e w1 ⟨rfl, ho, hg⟩
 have K0 := Lib.hid (K0.out.grown hg (fun e => own_typeH H.out.own.d K0.out (by decide) e.symm))
 have O1 := Lib.hid ho
 have O2 := Lib.hid (app_keepH H.out.own.t hg H.out.own.dt)
 have G1 := Lib.hid hg
 have DT := Lib.hid H.out.own.dt
 clear p0 p1 p2 ho hg H
 obtain ⟨p0, p1, p2⟩ := K0.out.cells
 go_wp2_with (fail)
 refine (markReqH lo B b T.length _ (1 + 5 * (D.length : Int)) _ (by omega) (by omega) (by unfold maxLen; omega) O2.out).mono ?_
 rintro e w2 ⟨rfl, ho, hg⟩
 have O1 := Lib.hid (app_keepH O1.out hg (apart_symmH DT.out))
 have M1 : Hid (MkA w2 A D.length B T.length) := ⟨RdM.of_own O1.out, RdM.of_own ho⟩
 have M2 := Lib.hid (Mrkd.front BB.out (Mrkd.of2 G1.out hg))
 clear p0 p1 p2 ho hg K0 O1 O2 G1 DT BB
 go_wp2
 go_light
 go_ret
 exact ⟨rfl, M1.out, M2.out⟩
end Go.Proofs.Ytameldhdegcpoaa
