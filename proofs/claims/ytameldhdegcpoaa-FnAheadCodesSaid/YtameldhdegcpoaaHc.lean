import Derived.Test.YtameldhdegcpoaaHb
import Derived.Test.YtameldhdegcpoaaME
import Derived.Test.YtameldhdegcpoaaBk
namespace Go.Proofs.Ytameldhdegcpoaa
open Go.ChangeShapes Go.WideShapes Go.ChangeAt Go.RowKit
set_option linter.unusedVariables false
set_option linter.unusedSimpArgs false
structure OwA (w : World) (lo : Nat) (A : Option Addr) (a : Nat) (B : Option Addr) (b : Nat) (D W : List Rq) : Prop where
  d : w.ownsRow lo 49 5 (.slice A D.length a) D.length (D.flatMap Rq.cells)
  t : w.ownsRow lo 49 5 (.slice B W.length b) W.length (W.flatMap Rq.cells)
  dt : ∀ x, (Value.slice A D.length a).ownBlock = some x → (Value.slice B W.length b).ownBlock ≠ some x
theorem OwA.nil (w : World) (lo : Nat) : OwA w lo none 0 none 0 [] [] := ⟨World.ownsRow_nil _ _ _ _, World.ownsRow_nil _ _ _ _, (fun _ h => by cases h)⟩
theorem OwA.below {w : World} {lo : Nat} {A : Option Addr} {a : Nat} {B : Option Addr} {b : Nat} {D W : List Rq} {w' : World} (h : OwA w lo A a B b D W) (hb : Below w.heap.size w w') : OwA w' lo A a B b D W := ⟨own_below h.d hb, own_below h.t hb, h.dt⟩
theorem OwA.base {w : World} {lo : Nat} {A : Option Addr} {a : Nat} {B : Option Addr} {b : Nat} {D W : List Rq} {p : Nat} (h : OwA w p A a B b D W) (hl : lo ≤ p) : OwA w lo A a B b D W := ⟨own_base h.d hl, own_base h.t hl, h.dt⟩
theorem OwA.put {w : World} {lo : Nat} {A : Option Addr} {a : Nat} {B : Option Addr} {b : Nat} {D W : List Rq} (h : OwA w lo A a B b D W) {q : Nat} (hq : q < lo) (o : Nat) (u : Value) : OwA (w.setCell ⟨q, o, none⟩ u) lo A a B b D W := ⟨own_put h.d hq o u, own_put h.t hq o u, h.dt⟩
theorem OwA.rd {w : World} {lo : Nat} {A : Option Addr} {a : Nat} {B : Option Addr} {b : Nat} {D W : List Rq} (h : OwA w lo A a B b D W) : Rd 5 Rq.cells w A D ∧ Rd 5 Rq.cells w B W :=
  ⟨Rd.of_own (f := Rq.cells) (k := 5) (fun _ => rfl) h.d rfl, Rd.of_own (f := Rq.cells) (k := 5) (fun _ => rfl) h.t rfl⟩
set_option maxRecDepth 100000 in
set_option maxHeartbeats 2000000 in
theorem toAhead (A : Option Addr) (a : Nat) (B : Option Addr) (b : Nat) (D W : List Rq) (k : Int) (w : World) (hD : D.length ≤ 1048576) (hW : W.length ≤ 1048576) (rD : Rd 5 Rq.cells w A D) (rW : Rd 5 Rq.cells w B W) :
    Calls Try.prog 13 #[aheadV A D.length a B W.length b k] w fun e w' => ∃ g h : Nat, e = .returned (aheadV (some ⟨g, 0, none⟩) D.length D.length (some ⟨h, 0, none⟩) W.length W.length k) ∧ OwA w' w.heap.size (some ⟨g, 0, none⟩) D.length (some ⟨h, 0, none⟩) W.length D W ∧ Below w.heap.size w w' := by
  have HD := Lib.hid rD
  have HW := Lib.hid rW
  have K0 := Lib.hid (((Three.new (u0 := .slice A D.length a) (u1 := .slice B W.length b) (u2 := .int .i64 k) (t := 24) w).alloc (.cells #[.slice none 0 0, .slice none 0 0, .int .i64 0] 33)).alloc (.cells #[.slice none 0 0, .slice none 0 0, .int .i64 0] 33))
  have K1 : Hid (Three (((w.alloc (.cells #[.slice A D.length a, .slice B W.length b, .int .i64 k] 24)).alloc (.cells #[.slice none 0 0, .slice none 0 0, .int .i64 0] 33)).alloc (.cells #[.slice none 0 0, .slice none 0 0, .int .i64 0] 33)) (w.heap.size + 1) 33 (.slice none 0 0) (.slice none 0 0) (.int .i64 0)) := by have := (Three.new (u0 := .slice none 0 0) (u1 := .slice none 0 0) (u2 := .int .i64 0) (t := 33) (w.alloc (.cells #[.slice A D.length a, .slice B W.length b, .int .i64 k] 24))).alloc (.cells #[.slice none 0 0, .slice none 0 0, .int .i64 0] 33); simpa [Hid] using this
  have K2 : Hid (Three (((w.alloc (.cells #[.slice A D.length a, .slice B W.length b, .int .i64 k] 24)).alloc (.cells #[.slice none 0 0, .slice none 0 0, .int .i64 0] 33)).alloc (.cells #[.slice none 0 0, .slice none 0 0, .int .i64 0] 33)) (w.heap.size + 1 + 1) 33 (.slice none 0 0) (.slice none 0 0) (.int .i64 0)) := by have := Three.new (u0 := .slice none 0 0) (u1 := .slice none 0 0) (u2 := .int .i64 0) (t := 33) ((w.alloc (.cells #[.slice A D.length a, .slice B W.length b, .int .i64 k] 24)).alloc (.cells #[.slice none 0 0, .slice none 0 0, .int .i64 0] 33)); simpa [Hid] using this
  have Z : Hid (Below w.heap.size w (((w.alloc (.cells #[.slice A D.length a, .slice B W.length b, .int .i64 k] 24)).alloc (.cells #[.slice none 0 0, .slice none 0 0, .int .i64 0] 33)).alloc (.cells #[.slice none 0 0, .slice none 0 0, .int .i64 0] 33))) := (below_alloc2 w _ _).alloc (by simp; omega) _
  have HS : Hid ((((w.alloc (.cells #[.slice A D.length a, .slice B W.length b, .int .i64 k] 24)).alloc (.cells #[.slice none 0 0, .slice none 0 0, .int .i64 0] 33)).alloc (.cells #[.slice none 0 0, .slice none 0 0, .int .i64 0] 33)).heap.size = w.heap.size + 1 + 1 + 1) := by show _ = _; simp
  clear rD rW
  go_enter Try.func13, Try.ntmps13
  go_upto_region 2 with (fail)
  obtain ⟨w0, hw0⟩ : ∃ X, X = (((w.alloc (.cells #[.slice A D.length a, .slice B W.length b, .int .i64 k] 24)).alloc (.cells #[.slice none 0 0, .slice none 0 0, .int .i64 0] 33)).alloc (.cells #[.slice none 0 0, .slice none 0 0, .int .i64 0] 33)) := ⟨_, rfl⟩
  rw [← hw0] at K0 K1 K2 Z HS ⊢
  clear hw0
  obtain ⟨p0, p1, p2⟩ := K0.out.cells
  obtain ⟨q0, q1, q2⟩ := K2.out.cells
  have qf := K2.out.frozen
  have lp := K0.out.lt
  go_wp2_with (fail)
  refine (toReqS A a D _ hD (Rd.below HD.out Z.out)).mono ?_
  rintro e w1 ⟨g1, rfl, hg1, o1, h1⟩
  have G1 := Lib.hid (show w.heap.size + 3 ≤ g1 by have := HS.out; omega)
  have O1 := Lib.hid (own_base o1 (show w.heap.size + 3 ≤ w0.heap.size by have := HS.out; omega))
  have L1 := Lib.hid (show g1 < w1.heap.size from (own_block_ge o1 g1 rfl).2)
  have LZ := Lib.hid (show w.heap.size + 3 ≤ w1.heap.size by have := HS.out; have := h1.size; omega)
  have K0 := Lib.hid (Three.below K0.out h1 K0.out.lt)
  have K1 := Lib.hid (Three.below K1.out h1 K1.out.lt)
  have K2 := Lib.hid (Three.below K2.out h1 K2.out.lt)
  have Z := Lib.hid (Below.and Z.out h1)
  clear p0 p1 p2 q0 q1 q2 qf lp
  clear h1 o1 hg1 HS
  obtain ⟨p0, p1, p2⟩ := K0.out.cells
  obtain ⟨q0, q1, q2⟩ := K2.out.cells
  have qf := K2.out.frozen
  have lp := K0.out.lt
  go_upto_region 3 with (fail)
  clear p0 p1 p2 q0 q1 q2 qf lp
  have Z := Lib.hid (Below.setCell Z.out (p := ⟨w.heap.size + 1 + 1, 0, none⟩) (by simp; omega) (.slice (some ⟨g1, 0, none⟩) D.length D.length))
  have K0 := Lib.hid (K0.out.far (show w.heap.size ≠ w.heap.size + 1 + 1 by omega) (j := 0) (.slice (some ⟨g1, 0, none⟩) D.length D.length))
  have K1 := Lib.hid (K1.out.far (show w.heap.size + 1 ≠ w.heap.size + 1 + 1 by omega) (j := 0) (.slice (some ⟨g1, 0, none⟩) D.length D.length))
  have K2 := Lib.hid (K2.out.set0 (.slice (some ⟨g1, 0, none⟩) D.length D.length))
  have O1 := Lib.hid (own_put O1.out (b := w.heap.size + 1 + 1) (by omega) 0 (.slice (some ⟨g1, 0, none⟩) D.length D.length))
  have L1 := Lib.hid (show g1 < (w1.setCell ⟨w.heap.size + 1 + 1, 0, none⟩ (.slice (some ⟨g1, 0, none⟩) D.length D.length)).heap.size by have := L1.out; simpa using this)
  have LZ := Lib.hid (show w.heap.size + 3 ≤ (w1.setCell ⟨w.heap.size + 1 + 1, 0, none⟩ (.slice (some ⟨g1, 0, none⟩) D.length D.length)).heap.size by have := LZ.out; simpa using this)
  obtain ⟨w2, hw2⟩ : ∃ X, X = (w1.setCell ⟨w.heap.size + 1 + 1, 0, none⟩ (.slice (some ⟨g1, 0, none⟩) D.length D.length)) := ⟨_, rfl⟩
  rw [← hw2] at K0 K1 K2 Z O1 L1 LZ ⊢
  clear hw2
  obtain ⟨p0, p1, p2⟩ := K0.out.cells
  obtain ⟨q0, q1, q2⟩ := K2.out.cells
  have qf := K2.out.frozen
  have lp := K0.out.lt
  go_wp2_with (fail)
  refine (toReqS B b W _ hW (Rd.below HW.out Z.out)).mono ?_
  rintro e w3 ⟨g2, rfl, hg2, o2, h2⟩
  have N12 := Lib.hid (show g1 ≠ g2 by have := L1.out; omega)
  have G2 := Lib.hid (show w.heap.size + 3 ≤ g2 by have := LZ.out; omega)
  have O1 := Lib.hid (own_below O1.out h2)
  have O2 := Lib.hid (own_base o2 (show w.heap.size + 3 ≤ w2.heap.size from LZ.out))
  have K0 := Lib.hid (Three.below K0.out h2 K0.out.lt)
  have K1 := Lib.hid (Three.below K1.out h2 K1.out.lt)
  have K2 := Lib.hid (Three.below K2.out h2 K2.out.lt)
  have Z := Lib.hid (Below.and Z.out h2)
  clear p0 p1 p2 q0 q1 q2 qf lp
  clear h2 o2 hg2 LZ L1
  obtain ⟨p0, p1, p2⟩ := K0.out.cells
  obtain ⟨q0, q1, q2⟩ := K2.out.cells
  have qf := K2.out.frozen
  have lp := K0.out.lt
  go_upto_region 4 with (fail)
  clear p0 p1 p2 q0 q1 q2 qf lp
  have Z := Lib.hid (Below.setCell Z.out (p := ⟨w.heap.size + 1 + 1, 1, none⟩) (by simp; omega) (.slice (some ⟨g2, 0, none⟩) W.length W.length))
  have K0 := Lib.hid (K0.out.far (show w.heap.size ≠ w.heap.size + 1 + 1 by omega) (j := 1) (.slice (some ⟨g2, 0, none⟩) W.length W.length))
  have K1 := Lib.hid (K1.out.far (show w.heap.size + 1 ≠ w.heap.size + 1 + 1 by omega) (j := 1) (.slice (some ⟨g2, 0, none⟩) W.length W.length))
  have K2 := Lib.hid (K2.out.set1 (.slice (some ⟨g2, 0, none⟩) W.length W.length))
  have O1 := Lib.hid (own_put O1.out (b := w.heap.size + 1 + 1) (by omega) 1 (.slice (some ⟨g2, 0, none⟩) W.length W.length))
  have O2 := Lib.hid (own_put O2.out (b := w.heap.size + 1 + 1) (by omega) 1 (.slice (some ⟨g2, 0, none⟩) W.length W.length))
  obtain ⟨w4, hw4⟩ : ∃ X, X = (w3.setCell ⟨w.heap.size + 1 + 1, 1, none⟩ (.slice (some ⟨g2, 0, none⟩) W.length W.length)) := ⟨_, rfl⟩
  rw [← hw4] at K0 K1 K2 Z O1 O2 ⊢
  clear hw4
  obtain ⟨p0, p1, p2⟩ := K0.out.cells
  obtain ⟨q0, q1, q2⟩ := K2.out.cells
  have qf := K2.out.frozen
  have lp := K0.out.lt
  go_upto_region 5 with (fail)
  clear p0 p1 p2 q0 q1 q2 qf lp
  have Z := Lib.hid (Below.setCell Z.out (p := ⟨w.heap.size + 1 + 1, 2, none⟩) (by simp; omega) (.int .i64 k))
  have K0 := Lib.hid (K0.out.far (show w.heap.size ≠ w.heap.size + 1 + 1 by omega) (j := 2) (.int .i64 k))
  have K1 := Lib.hid (K1.out.far (show w.heap.size + 1 ≠ w.heap.size + 1 + 1 by omega) (j := 2) (.int .i64 k))
  have K2 := Lib.hid (K2.out.set2 (.int .i64 k))
  have O1 := Lib.hid (own_put O1.out (b := w.heap.size + 1 + 1) (by omega) 2 (.int .i64 k))
  have O2 := Lib.hid (own_put O2.out (b := w.heap.size + 1 + 1) (by omega) 2 (.int .i64 k))
  obtain ⟨w5, hw5⟩ : ∃ X, X = (w4.setCell ⟨w.heap.size + 1 + 1, 2, none⟩ (.int .i64 k)) := ⟨_, rfl⟩
  rw [← hw5] at K0 K1 K2 Z O1 O2 ⊢
  clear hw5
  obtain ⟨z0, z1, z2⟩ := K1.out.cells
  have zf := K1.out.frozen
  obtain ⟨q0, q1, q2⟩ := K2.out.cells
  have OA : Hid (OwA w5 (w.heap.size + 3) (some ⟨g1, 0, none⟩) D.length (some ⟨g2, 0, none⟩) W.length D W) := ⟨O1.out, O2.out, fun x hx hy => by
    simp only [Value.ownBlock, Option.some.injEq] at hx hy
    exact N12.out (hx.trans hy.symm)⟩
  have OA := Lib.hid ((((OA.out.put (q := w.heap.size + 1) (by omega) 0 (.slice (some ⟨g1, 0, none⟩) D.length D.length)).put (q := w.heap.size + 1) (by omega) 1 (.slice (some ⟨g2, 0, none⟩) W.length W.length)).put (q := w.heap.size + 1) (by omega) 2 (.int .i64 k)).base (show w.heap.size ≤ w.heap.size + 3 by omega))
  have BG := Lib.hid (((Z.out.setCell (p := ⟨w.heap.size + 1, 0, none⟩) (by simp) (.slice (some ⟨g1, 0, none⟩) D.length D.length)).setCell (p := ⟨w.heap.size + 1, 1, none⟩) (by simp) (.slice (some ⟨g2, 0, none⟩) W.length W.length)).setCell (p := ⟨w.heap.size + 1, 2, none⟩) (by simp) (.int .i64 k))
  clear K0 K1 K2 Z O1 O2
  go_wp2
  refine bodyPost_ret (v := aheadV (some ⟨g1, 0, none⟩) D.length D.length (some ⟨g2, 0, none⟩) W.length W.length k) (by simp [results, Try.results13, go_sem, z0, z1, z2]) rfl ⟨g1, g2, rfl, OA.out, BG.out⟩
set_option maxRecDepth 100000 in
set_option maxHeartbeats 2000000 in
theorem eqAhead_rd (A : Option Addr) (a : Nat) (B : Option Addr) (b : Nat) (A' : Option Addr) (a' : Nat) (B' : Option Addr) (b' : Nat) (D W : List Rq) (k : Int) (w : World) (hD : D.length ≤ 1048576) (hW : W.length ≤ 1048576) (rD : Rd 5 Rq.cells w A D) (rW : Rd 5 Rq.cells w B W) (rD' : Rd 5 Rq.cells w A' D) (rW' : Rd 5 Rq.cells w B' W) :
    Calls Try.prog 16 #[aheadV A D.length a B W.length b k, aheadV A' D.length a' B' W.length b' k] w fun e w' => e = .returned (.bool true) ∧ Below w.heap.size w w' := by
  have kk : (k != k) = false := by simp
  have K0 := Lib.hid ((Three.new (u0 := .slice A D.length a) (u1 := .slice B W.length b) (u2 := .int .i64 k) (t := 33) w).alloc (.cells #[.slice A' D.length a', .slice B' W.length b', .int .i64 k] 33))
  have K1 : Hid (Three ((w.alloc (.cells #[.slice A D.length a, .slice B W.length b, .int .i64 k] 33)).alloc (.cells #[.slice A' D.length a', .slice B' W.length b', .int .i64 k] 33)) (w.heap.size + 1) 33 (.slice A' D.length a') (.slice B' W.length b') (.int .i64 k)) := by have := Three.new (u0 := .slice A' D.length a') (u1 := .slice B' W.length b') (u2 := .int .i64 k) (t := 33) (w.alloc (.cells #[.slice A D.length a, .slice B W.length b, .int .i64 k] 33)); simpa [Hid] using this
  have Z : Hid (Below w.heap.size w ((w.alloc (.cells #[.slice A D.length a, .slice B W.length b, .int .i64 k] 33)).alloc (.cells #[.slice A' D.length a', .slice B' W.length b', .int .i64 k] 33))) := below_alloc2 w _ _
  have H1 := Lib.hid rD; have H2 := Lib.hid rW; have H3 := Lib.hid rD'; have H4 := Lib.hid rW'
  clear rD rW rD' rW'
  go_enter Try.func16, Try.ntmps16
  go_upto_region 1 with (fail)
  obtain ⟨w0, hw0⟩ : ∃ X, X = ((w.alloc (.cells #[.slice A D.length a, .slice B W.length b, .int .i64 k] 33)).alloc (.cells #[.slice A' D.length a', .slice B' W.length b', .int .i64 k] 33)) := ⟨_, rfl⟩
  rw [← hw0] at K0 K1 Z ⊢
  clear hw0
  obtain ⟨p0, p1, p2⟩ := K0.out.cells
  obtain ⟨q0, q1, q2⟩ := K1.out.cells
  go_wp2_with (fail)
  refine (eqReqS A A' a a' D D _ (by unfold maxLen; omega) (Rd.below H1.out Z.out) (Rd.below H3.out Z.out)).mono ?_
  rintro e w1 ⟨rfl, hb⟩
  rw [show decide (D = D) = true from decide_eq_true rfl]
  clear p0 p1 p2 q0 q1 q2
  have K0 := Lib.hid (Three.below K0.out hb K0.out.lt)
  have K1 := Lib.hid (Three.below K1.out hb K1.out.lt)
  have Z := Lib.hid (Below.and Z.out hb)
  clear hb
  obtain ⟨p0, p1, p2⟩ := K0.out.cells
  obtain ⟨q0, q1, q2⟩ := K1.out.cells
  go_wp2_with (fail)
  refine (eqReqS B B' b b' W W _ (by unfold maxLen; omega) (Rd.below H2.out Z.out) (Rd.below H4.out Z.out)).mono ?_
  rintro e w2 ⟨rfl, hb⟩
  rw [show decide (W = W) = true from decide_eq_true rfl]
  clear p0 p1 p2 q0 q1 q2
  have K0 := Lib.hid (Three.below K0.out hb K0.out.lt)
  have K1 := Lib.hid (Three.below K1.out hb K1.out.lt)
  have Z := Lib.hid (Below.and Z.out hb)
  clear hb
  obtain ⟨p0, p1, p2⟩ := K0.out.cells
  obtain ⟨q0, q1, q2⟩ := K1.out.cells
  go_wp2
  go_light
  go_ret
  exact ⟨rfl, Z.out⟩
def szOfA (n m : Nat) : Int := if n + m ≤ 1048576 then 1048576 - (n : Int) - (m : Int) else -1
theorem szAhead (A : Option Addr) (n a : Nat) (B : Option Addr) (m b : Nat) (k : Int) (w : World) (hn : n ≤ maxLen) (hm : m ≤ maxLen) :
    Calls Try.prog 11 #[aheadV A n a B m b k, .int .i64 1048576] w fun e w' => e = .returned (.int .i64 (szOfA n m)) ∧ Below w.heap.size w w' := by
  go_enter Try.func11, Try.ntmps11
  go_wp2_with (fail)
  refine (szReqS A n a 1048576 _ hn (by omega) (by omega)).mono ?_
  rintro e w1 ⟨rfl, rfl⟩
  by_cases h1 : (1048576 : Int) - n < 0
  · rw [if_pos h1]
    go_wp2
    go_light
    go_ret
    exact ⟨ret_int (by unfold szOfA; rw [if_neg (by omega)]), (Below.refl _ _).alloc (Nat.le_refl _) _⟩
  rw [if_neg h1]
  have d1 : decide ((1048576 : Int) - n < 0) = false := by simp; omega
  go_wp2_with (fail)
  refine (szReqS B m b (1048576 - n) _ hm (by omega) (by omega)).mono ?_
  rintro e w1 ⟨rfl, rfl⟩
  by_cases h2 : (1048576 : Int) - n - m < 0
  · rw [if_pos h2]
    go_wp2
    go_light
    go_ret
    exact ⟨ret_int (by unfold szOfA; rw [if_neg (by omega)]), (Below.refl _ _).alloc (Nat.le_refl _) _⟩
  rw [if_neg h2]
  have d2 : decide ((1048576 : Int) - n - m < 0) = false := by simp; omega
  go_wp2
  go_light
  go_ret
  exact ⟨ret_int (by unfold szOfA; rw [if_pos (by omega)]), (Below.refl _ _).alloc (Nat.le_refl _) _⟩
section
variable {H : Type} {enc : TypeId × Value → H} {w : World} {base : Nat} {spare : Nat → Bool} {held : Bool}
theorem in_rowsH {P : Program} {α : Type} {f : α → List Value} {Q : α → Prop} {k : Nat} {t e : TypeId} {fuel : Nat} {cs : List Value} {x : DataW H × List MemPlace} (ht : P.underlying t = some (.slice e)) (hC : P.cellsOf e = k)
    (hk : 0 < k) (hf : ∀ p, (f p).length = k) (hq : ∀ (n : Nat) (cl : List Value) (y : DataW H × List MemPlace), cl.length = k → DataW.trod enc P w base spare held n e cl = some y → ∃ p, cl = f p ∧ Q p)
    (h : DataW.trod enc P w base spare held fuel t cs = some x) : ∃ (A : Option Addr) (c : Nat) (l : List α), cs = [.slice A l.length c] ∧ l.length ≤ maxLen ∧ l.length ≤ c ∧ Rd k f w A l ∧ ∀ p ∈ l, Q p := by
  rcases Go.Deep.open_slice ht h with ⟨rfl, _⟩ | ⟨a, len, cap, m, n, D, Pl, rfl, _, hl, hm, hmm, _, hi⟩
  · exact ⟨none, 0, [], rfl, Nat.zero_le _, Nat.zero_le _, fun i hi => absurd hi (by simp), fun p hp => by cases hp⟩
  · have hml : len ≤ m := by rw [hmm]; split <;> omega
    have each : ∀ i, i < len → ∃ p : α, Q p ∧ ∀ (j : Nat) (u : Value), (f p)[j]? = some u → w.cell? (a.add (i * k + j)) = some u := by
      intro i hilt
      obtain ⟨cs', hcs, htr⟩ := hi i (by omega)
      rw [hC] at hcs
      obtain ⟨_, hlen, hat⟩ := World.cells?_some hcs
      obtain ⟨p, rfl, hp⟩ := hq _ _ _ hlen htr
      refine ⟨p, hp, fun j u hu => ?_⟩
      have hj : j < k := by have := (List.getElem?_eq_some_iff.1 hu).1; rw [hf] at this; exact this
      have := hat j hj
      rw [Go.Deep.add_add] at this
      rw [this]
      exact hu
    have hc0 : 0 < len → a = ⟨a.block, a.off, none⟩ := by
      intro h0
      obtain ⟨p, _, hp⟩ := each 0 h0
      have h1 : (f p)[0]? = some ((f p)[0]'(by rw [hf]; exact hk)) := List.getElem?_eq_getElem _
      have := hp 0 _ h1
      rw [show a.add (0 * k + 0) = a from by simp [Addr.add]] at this
      exact addr_of this
    obtain ⟨E, hE, hat⟩ := pick_list len each
    refine ⟨some a, cap, E, by rw [hE], by omega, by omega, fun i hi' => ?_, fun p hp => ?_⟩
    · have ha := hc0 (by omega)
      refine ⟨a.block, a.off, by rw [← ha], fun j u hu => ?_⟩
      have := (hat i hi').2 j u hu
      rw [ha, add_eq] at this
      rw [Nat.add_assoc]
      exact this
    · obtain ⟨i, hi', rfl⟩ := List.getElem_of_mem hp
      exact (hat i hi').1
set_option maxRecDepth 100000 in
theorem cells_reqH {n : Nat} {cl : List Value} {y : DataW H × List MemPlace} (hl : cl.length = 5) (h : DataW.trod enc Try.prog w base spare held n 88 cl = some y) : ∃ r : Rq, cl = r.cells := by
  obtain ⟨l, rfl⟩ := ints_of_cells Try.underlying88 (by kernel_rfl) (by rw [hl]; kernel_rfl) (by kernel_rfl) h
  obtain ⟨a, b, c, d, e, rfl⟩ := five_of l (by simpa using hl)
  exact ⟨⟨a, b, c, d, e⟩, rfl⟩
theorem fieldOf {P : Program} {t : TypeId} {fs : Array Field} {fuel : Nat} {cl : List Value} {x : DataW H × List MemPlace} (hs : P.underlying t = some (.struct fs)) (h : DataW.trod enc P w base spare held fuel t cl = some x)
    (i : Nat) {tp off k : Nat} (ht : (fs[i]?).map (fun f => f.type) = some tp) (ho : (fs[i]?).map (fun f => f.offset) = some off) (hk : P.cellsOf tp = k) : ∃ n y, DataW.trod enc P w base spare held n tp ((cl.drop off).take k) = some y := by
  obtain ⟨xs, n, _, _, _, hlen, hg⟩ := DataW.trod_struct hs h
  rcases hf : fs[i]? with _ | f
  · rw [hf] at ht; cases ht
  · rw [hf] at ht ho
    simp only [Option.map_some, Option.some.injEq] at ht ho
    have h1 := hg i f hf
    have hi : i < fs.size := (Array.getElem?_eq_some_iff.1 hf).1
    rw [ht, ho, hk, List.getElem?_eq_getElem (by omega)] at h1
    exact ⟨n, _, h1⟩
set_option maxRecDepth 100000 in
theorem in_reqsG {fuel : Nat} {cs : List Value} {x : DataW H × List MemPlace} (h : DataW.trod enc Try.prog w base spare held fuel 22 cs = some x) :
    ∃ (A : Option Addr) (c : Nat) (l : List Rq), cs = [.slice A l.length c] ∧ l.length ≤ maxLen ∧ Rd 5 Rq.cells w A l := by
  obtain ⟨A, c, l, h1, h2, h3, h4, _⟩ := in_rowsH (f := Rq.cells) (Q := fun _ => True) (k := 5) Try.underlying22 (by kernel_rfl) (by omega) (fun _ => rfl) (fun n cl y hl h => by
    obtain ⟨r, hr⟩ := cells_reqH hl h
    exact ⟨r, hr, trivial⟩) h
  exact ⟨A, c, l, h1, h2, h4⟩
set_option maxRecDepth 100000 in
theorem in_ahead {r : Reach} {b0 : Nat} {v : Value} {d : DataW H} {p : List MemPlace} (hv : Value.okWide Try.prog w r b0 24 v) (h : DataW.Trod enc Try.prog w base spare held 24 v d p) :
    ∃ (A : Option Addr) (a : Nat) (B : Option Addr) (b : Nat) (D W : List Rq) (k : Int), v = aheadV A D.length a B W.length b k ∧ D.length ≤ maxLen ∧ W.length ≤ maxLen ∧ Rd 5 Rq.cells w A D ∧ Rd 5 Rq.cells w B W := by
  obtain ⟨cs, rfl, hsz⟩ := okWide_struct Try.underlying24 hv
  obtain ⟨cl⟩ := cs
  obtain ⟨fuel, hf⟩ := h
  obtain ⟨c0, c1, c2, rfl⟩ := len3 cl (by have : Try.prog.cellsOf 24 = 3 := by kernel_rfl
                                          rw [this] at hsz; simpa using hsz)
  have hf : DataW.trod enc Try.prog w base spare held fuel 24 [c0, c1, c2] = some _ := hf
  obtain ⟨n0, y0, h0⟩ := fieldOf Try.underlying24 hf 0 (tp := 22) (off := 0) (k := 1) rfl rfl (by kernel_rfl)
  obtain ⟨A, a, D, ha, ma, ra⟩ := in_reqsG h0
  obtain ⟨n1, y1, h1⟩ := fieldOf Try.underlying24 hf 1 (tp := 22) (off := 1) (k := 1) rfl rfl (by kernel_rfl)
  obtain ⟨B, b, W, hb, mb, rb⟩ := in_reqsG h1
  obtain ⟨n2, y2, h2⟩ := fieldOf Try.underlying24 hf 2 (tp := 3) (off := 2) (k := 1) rfl rfl (by kernel_rfl)
  obtain ⟨m0, e0, _, _⟩ := DataW.trod_int Try.underlying3 (show DataW.trod enc Try.prog w base spare held n2 3 [c2] = some y2 from h2)
  obtain rfl : c2 = .int .i64 m0 := by simpa using e0
  obtain rfl : c0 = .slice A D.length a := by simpa using ha
  obtain rfl : c1 = .slice B W.length b := by simpa using hb
  exact ⟨A, a, B, b, D, W, m0, rfl, ma, mb, ra, rb⟩
end
end Go.Proofs.Ytameldhdegcpoaa
