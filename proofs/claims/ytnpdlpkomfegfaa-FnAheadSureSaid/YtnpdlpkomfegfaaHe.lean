/- What is done ahead, copied: both ways. -/
import Derived.Test.YtnpdlpkomfegfaaHc
import Derived.Test.YtnpdlpkomfegfaaAp
import Derived.Deep.Cut
namespace Go.Proofs.Ytnpdlpkomfegfaa
open Go.ChangeShapes Go.WideShapes Go.ChangeAt Go.RowKit
set_option linter.unusedVariables false
set_option linter.unusedSimpArgs false

theorem apart_symmH {u v : Value} (h : ∀ x, u.ownBlock = some x → v.ownBlock ≠ some x) : ∀ x, v.ownBlock = some x → u.ownBlock ≠ some x := fun x hx e => h x e hx
theorem app_keepH {w w' : World} {base : Nat} {e : TypeId} {size : Nat} {u v : Value} {n : Nat} {xs : List Value} (h : w.ownsRow base e size v n xs) (hg : w.grownBy w' u.ownBlock) (D : ∀ x, u.ownBlock = some x → v.ownBlock ≠ some x) : w'.ownsRow base e size v n xs := by
 rcases hq : v.ownBlock with _ | x
 · exact h.kept hg (.inl hq)
 · exact h.kept hg (.inr (by rw [hq]; exact fun e => D x e.symm hq))
theorem app_apartH {w : World} {base : Nat} {e : TypeId} {size : Nat} {u u' v : Value} {n : Nat} {xs : List Value} (h : w.ownsRow base e size v n xs) (hp : u'.ownBlock = u.ownBlock ∨ u'.ownBlock = some w.heap.size) (D : ∀ x, u.ownBlock = some x → v.ownBlock ≠ some x) : ∀ x, u'.ownBlock = some x → v.ownBlock ≠ some x := by
 intro x hx e
 rcases hp with h1 | h1
 · exact D x (by rw [← h1]; exact hx) e
 · rw [h1] at hx
   injection hx with hx
   have := (h.lt x e).2
   omega
theorem own_nil_newH (w : World) (e : TypeId) (size : Nat) (h : (#[] : Array Value).size = 0 * size) : (w.alloc (.cells #[] e)).ownsRow w.heap.size e size (.slice (some ⟨w.heap.size, 0, none⟩) 0 0) 0 [] :=
 World.ownsRow_lit (size := size) w #[] 0 (Nat.le_refl _) (by unfold maxLen; omega) h

theorem parts_ofH {P : Program} {t : TypeId} {z : Option Value} {n b : Nat} (h : (P.info? t).map (fun i => (i.zero, i.size, i.bytes)) = some (z, n, b)) : ∃ i, P.info? t = some i ∧ i.zero = z ∧ i.size = n ∧ i.bytes = b := by
 rcases hi : P.info? t with _ | i
 · rw [hi] at h; cases h
 · rw [hi] at h
   simp only [Option.map_some, Option.some.injEq, Prod.mk.injEq] at h
   exact ⟨i, rfl, h.1, h.2.1, h.2.2⟩
theorem infoReqH : (Try.prog.info? 37).map (fun i => (i.zero, i.size, i.bytes)) = some (some (.agg #[.int .i64 0, .int .i64 0, .int .i64 0, .int .i64 0, .int .i64 0]), 5, 40) := by kernel_rfl
theorem reqs_oneH (L : List Rq) : ∀ u ∈ L.flatMap Rq.cells, u.oneCell' = true := by
 intro u hu
 simp only [List.mem_flatMap, Rq.cells] at hu
 obtain ⟨a, _, hu⟩ := hu
 simp at hu
 rcases hu with rfl | rfl | rfl | rfl | rfl <;> rfl
theorem own_formH {w : World} {base : Nat} {e : TypeId} {size : Nat} {v : Value} {n : Nat} {xs : List Value} (h : w.ownsRow base e size v n xs) : ∃ A c, v = .slice A n c := by
 rcases h.2 with ⟨h1, h2⟩ | ⟨g, cap, cur, h1, _⟩
 · exact ⟨none, 0, by rw [h1, h2]⟩
 · exact ⟨_, _, h1⟩

set_option maxRecDepth 100000 in
set_option maxHeartbeats 2000000 in
theorem copyAhead (A : Option Addr) (a : Nat) (B : Option Addr) (b : Nat) (D T : List Rq) (k : Int) (w : World) (hD : D.length ≤ 1048576) (hT : T.length ≤ 1048576) (rD : Rd 5 Rq.cells w A D) (rT : Rd 5 Rq.cells w B T) (nA : A = none → a = 0) (nB : B = none → b = 0) :
 Calls Try.prog 42 #[aheadV A D.length a B T.length b k] w fun e w' => ∃ A' a' B' b', e = .returned (aheadV A' D.length a' B' T.length b' k) ∧ OwA w' w.heap.size A' a' B' b' D T ∧ Below w.heap.size w w' := by
 obtain ⟨I, hi, hz0, hz1, hz2⟩ := parts_ofH infoReqH
 have I1 := Lib.hid hi
 have I2 := Lib.hid hz0
 have I3 := Lib.hid hz1
 have I4 := Lib.hid hz2
 clear hi hz0 hz1 hz2
 have HD := Lib.hid rD
 have HT := Lib.hid rT
 have NA := Lib.hid nA
 have NB := Lib.hid nB
 clear rD rT nA nB
 have K0 := Lib.hid ((Three.new (u0 := .slice A D.length a) (u1 := .slice B T.length b) (u2 := .int .i64 k) (t := 25) w).alloc (.cells #[.slice none 0 0, .slice none 0 0, .int .i64 0] 25))
 have K1 : Hid (Three ((w.alloc (.cells #[.slice A D.length a, .slice B T.length b, .int .i64 k] 25)).alloc (.cells #[.slice none 0 0, .slice none 0 0, .int .i64 0] 25)) (w.heap.size + 1) 25 (.slice none 0 0) (.slice none 0 0) (.int .i64 0)) := by have := Three.new (u0 := .slice none 0 0) (u1 := .slice none 0 0) (u2 := .int .i64 0) (t := 25) (w.alloc (.cells #[.slice A D.length a, .slice B T.length b, .int .i64 k] 25)); simpa [Hid] using this
 have Z : Hid (Below w.heap.size w ((w.alloc (.cells #[.slice A D.length a, .slice B T.length b, .int .i64 k] 25)).alloc (.cells #[.slice none 0 0, .slice none 0 0, .int .i64 0] 25))) := below_alloc2 w _ _
 have HS : Hid (((w.alloc (.cells #[.slice A D.length a, .slice B T.length b, .int .i64 k] 25)).alloc (.cells #[.slice none 0 0, .slice none 0 0, .int .i64 0] 25)).heap.size = w.heap.size + 2) := by show _ = _; simp
 go_enter Try.func42, Try.ntmps42
 go_upto_region 1 with (fail)
 obtain ⟨w0, hw0⟩ : ∃ X, X = ((w.alloc (.cells #[.slice A D.length a, .slice B T.length b, .int .i64 k] 25)).alloc (.cells #[.slice none 0 0, .slice none 0 0, .int .i64 0] 25)) := ⟨_, rfl⟩
 rw [← hw0] at K0 K1 Z HS ⊢
 clear hw0
 have LZ := Lib.hid (show w.heap.size + 2 ≤ w0.heap.size by rw [HS.out]; omega)
 clear HS
 obtain ⟨p0, p1, p2⟩ := K0.out.cells
 go_wp2_with (at_builtin; go_loud (refine list_app (f := Rq.cells) (fun _ => rfl) rfl _ _ 23 rfl (w.heap.size + 2) 37 I (.agg #[.int .i64 0, .int .i64 0, .int .i64 0, .int .i64 0, .int .i64 0]) 40 Try.underlying23 I1.out I2.out I3.out I4.out rfl (by decide) (.slice none 0 0) 0 [] rfl (World.ownsRow_nil _ _ _ _) A a D.length D rfl rfl (Rd.below HD.out Z.out) NA.out (reqs_oneH _) (by unfold maxLen; omega) (by omega) LZ.out ?_))
 intro v3 w3 ho hg hp
 (try simp only [Nat.zero_add, List.nil_append] at ho)
 obtain ⟨A1, a1, rfl⟩ := own_formH ho
 have hb : Below w0.heap.size w0 w3 := Below.of_grown hg (Nat.le_refl _) (fun q hq => by simp [Value.ownBlock] at hq)
 have O1 := Lib.hid ho
 have K0 := Lib.hid (Three.below K0.out hb K0.out.lt)
 have K1 := Lib.hid (Three.below K1.out hb K1.out.lt)
 have Z := Lib.hid (Below.and Z.out hb)
 have LZ := Lib.hid (Nat.le_trans LZ.out hb.size)
 clear ho hg hp hb p0 p1 p2
 obtain ⟨p0, p1, p2⟩ := K0.out.cells
 have pf := K0.out.frozen
 go_upto_region 2 with (fail)
 have Z := Lib.hid (Below.setCell Z.out (p := ⟨w.heap.size, 0, none⟩) (by simp) (.slice A1 D.length a1))
 have K0 := Lib.hid (K0.out.set0 (.slice A1 D.length a1))
 have K1 := Lib.hid (K1.out.far (show w.heap.size + 1 ≠ w.heap.size by omega) (j := 0) (.slice A1 D.length a1))
 have O1 := Lib.hid (own_put O1.out (b := w.heap.size) (by omega) 0 (.slice A1 D.length a1))
 have LZ : Hid (w.heap.size + 2 ≤ (w3.setCell ⟨w.heap.size, 0, none⟩ (.slice A1 D.length a1)).heap.size) := by have := LZ.out; simpa [Hid] using this
 obtain ⟨w4, hw4⟩ : ∃ X, X = (w3.setCell ⟨w.heap.size, 0, none⟩ (.slice A1 D.length a1)) := ⟨_, rfl⟩
 rw [← hw4] at K0 K1 Z O1 LZ ⊢
 clear hw4 p0 p1 p2 pf
 obtain ⟨p0, p1, p2⟩ := K0.out.cells
 go_wp2_with (at_builtin; go_loud (refine list_app (f := Rq.cells) (fun _ => rfl) rfl _ _ 23 rfl (w.heap.size + 2) 37 I (.agg #[.int .i64 0, .int .i64 0, .int .i64 0, .int .i64 0, .int .i64 0]) 40 Try.underlying23 I1.out I2.out I3.out I4.out rfl (by decide) (.slice none 0 0) 0 [] rfl (World.ownsRow_nil _ _ _ _) B b T.length T rfl rfl (Rd.below HT.out Z.out) NB.out (reqs_oneH _) (by unfold maxLen; omega) (by omega) LZ.out ?_))
 intro v5 w5 ho hg hp
 (try simp only [Nat.zero_add, List.nil_append] at ho)
 have D12 : Hid (∀ x, (Value.slice A1 D.length a1).ownBlock = some x → v5.ownBlock ≠ some x) := fun x hx e => by
  have h1 := (own_block_ge O1.out x hx).2
  rcases hp with h | h
  · rw [h] at e; simp [Value.ownBlock] at e
  · rw [h] at e; injection e with e; omega
 obtain ⟨B1, b1, rfl⟩ := own_formH ho
 have hb : Below w4.heap.size w4 w5 := Below.of_grown hg (Nat.le_refl _) (fun q hq => by simp [Value.ownBlock] at hq)
 have O2 := Lib.hid ho
 have O1 := Lib.hid (own_below O1.out hb)
 have K0 := Lib.hid (Three.below K0.out hb K0.out.lt)
 have K1 := Lib.hid (Three.below K1.out hb K1.out.lt)
 have Z := Lib.hid (Below.and Z.out hb)
 clear ho hg hp hb p0 p1 p2 LZ
 obtain ⟨p0, p1, p2⟩ := K0.out.cells
 have pf := K0.out.frozen
 go_upto_region 3 with (fail)
 have Z := Lib.hid (Below.setCell Z.out (p := ⟨w.heap.size, 1, none⟩) (by simp) (.slice B1 T.length b1))
 have K0 := Lib.hid (K0.out.set1 (.slice B1 T.length b1))
 have K1 := Lib.hid (K1.out.far (show w.heap.size + 1 ≠ w.heap.size by omega) (j := 1) (.slice B1 T.length b1))
 have O1 := Lib.hid (own_put O1.out (b := w.heap.size) (by omega) 1 (.slice B1 T.length b1))
 have O2 := Lib.hid (own_put O2.out (b := w.heap.size) (by omega) 1 (.slice B1 T.length b1))
 obtain ⟨w6, hw6⟩ : ∃ X, X = (w5.setCell ⟨w.heap.size, 1, none⟩ (.slice B1 T.length b1)) := ⟨_, rfl⟩
 rw [← hw6] at K0 K1 Z O1 O2 ⊢
 clear hw6 p0 p1 p2 pf
 have OA : Hid (OwA w6 (w.heap.size + 2) A1 a1 B1 b1 D T) := ⟨O1.out, O2.out, D12.out⟩
 have OA := Lib.hid ((((OA.out.put (q := w.heap.size + 1) (by omega) 0 (.slice A1 D.length a1)).put (q := w.heap.size + 1) (by omega) 1 (.slice B1 T.length b1)).put (q := w.heap.size + 1) (by omega) 2 (.int .i64 k)).base (show w.heap.size ≤ w.heap.size + 2 by omega))
 have BG := Lib.hid (((Z.out.setCell (p := ⟨w.heap.size + 1, 0, none⟩) (by simp) (.slice A1 D.length a1)).setCell (p := ⟨w.heap.size + 1, 1, none⟩) (by simp) (.slice B1 T.length b1)).setCell (p := ⟨w.heap.size + 1, 2, none⟩) (by simp) (.int .i64 k))
 obtain ⟨z0, z1, z2⟩ := K1.out.cells
 have zf := K1.out.frozen
 obtain ⟨p0, p1, p2⟩ := K0.out.cells
 clear K0 K1 Z O1 O2
 go_wp2
 refine bodyPost_ret (v := aheadV A1 D.length a1 B1 T.length b1 k) (by simp [results, Try.results42, go_sem, z0, z1, z2]) rfl ⟨A1, a1, B1, b1, rfl, OA.out, BG.out⟩

end Go.Proofs.Ytnpdlpkomfegfaa
