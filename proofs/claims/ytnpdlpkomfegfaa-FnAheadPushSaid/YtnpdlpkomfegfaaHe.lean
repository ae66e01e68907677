/- What is done ahead, copied: both ways. -/
import Derived.Test.YtnpdlpkomfegfaaHc
import Derived.Test.YtnpdlpkomfegfaaAp
import Derived.Deep.Cut
namespace Go.Proofs.Ytnpdlpkomfegfaa
open Go.ChangeShapes Go.WideShapes Go.ChangeAt Go.RowKit
set_option linter.unusedVariables false
set_option linter.unusedSimpArgs false

theorem apart_symmH {u v : Value} (h : ∀ x, u.ownBlock = some x → v.ownBlock ≠ some x) : ∀ x, v.ownBlock = some x → u.ownBlock ≠ some x := fun x hx e => h x e hx
theorem app_keepH {w w' : World} {base : Nat} {e : TypeId} {size : Nat} {u v : Value} {n : Nat} {xs : List Value} (h : w.ownsRow base e size v n xs) (hg : w.grownBy w' u.ownBlock) (D : ∀ x, u.ownBlock = some x → v.ownBlock ≠ some x) : w'.ownsRow base e size v n xs := by
 rcases hq : v.ownBlock with _ | x
 · exact h.kept hg (.inl hq)
 · exact h.kept hg (.inr (by rw [hq]; exact fun e => D x e.symm hq))
theorem app_apartH {w : World} {base : Nat} {e : TypeId} {size : Nat} {u u' v : Value} {n : Nat} {xs : List Value} (h : w.ownsRow base e size v n xs) (hp : u'.ownBlock = u.ownBlock ∨ u'.ownBlock = some w.heap.size) (D : ∀ x, u.ownBlock = some x → v.ownBlock ≠ some x) : ∀ x, u'.ownBlock = some x → v.ownBlock ≠ some x := by
 intro x hx e
 rcases hp with h1 | h1
 · exact D x (by rw [← h1]; exact hx) e
 · rw [h1] at hx
   injection hx with hx
   have := (h.lt x e).2
   omega
theorem new_apartH {w : World} {base : Nat} {e : TypeId} {size : Nat} {v : Value} {n m c : Nat} {xs : List Value} (h : w.ownsRow base e size v n xs) : ∀ x, (Value.slice (some ⟨w.heap.size, 0, none⟩) m c).ownBlock = some x → v.ownBlock ≠ some x := by
 intro x hx e
 have h1 := (h.lt x e).2
 simp [Value.ownBlock] at hx
 omega
theorem own_nil_newH (w : World) (e : TypeId) (size : Nat) (h : (#[] : Array Value).size = 0 * size) : (w.alloc (.cells #[] e)).ownsRow w.heap.size e size (.slice (some ⟨w.heap.size, 0, none⟩) 0 0) 0 [] :=
 World.ownsRow_lit (size := size) w #[] 0 (Nat.le_refl _) (by unfold maxLen; omega) h

theorem parts_ofH {P : Program} {t : TypeId} {z : Option Value} {n b : Nat} (h : (P.info? t).map (fun i => (i.zero, i.size, i.bytes)) = some (z, n, b)) : ∃ i, P.info? t = some i ∧ i.zero = z ∧ i.size = n ∧ i.bytes = b := by
 rcases hi : P.info? t with _ | i
 · rw [hi] at h; cases h
 · rw [hi] at h
   simp only [Option.map_some, Option.some.injEq, Prod.mk.injEq] at h
   exact ⟨i, rfl, h.1, h.2.1, h.2.2⟩
theorem infoReqH : (Try.prog.info? 37).map (fun i => (i.zero, i.size, i.bytes)) = some (some (.agg #[.int .i64 0, .int .i64 0, .int .i64 0, .int .i64 0, .int .i64 0]), 5, 40) := by kernel_rfl
theorem reqs_oneH (L : List Rq) : ∀ u ∈ L.flatMap Rq.cells, u.oneCell' = true := by
 intro u hu
 simp only [List.mem_flatMap, Rq.cells] at hu
 obtain ⟨a, _, hu⟩ := hu
 simp at hu
 rcases hu with rfl | rfl | rfl | rfl | rfl <;> rfl
theorem own_formH {w : World} {base : Nat} {e : TypeId} {size : Nat} {v : Value} {n : Nat} {xs : List Value} (h : w.ownsRow base e size v n xs) : ∃ A c, v = .slice A n c := by
 rcases h.2 with ⟨h1, h2⟩ | ⟨g, cap, cur, h1, _⟩
 · exact ⟨none, 0, by rw [h1, h2]⟩
 · exact ⟨_, _, h1⟩

set_option maxRecDepth 100000 in
set_option maxHeartbeats 2000000 in
theorem copyAhead (A : Option Addr) (a : Nat) (B : Option Addr) (b : Nat) (D T : List Rq) (k : Int) (w : World) (hD : D.length ≤ 1048576) (hT : T.length ≤ 1048576) (rD : Rd 5 Rq.cells w A D) (rT : Rd 5 Rq.cells w B T) (nA : A = none → a = 0) (nB : B = none → b = 0) :
 Calls Try.prog 42 #[aheadV A D.length a B T.length b k] w fun e w' => ∃ A' a' B' b', e = .returned (aheadV A' D.length a' B' T.length b' k) ∧ OwA w' w.heap.size A' a' B' b' D T ∧ Below w.heap.size w w' := by
 obtain ⟨I, hi, hz0, hz1, hz2⟩ := parts_ofH infoReqH
 have I1 := Lib.hid hi
 have I2 := Lib.hid hz0
 have I3 := Lib.hid hz1
 have I4 := Lib.hid hz2
 clear hi hz0 hz1 hz2
 have HD := Lib.hid rD
 have HT := Lib.hid rT
 have NA := Lib.hid nA
 have NB := Lib.hid nB
 clear rD rT nA nB
 have K0 := Lib.hid ((Three.new (u0 := .slice A D.length a) (u1 := .slice B T.length b) (u2 := .int .i64 k) (t := 25) w).alloc (.cells #[.slice none 0 0, .slice none 0 0, .int .i64 0] 25))
 have K1 : Hid (Three ((w.alloc (.cells #[.slice A D.length a, .slice B T.length b, .int .i64 k] 25)).alloc (.cells #[.slice none 0 0, .slice none 0 0, .int .i64 0] 25)) (w.heap.size + 1) 25 (.slice none 0 0) (.slice none 0 0) (.int .i64 0)) := by have := Three.new (u0 := .slice none 0 0) (u1 := .slice none 0 0) (u2 := .int .i64 0) (t := 25) (w.alloc (.cells #[.slice A D.length a, .slice B T.length b, .int .i64 k] 25)); simpa [Hid] using this
 have Z : Hid (Below w.heap.size w ((w.alloc (.cells #[.slice A D.length a, .slice B T.length b, .int .i64 k] 25)).alloc (.cells #[.slice none 0 0, .slice none 0 0, .int .i64 0] 25))) := below_alloc2 w _ _
 have HS : Hid (((w.alloc (.cells #[.slice A D.length a, .slice B T.length b, .int .i64 k] 25)).alloc (.cells #[.slice none 0 0, .slice none 0 0, .int .i64 0] 25)).heap.size = w.heap.size + 2) := by show _ = _; simp
 go_enter Try.func42, Try.ntmps42
 go_upto_region 1 with (fail)
 obtain ⟨w0, hw0⟩ : ∃ X, X = ((w.alloc (.cells #[.slice A D.length a, .slice B T.length b, .int .i64 k] 25)).alloc (.cells #[.slice none 0 0, .slice none 0 0, .int .i64 0] 25)) := ⟨_, rfl⟩
 rw [← hw0] at K0 K1 Z HS ⊢
 clear hw0
 have LZ := Lib.hid (show w.heap.size + 2 ≤ w0.heap.size by rw [HS.out]; omega)
 clear HS
 obtain ⟨p0, p1, p2⟩ := K0.out.cells
 go_wp2_with (at_builtin; go_loud (refine list_app (f := Rq.cells) (fun _ => rfl) rfl _ _ 23 rfl (w.heap.size + 2) 37 I (.agg #[.int .i64 0, .int .i64 0, .int .i64 0, .int .i64 0, .int .i64 0]) 40 Try.underlying23 I1.out I2.out I3.out I4.out rfl (by decide) (.slice none 0 0) 0 [] rfl (World.ownsRow_nil _ _ _ _) A a D.length D rfl rfl (Rd.below HD.out Z.out) NA.out (reqs_oneH _) (by unfold maxLen; omega) (by omega) LZ.out ?_))
 intro v3 w3 ho hg hp
 (try simp only [Nat.zero_add, List.nil_append] at ho)
 obtain ⟨A1, a1, rfl⟩ := own_formH ho
 have hb : Below w0.heap.size w0 w3 := Below.of_grown hg (Nat.le_refl _) (fun q hq => by simp [Value.ownBlock] at hq)
 have O1 := Lib.hid ho
 have K0 := Lib.hid (Three.below K0.out hb K0.out.lt)
 have K1 := Lib.hid (Three.below K1.out hb K1.out.lt)
 have Z := Lib.hid (Below.and Z.out hb)
 have LZ := Lib.hid (Nat.le_trans LZ.out hb.size)
 clear ho hg hp hb p0 p1 p2
 obtain ⟨p0, p1, p2⟩ := K0.out.cells
 have pf := K0.out.frozen
 go_upto_region 2 with (fail)
 have Z := Lib.hid (Below.setCell Z.out (p := ⟨w.heap.size, 0, none⟩) (by simp) (.slice A1 D.length a1))
 have K0 := Lib.hid (K0.out.set0 (.slice A1 D.length a1))
 have K1 := Lib.hid (K1.out.far (show w.heap.size + 1 ≠ w.heap.size by omega) (j := 0) (.slice A1 D.length a1))
 have O1 := Lib.hid (own_put O1.out (b := w.heap.size) (by omega) 0 (.slice A1 D.length a1))
 have LZ : Hid (w.heap.size + 2 ≤ (w3.setCell ⟨w.heap.size, 0, none⟩ (.slice A1 D.length a1)).heap.size) := by have := LZ.out; simpa [Hid] using this
 obtain ⟨w4, hw4⟩ : ∃ X, X = (w3.setCell ⟨w.heap.size, 0, none⟩ (.slice A1 D.length a1)) := ⟨_, rfl⟩
 rw [← hw4] at K0 K1 Z O1 LZ ⊢
 clear hw4 p0 p1 p2 pf
 obtain ⟨p0, p1, p2⟩ := K0.out.cells
 go_wp2_with (at_builtin; go_loud (refine list_app (f := Rq.cells) (fun _ => rfl) rfl _ _ 23 rfl (w.heap.size + 2) 37 I (.agg #[.int .i64 0, .int .i64 0, .int .i64 0, .int .i64 0, .int .i64 0]) 40 Try.underlying23 I1.out I2.out I3.out I4.out rfl (by decide) (.slice none 0 0) 0 [] rfl (World.ownsRow_nil _ _ _ _) B b T.length T rfl rfl (Rd.below HT.out Z.out) NB.out (reqs_oneH _) (by unfold maxLen; omega) (by omega) LZ.out ?_))
 intro v5 w5 ho hg hp
 (try simp only [Nat.zero_add, List.nil_append] at ho)
 have D12 : Hid (∀ x, (Value.slice A1 D.length a1).ownBlock = some x → v5.ownBlock ≠ some x) := fun x hx e => by
  have h1 := (own_block_ge O1.out x hx).2
  rcases hp with h | h
  · rw [h] at e; simp [Value.ownBlock] at e
  · rw [h] at e; injection e with e; omega
 obtain ⟨B1, b1, rfl⟩ := own_formH ho
 have hb : Below w4.heap.size w4 w5 := Below.of_grown hg (Nat.le_refl _) (fun q hq => by simp [Value.ownBlock] at hq)
 have O2 := Lib.hid ho
 have O1 := Lib.hid (own_below O1.out hb)
 have K0 := Lib.hid (Three.below K0.out hb K0.out.lt)
 have K1 := Lib.hid (Three.below K1.out hb K1.out.lt)
 have Z := Lib.hid (Below.and Z.out hb)
 clear ho hg hp hb p0 p1 p2 LZ
 obtain ⟨p0, p1, p2⟩ := K0.out.cells
 have pf := K0.out.frozen
 go_upto_region 3 with (fail)
 have Z := Lib.hid (Below.setCell Z.out (p := ⟨w.heap.size, 1, none⟩) (by simp) (.slice B1 T.length b1))
 have K0 := Lib.hid (K0.out.set1 (.slice B1 T.length b1))
 have K1 := Lib.hid (K1.out.far (show w.heap.size + 1 ≠ w.heap.size by omega) (j := 1) (.slice B1 T.length b1))
 have O1 := Lib.hid (own_put O1.out (b := w.heap.size) (by omega) 1 (.slice B1 T.length b1))
 have O2 := Lib.hid (own_put O2.out (b := w.heap.size) (by omega) 1 (.slice B1 T.length b1))
 obtain ⟨w6, hw6⟩ : ∃ X, X = (w5.setCell ⟨w.heap.size, 1, none⟩ (.slice B1 T.length b1)) := ⟨_, rfl⟩
 rw [← hw6] at K0 K1 Z O1 O2 ⊢
 clear hw6 p0 p1 p2 pf
 have OA : Hid (OwA w6 (w.heap.size + 2) A1 a1 B1 b1 D T) := ⟨O1.out, O2.out, D12.out⟩
 have OA := Lib.hid ((((OA.out.put (q := w.heap.size + 1) (by omega) 0 (.slice A1 D.length a1)).put (q := w.heap.size + 1) (by omega) 1 (.slice B1 T.length b1)).put (q := w.heap.size + 1) (by omega) 2 (.int .i64 k)).base (show w.heap.size ≤ w.heap.size + 2 by omega))
 have BG := Lib.hid (((Z.out.setCell (p := ⟨w.heap.size + 1, 0, none⟩) (by simp) (.slice A1 D.length a1)).setCell (p := ⟨w.heap.size + 1, 1, none⟩) (by simp) (.slice B1 T.length b1)).setCell (p := ⟨w.heap.size + 1, 2, none⟩) (by simp) (.int .i64 k))
 obtain ⟨z0, z1, z2⟩ := K1.out.cells
 have zf := K1.out.frozen
 obtain ⟨p0, p1, p2⟩ := K0.out.cells
 clear K0 K1 Z O1 O2
 go_wp2
 refine bodyPost_ret (v := aheadV A1 D.length a1 B1 T.length b1 k) (by simp [results, Try.results42, go_sem, z0, z1, z2]) rfl ⟨A1, a1, B1, b1, rfl, OA.out, BG.out⟩

set_option maxRecDepth 100000 in
set_option maxHeartbeats 16000000 in
theorem l8Copy (A : Option Addr) (a : Nat) (B : Option Addr) (b : Nat) (D T : List Rq) (k : Int) (w : World) (hD : D.length ≤ 1048576) (hT : T.length ≤ 1048576) (rD : Rd 5 Rq.cells w A D) (rT : Rd 5 Rq.cells w B T) (nA : A = none → a = 0) (nB : B = none → b = 0) :
 Calls Try.prog 45 #[aheadV A D.length a B T.length b k] w fun e w' => ∃ A' a' B' b', e = .returned (aheadV A' D.length a' B' T.length b' k) ∧ OwA w' w.heap.size A' a' B' b' D T ∧ Below w.heap.size w w' := by
 obtain ⟨I, hi, hz0, hz1, hz2⟩ := parts_ofH infoReqH
 have I1 := Lib.hid hi
 have I2 := Lib.hid hz0
 have I3 := Lib.hid hz1
 have I4 := Lib.hid hz2
 clear hi hz0 hz1 hz2
 have HD := Lib.hid rD
 have HT := Lib.hid rT
 have NA := Lib.hid nA
 have NB := Lib.hid nB
 clear rD rT nA nB
 have BW : Hid (Below w.heap.size w ((w.alloc (.cells #[.slice A D.length a, .slice B T.length b, .int .i64 k] 25)).alloc (.cells #[.slice none 0 0, .slice none 0 0, .int .i64 0] 25))) := below_alloc2 w _ _
 have HS0 : Hid (Below (w.alloc (.cells #[.slice A D.length a, .slice B T.length b, .int .i64 k] 25)).heap.size (w.alloc (.cells #[.slice A D.length a, .slice B T.length b, .int .i64 k] 25)) ((w.alloc (.cells #[.slice A D.length a, .slice B T.length b, .int .i64 k] 25)).alloc (.cells #[.slice none 0 0, .slice none 0 0, .int .i64 0] 25))) := (Below.refl _ _).alloc (Nat.le_refl _) _
 have HBC : Hid (Below ((w.alloc (.cells #[.slice A D.length a, .slice B T.length b, .int .i64 k] 25)).alloc (.cells #[.slice none 0 0, .slice none 0 0, .int .i64 0] 25)).heap.size ((w.alloc (.cells #[.slice A D.length a, .slice B T.length b, .int .i64 k] 25)).alloc (.cells #[.slice none 0 0, .slice none 0 0, .int .i64 0] 25)) ((w.alloc (.cells #[.slice A D.length a, .slice B T.length b, .int .i64 k] 25)).alloc (.cells #[.slice none 0 0, .slice none 0 0, .int .i64 0] 25)).drew) := (Below.refl _ _).drew
 have K1 : Hid (Three ((w.alloc (.cells #[.slice A D.length a, .slice B T.length b, .int .i64 k] 25)).alloc (.cells #[.slice none 0 0, .slice none 0 0, .int .i64 0] 25)) (w.heap.size + 1) 25 (.slice none 0 0) (.slice none 0 0) (.int .i64 0)) := by have := Three.new (u0 := .slice none 0 0) (u1 := .slice none 0 0) (u2 := .int .i64 0) (t := 25) (w.alloc (.cells #[.slice A D.length a, .slice B T.length b, .int .i64 k] 25)); simpa [Hid] using this
 go_enter Try.func45, Try.ntmps45
 go_wp2_with (fail)
 refine wp_region_held_drew (S := fun w1 => Below (w.alloc (.cells #[.slice A D.length a, .slice B T.length b, .int .i64 k] 25)).heap.size (w.alloc (.cells #[.slice A D.length a, .slice B T.length b, .int .i64 k] 25)) w1) (by kernel_rfl) (Below.and HS0.out HBC.out) (fun hSC => ?_)
 refine tkI 1 4 (v := ?_) rfl rfl ?_ ?_
 rotate_left
 · intro w1 hSw; obtain ⟨hcS, hfS⟩ := bcell hSw; go_simp; (try with_reducible rfl)
 (try simp only [Act.put, pu1, pu2, pu3])
 refine tkI 2 5 (v := ?_) rfl rfl ?_ ?_
 rotate_left
 · intro w1 hSw; obtain ⟨hcS, hfS⟩ := bcell hSw; go_simp; (try with_reducible rfl)
 (try simp only [Act.put, pu1, pu2, pu3])
 refine tkI 5 8 (v := ?_) rfl rfl ?_ ?_
 rotate_left
 · intro w1 hSw; obtain ⟨hcS, hfS⟩ := bcell hSw; go_simp; (try with_reducible rfl)
 (try simp only [Act.put, pu1, pu2, pu3])
 refine tkI 6 9 (v := ?_) rfl rfl ?_ ?_
 rotate_left
 · intro w1 hSw; obtain ⟨hcS, hfS⟩ := bcell hSw; go_simp; (try with_reducible rfl)
 (try simp only [Act.put, pu1, pu2, pu3])
 refine tkI 8 11 (v := ?_) rfl rfl ?_ ?_
 rotate_left
 · intro w1 hSw; obtain ⟨hcS, hfS⟩ := bcell hSw; go_simp; (try with_reducible rfl)
 (try simp only [Act.put, pu1, pu2, pu3])
 refine tkI 9 12 (v := ?_) rfl rfl ?_ ?_
 rotate_left
 · intro w1 hSw; obtain ⟨hcS, hfS⟩ := bcell hSw; go_simp; (try with_reducible rfl)
 (try simp only [Act.put, pu1, pu2, pu3])
 obtain ⟨W0, hN⟩ : ∃ X, X = ((w.alloc (.cells #[.slice A D.length a, .slice B T.length b, .int .i64 k] 25)).alloc (.cells #[.slice none 0 0, .slice none 0 0, .int .i64 0] 25)).drew := ⟨_, rfl⟩
 rw [← hN] at hSC HBC ⊢
 clear hN
 refine wpAnyH_ready (rs := [0, 4]) (by kernel_rfl) (by simp) ?_
 refine AllReadyH.cons rfl (fun K hK => ?_) (AllReadyH.cons rfl (fun K hK => ?_) AllReadyH.nil)
 · go_simp
   have n0 := own_base (base' := w.heap.size + 2) (own_nil_newH W0 37 5 rfl) (by have := HBC.out.size; simp at this; omega)
   have hb := (Below.refl W0.heap.size W0).alloc (Nat.le_refl _) (.cells #[] 37)
   obtain ⟨W1, hN⟩ : ∃ X, X = W0.alloc (.cells #[] 37) := ⟨_, rfl⟩
   rw [← hN] at n0 hb ⊢
   clear hN
   refine hK.out _ _ (Below.and hSC hb) (fun hSC => ?_)
   have own0 := Lib.hid n0
   have HBC := Lib.hid (Below.and HBC.out hb)
   clear hK K hb n0
   (try simp only [Act.put, pu1, pu2, pu3])
   refine wpAnyH_ready (rs := [3, 4]) (by kernel_rfl) (by simp) ?_
   refine AllReadyH.cons rfl (fun K hK => ?_) (AllReadyH.cons rfl (fun K hK => ?_) AllReadyH.nil)
   · refine step_app (f := Rq.cells) (fun _ => rfl) (by rfl) _ _ 23 (by rfl) (w.heap.size + 2) 37 I (.agg #[.int .i64 0, .int .i64 0, .int .i64 0, .int .i64 0, .int .i64 0]) 40 Try.underlying23 I1.out I2.out I3.out I4.out (by rfl) (by omega) _ 0 [] (by rfl) own0.out A a D.length D rfl (by rfl) (Rd.below HD.out (Below.and BW.out HBC.out)) NA.out (reqs_oneH D) (by unfold maxLen; omega) (by omega) (by have := HBC.out.size; simp at this; omega) ?_
     intro v0 W2 ho hg hp
     have hb := Below.of_grown hg (Nat.le_trans (show ((w.alloc (.cells #[.slice A D.length a, .slice B T.length b, .int .i64 k] 25)).alloc (.cells #[.slice none 0 0, .slice none 0 0, .int .i64 0] 25)).heap.size ≤ w.heap.size + 2 by simp) (by have := HBC.out.size; simp at this; omega)) (fun q hq => by have := (own_block_ge own0.out q hq).1; simp; omega)
     have hbS := Below.trans HBC.out hb
     refine hK.out _ _ (Below.and HS0.out hbS) (fun hSC => ?_)
     simp only [Nat.zero_add, List.nil_append] at ho
     have own0 : Hid (W2.ownsRow (w.heap.size + 2) 37 5 v0 D.length (D.flatMap Rq.cells)) := ho
     have HBC := Lib.hid hbS
     clear hK K hb hbS hg hp ho
     (try simp only [Act.put, pu1, pu2, pu3])
     refine wpAnyH_ready (rs := [4]) (by kernel_rfl) (by simp) ?_
     refine AllReadyH.cons rfl (fun K hK => ?_) AllReadyH.nil
     go_simp
     have n1 := own_base (base' := w.heap.size + 2) (own_nil_newH W2 37 5 rfl) (by have := HBC.out.size; simp at this; omega)
     have a01 := apart_symmH (new_apartH own0.out (m := 0) (c := 0))
     have k0 := own0.out.alloc (.cells #[] 37)
     have hb := (Below.refl W2.heap.size W2).alloc (Nat.le_refl _) (.cells #[] 37)
     obtain ⟨W3, hN⟩ : ∃ X, X = W2.alloc (.cells #[] 37) := ⟨_, rfl⟩
     rw [← hN] at n1 hb ⊢ k0
     clear hN
     refine hK.out _ _ (Below.and hSC hb) (fun hSC => ?_)
     have own1 := Lib.hid n1
     have own0 := Lib.hid k0
     have D01 := Lib.hid a01
     have HBC := Lib.hid (Below.and HBC.out hb)
     clear hK K hb n1 k0 a01
     (try simp only [Act.put, pu1, pu2, pu3])
     refine wpAnyH_ready (rs := [7]) (by kernel_rfl) (by simp) ?_
     refine AllReadyH.cons rfl (fun K hK => ?_) AllReadyH.nil
     refine step_app (f := Rq.cells) (fun _ => rfl) (by rfl) _ _ 23 (by rfl) (w.heap.size + 2) 37 I (.agg #[.int .i64 0, .int .i64 0, .int .i64 0, .int .i64 0, .int .i64 0]) 40 Try.underlying23 I1.out I2.out I3.out I4.out (by rfl) (by omega) _ 0 [] (by rfl) own1.out B b T.length T rfl (by rfl) (Rd.below HT.out (Below.and BW.out HBC.out)) NB.out (reqs_oneH T) (by unfold maxLen; omega) (by omega) (by have := HBC.out.size; simp at this; omega) ?_
     intro v1 W4 ho hg hp
     have hb := Below.of_grown hg (Nat.le_trans (show ((w.alloc (.cells #[.slice A D.length a, .slice B T.length b, .int .i64 k] 25)).alloc (.cells #[.slice none 0 0, .slice none 0 0, .int .i64 0] 25)).heap.size ≤ w.heap.size + 2 by simp) (by have := HBC.out.size; simp at this; omega)) (fun q hq => by have := (own_block_ge own1.out q hq).1; simp; omega)
     have hbS := Below.trans HBC.out hb
     have k0 := app_keepH own0.out hg (apart_symmH D01.out)
     have a01 := apart_symmH (app_apartH own0.out hp (apart_symmH D01.out))
     refine hK.out _ _ (Below.and HS0.out hbS) (fun hSC => ?_)
     simp only [Nat.zero_add, List.nil_append] at ho
     have own1 : Hid (W4.ownsRow (w.heap.size + 2) 37 5 v1 T.length (T.flatMap Rq.cells)) := ho
     have own0 := Lib.hid k0
     have D01 := Lib.hid a01
     have HBC := Lib.hid hbS
     clear hK K hb hbS hg hp ho k0 a01
     (try simp only [Act.put, pu1, pu2, pu3])
     have D12 := D01
     obtain ⟨A', a', hv0⟩ := own_formH own0.out
     obtain ⟨B', b', hv1⟩ := own_formH own1.out
     subst hv0
     subst hv1
     have K5 : Hid (Three W4 (w.heap.size + 1) 25 (.slice none 0 0) (.slice none 0 0) (.int .i64 0)) := K1.out.below HBC.out (by simp)
     have BF := Lib.hid (Below.and BW.out HBC.out)
     have hS5 := hSC
     clear HD HT NA NB I1 I2 I3 I4 hSC HBC K1
     obtain ⟨z0, z1, z2⟩ := K5.out.cells
     have zf := K5.out.frozen
     have zl := K5.out.lt
     refine tkI 10 13 (v := ?_) rfl rfl ?_ ?_
     rotate_left
     · intro w1 hSw; go_simp; (try with_reducible rfl)
     (try simp only [Act.put, pu1, pu2, pu3])
     refine wpAnyH_ready (rs := [11]) (by kernel_rfl) (by simp) ?_
     refine AllReadyH.cons rfl (fun K hK => ?_) AllReadyH.nil
     go_simp
     refine hK.out _ _ (Below.setCell (Below.setCell (Below.setCell hS5 (by simp) _) (by simp) _) (by simp) _) (fun hS6 => ?_)
     clear hK K
     (try simp only [Act.put, pu1, pu2, pu3])
     refine wpAnyH_done (by kernel_rfl) ?_ _
     have bb : w.heap.size ≤ W4.heap.size := BF.out.size
     have OA : Hid (OwA W4 (w.heap.size + 2) A' a' B' b' D T) := ⟨own0.out, own1.out, D12.out⟩
     have OA := Lib.hid ((((OA.out.put (q := w.heap.size + 1) (by omega) 0 (.slice A' D.length a')).put (q := w.heap.size + 1) (by omega) 1 (.slice B' T.length b')).put (q := w.heap.size + 1) (by omega) 2 (.int .i64 k)).base (show w.heap.size ≤ w.heap.size + 2 by omega))
     go_wp2
     refine bodyPost_ret (v := aheadV A' D.length a' B' T.length b' k) (by simp [results, Try.results45, go_sem, z0, z1, z2]) rfl ⟨A', a', B', b', rfl, OA.out, ?_⟩
     iterate 3 (refine Below.setCell ?_ (by first | (simp; done) | (simp; omega)) _)
     exact BF.out
   · go_simp
     have n1 := own_base (base' := w.heap.size + 2) (own_nil_newH W1 37 5 rfl) (by have := HBC.out.size; simp at this; omega)
     have a01 := apart_symmH (new_apartH own0.out (m := 0) (c := 0))
     have k0 := own0.out.alloc (.cells #[] 37)
     have hb := (Below.refl W1.heap.size W1).alloc (Nat.le_refl _) (.cells #[] 37)
     obtain ⟨W5, hN⟩ : ∃ X, X = W1.alloc (.cells #[] 37) := ⟨_, rfl⟩
     rw [← hN] at n1 hb ⊢ k0
     clear hN
     refine hK.out _ _ (Below.and hSC hb) (fun hSC => ?_)
     have own1 := Lib.hid n1
     have own0 := Lib.hid k0
     have D01 := Lib.hid a01
     have HBC := Lib.hid (Below.and HBC.out hb)
     clear hK K hb n1 k0 a01
     (try simp only [Act.put, pu1, pu2, pu3])
     refine wpAnyH_ready (rs := [3]) (by kernel_rfl) (by simp) ?_
     refine AllReadyH.cons rfl (fun K hK => ?_) AllReadyH.nil
     refine step_app (f := Rq.cells) (fun _ => rfl) (by rfl) _ _ 23 (by rfl) (w.heap.size + 2) 37 I (.agg #[.int .i64 0, .int .i64 0, .int .i64 0, .int .i64 0, .int .i64 0]) 40 Try.underlying23 I1.out I2.out I3.out I4.out (by rfl) (by omega) _ 0 [] (by rfl) own0.out A a D.length D rfl (by rfl) (Rd.below HD.out (Below.and BW.out HBC.out)) NA.out (reqs_oneH D) (by unfold maxLen; omega) (by omega) (by have := HBC.out.size; simp at this; omega) ?_
     intro v0 W6 ho hg hp
     have hb := Below.of_grown hg (Nat.le_trans (show ((w.alloc (.cells #[.slice A D.length a, .slice B T.length b, .int .i64 k] 25)).alloc (.cells #[.slice none 0 0, .slice none 0 0, .int .i64 0] 25)).heap.size ≤ w.heap.size + 2 by simp) (by have := HBC.out.size; simp at this; omega)) (fun q hq => by have := (own_block_ge own0.out q hq).1; simp; omega)
     have hbS := Below.trans HBC.out hb
     have k1 := app_keepH own1.out hg D01.out
     have a01 := app_apartH own1.out hp D01.out
     refine hK.out _ _ (Below.and HS0.out hbS) (fun hSC => ?_)
     simp only [Nat.zero_add, List.nil_append] at ho
     have own0 : Hid (W6.ownsRow (w.heap.size + 2) 37 5 v0 D.length (D.flatMap Rq.cells)) := ho
     have own1 := Lib.hid k1
     have D01 := Lib.hid a01
     have HBC := Lib.hid hbS
     clear hK K hb hbS hg hp ho k1 a01
     (try simp only [Act.put, pu1, pu2, pu3])
     refine wpAnyH_ready (rs := [7]) (by kernel_rfl) (by simp) ?_
     refine AllReadyH.cons rfl (fun K hK => ?_) AllReadyH.nil
     refine step_app (f := Rq.cells) (fun _ => rfl) (by rfl) _ _ 23 (by rfl) (w.heap.size + 2) 37 I (.agg #[.int .i64 0, .int .i64 0, .int .i64 0, .int .i64 0, .int .i64 0]) 40 Try.underlying23 I1.out I2.out I3.out I4.out (by rfl) (by omega) _ 0 [] (by rfl) own1.out B b T.length T rfl (by rfl) (Rd.below HT.out (Below.and BW.out HBC.out)) NB.out (reqs_oneH T) (by unfold maxLen; omega) (by omega) (by have := HBC.out.size; simp at this; omega) ?_
     intro v1 W7 ho hg hp
     have hb := Below.of_grown hg (Nat.le_trans (show ((w.alloc (.cells #[.slice A D.length a, .slice B T.length b, .int .i64 k] 25)).alloc (.cells #[.slice none 0 0, .slice none 0 0, .int .i64 0] 25)).heap.size ≤ w.heap.size + 2 by simp) (by have := HBC.out.size; simp at this; omega)) (fun q hq => by have := (own_block_ge own1.out q hq).1; simp; omega)
     have hbS := Below.trans HBC.out hb
     have k0 := app_keepH own0.out hg (apart_symmH D01.out)
     have a01 := apart_symmH (app_apartH own0.out hp (apart_symmH D01.out))
     refine hK.out _ _ (Below.and HS0.out hbS) (fun hSC => ?_)
     simp only [Nat.zero_add, List.nil_append] at ho
     have own1 : Hid (W7.ownsRow (w.heap.size + 2) 37 5 v1 T.length (T.flatMap Rq.cells)) := ho
     have own0 := Lib.hid k0
     have D01 := Lib.hid a01
     have HBC := Lib.hid hbS
     clear hK K hb hbS hg hp ho k0 a01
     (try simp only [Act.put, pu1, pu2, pu3])
     have D12 := D01
     obtain ⟨A', a', hv0⟩ := own_formH own0.out
     obtain ⟨B', b', hv1⟩ := own_formH own1.out
     subst hv0
     subst hv1
     have K5 : Hid (Three W7 (w.heap.size + 1) 25 (.slice none 0 0) (.slice none 0 0) (.int .i64 0)) := K1.out.below HBC.out (by simp)
     have BF := Lib.hid (Below.and BW.out HBC.out)
     have hS5 := hSC
     clear HD HT NA NB I1 I2 I3 I4 hSC HBC K1
     obtain ⟨z0, z1, z2⟩ := K5.out.cells
     have zf := K5.out.frozen
     have zl := K5.out.lt
     refine tkI 10 13 (v := ?_) rfl rfl ?_ ?_
     rotate_left
     · intro w1 hSw; go_simp; (try with_reducible rfl)
     (try simp only [Act.put, pu1, pu2, pu3])
     refine wpAnyH_ready (rs := [11]) (by kernel_rfl) (by simp) ?_
     refine AllReadyH.cons rfl (fun K hK => ?_) AllReadyH.nil
     go_simp
     refine hK.out _ _ (Below.setCell (Below.setCell (Below.setCell hS5 (by simp) _) (by simp) _) (by simp) _) (fun hS6 => ?_)
     clear hK K
     (try simp only [Act.put, pu1, pu2, pu3])
     refine wpAnyH_done (by kernel_rfl) ?_ _
     have bb : w.heap.size ≤ W7.heap.size := BF.out.size
     have OA : Hid (OwA W7 (w.heap.size + 2) A' a' B' b' D T) := ⟨own0.out, own1.out, D12.out⟩
     have OA := Lib.hid ((((OA.out.put (q := w.heap.size + 1) (by omega) 0 (.slice A' D.length a')).put (q := w.heap.size + 1) (by omega) 1 (.slice B' T.length b')).put (q := w.heap.size + 1) (by omega) 2 (.int .i64 k)).base (show w.heap.size ≤ w.heap.size + 2 by omega))
     go_wp2
     refine bodyPost_ret (v := aheadV A' D.length a' B' T.length b' k) (by simp [results, Try.results45, go_sem, z0, z1, z2]) rfl ⟨A', a', B', b', rfl, OA.out, ?_⟩
     iterate 3 (refine Below.setCell ?_ (by first | (simp; done) | (simp; omega)) _)
     exact BF.out
 · go_simp
   have n1 := own_base (base' := w.heap.size + 2) (own_nil_newH W0 37 5 rfl) (by have := HBC.out.size; simp at this; omega)
   have hb := (Below.refl W0.heap.size W0).alloc (Nat.le_refl _) (.cells #[] 37)
   obtain ⟨W8, hN⟩ : ∃ X, X = W0.alloc (.cells #[] 37) := ⟨_, rfl⟩
   rw [← hN] at n1 hb ⊢
   clear hN
   refine hK.out _ _ (Below.and hSC hb) (fun hSC => ?_)
   have own1 := Lib.hid n1
   have HBC := Lib.hid (Below.and HBC.out hb)
   clear hK K hb n1
   (try simp only [Act.put, pu1, pu2, pu3])
   refine wpAnyH_ready (rs := [0]) (by kernel_rfl) (by simp) ?_
   refine AllReadyH.cons rfl (fun K hK => ?_) AllReadyH.nil
   go_simp
   have n0 := own_base (base' := w.heap.size + 2) (own_nil_newH W8 37 5 rfl) (by have := HBC.out.size; simp at this; omega)
   have a01 := new_apartH own1.out (m := 0) (c := 0)
   have k1 := own1.out.alloc (.cells #[] 37)
   have hb := (Below.refl W8.heap.size W8).alloc (Nat.le_refl _) (.cells #[] 37)
   obtain ⟨W9, hN⟩ : ∃ X, X = W8.alloc (.cells #[] 37) := ⟨_, rfl⟩
   rw [← hN] at n0 hb ⊢ k1
   clear hN
   refine hK.out _ _ (Below.and hSC hb) (fun hSC => ?_)
   have own0 := Lib.hid n0
   have own1 := Lib.hid k1
   have D01 := Lib.hid a01
   have HBC := Lib.hid (Below.and HBC.out hb)
   clear hK K hb n0 k1 a01
   (try simp only [Act.put, pu1, pu2, pu3])
   refine wpAnyH_ready (rs := [3]) (by kernel_rfl) (by simp) ?_
   refine AllReadyH.cons rfl (fun K hK => ?_) AllReadyH.nil
   refine step_app (f := Rq.cells) (fun _ => rfl) (by rfl) _ _ 23 (by rfl) (w.heap.size + 2) 37 I (.agg #[.int .i64 0, .int .i64 0, .int .i64 0, .int .i64 0, .int .i64 0]) 40 Try.underlying23 I1.out I2.out I3.out I4.out (by rfl) (by omega) _ 0 [] (by rfl) own0.out A a D.length D rfl (by rfl) (Rd.below HD.out (Below.and BW.out HBC.out)) NA.out (reqs_oneH D) (by unfold maxLen; omega) (by omega) (by have := HBC.out.size; simp at this; omega) ?_
   intro v0 W10 ho hg hp
   have hb := Below.of_grown hg (Nat.le_trans (show ((w.alloc (.cells #[.slice A D.length a, .slice B T.length b, .int .i64 k] 25)).alloc (.cells #[.slice none 0 0, .slice none 0 0, .int .i64 0] 25)).heap.size ≤ w.heap.size + 2 by simp) (by have := HBC.out.size; simp at this; omega)) (fun q hq => by have := (own_block_ge own0.out q hq).1; simp; omega)
   have hbS := Below.trans HBC.out hb
   have k1 := app_keepH own1.out hg D01.out
   have a01 := app_apartH own1.out hp D01.out
   refine hK.out _ _ (Below.and HS0.out hbS) (fun hSC => ?_)
   simp only [Nat.zero_add, List.nil_append] at ho
   have own0 : Hid (W10.ownsRow (w.heap.size + 2) 37 5 v0 D.length (D.flatMap Rq.cells)) := ho
   have own1 := Lib.hid k1
   have D01 := Lib.hid a01
   have HBC := Lib.hid hbS
   clear hK K hb hbS hg hp ho k1 a01
   (try simp only [Act.put, pu1, pu2, pu3])
   refine wpAnyH_ready (rs := [7]) (by kernel_rfl) (by simp) ?_
   refine AllReadyH.cons rfl (fun K hK => ?_) AllReadyH.nil
   refine step_app (f := Rq.cells) (fun _ => rfl) (by rfl) _ _ 23 (by rfl) (w.heap.size + 2) 37 I (.agg #[.int .i64 0, .int .i64 0, .int .i64 0, .int .i64 0, .int .i64 0]) 40 Try.underlying23 I1.out I2.out I3.out I4.out (by rfl) (by omega) _ 0 [] (by rfl) own1.out B b T.length T rfl (by rfl) (Rd.below HT.out (Below.and BW.out HBC.out)) NB.out (reqs_oneH T) (by unfold maxLen; omega) (by omega) (by have := HBC.out.size; simp at this; omega) ?_
   intro v1 W11 ho hg hp
   have hb := Below.of_grown hg (Nat.le_trans (show ((w.alloc (.cells #[.slice A D.length a, .slice B T.length b, .int .i64 k] 25)).alloc (.cells #[.slice none 0 0, .slice none 0 0, .int .i64 0] 25)).heap.size ≤ w.heap.size + 2 by simp) (by have := HBC.out.size; simp at this; omega)) (fun q hq => by have := (own_block_ge own1.out q hq).1; simp; omega)
   have hbS := Below.trans HBC.out hb
   have k0 := app_keepH own0.out hg (apart_symmH D01.out)
   have a01 := apart_symmH (app_apartH own0.out hp (apart_symmH D01.out))
   refine hK.out _ _ (Below.and HS0.out hbS) (fun hSC => ?_)
   simp only [Nat.zero_add, List.nil_append] at ho
   have own1 : Hid (W11.ownsRow (w.heap.size + 2) 37 5 v1 T.length (T.flatMap Rq.cells)) := ho
   have own0 := Lib.hid k0
   have D01 := Lib.hid a01
   have HBC := Lib.hid hbS
   clear hK K hb hbS hg hp ho k0 a01
   (try simp only [Act.put, pu1, pu2, pu3])
   have D12 := D01
   obtain ⟨A', a', hv0⟩ := own_formH own0.out
   obtain ⟨B', b', hv1⟩ := own_formH own1.out
   subst hv0
   subst hv1
   have K5 : Hid (Three W11 (w.heap.size + 1) 25 (.slice none 0 0) (.slice none 0 0) (.int .i64 0)) := K1.out.below HBC.out (by simp)
   have BF := Lib.hid (Below.and BW.out HBC.out)
   have hS5 := hSC
   clear HD HT NA NB I1 I2 I3 I4 hSC HBC K1
   obtain ⟨z0, z1, z2⟩ := K5.out.cells
   have zf := K5.out.frozen
   have zl := K5.out.lt
   refine tkI 10 13 (v := ?_) rfl rfl ?_ ?_
   rotate_left
   · intro w1 hSw; go_simp; (try with_reducible rfl)
   (try simp only [Act.put, pu1, pu2, pu3])
   refine wpAnyH_ready (rs := [11]) (by kernel_rfl) (by simp) ?_
   refine AllReadyH.cons rfl (fun K hK => ?_) AllReadyH.nil
   go_simp
   refine hK.out _ _ (Below.setCell (Below.setCell (Below.setCell hS5 (by simp) _) (by simp) _) (by simp) _) (fun hS6 => ?_)
   clear hK K
   (try simp only [Act.put, pu1, pu2, pu3])
   refine wpAnyH_done (by kernel_rfl) ?_ _
   have bb : w.heap.size ≤ W11.heap.size := BF.out.size
   have OA : Hid (OwA W11 (w.heap.size + 2) A' a' B' b' D T) := ⟨own0.out, own1.out, D12.out⟩
   have OA := Lib.hid ((((OA.out.put (q := w.heap.size + 1) (by omega) 0 (.slice A' D.length a')).put (q := w.heap.size + 1) (by omega) 1 (.slice B' T.length b')).put (q := w.heap.size + 1) (by omega) 2 (.int .i64 k)).base (show w.heap.size ≤ w.heap.size + 2 by omega))
   go_wp2
   refine bodyPost_ret (v := aheadV A' D.length a' B' T.length b' k) (by simp [results, Try.results45, go_sem, z0, z1, z2]) rfl ⟨A', a', B', b', rfl, OA.out, ?_⟩
   iterate 3 (refine Below.setCell ?_ (by first | (simp; done) | (simp; omega)) _)
   exact BF.out

end Go.Proofs.Ytnpdlpkomfegfaa
