import Derived.Test.YtameldhdegcpoaaGzf
import Derived.Lib.AppendZerosOnto
import Derived.Lib.Overlaps
namespace Go.Proofs.Ytameldhdegcpoaa
open Go.ChangeShapes Go.WideShapes Go.ChangeAt Go.RowKit
set_option linter.unusedVariables false
set_option linter.unusedSimpArgs false
theorem hitWhole {w : World} {p lo : Nat} {A : Option Addr} {a : Nat} {B : Option Addr} {b : Nat} {C : Option Addr} {d : Nat} {E : List Fig} {F L : List Int} (h : Bd w p lo A a B b C d E F L) (he : OkE E) (k : Nat) (hk : k < E.length) (rc rn rx ry : Int) (hf : OkF F) : Calls Try.prog 102 #[.agg #[.pointer (some ⟨p, 0, none⟩), .int .i64 k], .agg #[.int .i64 rc, .int .i64 rn, .int .i64 4, .int .i64 rx, .int .i64 ry]] w (ActB p lo A a B b C d L (actG E F L k (E[k]'hk) ⟨rc, rn, 4, rx, ry⟩) w) :=
 hitAllI h he k hk rc rn rx ry hf (fun E1 n hn f hf1 hE b1 b2 b3 wz hz => by
  obtain ⟨fc, fx, fy, fl, fg⟩ := f
  simp only at b1 b2 b3
  obtain ⟨j, v, hjl, h1, h2, h3, h4, h5, h6⟩ := hf.at_ (x := fx) (y := fy) b1 b2
  have h7 : sq ⟨fc, fx, fy, fl, fg⟩ = j := h5
  have h8 : F.getD j 0 = v := by rw [List.getD_eq_getElem?_getD, h6]
  rw [h7, h8]
  exact removeI hz n hn fc fx fy fl fg hf1 hE b1 b2 b3 hf.f j v h5 hjl h2 ⟨h3, h4⟩)
end Go.Proofs.Ytameldhdegcpoaa
namespace Go.Proofs.Ytameldhdegcpoaa
open Go.ChangeShapes Go.WideShapes Go.ChangeAt Go.RowKit
set_option linter.unusedVariables false
set_option linter.unusedSimpArgs false
theorem own_room {w : World} {base : Nat} {e : TypeId} {size g c n : Nat} {xs : List Value} (h : w.ownsRow base e size (.slice (some ⟨g, 0, none⟩) n c) n xs) (m : Nat) (hm : n ≤ m) (hc : m ≤ c) :
 ∃ Z : List Value, Z.length = (m - n) * size ∧ w.ownsRow base e size (.slice (some ⟨g, 0, none⟩) m c) m (xs ++ Z) := by
 rcases h.2 with ⟨h1, _⟩ | ⟨g', cap, cur, h1, h2, h3, h4, h5, h6, h7⟩
 · cases h1
 · simp only [Value.slice.injEq] at h1
   obtain ⟨h8, _, h9⟩ := h1
   cases h8
   subst h9
   have hl := h.1
   have hml : m * size ≤ c * size := Nat.mul_le_mul_right _ hc
   have hnm : n * size ≤ m * size := Nat.mul_le_mul_right _ hm
   have hx : (cur.toList.take (m * size)).take (n * size) = xs := by rw [List.take_take, Nat.min_eq_left hnm]; exact h7
   have hL : (cur.toList.take (m * size)).length = m * size := by rw [List.length_take, Array.length_toList, h6]; omega
   refine ⟨(cur.toList.take (m * size)).drop (n * size), by rw [List.length_drop, hL, Nat.sub_mul], ?_⟩
   have he : xs ++ (cur.toList.take (m * size)).drop (n * size) = cur.toList.take (m * size) := by rw [← hx, List.take_append_drop]
   rw [he]
   exact ⟨hL, .inr ⟨g, c, cur, rfl, h2, h3, hc, h5, h6, rfl⟩⟩
theorem own_zeros (w : World) (e : TypeId) (size : Nat) (olds : List Value) (z : Array Value) (n k c : Nat) (hz : z.size = size) (ho : olds.length = n * size) (hc : n + k ≤ c) (hm : c ≤ maxLen) :
 ∃ Z : List Value, Z.length = k * size ∧ (w.drew.alloc (.cells (olds.toArray ++ Builtin.zeroCells z k ++ Builtin.zeroCells z (c - (n + k))) e)).ownsRow w.heap.size e size (.slice (some ⟨w.heap.size, 0, none⟩) (n + k) c) (n + k) (olds ++ Z) ∧
  w.grownBy (w.drew.alloc (.cells (olds.toArray ++ Builtin.zeroCells z k ++ Builtin.zeroCells z (c - (n + k))) e)) none := by
 refine ⟨(Builtin.zeroCells z k).toList, by simp [size_zeroCells, hz], ⟨?_, .inr ⟨w.heap.size, c, _, rfl, Nat.le_refl _, heap_alloc_new w.drew _, hc, hm, ?_, ?_⟩⟩, ⟨rfl, rfl, rfl, by simp, fun k hk _ => heap_alloc_old w.drew _ hk⟩⟩
 · simp [size_zeroCells, hz, ho, Nat.add_mul]
 · simp only [Array.size_append, List.size_toArray, size_zeroCells, hz, ho, ← Nat.add_mul]
   congr 1
   omega
 · have hl : (olds ++ (Builtin.zeroCells z k).toList).length = (n + k) * size := by simp [size_zeroCells, hz, ho, Nat.add_mul]
   simp only [Array.toList_append]
   rw [← hl]
   exact List.take_left
theorem run_copy_wide {P : Program} (w : World) (dT sT ty elem : TypeId) (i : TypeInfo) (size : Nat) (b o dLen dCap : Nat) (a : Addr) (sLen sCap : Nat) (cs : List Value)
 (hu : P.underlying dT = some (.slice elem)) (hi : P.info? elem = some i) (hs : i.size = size) (hn : cs.length = Nat.min sLen dLen * size)
 (hsrc : ∀ j v, cs[j]? = some v → w.cell? (a.add j) = some v) (hc : ∀ j, j < cs.length → (w.cell? ⟨b, o + j, none⟩).isSome = true) (hf : ∀ j, j < cs.length → w.frozen? ⟨b, o + j, none⟩ = false) (h1 : ∀ v ∈ cs, v.oneCell' = true) :
 (Builtin.copy_ #[dT, sT] ty #[.slice (some ⟨b, o, none⟩) dLen dCap, .slice (some a) sLen sCap]).run P w = .ok (goInt (Nat.min sLen dLen : Nat)) (w.setCells b o cs) := by
 subst hs
 have hl := run_firstCells_some (P := P) w i.size (Nat.min sLen dLen) a sLen sCap cs hn hsrc
 have hst := run_storeCells_cells (P := P) b o cs 0 w (by simpa using hc) (by simpa using hf) h1
 simp only [Nat.add_zero] at hst
 simp [Builtin.copy_, run_underlying hu, Builtin.lenOf, sizeOf, typeInfo, hi, hl, hst]
theorem ins_new (X e D : List Value) (i n : Nat) (hX : X.length = (n + 1) * 5) (he : e.length = 5) (hD : D.length = (n - i) * 5) (hi : i ≤ n) :
 setsL (setsL X (i * 5) e) ((i + 1) * 5) D = X.take (i * 5) ++ e ++ D := by
 have hA : (setsL X (i * 5) e).length = (n + 1) * 5 := by rw [setsL_len, hX]
 rw [setsL_eq D _ _ (by rw [hA, hD]; omega), List.drop_of_length_le (by rw [hA, hD]; omega), List.append_nil, setsL_eq e X _ (by rw [hX, he]; omega)]
 rw [List.take_append_of_le_length (by rw [List.length_append, List.length_take, he, hX]; omega), List.take_of_length_le (by rw [List.length_append, List.length_take, he, hX]; omega)]
theorem ins_room (X e D : List Value) (i n : Nat) (hX : X.length = (n + 1) * 5) (he : e.length = 5) (hD : D.length = (n - i) * 5) (hi : i ≤ n) :
 setsL (setsL X ((i + 1) * 5) D) (i * 5) e = X.take (i * 5) ++ e ++ D := by
 have hA : (setsL X ((i + 1) * 5) D).length = (n + 1) * 5 := by rw [setsL_len, hX]
 rw [setsL_eq e _ _ (by rw [hA, he]; omega), setsL_eq D X _ (by rw [hX, hD]; omega)]
 rw [List.drop_of_length_le (l := X) (by rw [hX, hD]; omega), List.append_nil, he]
 congr 1
 · congr 1
   rw [List.take_append_of_le_length (by rw [List.length_take, hX]; omega), List.take_take, Nat.min_eq_left (by omega)]
 · rw [show i * 5 + 5 = (X.take ((i + 1) * 5)).length by rw [List.length_take, hX]; omega]
   exact List.drop_left
theorem figs_ins (E : List Fig) (i : Nat) (e : Fig) : figs (E.take i ++ e :: E.drop i) = (figs E).take (i * 5) ++ e.cells ++ (figs E).drop (i * 5) := by
 have h1 : (figs E).take (i * 5) = (E.take i).flatMap Fig.cells := rows_take Fig.cells 5 Fig.len E i
 have h2 : (figs E).drop (i * 5) = (E.drop i).flatMap Fig.cells := rows_drop Fig.cells 5 Fig.len E i
 rw [h1, h2]
 simp [figs]
end Go.Proofs.Ytameldhdegcpoaa
namespace Go.Proofs.Ytameldhdegcpoaa
open Go.ChangeShapes Go.WideShapes Go.ChangeAt Go.RowKit
set_option linter.unusedVariables false
set_option linter.unusedSimpArgs false
def InsR (lo : Nat) (A : Option Addr) (c : Nat) (E : List Fig) (i : Nat) (e : Fig) (w : World) (en : Ending) (w' : World) : Prop :=
 ∃ A' c', en = .returned (.slice A' (E.length + 1) c') ∧ w'.ownsRow lo 72 5 (.slice A' (E.length + 1) c') (E.length + 1) (figs (E.take i ++ e :: E.drop i)) ∧ w.grownBy w' (Value.slice A E.length c).ownBlock ∧
  ((Value.slice A' (E.length + 1) c').ownBlock = (Value.slice A E.length c).ownBlock ∨ ∃ x, (Value.slice A' (E.length + 1) c').ownBlock = some x ∧ w.heap.size ≤ x)
theorem step_copy {P : Program} {w : World} {ops : Array Oper} {o : Oper} {a : Act} {K : Act → World → Prop} {Q : Exit → Act → World → Prop} {E : Prop} (hgd : o.guard = none) (x y : Operand) (t : TypeId)
 (hop : o.op = .call { callee := .builtin .copy, args := #[x, y], argTypes := #[t, t] }) (v u : Value) (hx : a.eval x = v) (hy : a.eval y = u) {r : Value} {w' : World} (hr : ∀ ty, (Builtin.copy_ #[t, t] ty #[v, u]).run P w = .ok r w')
 (h : K (a.put o.dst r) w') : if Region.wanted o (yielded ops a.tmps) = true then Oper.wp P o a w K Q else E := by
 have hw : Region.wanted o (yielded ops a.tmps) = true := by simp [Region.wanted, hgd]
 rw [if_pos hw]
 unfold Oper.wp execOp
 simp only [hop, resolve, invoke, builtin, Sem.run_bind, Sem.run_pure, Result.andThen_ok, List.map_toArray, List.map_cons, List.map_nil, hx, hy, hr]
 exact h
theorem list_append {P : Program} {w : World} {ops : Array Oper} {rest : List Oper} {o : Oper} {a : Act} {Q : Exit → Act → World → Prop} (hgd : o.guard = none) (x y : Operand) (t t' : TypeId)
 (hop : o.op = .call { callee := .builtin .append, args := #[x, y], argTypes := #[t, t'] }) (v u : Value) (hx : a.eval x = v) (hy : a.eval y = u) {r : Value} {w' : World} (hr : ∀ ty, (Builtin.append_ #[t, t'] ty #[v, u]).run P w = .ok r w')
 (h : wpList P ops Q rest (a.put o.dst r) w') : wpList P ops Q (o :: rest) a w := by
 refine wpList_plain hgd fun K hK => ?_
 unfold Oper.wp execOp
 simp only [hop, resolve, invoke, builtin, Sem.run_bind, Sem.run_pure, Result.andThen_ok, List.map_toArray, List.map_cons, List.map_nil, hx, hy, hr]
 exact hK _ _ h
theorem copyFig {w : World} {base : Nat} {g n c o dLen dCap sLen sCap m : Nat} {xs cs : List Value} {ad : Addr} (I : TypeInfo) (hi : Try.prog.info? 72 = some I) (hs : I.size = 5) (h : w.ownsRow base 72 5 (.slice (some ⟨g, 0, none⟩) n c) n xs)
 (hm : Nat.min sLen dLen = m) (hn : cs.length = m * 5) (ho : o + cs.length ≤ xs.length) (hsrc : ∀ j v, cs[j]? = some v → w.cell? (ad.add j) = some v) (h1 : ∀ v ∈ cs, v.oneCell' = true) (ty : TypeId) :
 (Builtin.copy_ #[26, 26] ty #[.slice (some ⟨g, o, none⟩) dLen dCap, .slice (some ad) sLen sCap]).run Try.prog w = .ok (goInt (m : Nat)) (w.setCells g o cs) := by
 have hx := h.1
 have hr := run_copy_wide w 26 26 ty 72 I 5 g o dLen dCap ad sLen sCap cs Try.underlying26 hi hs (by rw [hm]; exact hn) hsrc
  (fun j hj => by
   rw [h.cellAt (o + j) (by omega)]
   have : o + j < xs.length := by omega
   simp [this])
  (fun j _ => h.frozenAt _) h1
 rw [hm] at hr
 exact hr
set_option maxRecDepth 100000 in
set_option maxHeartbeats 4000000 in
theorem insGrow {w : World} {lo g c q : Nat} {E : List Fig} (i : Nat) (e : Fig) (hi : i < E.length) (hE : E.length ≤ 4) (hlo : lo ≤ w.heap.size) (ho : w.ownsRow lo 72 5 (.slice (some ⟨g, 0, none⟩) E.length c) E.length (figs E)) (hfull : c = E.length)
 (hv : w.ownsRow lo 72 5 (.slice (some ⟨q, 0, none⟩) 1 1) 1 e.cells) :
 Calls Try.prog 111 #[.slice (some ⟨g, 0, none⟩) E.length c, .int .i64 (i : Int), .slice (some ⟨q, 0, none⟩) 1 1] w (InsR lo (some ⟨g, 0, none⟩) c E i e w) := by
 obtain ⟨I, hi, hz0, hz1, hz2⟩ := parts_of infoEnt'
 have I1 := Lib.hid hi
 have I2 := Lib.hid hz0
 have I3 := Lib.hid hz1
 have I4 := Lib.hid hz2
 clear hi hz0 hz1 hz2
 have hfl : (figs E).length = E.length * 5 := figs_length E
 have hD : ((figs E).drop (i * 5)).length = (E.length - i) * 5 := by rw [List.length_drop, hfl]; omega
 have hO : ((figs E).take (i * 5)).length = i * 5 := by rw [List.length_take, hfl]; omega
 obtain ⟨k, hk⟩ : ∃ k, E.length + 1 = i + k := ⟨E.length + 1 - i, by omega⟩
 have hold : (Builtin.firstCells I.size i (.slice (some ⟨g, 0, none⟩) i c)).run Try.prog w.drew = .ok ((figs E).take (i * 5)).toArray w.drew := by
  rw [I3.out]
  exact run_firstCells_some w.drew 5 i ⟨g, 0, none⟩ i c ((figs E).take (i * 5)) hO (fun j u hj => by
   rw [Addr.add_lit, Nat.zero_add]
   have h2 := (List.getElem?_eq_some_iff.1 hj).1
   have h3 : w.drew.cell? ⟨g, j, none⟩ = _ := ho.cellAt j (by omega)
   rw [h3, ← hj, List.getElem?_take_of_lt (by omega)])
 have hap := fun ty => Lib.run_append_grow_zeros w 26 3 ty 72 I _ .i64 .i64 Try.underlying26 Try.underlying3 I1.out I2.out (some ⟨g, 0, none⟩) i c ((figs E).take (i * 5)) hold k (by omega) (by rw [I3.out]; omega) (by omega) (by omega) (by rw [I4.out]; omega) (by rw [I4.out]; exact growslice_fits (by omega) (by omega))
 rw [← hk] at hap
 obtain ⟨Z, hZ, oz, gz⟩ := own_zeros w 72 5 ((figs E).take (i * 5)) (.agg #[.int .i64 0, .int .i64 0, .int .i64 0, .int .i64 0, .int .i64 0] : Value).cells i k (grownCap w (E.length + 1) c 72) rfl hO (by rw [← hk]; exact grownCap_ge w _ _ _) (grownCap_le_maxLen w _ _ _ (by unfold maxLen; omega))
 rw [← hk] at oz gz
 obtain ⟨c1, hc1⟩ : ∃ c1, c1 = grownCap w (E.length + 1) c 72 := ⟨_, rfl⟩
 rw [← hc1] at hap oz gz
 have hc2 := (own_cap oz).1
 obtain ⟨W1, hW1⟩ : ∃ W1, W1 = w.drew.alloc (.cells (((figs E).take (i * 5)).toArray ++ Builtin.zeroCells (.agg #[.int .i64 0, .int .i64 0, .int .i64 0, .int .i64 0, .int .i64 0] : Value).cells k ++ Builtin.zeroCells (.agg #[.int .i64 0, .int .i64 0, .int .i64 0, .int .i64 0, .int .i64 0] : Value).cells (c1 - (E.length + 1))) 72) := ⟨_, rfl⟩
 rw [← hW1] at hap oz gz
 have hgw := (own_block_ge ho g rfl).2
 have hqw := (own_block_ge hv q rfl).2
 have hXL : (((figs E).take (i * 5)) ++ Z).length = (E.length + 1) * 5 := by rw [List.length_append, hO, hZ, hk]; omega
 have vc : ∀ j u, e.cells[j]? = some u → W1.cell? ((⟨q, 0, none⟩ : Addr).add j) = some u := fun j u hj => by
  have h2 := (List.getElem?_eq_some_iff.1 hj).1
  rw [Addr.add_lit, Nat.zero_add]
  have h3 : w.cell? ⟨q, j, none⟩ = _ := hv.cellAt j (by simpa [Fig.len] using h2)
  exact gz.cell (a := ⟨q, j, none⟩) (h3.trans hj) (by simp)
 have v1 : ∀ u ∈ e.cells, u.oneCell' = true := fun u hu => figs_one [e] u (by simpa [figs] using hu)
 have hcA := fun ty => copyFig (dLen := k) (dCap := c1 - i) (sLen := 1) (sCap := 1) (m := 1) (o := i * 5) (cs := e.cells) (ad := ⟨q, 0, none⟩) I I1.out I3.out oz (by simp only [Nat.min_def]; split <;> omega) rfl (by rw [hXL]; show i * 5 + 5 ≤ _; omega) vc v1 ty
 obtain ⟨oA, gA⟩ := own_sets e.cells (((figs E).take (i * 5)) ++ Z) (i * 5) W1 (by rw [hXL]; show i * 5 + 5 ≤ _; omega) oz
 obtain ⟨W2, hW2⟩ : ∃ W2, W2 = W1.setCells w.heap.size (i * 5) e.cells := ⟨_, rfl⟩
 rw [← hW2] at hcA oA gA
 have gw2 := grown_trans (Below.grownBy (Below.of_grown gz (Nat.le_refl _) (fun x hx => by cases hx)) (some w.heap.size)) gA
 have XA : (setsL (((figs E).take (i * 5)) ++ Z) (i * 5) e.cells).length = (E.length + 1) * 5 := by rw [setsL_len, hXL]
 have hcB := fun ty => copyFig (w := W2.drew) (dLen := E.length - i) (dCap := c1 - (i + 1)) (sLen := E.length - i) (sCap := c - i) (m := E.length - i) (o := (i + 1) * 5) (cs := ((figs E).drop (i * 5))) (ad := ⟨g, i * 5, none⟩) I I1.out I3.out (show W2.drew.ownsRow _ _ _ _ _ _ from oA) (by simp only [Nat.min_def]; split <;> omega) hD (by rw [XA, hD]; omega) (fun j u hj => by
  have h2 := (List.getElem?_eq_some_iff.1 hj).1
  rw [Addr.add_lit]
  have h3 : w.cell? ⟨g, i * 5 + j, none⟩ = _ := ho.cellAt (i * 5 + j) (by omega)
  rw [List.getElem?_drop] at hj
  exact gw2.cell (a := ⟨g, i * 5 + j, none⟩) (h3.trans hj) (by simp; omega)) (fun u hu => figs_one E u (by have := List.mem_of_mem_drop hu; simpa [figs] using this)) ty
 obtain ⟨oB, gB⟩ := own_sets ((figs E).drop (i * 5)) _ ((i + 1) * 5) W2.drew (by rw [XA, hD]; omega) (show W2.drew.ownsRow _ _ _ _ _ _ from oA)
 rw [ins_new _ _ _ i E.length hXL rfl hD (by omega)] at oB
 have hXt : (((figs E).take (i * 5)) ++ Z).take (i * 5) = ((figs E).take (i * 5)) := by rw [List.take_append_of_le_length (by omega), List.take_of_length_le (by omega)]
 rw [hXt, ← figs_ins] at oB
 have GF : w.grownBy (W2.drew.setCells w.heap.size ((i + 1) * 5) ((figs E).drop (i * 5))) none := by
  have h1 := grown_trans (grown_trans gw2 (Below.grownBy (Below.refl W2.heap.size W2).drew (some w.heap.size))) gB
  exact ⟨h1.os, h1.tape, h1.output, h1.size, fun x hx _ => h1.block x hx (by simp; omega)⟩
 have HCA := Lib.hid hcA
 have HCB := Lib.hid hcB
 have HAP := Lib.hid hap
 have OB := Lib.hid (own_base oB hlo)
 have GF := Lib.hid GF
 have i0 : (0 : Int) ≤ (i : Int) := by omega
 have i1 : (i : Int) ≤ (E.length : Int) := by omega
 have i2 : ((i : Int) == (E.length : Int)) = false := by simp; omega
 have i3 : decide ((E.length : Int) + 1 > (c : Int)) = true := by simp; omega
 have i3b : decide ((c : Int) < (E.length : Int) + 1) = true := by simp; omega
 have i4 : IntKind.i64.wrap ((E.length : Int) + 1) = (E.length : Int) + 1 := IntWalk.i64_in _ (by omega)
 have i5 : IntKind.i64.wrap ((E.length : Int) + 1 - (i : Int)) = (k : Int) := by rw [show (E.length : Int) + 1 - (i : Int) = (k : Int) by omega]; exact IntWalk.i64_in _ (by omega)
 have i6 : IntKind.i64.wrap ((i : Int) + 1) = (i : Int) + 1 := IntWalk.i64_in _ (by omega)
 have i7 : ¬ c = i := by omega
 have i8 : ¬ c1 = i := by omega
 have i9 : ¬ c1 = i + 1 := by omega
 have j1 : i ≤ c := by omega
 have j2 : i ≤ E.length := by omega
 have j3 : i + 1 ≤ E.length + 1 := by omega
 have j4 : (0 : Int) ≤ (i : Int) + 1 := by omega
 have j5 : ((i : Int) + 1).toNat = i + 1 := by omega
 have j6 : (i : Int) ≤ (E.length : Int) + 1 := by omega
 have j7 : (i : Int) + 1 ≤ (E.length : Int) + 1 := by omega
 have j8 : E.length + 1 - i = k := by omega
 have j9 : E.length + 1 ≤ c1 := hc2
 have hca := HCA.out
 clear HCA
 have HK := Lib.hid hk
 clear hk
 clear hfull hcA hcB hap oB oA gA oz gz gw2 hold hW1 hW2 ho hv vc v1 hgw hqw hXL XA hXt hfl hD hO hc1 hZ
 go_enter Try.func111, Try.ntmps111
 go_wp2_with (at_builtin; go_loud (refine list_append rfl _ _ 26 3 rfl _ _ rfl rfl HAP.out ?_))
 refine wp_region_held_drew (S := fun _ => True) (by kernel_rfl) trivial (fun hS0 => ?_)
 refine tkI 0 46 (v := ?_) rfl rfl ?_ ?_
 rotate_left
 · intro w1 hSw; go_simp; (try with_reducible rfl)
 (try simp only [Act.put, pu1, pu2, pu3])
 refine tkI 1 47 (v := ?_) rfl rfl ?_ ?_
 rotate_left
 · intro w1 hSw; go_simp; (try with_reducible rfl)
 (try simp only [Act.put, pu1, pu2, pu3])
 refine tkI 2 48 (v := ?_) rfl rfl ?_ ?_
 rotate_left
 · intro w1 hSw; go_simp; (try with_reducible rfl)
 (try simp only [Act.put, pu1, pu2, pu3])
 refine tkI 3 49 (v := ?_) rfl rfl ?_ ?_
 rotate_left
 · intro w1 hSw; go_simp; (try with_reducible rfl)
 (try simp only [Act.put, pu1, pu2, pu3])
 refine tkI 4 50 (v := ?_) rfl rfl ?_ ?_
 rotate_left
 · intro w1 hSw; go_simp; (try with_reducible rfl)
 (try simp only [Act.put, pu1, pu2, pu3])
 refine tkI 5 51 (v := ?_) rfl rfl ?_ ?_
 rotate_left
 · intro w1 hSw; go_simp; (try with_reducible rfl)
 (try simp only [Act.put, pu1, pu2, pu3])
 refine tkI 6 52 (v := ?_) rfl rfl ?_ ?_
 rotate_left
 · intro w1 hSw; go_simp; (try with_reducible rfl)
 (try simp only [Act.put, pu1, pu2, pu3])
 refine tkI 7 53 (v := ?_) rfl rfl ?_ ?_
 rotate_left
 · intro w1 hSw; go_simp; (try with_reducible rfl)
 (try simp only [Act.put, pu1, pu2, pu3])
 refine wpAnyH_ready (rs := [8]) (by kernel_rfl) (by simp) ?_
 refine AllReadyH.cons rfl (fun K hK => ?_) AllReadyH.nil
 refine step_copy (by rfl) _ _ 26 (by rfl) (.slice (some ⟨w.heap.size, (i + 1) * 5, none⟩) (E.length - i) (c1 - (i + 1))) (.slice (some ⟨g, i * 5, none⟩) (E.length - i) (c - i)) (by rfl) (by rfl) HCB.out ?_
 refine hK.out _ _ trivial (fun hS1 => ?_)
 clear hK K
 (try simp only [Act.put, pu1, pu2, pu3])
 refine wpAnyH_done (by kernel_rfl) ?_ _
 go_wp2
 go_ret
 exact ⟨_, _, rfl, OB.out, ⟨GF.out.os, GF.out.tape, GF.out.output, GF.out.size, fun x hx _ => GF.out.block x hx (by simp)⟩, .inr ⟨_, rfl, Nat.le_refl _⟩⟩
end Go.Proofs.Ytameldhdegcpoaa
namespace Go.Proofs.Ytameldhdegcpoaa
open Go.ChangeShapes Go.WideShapes Go.ChangeAt Go.RowKit
set_option linter.unusedVariables false
set_option linter.unusedSimpArgs false
theorem own_shape {w : World} {base : Nat} {e : TypeId} {size g n c : Nat} {xs : List Value} (h : w.ownsRow base e size (.slice (some ⟨g, 0, none⟩) n c) n xs) : w.shape? g = some (e, c * size) := by
 rcases h.2 with ⟨h1, _⟩ | ⟨g', cap, cur, h1, h2, h3, h4, h5, h6, h7⟩
 · cases h1
 · simp only [Value.slice.injEq] at h1
   obtain ⟨h8, _, h9⟩ := h1
   cases h8
   subst h9
   simp [World.shape?, h3, h6]
set_option maxRecDepth 100000 in
set_option maxHeartbeats 4000000 in
theorem insRoom {w : World} {lo g c q : Nat} {E : List Fig} (i : Nat) (e : Fig) (hi : i < E.length) (hE : E.length ≤ 4) (ho : w.ownsRow lo 72 5 (.slice (some ⟨g, 0, none⟩) E.length c) E.length (figs E)) (hroom : E.length + 1 ≤ c)
 (hv : w.ownsRow lo 72 5 (.slice (some ⟨q, 0, none⟩) 1 1) 1 e.cells) (hq : g ≠ q) :
 Calls Try.prog 111 #[.slice (some ⟨g, 0, none⟩) E.length c, .int .i64 (i : Int), .slice (some ⟨q, 0, none⟩) 1 1] w (InsR lo (some ⟨g, 0, none⟩) c E i e w) := by
 obtain ⟨I, hi, hz0, hz1, hz2⟩ := parts_of infoEnt'
 have I1 := Lib.hid hi
 have I2 := Lib.hid hz0
 have I3 := Lib.hid hz1
 have I4 := Lib.hid hz2
 clear hi hz0 hz1 hz2
 have hfl : (figs E).length = E.length * 5 := figs_length E
 have hD : ((figs E).drop (i * 5)).length = (E.length - i) * 5 := by rw [List.length_drop, hfl]; omega
 obtain ⟨Z, hZ, oz⟩ := own_room ho (E.length + 1) (by omega) hroom
 have hXL : (figs E ++ Z).length = (E.length + 1) * 5 := by rw [List.length_append, hfl, hZ]; omega
 have hsz : ∀ wz : World, (Go.sizeOf 72).run Try.prog wz = .ok 5 wz := fun wz => by simp [sizeOf, typeInfo, I1.out, I3.out]
 have hov : ∀ lb cb, (callFunc 120 #[.slice (some ⟨q, 0, none⟩) 1 1, .slice (some ⟨g, (i + 1) * 5, none⟩) lb cb]).run Try.prog w = .ok (.value (.bool false)) w := fun lb cb => by
  rw [run_callFunc_extern Try.func120 (by kernel_rfl) (by kernel_rfl) (by kernel_rfl) (e := Extern.SlicesOverlaps.overlaps #[26, 26] #[4]) (by kernel_rfl),
   Lib.run_overlaps_apart w 26 4 72 Try.underlying26 5 hsz ⟨q, 0, none⟩ ⟨g, (i + 1) * 5, none⟩ 1 1 lb cb (fun h => hq h.symm) 72 72 (1 * 5) (c * 5) (own_shape hv) (own_shape oz) (by omega) (hv.frozenAt 0) (hv.frozenAt _)]
  rfl
 have hcB := fun ty => copyFig (w := w.drew) (dLen := E.length - i) (dCap := c - (i + 1)) (sLen := E.length + 1 - i) (sCap := c - i) (m := E.length - i) (o := (i + 1) * 5) (cs := ((figs E).drop (i * 5))) (ad := ⟨g, i * 5, none⟩) I I1.out I3.out (show w.drew.ownsRow _ _ _ _ _ _ from oz) (by simp only [Nat.min_def]; split <;> omega) hD (by rw [hXL, hD]; omega) (fun j u hj => by
  have h2 := (List.getElem?_eq_some_iff.1 hj).1
  rw [Addr.add_lit]
  have h3 : w.drew.cell? ⟨g, i * 5 + j, none⟩ = _ := ho.cellAt (i * 5 + j) (by omega)
  rw [List.getElem?_drop] at hj
  exact h3.trans hj) (fun u hu => figs_one E u (by have := List.mem_of_mem_drop hu; simpa [figs] using this)) ty
 obtain ⟨oB, gB⟩ := own_sets ((figs E).drop (i * 5)) _ ((i + 1) * 5) w.drew (by rw [hXL, hD]; omega) (show w.drew.ownsRow _ _ _ _ _ _ from oz)
 have XB : (setsL (figs E ++ Z) ((i + 1) * 5) ((figs E).drop (i * 5))).length = (E.length + 1) * 5 := by rw [setsL_len, hXL]
 obtain ⟨W1, hW1⟩ : ∃ W1, W1 = w.drew.setCells g ((i + 1) * 5) ((figs E).drop (i * 5)) := ⟨_, rfl⟩
 rw [← hW1] at hcB oB gB
 have G1 := grown_trans (Below.grownBy (Below.refl w.heap.size w).drew (some g)) gB
 have vc : ∀ j u, e.cells[j]? = some u → W1.cell? ((⟨q, 0, none⟩ : Addr).add j) = some u := fun j u hj => by
  have h2 := (List.getElem?_eq_some_iff.1 hj).1
  rw [Addr.add_lit, Nat.zero_add]
  have h3 : w.cell? ⟨q, j, none⟩ = _ := hv.cellAt j (by simpa [Fig.len] using h2)
  exact G1.cell (a := ⟨q, j, none⟩) (h3.trans hj) (by simp; omega)
 have v1 : ∀ u ∈ e.cells, u.oneCell' = true := fun u hu => figs_one [e] u (by simpa [figs] using hu)
 have hcA := fun ty => copyFig (dLen := E.length + 1 - i) (dCap := c - i) (sLen := 1) (sCap := 1) (m := 1) (o := i * 5) (cs := e.cells) (ad := ⟨q, 0, none⟩) I I1.out I3.out oB (by simp only [Nat.min_def]; split <;> omega) rfl (by rw [XB]; show i * 5 + 5 ≤ _; omega) vc v1 ty
 obtain ⟨oA, gA⟩ := own_sets e.cells _ (i * 5) W1 (by rw [XB]; show i * 5 + 5 ≤ _; omega) oB
 rw [ins_room _ _ _ i E.length hXL rfl hD (by omega)] at oA
 have hXt : (figs E ++ Z).take (i * 5) = (figs E).take (i * 5) := List.take_append_of_le_length (by omega)
 rw [hXt, ← figs_ins] at oA
 have HCA := Lib.hid hcA
 have HCB := Lib.hid hcB
 have HOV := Lib.hid hov
 clear hov
 have OA := Lib.hid oA
 have GF := Lib.hid (grown_trans G1 gA)
 have i0 : (0 : Int) ≤ (i : Int) := by omega
 have i1 : (i : Int) ≤ (E.length : Int) := by omega
 have i2 : ((i : Int) == (E.length : Int)) = false := by simp; omega
 have i3 : decide ((E.length : Int) + 1 > (c : Int)) = false := by simp; omega
 have i3b : decide ((c : Int) < (E.length : Int) + 1) = false := by simp; omega
 have i4 : IntKind.i64.wrap ((E.length : Int) + 1) = (E.length : Int) + 1 := IntWalk.i64_in _ (by omega)
 have i6 : IntKind.i64.wrap ((i : Int) + 1) = (i : Int) + 1 := IntWalk.i64_in _ (by omega)
 have i7 : ¬ c = i := by omega
 have i9 : ¬ c = i + 1 := by omega
 have j1 : i ≤ c := by omega
 have j2 : i ≤ E.length + 1 := by omega
 have j3 : i + 1 ≤ E.length + 1 := by omega
 have j4 : (0 : Int) ≤ (i : Int) + 1 := by omega
 have j5 : ((i : Int) + 1).toNat = i + 1 := by omega
 have j6 : (i : Int) ≤ (E.length : Int) + 1 := by omega
 have j7 : (i : Int) + 1 ≤ (E.length : Int) + 1 := by omega
 have k1 : (0 : Int) ≤ (E.length : Int) + 1 := by omega
 have k2 : ((E.length : Int) + 1).toNat = E.length + 1 := by omega
 have k3 : (E.length : Int) + 1 ≤ (c : Int) := by omega
 have k4 : ¬ c = 0 := by omega
 have hca := HCA.out
 have hov := HOV.out
 clear HCA HOV
 clear hcA hcB oB oA gA oz gB G1 hW1 ho hv vc v1 hXL XB hXt hfl hD hZ hsz
 go_enter Try.func111, Try.ntmps111
 go_wp2_with (fail)
 refine wp_region_held_drew (S := fun _ => True) (by kernel_rfl) trivial (fun hS0 => ?_)
 refine tkI 0 69 (v := ?_) rfl rfl ?_ ?_
 rotate_left
 · intro w1 hSw; go_simp; (try with_reducible rfl)
 (try simp only [Act.put, pu1, pu2, pu3])
 refine tkI 1 70 (v := ?_) rfl rfl ?_ ?_
 rotate_left
 · intro w1 hSw; go_simp; (try with_reducible rfl)
 (try simp only [Act.put, pu1, pu2, pu3])
 refine tkI 2 71 (v := ?_) rfl rfl ?_ ?_
 rotate_left
 · intro w1 hSw; go_simp; (try with_reducible rfl)
 (try simp only [Act.put, pu1, pu2, pu3])
 refine tkI 3 72 (v := ?_) rfl rfl ?_ ?_
 rotate_left
 · intro w1 hSw; go_simp; (try with_reducible rfl)
 (try simp only [Act.put, pu1, pu2, pu3])
 refine tkI 4 73 (v := ?_) rfl rfl ?_ ?_
 rotate_left
 · intro w1 hSw; go_simp; (try with_reducible rfl)
 (try simp only [Act.put, pu1, pu2, pu3])
 refine tkI 5 74 (v := ?_) rfl rfl ?_ ?_
 rotate_left
 · intro w1 hSw; go_simp; (try with_reducible rfl)
 (try simp only [Act.put, pu1, pu2, pu3])
 refine tkI 6 75 (v := ?_) rfl rfl ?_ ?_
 rotate_left
 · intro w1 hSw; go_simp; (try with_reducible rfl)
 (try simp only [Act.put, pu1, pu2, pu3])
 refine tkI 7 76 (v := ?_) rfl rfl ?_ ?_
 rotate_left
 · intro w1 hSw; go_simp; (try with_reducible rfl)
 (try simp only [Act.put, pu1, pu2, pu3])
 refine wpAnyH_ready (rs := [8]) (by kernel_rfl) (by simp) ?_
 refine AllReadyH.cons rfl (fun K hK => ?_) AllReadyH.nil
 refine step_copy (by rfl) _ _ 26 (by rfl) (.slice (some ⟨g, (i + 1) * 5, none⟩) (E.length - i) (c - (i + 1))) (.slice (some ⟨g, i * 5, none⟩) (E.length + 1 - i) (c - i)) (by rfl) (by rfl) HCB.out ?_
 refine hK.out _ _ trivial (fun hS1 => ?_)
 clear hK K
 (try simp only [Act.put, pu1, pu2, pu3])
 refine wpAnyH_done (by kernel_rfl) ?_ _
 go_wp2
 go_ret
 exact ⟨_, _, rfl, OA.out, GF.out, .inl rfl⟩
set_option maxRecDepth 100000 in
set_option maxHeartbeats 4000000 in
theorem insEnd {w : World} {lo c q : Nat} {A : Option Addr} {E : List Fig} (e : Fig) (hE : E.length ≤ 4) (hlo : lo ≤ w.heap.size) (ho : w.ownsRow lo 72 5 (.slice A E.length c) E.length (figs E))
 (hv : w.ownsRow lo 72 5 (.slice (some ⟨q, 0, none⟩) 1 1) 1 e.cells) :
 Calls Try.prog 111 #[.slice A E.length c, .int .i64 (E.length : Int), .slice (some ⟨q, 0, none⟩) 1 1] w (InsR lo A c E E.length e w) := by
 obtain ⟨I, hi, hz0, hz1, hz2⟩ := parts_of infoEnt'
 have I1 := Lib.hid hi
 have I2 := Lib.hid hz0
 have I3 := Lib.hid hz1
 have I4 := Lib.hid hz2
 clear hi hz0 hz1 hz2
 have HO := Lib.hid ho
 have hc := (own_cap ho).1
 have hr : Rd 5 Fig.cells w (some ⟨q, 0, none⟩) [e] := fun j hj => by
  obtain rfl : j = 0 := by simpa using hj
  refine ⟨q, 0, rfl, fun p u hu => ?_⟩
  rw [show 0 + 0 * 5 + p = p by omega]
  have h2 := (List.getElem?_eq_some_iff.1 hu).1
  exact (hv.cellAt p (by simpa [Fig.cells] using h2)).trans (by simpa using hu)
 have HR := Lib.hid hr
 have i0 : (0 : Int) ≤ (E.length : Int) := by omega
 have i2 : ((E.length : Int) == (E.length : Int)) = true := by simp
 have HE : Hid (figs (E.take E.length ++ e :: E.drop E.length) = figs E ++ e.cells) := by show _ = _; simp [figs]
 clear ho hv hr
 rcases hcn : decide (c = E.length) with _ | _
 · have k1 : ¬ c = E.length := by simpa using hcn
   clear hcn
   go_enter Try.func111, Try.ntmps111
   go_wp2_with (at_builtin; go_loud (refine list_app Fig.len rfl _ _ 26 rfl lo 72 I (.agg #[.int .i64 0, .int .i64 0, .int .i64 0, .int .i64 0, .int .i64 0]) 40 Try.underlying26 I1.out I2.out I3.out I4.out rfl (by decide) _ E.length (figs E) rfl HO.out _ _ 1 [e] rfl rfl HR.out (fun h => by cases h) (figs_one _) (by unfold maxLen; omega) (by omega) hlo ?_))
   intro v1 w1 ho1 hg1 hp1
   obtain ⟨A1, c1, rfl, _⟩ := own_form ho1
   rw [← HE.out] at ho1
   have HO1 := Lib.hid ho1
   have HG1 := Lib.hid hg1
   have HP1 := Lib.hid hp1
   clear ho1 hg1 hp1
   go_wp2
   go_ret
   refine ⟨_, _, rfl, HO1.out, HG1.out, ?_⟩
   rcases HP1.out with h | h
   · exact .inl h
   · exact .inr ⟨_, h, Nat.le_refl _⟩
 · have k1 : c = E.length := by simpa using hcn
   clear hcn
   subst k1
   go_enter Try.func111, Try.ntmps111
   go_wp2_with (at_builtin; go_loud (refine list_app Fig.len rfl _ _ 26 rfl lo 72 I (.agg #[.int .i64 0, .int .i64 0, .int .i64 0, .int .i64 0, .int .i64 0]) 40 Try.underlying26 I1.out I2.out I3.out I4.out rfl (by decide) _ E.length (figs E) rfl HO.out _ _ 1 [e] rfl rfl HR.out (fun h => by cases h) (figs_one _) (by unfold maxLen; omega) (by omega) hlo ?_))
   intro v1 w1 ho1 hg1 hp1
   obtain ⟨A1, c1, rfl, _⟩ := own_form ho1
   rw [← HE.out] at ho1
   have HO1 := Lib.hid ho1
   have HG1 := Lib.hid hg1
   have HP1 := Lib.hid hp1
   clear ho1 hg1 hp1
   go_wp2
   go_ret
   refine ⟨_, _, rfl, HO1.out, HG1.out, ?_⟩
   rcases HP1.out with h | h
   · exact .inl h
   · exact .inr ⟨_, h, Nat.le_refl _⟩
theorem insEnt {w : World} {lo c q : Nat} {A : Option Addr} {E : List Fig} (i : Nat) (e : Fig) (hi : i ≤ E.length) (hE : E.length ≤ 4) (hlo : lo ≤ w.heap.size) (ho : w.ownsRow lo 72 5 (.slice A E.length c) E.length (figs E))
 (hv : w.ownsRow lo 72 5 (.slice (some ⟨q, 0, none⟩) 1 1) 1 e.cells) (hq : (Value.slice A E.length c).ownBlock ≠ some q) :
 Calls Try.prog 111 #[.slice A E.length c, .int .i64 (i : Int), .slice (some ⟨q, 0, none⟩) 1 1] w (InsR lo A c E i e w) := by
 rcases Nat.lt_or_ge i E.length with h | h
 · obtain ⟨g, rfl, _, _⟩ := own_some ho (by omega)
   rcases Nat.lt_or_ge E.length c with h2 | h2
   · exact insRoom i e h hE ho h2 hv (fun hh => hq (by rw [← hh]; rfl))
   · have := (own_cap ho).1
     exact insGrow i e h hE hlo ho (by omega) hv
 · obtain rfl : i = E.length := by omega
   exact insEnd e hE hlo ho hv
end Go.Proofs.Ytameldhdegcpoaa
namespace Go.Proofs.Ytameldhdegcpoaa
open Go.ChangeShapes Go.WideShapes Go.ChangeAt Go.RowKit
set_option linter.unusedVariables false
set_option linter.unusedSimpArgs false
theorem own_keepR {w w' : World} {base base' : Nat} {e e' : TypeId} {size : Nat} {v v' : Value} {n : Nat} {xs : List Value} (h : w.ownsRow base e size v n xs) (hg : w.grownBy w' v'.ownBlock) (hd : ∀ x, v'.ownBlock = some x → v.ownBlock ≠ some x) : w'.ownsRow base e size v n xs := by
 rcases hv : v.ownBlock with _ | x
 · exact h.kept hg (.inl hv)
 · exact h.kept hg (.inr (by rw [hv]; intro e; exact hd x e.symm hv))
theorem Bd.newE {w : World} {p lo : Nat} {A : Option Addr} {a : Nat} {B : Option Addr} {b : Nat} {C : Option Addr} {d : Nat} {E : List Fig} {F L : List Int} (h : Bd w p lo A a B b C d E F L) {A' : Option Addr} {a' : Nat} {E' : List Fig} {w' : World} (hg : w.grownBy w' (Value.slice A E.length a).ownBlock) (ho : w'.ownsRow lo 72 5 (.slice A' E'.length a') E'.length (figs E'))
 (hn : (Value.slice A' E'.length a').ownBlock = (Value.slice A E.length a).ownBlock ∨ ∃ x, (Value.slice A' E'.length a').ownBlock = some x ∧ w.heap.size ≤ x) : Bd (w'.setCell ⟨p, 0, none⟩ (.slice A' E'.length a')) p lo A' a' B b C d E' F L := by
 have hp := h.at_.lt
 have pe' : (Value.slice A' E'.length a').ownBlock ≠ some p := by
  rcases hn with hn | ⟨x, hn, hx⟩
  · rw [hn]; exact h.pe
  · rw [hn]; intro e; injection e with e; omega
 have put : ∀ {e : TypeId} {size n : Nat} {v : Value} {xs : List Value}, w'.ownsRow lo e size v n xs → v.ownBlock ≠ some p → (w'.setCell ⟨p, 0, none⟩ (.slice A' E'.length a')).ownsRow lo e size v n xs := fun h1 h2 => own_same h1 (fun k hk => heap_setCell_other w' ⟨p, 0, none⟩ k _ (by
  intro e
  subst e
  exact h2 hk))
 refine ⟨(h.at_.grown hg (fun e => h.pe e.symm)).set0 _, put ho pe', put (own_keepR (base' := 0) (e' := 0) h.f hg (fun x hx => h.ef x hx)) h.pf, put (own_keepR (base' := 0) (e' := 0) h.l hg (fun x hx => h.el x hx)) h.pl, ?_, ?_, h.fl, pe', h.pf, h.pl, h.lo⟩
 · intro x hx e
   rcases hn with hn | ⟨y, hn, hy⟩
   · rw [hn] at hx; exact h.ef x hx e
   · rw [hn] at hx
     injection hx with hx
     have := (own_block_ge h.f x e).2
     omega
 · intro x hx e
   rcases hn with hn | ⟨y, hn, hy⟩
   · rw [hn] at hx; exact h.el x hx e
   · rw [hn] at hx
     injection hx with hx
     have := (own_block_ge h.l x e).2
     omega
def StepB (p lo : Nat) (B : Option Addr) (b : Nat) (C : Option Addr) (d : Nat) (L : List Int) (X : Gm × Int) (w : World) (e : Ending) (w' : World) : Prop :=
 e = .returned (.int .i64 X.2) ∧ (∃ A' a', Bd w' p lo A' a' B b C d X.1.1 X.1.2.1 L) ∧ Below lo w w'
theorem Bd.low {w : World} {p lo : Nat} {A : Option Addr} {a : Nat} {B : Option Addr} {b : Nat} {C : Option Addr} {d : Nat} {E : List Fig} {F L : List Int} (h : Bd w p lo A a B b C d E F L) : lo ≤ w.heap.size := by
 have := h.at_.lt
 have := h.lo
 omega
set_option maxRecDepth 100000 in
set_option maxHeartbeats 2000000 in
theorem joinNo {w : World} {p lo : Nat} {A : Option Addr} {a : Nat} {B : Option Addr} {b : Nat} {C : Option Addr} {d : Nat} {E : List Fig} {F L : List Int} (h : Bd w p lo A a B b C d E F L) (he : OkE E) (c : Int) (k : Nat) (hk : atF c E = some k) :
 Calls Try.prog 98 #[.pointer (some ⟨p, 0, none⟩), .int .i64 c] w (StepB p lo B b C d L ((E, F, L), 4) w) := by
 have PL := Lib.hid (placeOf A a E c w he (RdF.of_own h.e))
 have HB := Lib.hid h
 obtain ⟨y0, y1, y2⟩ := h.at_.cells
 have lp := h.at_.lt
 have LW := Lib.hid h.low
 rw [hk] at PL
 have PL : Hid (Calls Try.prog 110 #[.slice A E.length a, .int .i64 c] w fun e w' => e = .returned (.tuple #[.int .i64 (ltF c E), .bool true]) ∧ Below w.heap.size w w') := PL
 clear h hk
 go_enter Try.func98, Try.ntmps98
 go_wp2_with (fail)
 refine PL.out.mono ?_
 rintro e wa ⟨rfl, hb⟩
 clear PL
 have BA := Lib.hid hb
 clear hb
 go_wp2
 go_ret
 exact ⟨rfl, ⟨A, a, HB.out.below BA.out⟩, BA.out.mono LW.out⟩
set_option maxRecDepth 100000 in
set_option maxHeartbeats 4000000 in
theorem joinYes {w : World} {p lo : Nat} {A : Option Addr} {a : Nat} {B : Option Addr} {b : Nat} {C : Option Addr} {d : Nat} {E : List Fig} {F L : List Int} (h : Bd w p lo A a B b C d E F L) (he : OkE E) (c : Int) (hc : 1 ≤ c ∧ c ≤ 4) (hk : atF c E = none) :
 Calls Try.prog 98 #[.pointer (some ⟨p, 0, none⟩), .int .i64 c] w (StepB p lo B b C d L ((E.take (ltF c E) ++ ⟨c, c - 1, c - 1, 3, 0⟩ :: E.drop (ltF c E), F, L), 0) w) := by
 have PL := Lib.hid (placeOf A a E c w he (RdF.of_own h.e))
 have HB := Lib.hid h
 obtain ⟨y0, y1, y2⟩ := h.at_.cells
 have lp := h.at_.lt
 have LW := Lib.hid h.low
 rw [hk] at PL
 have PL : Hid (Calls Try.prog 110 #[.slice A E.length a, .int .i64 c] w fun e w' => e = .returned (.tuple #[.int .i64 (ltF c E), .bool false]) ∧ Below w.heap.size w w') := PL
 have HLT := Lib.hid (ltF_le c E)
 have HEL := Lib.hid he.len
 have q1 : IntKind.i64.wrap (c - 1) = c - 1 := IntWalk.i64_in _ (by omega)
 obtain ⟨k, hkk⟩ : ∃ k, k = ltF c E := ⟨_, rfl⟩
 rw [← hkk] at PL HLT ⊢
 clear h hk hkk he
 go_enter Try.func98, Try.ntmps98
 go_wp2_with (fail)
 refine PL.out.mono ?_
 rintro e wa ⟨rfl, hb⟩
 clear PL y0 y1 y2
 have BA := Lib.hid hb
 have HA := Lib.hid (HB.out.below hb)
 clear hb
 obtain ⟨y0, y1, y2⟩ := HA.out.at_.cells
 have lp2 := HA.out.at_.lt
 go_wp2_with (fail)
 have B2 : Below wa.heap.size wa (wa.alloc (.cells #[.int .i64 c, .int .i64 (c - 1), .int .i64 (c - 1), .int .i64 3, .int .i64 0] 72)) := (Below.refl _ _).alloc (Nat.le_refl _) _
 have H2 := Lib.hid (HA.out.below B2)
 have B2 := Lib.hid B2
 have lw2 : lo ≤ (wa.alloc (.cells #[.int .i64 c, .int .i64 (c - 1), .int .i64 (c - 1), .int .i64 3, .int .i64 0] 72)).heap.size := H2.out.low
 have hv : (wa.alloc (.cells #[.int .i64 c, .int .i64 (c - 1), .int .i64 (c - 1), .int .i64 3, .int .i64 0] 72)).ownsRow lo 72 5 (.slice (some ⟨wa.heap.size, 0, none⟩) 1 1) 1 (Fig.cells ⟨c, c - 1, c - 1, 3, 0⟩) :=
  ⟨rfl, .inr ⟨wa.heap.size, 1, _, rfl, HA.out.low, heap_alloc_new wa _, Nat.le_refl _, by unfold maxLen; omega, rfl, rfl⟩⟩
 have hq : (Value.slice A E.length a).ownBlock ≠ some wa.heap.size := fun e => by
  have := (own_block_ge HA.out.e _ e).2
  omega
 refine (insEnt (i := k) ⟨c, c - 1, c - 1, 3, 0⟩ HLT.out HEL.out lw2 H2.out.e hv hq).mono ?_
 clear hv hq lw2
 unfold InsR
 rintro e wb ⟨A', a', rfl, ho, hg, hn⟩
 have lw3 : (wa.alloc (.cells #[.int .i64 c, .int .i64 (c - 1), .int .i64 (c - 1), .int .i64 3, .int .i64 0] 72)).heap.size ≤ wb.heap.size := hg.size
 have hl : (E.take k ++ ⟨c, c - 1, c - 1, 3, 0⟩ :: E.drop k).length = E.length + 1 := by
  have := HLT.out
  simp; omega
 have T3 := Lib.hid (H2.out.at_.grown hg (fun e => H2.out.pe e.symm))
 obtain ⟨z0, z1, z2⟩ := T3.out.cells
 have zf := T3.out.frozen
 rw [← hl] at ho hn ⊢
 have N3 := Lib.hid (Bd.newE H2.out hg ho hn)
 have B3 := Lib.hid (Below.trans ((Below.and BA.out B2.out).mono LW.out) (Below.of_grown hg H2.out.low (fun x hx => (own_block_ge H2.out.e x hx).1)))
 obtain ⟨N, hN⟩ : ∃ N, N = (E.take k ++ ⟨c, c - 1, c - 1, 3, 0⟩ :: E.drop k).length := ⟨_, rfl⟩
 rw [← hN] at ⊢
 clear y0 y1 y2 ho hg hn hl lp2 lw3
 have HN := Lib.hid hN
 clear hN
 go_wp2
 go_ret
 exact ⟨rfl, ⟨A', a', by have := N3.out; rw [← HN.out] at this; exact this⟩, B3.out.setCell HB.out.lo _⟩
end Go.Proofs.Ytameldhdegcpoaa
