/- slices.Insert of one figure, ahead of the end, without room. -/
import Derived.Test.YthjiooocahdfpaaGzh
namespace Go.Proofs.Ythjiooocahdfpaa
open Go.ChangeShapes Go.WideShapes Go.ChangeAt Go.RowKit
set_option linter.unusedVariables false
set_option linter.unusedSimpArgs false

/-- What comes back of an insertion at i. -/
def InsR (lo : Nat) (A : Option Addr) (c : Nat) (E : List Fig) (i : Nat) (e : Fig) (w : World) (en : Ending) (w' : World) : Prop :=
  ∃ A' c', en = .returned (.slice A' (E.length + 1) c') ∧ w'.ownsRow lo 74 5 (.slice A' (E.length + 1) c') (E.length + 1) (figs (E.take i ++ e :: E.drop i)) ∧ w.grownBy w' (Value.slice A E.length c).ownBlock ∧
    ((Value.slice A' (E.length + 1) c').ownBlock = (Value.slice A E.length c).ownBlock ∨ ∃ x, (Value.slice A' (E.length + 1) c').ownBlock = some x ∧ w.heap.size ≤ x)

theorem step_copy {P : Program} {w : World} {ops : Array Oper} {o : Oper} {a : Act} {K : Act → World → Prop} {Q : Exit → Act → World → Prop} {E : Prop} (hgd : o.guard = none) (x y : Operand) (t : TypeId)
    (hop : o.op = .call { callee := .builtin .copy, args := #[x, y], argTypes := #[t, t] }) (v u : Value) (hx : a.eval x = v) (hy : a.eval y = u) {r : Value} {w' : World} (hr : ∀ ty, (Builtin.copy_ #[t, t] ty #[v, u]).run P w = .ok r w')
    (h : K (a.put o.dst r) w') : if Region.wanted o (yielded ops a.tmps) = true then Oper.wp P o a w K Q else E := by
  have hw : Region.wanted o (yielded ops a.tmps) = true := by simp [Region.wanted, hgd]
  rw [if_pos hw]
  unfold Oper.wp execOp
  simp only [hop, resolve, invoke, builtin, Sem.run_bind, Sem.run_pure, Result.andThen_ok, List.map_toArray, List.map_cons, List.map_nil, hx, hy, hr]
  exact h
theorem list_copy {P : Program} {w : World} {ops : Array Oper} {rest : List Oper} {o : Oper} {a : Act} {Q : Exit → Act → World → Prop} (hgd : o.guard = none) (x y : Operand) (t : TypeId)
    (hop : o.op = .call { callee := .builtin .copy, args := #[x, y], argTypes := #[t, t] }) (v u : Value) (hx : a.eval x = v) (hy : a.eval y = u) {r : Value} {w' : World} (hr : ∀ ty, (Builtin.copy_ #[t, t] ty #[v, u]).run P w = .ok r w')
    (h : wpList P ops Q rest (a.put o.dst r) w') : wpList P ops Q (o :: rest) a w := by
  refine wpList_plain hgd fun K hK => ?_
  unfold Oper.wp execOp
  simp only [hop, resolve, invoke, builtin, Sem.run_bind, Sem.run_pure, Result.andThen_ok, List.map_toArray, List.map_cons, List.map_nil, hx, hy, hr]
  exact hK _ _ h
theorem list_append {P : Program} {w : World} {ops : Array Oper} {rest : List Oper} {o : Oper} {a : Act} {Q : Exit → Act → World → Prop} (hgd : o.guard = none) (x y : Operand) (t t' : TypeId)
    (hop : o.op = .call { callee := .builtin .append, args := #[x, y], argTypes := #[t, t'] }) (v u : Value) (hx : a.eval x = v) (hy : a.eval y = u) {r : Value} {w' : World} (hr : ∀ ty, (Builtin.append_ #[t, t'] ty #[v, u]).run P w = .ok r w')
    (h : wpList P ops Q rest (a.put o.dst r) w') : wpList P ops Q (o :: rest) a w := by
  refine wpList_plain hgd fun K hK => ?_
  unfold Oper.wp execOp
  simp only [hop, resolve, invoke, builtin, Sem.run_bind, Sem.run_pure, Result.andThen_ok, List.map_toArray, List.map_cons, List.map_nil, hx, hy, hr]
  exact hK _ _ h
theorem setCells_drew (b : Nat) : ∀ (vs : List Value) (o : Nat) (w : World), (w.setCells b o vs).drew = w.drew.setCells b o vs
  | [], _, _ => rfl
  | v :: r, o, w => by rw [World.setCells, World.setCells, setCells_drew b r]; rfl
/-- copy into an own row of figures. -/
theorem copyFig {w : World} {base : Nat} {g n c o dLen dCap sLen sCap m : Nat} {xs cs : List Value} {ad : Addr} (I : TypeInfo) (hi : Try.prog.info? 74 = some I) (hs : I.size = 5) (h : w.ownsRow base 74 5 (.slice (some ⟨g, 0, none⟩) n c) n xs)
    (hm : Nat.min sLen dLen = m) (hn : cs.length = m * 5) (ho : o + cs.length ≤ xs.length) (hsrc : ∀ j v, cs[j]? = some v → w.cell? (ad.add j) = some v) (h1 : ∀ v ∈ cs, v.oneCell' = true) (ty : TypeId) :
    (Builtin.copy_ #[29, 29] ty #[.slice (some ⟨g, o, none⟩) dLen dCap, .slice (some ad) sLen sCap]).run Try.prog w = .ok (goInt (m : Nat)) (w.setCells g o cs) := by
  have hx := h.1
  have hr := run_copy_wide w 29 29 ty 74 I 5 g o dLen dCap ad sLen sCap cs Try.underlying29 hi hs (by rw [hm]; exact hn) hsrc
    (fun j hj => by
      rw [h.cellAt (o + j) (by omega)]
      have : o + j < xs.length := by omega
      simp [this])
    (fun j _ => h.frozenAt _) h1
  rw [hm] at hr
  exact hr

set_option maxRecDepth 100000 in
set_option maxHeartbeats 4000000 in
theorem insGrow {w : World} {lo g c q : Nat} {E : List Fig} (i : Nat) (e : Fig) (hi : i < E.length) (hE : E.length ≤ 4) (hlo : lo ≤ w.heap.size) (ho : w.ownsRow lo 74 5 (.slice (some ⟨g, 0, none⟩) E.length c) E.length (figs E)) (hfull : c = E.length)
    (hv : w.ownsRow lo 74 5 (.slice (some ⟨q, 0, none⟩) 1 1) 1 e.cells) :
    Calls Try.prog 83 #[.slice (some ⟨g, 0, none⟩) E.length c, .int .i64 (i : Int), .slice (some ⟨q, 0, none⟩) 1 1] w (InsR lo (some ⟨g, 0, none⟩) c E i e w) := by
  obtain ⟨I, hi, hz0, hz1, hz2⟩ := parts_of infoEnt'
  have I1 := Lib.hid hi
  have I2 := Lib.hid hz0
  have I3 := Lib.hid hz1
  have I4 := Lib.hid hz2
  clear hi hz0 hz1 hz2
  have hfl : (figs E).length = E.length * 5 := figs_length E
  have hD : ((figs E).drop (i * 5)).length = (E.length - i) * 5 := by rw [List.length_drop, hfl]; omega
  have hO : ((figs E).take (i * 5)).length = i * 5 := by rw [List.length_take, hfl]; omega
  obtain ⟨k, hk⟩ : ∃ k, E.length + 1 = i + k := ⟨E.length + 1 - i, by omega⟩
  have hold : (Builtin.firstCells I.size i (.slice (some ⟨g, 0, none⟩) i c)).run Try.prog w.drew = .ok ((figs E).take (i * 5)).toArray w.drew := by
    rw [I3.out]
    exact run_firstCells_some w.drew 5 i ⟨g, 0, none⟩ i c ((figs E).take (i * 5)) hO (fun j u hj => by
      rw [Addr.add_lit, Nat.zero_add]
      have h2 := (List.getElem?_eq_some_iff.1 hj).1
      have h3 : w.drew.cell? ⟨g, j, none⟩ = _ := ho.cellAt j (by omega)
      rw [h3, ← hj, List.getElem?_take_of_lt (by omega)])
  have hap := fun ty => Lib.run_append_grow_zeros w 29 3 ty 74 I _ .i64 .i64 Try.underlying29 Try.underlying3 I1.out I2.out (some ⟨g, 0, none⟩) i c ((figs E).take (i * 5)) hold k (by omega) (by rw [I3.out]; omega) (by omega) (by omega) (by rw [I4.out]; omega) (by rw [I4.out]; exact growslice_fits (by omega) (by omega))
  rw [← hk] at hap
  obtain ⟨Z, hZ, oz, gz⟩ := own_zeros w 74 5 ((figs E).take (i * 5)) (.agg #[.int .i64 0, .int .i64 0, .int .i64 0, .int .i64 0, .int .i64 0] : Value).cells i k (grownCap w (E.length + 1) c 74) rfl hO (by rw [← hk]; exact grownCap_ge w _ _ _) (grownCap_le_maxLen w _ _ _ (by unfold maxLen; omega))
  rw [← hk] at oz gz
  obtain ⟨c1, hc1⟩ : ∃ c1, c1 = grownCap w (E.length + 1) c 74 := ⟨_, rfl⟩
  rw [← hc1] at hap oz gz
  have hc2 := (own_cap oz).1
  obtain ⟨W1, hW1⟩ : ∃ W1, W1 = w.drew.alloc (.cells (((figs E).take (i * 5)).toArray ++ Builtin.zeroCells (.agg #[.int .i64 0, .int .i64 0, .int .i64 0, .int .i64 0, .int .i64 0] : Value).cells k ++ Builtin.zeroCells (.agg #[.int .i64 0, .int .i64 0, .int .i64 0, .int .i64 0, .int .i64 0] : Value).cells (c1 - (E.length + 1))) 74) := ⟨_, rfl⟩
  rw [← hW1] at hap oz gz
  have hgw := (own_block_ge ho g rfl).2
  have hqw := (own_block_ge hv q rfl).2
  have hXL : (((figs E).take (i * 5)) ++ Z).length = (E.length + 1) * 5 := by rw [List.length_append, hO, hZ, hk]; omega
  have vc : ∀ j u, e.cells[j]? = some u → W1.cell? ((⟨q, 0, none⟩ : Addr).add j) = some u := fun j u hj => by
    have h2 := (List.getElem?_eq_some_iff.1 hj).1
    rw [Addr.add_lit, Nat.zero_add]
    have h3 : w.cell? ⟨q, j, none⟩ = _ := hv.cellAt j (by simpa [Fig.len] using h2)
    exact gz.cell (a := ⟨q, j, none⟩) (h3.trans hj) (by simp)
  have v1 : ∀ u ∈ e.cells, u.oneCell' = true := fun u hu => figs_one [e] u (by simpa [figs] using hu)
  have hcA := fun ty => copyFig (dLen := k) (dCap := c1 - i) (sLen := 1) (sCap := 1) (m := 1) (o := i * 5) (cs := e.cells) (ad := ⟨q, 0, none⟩) I I1.out I3.out oz (by simp only [Nat.min_def]; split <;> omega) rfl (by rw [hXL]; show i * 5 + 5 ≤ _; omega) vc v1 ty
  obtain ⟨oA, gA⟩ := own_sets e.cells (((figs E).take (i * 5)) ++ Z) (i * 5) W1 (by rw [hXL]; show i * 5 + 5 ≤ _; omega) oz
  obtain ⟨W2, hW2⟩ : ∃ W2, W2 = W1.setCells w.heap.size (i * 5) e.cells := ⟨_, rfl⟩
  rw [← hW2] at hcA oA gA
  have gw2 := grown_trans (Below.grownBy (Below.of_grown gz (Nat.le_refl _) (fun x hx => by cases hx)) (some w.heap.size)) gA
  have XA : (setsL (((figs E).take (i * 5)) ++ Z) (i * 5) e.cells).length = (E.length + 1) * 5 := by rw [setsL_len, hXL]
  have hcB := fun ty => copyFig (w := W2.drew) (dLen := E.length - i) (dCap := c1 - (i + 1)) (sLen := E.length - i) (sCap := c - i) (m := E.length - i) (o := (i + 1) * 5) (cs := ((figs E).drop (i * 5))) (ad := ⟨g, i * 5, none⟩) I I1.out I3.out (show W2.drew.ownsRow _ _ _ _ _ _ from oA) (by simp only [Nat.min_def]; split <;> omega) hD (by rw [XA, hD]; omega) (fun j u hj => by
      have h2 := (List.getElem?_eq_some_iff.1 hj).1
      rw [Addr.add_lit]
      have h3 : w.cell? ⟨g, i * 5 + j, none⟩ = _ := ho.cellAt (i * 5 + j) (by omega)
      rw [List.getElem?_drop] at hj
      exact gw2.cell (a := ⟨g, i * 5 + j, none⟩) (h3.trans hj) (by simp; omega)) (fun u hu => figs_one E u (by have := List.mem_of_mem_drop hu; simpa [figs] using this)) ty
  obtain ⟨oB, gB⟩ := own_sets ((figs E).drop (i * 5)) _ ((i + 1) * 5) W2.drew (by rw [XA, hD]; omega) (show W2.drew.ownsRow _ _ _ _ _ _ from oA)
  rw [ins_new _ _ _ i E.length hXL rfl hD (by omega)] at oB
  have hXt : (((figs E).take (i * 5)) ++ Z).take (i * 5) = ((figs E).take (i * 5)) := by rw [List.take_append_of_le_length (by omega), List.take_of_length_le (by omega)]
  rw [hXt, ← figs_ins] at oB
  have GF : w.grownBy (W2.drew.setCells w.heap.size ((i + 1) * 5) ((figs E).drop (i * 5))) none := by
    have h1 := grown_trans (grown_trans gw2 (Below.grownBy (Below.refl W2.heap.size W2).drew (some w.heap.size))) gB
    exact ⟨h1.os, h1.tape, h1.output, h1.size, fun x hx _ => h1.block x hx (by simp; omega)⟩
  have HCA := Lib.hid hcA
  have HCB := Lib.hid hcB
  have HAP := Lib.hid hap
  have OB := Lib.hid (own_base oB hlo)
  have GF := Lib.hid GF
  have i0 : (0 : Int) ≤ (i : Int) := by omega
  have i1 : (i : Int) ≤ (E.length : Int) := by omega
  have i2 : ((i : Int) == (E.length : Int)) = false := by simp; omega
  have i3 : decide ((E.length : Int) + 1 > (c : Int)) = true := by simp; omega
  have i3b : decide ((c : Int) < (E.length : Int) + 1) = true := by simp; omega
  have i4 : IntKind.i64.wrap ((E.length : Int) + 1) = (E.length : Int) + 1 := IntWalk.i64_in _ (by omega)
  have i5 : IntKind.i64.wrap ((E.length : Int) + 1 - (i : Int)) = (k : Int) := by rw [show (E.length : Int) + 1 - (i : Int) = (k : Int) by omega]; exact IntWalk.i64_in _ (by omega)
  have i6 : IntKind.i64.wrap ((i : Int) + 1) = (i : Int) + 1 := IntWalk.i64_in _ (by omega)
  have i7 : ¬ c = i := by omega
  have i8 : ¬ c1 = i := by omega
  have i9 : ¬ c1 = i + 1 := by omega
  have j1 : i ≤ c := by omega
  have j2 : i ≤ E.length := by omega
  have j3 : i + 1 ≤ E.length + 1 := by omega
  have j4 : (0 : Int) ≤ (i : Int) + 1 := by omega
  have j5 : ((i : Int) + 1).toNat = i + 1 := by omega
  have j6 : (i : Int) ≤ (E.length : Int) + 1 := by omega
  have j7 : (i : Int) + 1 ≤ (E.length : Int) + 1 := by omega
  have j8 : E.length + 1 - i = k := by omega
  have j9 : E.length + 1 ≤ c1 := hc2
  have hca := HCA.out
  clear HCA
  have HK := Lib.hid hk
  clear hk
  clear hfull hcA hcB hap oB oA gA oz gz gw2 hold hW1 hW2 ho hv vc v1 hgw hqw hXL XA hXt hfl hD hO hc1 hZ
  go_enter Try.func83, Try.ntmps83
  go_wp2_with (at_builtin; go_loud (refine list_append rfl _ _ 29 3 rfl _ _ rfl rfl HAP.out ?_))
  refine wp_region_held_drew (S := fun _ => True) (by kernel_rfl) trivial (fun hS0 => ?_)
  refine takeD 0 46 (v := ?_) rfl rfl (by kernel_rfl) (by kernel_rfl) (by kernel_rfl) (fun _ _ _ h => h) (Or.inl ⟨by rfl, ?_⟩) (by assumption) ?_
  rotate_left
  · intro w1 hSw; go_simp; (try with_reducible rfl)
  (try simp only [Act.put, List.setIfInBounds_toArray, List.set_cons_zero, List.set_cons_succ])
  refine takeD 1 47 (v := ?_) rfl rfl (by kernel_rfl) (by kernel_rfl) (by kernel_rfl) (fun _ _ _ h => h) (Or.inl ⟨by rfl, ?_⟩) (by assumption) ?_
  rotate_left
  · intro w1 hSw; go_simp; (try with_reducible rfl)
  (try simp only [Act.put, List.setIfInBounds_toArray, List.set_cons_zero, List.set_cons_succ])
  refine takeD 2 48 (v := ?_) rfl rfl (by kernel_rfl) (by kernel_rfl) (by kernel_rfl) (fun _ _ _ h => h) (Or.inl ⟨by rfl, ?_⟩) (by assumption) ?_
  rotate_left
  · intro w1 hSw; go_simp; (try with_reducible rfl)
  (try simp only [Act.put, List.setIfInBounds_toArray, List.set_cons_zero, List.set_cons_succ])
  refine takeD 3 49 (v := ?_) rfl rfl (by kernel_rfl) (by kernel_rfl) (by kernel_rfl) (fun _ _ _ h => h) (Or.inl ⟨by rfl, ?_⟩) (by assumption) ?_
  rotate_left
  · intro w1 hSw; go_simp; (try with_reducible rfl)
  (try simp only [Act.put, List.setIfInBounds_toArray, List.set_cons_zero, List.set_cons_succ])
  refine takeD 4 50 (v := ?_) rfl rfl (by kernel_rfl) (by kernel_rfl) (by kernel_rfl) (fun _ _ _ h => h) (Or.inl ⟨by rfl, ?_⟩) (by assumption) ?_
  rotate_left
  · intro w1 hSw; go_simp; (try with_reducible rfl)
  (try simp only [Act.put, List.setIfInBounds_toArray, List.set_cons_zero, List.set_cons_succ])
  refine takeD 5 51 (v := ?_) rfl rfl (by kernel_rfl) (by kernel_rfl) (by kernel_rfl) (fun _ _ _ h => h) (Or.inl ⟨by rfl, ?_⟩) (by assumption) ?_
  rotate_left
  · intro w1 hSw; go_simp; (try with_reducible rfl)
  (try simp only [Act.put, List.setIfInBounds_toArray, List.set_cons_zero, List.set_cons_succ])
  refine takeD 6 52 (v := ?_) rfl rfl (by kernel_rfl) (by kernel_rfl) (by kernel_rfl) (fun _ _ _ h => h) (Or.inl ⟨by rfl, ?_⟩) (by assumption) ?_
  rotate_left
  · intro w1 hSw; go_simp; (try with_reducible rfl)
  (try simp only [Act.put, List.setIfInBounds_toArray, List.set_cons_zero, List.set_cons_succ])
  refine takeD 7 53 (v := ?_) rfl rfl (by kernel_rfl) (by kernel_rfl) (by kernel_rfl) (fun _ _ _ h => h) (Or.inl ⟨by rfl, ?_⟩) (by assumption) ?_
  rotate_left
  · intro w1 hSw; go_simp; (try with_reducible rfl)
  (try simp only [Act.put, List.setIfInBounds_toArray, List.set_cons_zero, List.set_cons_succ])
  refine wpAnyH_ready (rs := [8]) (by kernel_rfl) (by simp) ?_
  refine AllReadyH.cons rfl (fun K hK => ?_) AllReadyH.nil
  refine step_copy (by rfl) _ _ 29 (by rfl) (.slice (some ⟨w.heap.size, (i + 1) * 5, none⟩) (E.length - i) (c1 - (i + 1))) (.slice (some ⟨g, i * 5, none⟩) (E.length - i) (c - i)) (by rfl) (by rfl) HCB.out ?_
  refine hK.out _ _ trivial (fun hS1 => ?_)
  clear hK K
  (try simp only [Act.put, List.setIfInBounds_toArray, List.set_cons_zero, List.set_cons_succ])
  refine wpAnyH_done (by kernel_rfl) ?_ _
  go_wp2
  go_ret
  exact ⟨_, _, rfl, OB.out, ⟨GF.out.os, GF.out.tape, GF.out.output, GF.out.size, fun x hx _ => GF.out.block x hx (by simp)⟩, .inr ⟨_, rfl, Nat.le_refl _⟩⟩

end Go.Proofs.Ythjiooocahdfpaa
