/- slices.Delete of one figure. -/
import Derived.Test.YthjiooocahdfpaaGzd
namespace Go.Proofs.Ythjiooocahdfpaa
open Go.ChangeShapes Go.WideShapes Go.ChangeAt Go.RowKit
set_option linter.unusedVariables false
set_option linter.unusedSimpArgs false

theorem rows_take {α : Type} (f : α → List Value) (k : Nat) (hf : ∀ a, (f a).length = k) : ∀ (L : List α) (i : Nat), (L.flatMap f).take (i * k) = (L.take i).flatMap f
  | [], i => by simp
  | a :: L, 0 => by simp
  | a :: L, i + 1 => by
    rw [List.flatMap_cons, List.take_succ_cons, List.flatMap_cons, ← rows_take f k hf L i, Nat.add_mul, Nat.one_mul, Nat.add_comm, ← hf a, List.take_length_add_append]
theorem rows_drop {α : Type} (f : α → List Value) (k : Nat) (hf : ∀ a, (f a).length = k) : ∀ (L : List α) (i : Nat), (L.flatMap f).drop (i * k) = (L.drop i).flatMap f
  | [], i => by simp
  | a :: L, 0 => by simp
  | a :: L, i + 1 => by
    rw [List.flatMap_cons, List.drop_succ_cons, ← rows_drop f k hf L i, Nat.add_mul, Nat.one_mul, Nat.add_comm, ← hf a, List.drop_length_add_append]
theorem figs_erase (E : List Fig) (i m : Nat) (hi : i < E.length) (hm : E.length = m + 1) (Z : List Value) (hZ : Z.length = 5) : (setsL (setsL (figs E) (i * 5) ((figs E).drop ((i + 1) * 5))) (m * 5) Z).take (m * 5) = figs (E.eraseIdx i) := by
  have hfl : (figs E).length = E.length * 5 := figs_length E
  have hN : ((figs E).drop ((i + 1) * 5)).length = (m - i) * 5 := by rw [List.length_drop, hfl]; omega
  have hA : (setsL (figs E) (i * 5) ((figs E).drop ((i + 1) * 5))).length = E.length * 5 := by rw [setsL_len, hfl]
  rw [setsL_eq Z _ _ (by rw [hA]; omega), List.append_assoc, List.take_append_of_le_length (by rw [List.length_take, hA]; omega), List.take_take, Nat.min_self]
  rw [setsL_eq _ _ _ (by rw [hN, hfl]; omega)]
  rw [List.take_append_of_le_length (by rw [List.length_append, List.length_take, hN, hfl]; omega)]
  rw [List.take_of_length_le (by rw [List.length_append, List.length_take, hN, hfl]; omega)]
  have h1 : (figs E).take (i * 5) = (E.take i).flatMap Fig.cells := rows_take Fig.cells 5 Fig.len E i
  have h2 : (figs E).drop ((i + 1) * 5) = (E.drop (i + 1)).flatMap Fig.cells := rows_drop Fig.cells 5 Fig.len E (i + 1)
  rw [h1, h2, ← List.flatMap_append, ← List.eraseIdx_eq_take_drop_succ]
  rfl

theorem step_room {P : Program} {w : World} {ops : Array Oper} {o : Oper} {a : Act} {K : Act → World → Prop} {Q : Exit → Act → World → Prop} {E : Prop} (hgd : o.guard = none) (s x : Operand) (t : TypeId)
    (hop : o.op = .call { callee := .builtin .append, args := #[s, x], argTypes := #[t, t] }) (e : TypeId) (i : TypeInfo) (ht : P.underlying t = some (.slice e)) (hi : P.info? e = some i) (size : Nat) (hsize : i.size = size)
    (b n cap : Nat) (A : Option Addr) (c m : Nat) (news : List Value) (hs : a.eval s = .slice (some ⟨b, 0, none⟩) n cap) (hx : a.eval x = .slice A m c) (hl : news.length = m * size) (hnews : ∃ ad : Addr, A = some ad ∧ ∀ j u, news[j]? = some u → w.cell? (ad.add j) = some u)
    (h1 : ∀ u ∈ news, u.oneCell' = true) (hroom : n + m ≤ cap) (hc : ∀ j, j < news.length → (w.cell? ⟨b, n * size + j, none⟩).isSome = true) (hf : ∀ j, j < news.length → w.frozen? ⟨b, n * size + j, none⟩ = false)
    (h : K (a.put o.dst (.slice (some ⟨b, 0, none⟩) (n + m) cap)) (w.setCells b (n * size) news)) :
    if Region.wanted o (yielded ops a.tmps) = true then Oper.wp P o a w K Q else E := by
  obtain ⟨ad, rfl, hn⟩ := hnews
  have hw : Region.wanted o (yielded ops a.tmps) = true := by simp [Region.wanted, hgd]
  rw [if_pos hw]
  subst hsize
  have hrun := run_append_room_cells (P := P) w t o.type e i ht hi b 0 n cap ad m c news hl hn h1 hroom (by simpa using hc) (by simpa using hf)
  simp only [Nat.zero_add] at hrun
  unfold Oper.wp execOp
  simp only [hop, resolve, invoke, builtin, Sem.run_bind, Sem.run_pure, Result.andThen_ok, List.map_toArray, List.map_cons, List.map_nil, hs, hx, hrun]
  exact h

set_option maxRecDepth 100000 in
set_option maxHeartbeats 4000000 in
theorem delEnt2 {w : World} {lo g c : Nat} {E : List Fig} (i : Nat) (hci : ¬ c = i + 1) (hi : i < E.length) (hE : E.length ≤ 4) (ho : w.ownsRow lo 74 5 (.slice (some ⟨g, 0, none⟩) E.length c) E.length (figs E)) :
    Calls Try.prog 94 #[.slice (some ⟨g, 0, none⟩) E.length c, .int .i64 (i : Int), .int .i64 ((i : Int) + 1)] w fun e w' => e = .returned (.slice (some ⟨g, 0, none⟩) (E.length - 1) c) ∧
      w'.ownsRow lo 74 5 (.slice (some ⟨g, 0, none⟩) (E.length - 1) c) (E.length - 1) (figs (E.eraseIdx i)) ∧ w.grownBy w' (some g) := by
  obtain ⟨I, hi, hz0, hz1, hz2⟩ := parts_of infoEnt'
  have I1 := Lib.hid hi
  have I2 := Lib.hid hz0
  have I3 := Lib.hid hz1
  have I4 := Lib.hid hz2
  clear hi hz0 hz1 hz2
  have HO := Lib.hid ho
  have hc := (own_cap ho).1
  have i0 : (0 : Int) ≤ (i : Int) := by omega
  have i1 : (i : Int) < (E.length : Int) := by omega
  have i2 : ((i : Int) == (i : Int) + 1) = false := by simp; try omega
  have i3 : (i : Int) ≤ (i : Int) + 1 := by omega
  have i4 : (i : Int) + 1 ≤ (E.length : Int) := by omega
  have i5 : ((i : Int) + 1).toNat = i + 1 := by omega
  have hfl : (figs E).length = E.length * 5 := figs_length E
  have NL : Hid (((figs E).drop ((i + 1) * 5)).length = (E.length - (i + 1)) * 5) := by show _ = _; rw [List.length_drop, hfl]; omega
  have N1 : Hid (∀ u ∈ ((figs E).drop ((i + 1) * 5)), u.oneCell' = true) := fun u hu => figs_one E u (by have := List.mem_of_mem_drop hu; simpa [figs] using this)
  have NC : Hid (∀ j, j < ((figs E).drop ((i + 1) * 5)).length → (w.drew.cell? ⟨g, i * 5 + j, none⟩).isSome = true) := fun j hj => by
    have hj' : i * 5 + j < (figs E).length := by rw [NL.out] at hj; omega
    have : w.drew.cell? ⟨g, i * 5 + j, none⟩ = _ := ho.cellAt (i * 5 + j) (by omega)
    rw [this]; simp [hj']
  have NF : Hid (∀ j, j < ((figs E).drop ((i + 1) * 5)).length → w.drew.frozen? ⟨g, i * 5 + j, none⟩ = false) := fun j _ => ho.frozenAt _
  have NH : Hid (∃ ad : Addr, (some ⟨g, (i + 1) * 5, none⟩ : Option Addr) = some ad ∧ ∀ j u, ((figs E).drop ((i + 1) * 5))[j]? = some u → w.drew.cell? (ad.add j) = some u) := ⟨_, rfl, fun j u hj => by
    rw [List.getElem?_drop] at hj
    have h2 := (List.getElem?_eq_some_iff.1 hj).1
    have : w.drew.cell? ⟨g, (i + 1) * 5 + j, none⟩ = _ := ho.cellAt ((i + 1) * 5 + j) (by omega)
    rw [← hj, ← this, Addr.add_lit]⟩
  have j1 : i ≤ c := by omega
  have j2 : i + 1 ≤ E.length := by omega
  have j3 : i + 1 ≤ c := by omega
  have j4 : (0 : Int) ≤ (i : Int) + 1 := by omega
  obtain ⟨m, hm⟩ : ∃ m, E.length = m + 1 := ⟨E.length - 1, by omega⟩
  have JN : Hid (i + (E.length - (i + 1)) = m) := by show _ = _; omega
  have HM := Lib.hid hm
  clear ho hfl hm
  go_enter Try.func94, Try.ntmps94
  go_wp2_with (fail)
  refine wp_region_held_drew (S := fun _ => True) (by kernel_rfl) trivial (fun hS0 => ?_)
  refine takeD 0 20 (v := ?_) rfl rfl (by kernel_rfl) (by kernel_rfl) (by kernel_rfl) (fun _ _ _ h => h) (Or.inl ⟨by rfl, ?_⟩) (by assumption) ?_
  rotate_left
  · intro w1 hSw; go_simp; (try with_reducible rfl)
  (try simp only [Act.put, List.setIfInBounds_toArray, List.set_cons_zero, List.set_cons_succ])
  refine takeD 1 21 (v := ?_) rfl rfl (by kernel_rfl) (by kernel_rfl) (by kernel_rfl) (fun _ _ _ h => h) (Or.inl ⟨by rfl, ?_⟩) (by assumption) ?_
  rotate_left
  · intro w1 hSw; go_simp; (try with_reducible rfl)
  (try simp only [Act.put, List.setIfInBounds_toArray, List.set_cons_zero, List.set_cons_succ])
  refine takeD 2 22 (v := ?_) rfl rfl (by kernel_rfl) (by kernel_rfl) (by kernel_rfl) (fun _ _ _ h => h) (Or.inl ⟨by rfl, ?_⟩) (by assumption) ?_
  rotate_left
  · intro w1 hSw; go_simp; (try with_reducible rfl)
  (try simp only [Act.put, List.setIfInBounds_toArray, List.set_cons_zero, List.set_cons_succ])
  refine takeD 3 23 (v := ?_) rfl rfl (by kernel_rfl) (by kernel_rfl) (by kernel_rfl) (fun _ _ _ h => h) (Or.inl ⟨by rfl, ?_⟩) (by assumption) ?_
  rotate_left
  · intro w1 hSw; go_simp; (try with_reducible rfl)
  (try simp only [Act.put, List.setIfInBounds_toArray, List.set_cons_zero, List.set_cons_succ])
  refine takeD 4 24 (v := ?_) rfl rfl (by kernel_rfl) (by kernel_rfl) (by kernel_rfl) (fun _ _ _ h => h) (Or.inl ⟨by rfl, ?_⟩) (by assumption) ?_
  rotate_left
  · intro w1 hSw; go_simp; (try with_reducible rfl)
  (try simp only [Act.put, List.setIfInBounds_toArray, List.set_cons_zero, List.set_cons_succ])
  refine takeD 5 25 (v := ?_) rfl rfl (by kernel_rfl) (by kernel_rfl) (by kernel_rfl) (fun _ _ _ h => h) (Or.inl ⟨by rfl, ?_⟩) (by assumption) ?_
  rotate_left
  · intro w1 hSw; go_simp; (try with_reducible rfl)
  (try simp only [Act.put, List.setIfInBounds_toArray, List.set_cons_zero, List.set_cons_succ])
  refine wpAnyH_ready (rs := [6]) (by kernel_rfl) (by simp) ?_
  refine AllReadyH.cons rfl (fun K hK => ?_) AllReadyH.nil
  refine step_room (by rfl) _ _ 29 (by rfl) 74 I Try.underlying29 I1.out 5 I3.out g i c _ _ (E.length - (i + 1)) ((figs E).drop ((i + 1) * 5)) (by rfl) (by rfl) ?hl ?hn ?h1 ?hr ?hc ?hf ?_
  case hl => exact NL.out
  case hn => exact NH.out
  case h1 => exact N1.out
  case hr => omega
  case hc => exact NC.out
  case hf => exact NF.out
  rw [JN.out]
  refine hK.out _ _ trivial (fun hS1 => ?_)
  clear hK K
  (try simp only [Act.put, List.setIfInBounds_toArray, List.set_cons_zero, List.set_cons_succ])
  refine takeD 7 0 (v := ?_) rfl rfl (by kernel_rfl) (by kernel_rfl) (by kernel_rfl) (fun _ _ _ h => h) (Or.inl ⟨by rfl, ?_⟩) (by assumption) ?_
  rotate_left
  · intro w1 hSw; go_simp; (try with_reducible rfl)
  (try simp only [Act.put, List.setIfInBounds_toArray, List.set_cons_zero, List.set_cons_succ])
  refine wpAnyH_done (by kernel_rfl) ?_ _
  have HOd : w.drew.ownsRow lo 74 5 (.slice (some ⟨g, 0, none⟩) E.length c) E.length (figs E) := HO.out
  obtain ⟨S1, G1⟩ := own_sets ((figs E).drop ((i + 1) * 5)) (figs E) (i * 5) w.drew (by rw [NL.out, figs_length]; omega) HOd
  have S1 := Lib.hid S1
  have G1 := Lib.hid (grown_trans (Below.grownBy (Below.refl w.heap.size w).drew (some g)) G1)
  obtain ⟨W1, hW⟩ : ∃ X, X = w.drew.setCells g (i * 5) ((figs E).drop ((i + 1) * 5)) := ⟨_, rfl⟩
  rw [← hW] at S1 G1 ⊢
  have hm := HM.out
  have SL : (setsL (figs E) (i * 5) ((figs E).drop ((i + 1) * 5))).length = E.length * 5 := by rw [setsL_len, figs_length]
  have zv : ∀ wz : World, (zeroValue 74).run Try.prog wz = .ok (.agg #[.int .i64 0, .int .i64 0, .int .i64 0, .int .i64 0, .int .i64 0]) wz := fun wz => by simp [zeroValue, typeInfo, I1.out, I2.out]
  have hcl : ∀ ty, (Builtin.clear_ #[29] ty #[.slice (some ⟨g, m * 5, none⟩) 1 (c - m)]).run Try.prog W1 = .ok (.tuple #[]) (W1.setCells g (m * 5) (.agg #[.int .i64 0, .int .i64 0, .int .i64 0, .int .i64 0, .int .i64 0] : Value).cells.toList) := fun ty =>
    run_clear_one W1 29 74 ty (.agg #[.int .i64 0, .int .i64 0, .int .i64 0, .int .i64 0, .int .i64 0]) Try.underlying29 zv (by intro u hu; simp [Value.cells] at hu; subst hu; rfl) g (m * 5) (c - m)
      (fun j hj => by
        have hj5 : j < 5 := hj
        rw [S1.out.cellAt (m * 5 + j) (by omega)]
        simp [SL]; omega)
      (fun j _ => S1.out.frozenAt _)
  have k1 : m ≤ E.length := by omega
  have k2 : E.length - m = 1 := by omega
  have k3 : ¬ c = m := by omega
  have k4 : m ≤ c := by omega
  obtain ⟨S2, G2⟩ := own_sets (.agg #[.int .i64 0, .int .i64 0, .int .i64 0, .int .i64 0, .int .i64 0] : Value).cells.toList _ (m * 5) W1 (by rw [SL]; show m * 5 + 5 ≤ _; omega) S1.out
  have S3 := Lib.hid (own_trunc S2 m k1)
  rw [figs_erase E i m hi hm _ rfl] at S3
  have G2 := Lib.hid (grown_trans G1.out G2)
  have HM2 := Lib.hid (show E.length - 1 = m by omega)
  clear hW HO HOd S1 G1 S2 SL NL N1 NC NF NH hm zv
  go_wp2
  go_light
  go_ret
  rw [HM2.out]
  exact ⟨rfl, S3.out, G2.out⟩

set_option maxRecDepth 100000 in
set_option maxHeartbeats 4000000 in
theorem delEnt1 {w : World} {lo g : Nat} {E : List Fig} (i : Nat)  (hi : i < E.length) (hE : E.length ≤ 4) (ho : w.ownsRow lo 74 5 (.slice (some ⟨g, 0, none⟩) E.length (i + 1)) E.length (figs E)) :
    Calls Try.prog 94 #[.slice (some ⟨g, 0, none⟩) E.length (i + 1), .int .i64 (i : Int), .int .i64 ((i : Int) + 1)] w fun e w' => e = .returned (.slice (some ⟨g, 0, none⟩) (E.length - 1) (i + 1)) ∧
      w'.ownsRow lo 74 5 (.slice (some ⟨g, 0, none⟩) (E.length - 1) (i + 1)) (E.length - 1) (figs (E.eraseIdx i)) ∧ w.grownBy w' (some g) := by
  obtain ⟨I, hi, hz0, hz1, hz2⟩ := parts_of infoEnt'
  have I1 := Lib.hid hi
  have I2 := Lib.hid hz0
  have I3 := Lib.hid hz1
  have I4 := Lib.hid hz2
  clear hi hz0 hz1 hz2
  have HO := Lib.hid ho
  have hc := (own_cap ho).1
  have i0 : (0 : Int) ≤ (i : Int) := by omega
  have i1 : (i : Int) < (E.length : Int) := by omega
  have i2 : ((i : Int) == (i : Int) + 1) = false := by simp; try omega
  have i3 : (i : Int) ≤ (i : Int) + 1 := by omega
  have i4 : (i : Int) + 1 ≤ (E.length : Int) := by omega
  have i5 : ((i : Int) + 1).toNat = i + 1 := by omega
  have hfl : (figs E).length = E.length * 5 := figs_length E
  have NL : Hid (((figs E).drop ((i + 1) * 5)).length = 0 * 5) := by show _ = _; rw [List.length_drop, hfl]; omega
  have N1 : Hid (∀ u ∈ ((figs E).drop ((i + 1) * 5)), u.oneCell' = true) := fun u hu => figs_one E u (by have := List.mem_of_mem_drop hu; simpa [figs] using this)
  have NC : Hid (∀ j, j < ((figs E).drop ((i + 1) * 5)).length → (w.drew.cell? ⟨g, i * 5 + j, none⟩).isSome = true) := fun j hj => by
    have hj' : i * 5 + j < (figs E).length := by rw [NL.out] at hj; omega
    have : w.drew.cell? ⟨g, i * 5 + j, none⟩ = _ := ho.cellAt (i * 5 + j) (by omega)
    rw [this]; simp [hj']
  have NF : Hid (∀ j, j < ((figs E).drop ((i + 1) * 5)).length → w.drew.frozen? ⟨g, i * 5 + j, none⟩ = false) := fun j _ => ho.frozenAt _
  have NH : Hid (∃ ad : Addr, (some ⟨g, 0, none⟩ : Option Addr) = some ad ∧ ∀ j u, ((figs E).drop ((i + 1) * 5))[j]? = some u → w.drew.cell? (ad.add j) = some u) := ⟨_, rfl, fun j u hj => by
    have := (List.getElem?_eq_some_iff.1 hj).1
    rw [NL.out] at this
    omega⟩
  have j1 : i ≤ i + 1 := by omega
  have j2 : i + 1 ≤ E.length := by omega
  have j3 : i + 1 ≤ i + 1 := by omega
  have j4 : (0 : Int) ≤ (i : Int) + 1 := by omega
  obtain ⟨m, hm⟩ : ∃ m, E.length = m + 1 := ⟨E.length - 1, by omega⟩
  have JN : Hid (i + 0 = m) := by show _ = _; omega
  have HM := Lib.hid hm
  clear ho hfl hm
  go_enter Try.func94, Try.ntmps94
  go_wp2_with (fail)
  refine wp_region_held_drew (S := fun _ => True) (by kernel_rfl) trivial (fun hS0 => ?_)
  refine takeD 0 20 (v := ?_) rfl rfl (by kernel_rfl) (by kernel_rfl) (by kernel_rfl) (fun _ _ _ h => h) (Or.inl ⟨by rfl, ?_⟩) (by assumption) ?_
  rotate_left
  · intro w1 hSw; go_simp; (try with_reducible rfl)
  (try simp only [Act.put, List.setIfInBounds_toArray, List.set_cons_zero, List.set_cons_succ])
  refine takeD 1 21 (v := ?_) rfl rfl (by kernel_rfl) (by kernel_rfl) (by kernel_rfl) (fun _ _ _ h => h) (Or.inl ⟨by rfl, ?_⟩) (by assumption) ?_
  rotate_left
  · intro w1 hSw; go_simp; (try with_reducible rfl)
  (try simp only [Act.put, List.setIfInBounds_toArray, List.set_cons_zero, List.set_cons_succ])
  refine takeD 2 22 (v := ?_) rfl rfl (by kernel_rfl) (by kernel_rfl) (by kernel_rfl) (fun _ _ _ h => h) (Or.inl ⟨by rfl, ?_⟩) (by assumption) ?_
  rotate_left
  · intro w1 hSw; go_simp; (try with_reducible rfl)
  (try simp only [Act.put, List.setIfInBounds_toArray, List.set_cons_zero, List.set_cons_succ])
  refine takeD 3 23 (v := ?_) rfl rfl (by kernel_rfl) (by kernel_rfl) (by kernel_rfl) (fun _ _ _ h => h) (Or.inl ⟨by rfl, ?_⟩) (by assumption) ?_
  rotate_left
  · intro w1 hSw; go_simp; (try with_reducible rfl)
  (try simp only [Act.put, List.setIfInBounds_toArray, List.set_cons_zero, List.set_cons_succ])
  refine takeD 4 24 (v := ?_) rfl rfl (by kernel_rfl) (by kernel_rfl) (by kernel_rfl) (fun _ _ _ h => h) (Or.inl ⟨by rfl, ?_⟩) (by assumption) ?_
  rotate_left
  · intro w1 hSw; go_simp; (try with_reducible rfl)
  (try simp only [Act.put, List.setIfInBounds_toArray, List.set_cons_zero, List.set_cons_succ])
  refine takeD 5 25 (v := ?_) rfl rfl (by kernel_rfl) (by kernel_rfl) (by kernel_rfl) (fun _ _ _ h => h) (Or.inl ⟨by rfl, ?_⟩) (by assumption) ?_
  rotate_left
  · intro w1 hSw; go_simp; (try with_reducible rfl)
  (try simp only [Act.put, List.setIfInBounds_toArray, List.set_cons_zero, List.set_cons_succ])
  refine wpAnyH_ready (rs := [6]) (by kernel_rfl) (by simp) ?_
  refine AllReadyH.cons rfl (fun K hK => ?_) AllReadyH.nil
  refine step_room (by rfl) _ _ 29 (by rfl) 74 I Try.underlying29 I1.out 5 I3.out g i (i + 1) _ _ 0 ((figs E).drop ((i + 1) * 5)) (by rfl) (by rfl) ?hl ?hn ?h1 ?hr ?hc ?hf ?_
  case hl => exact NL.out
  case hn => exact NH.out
  case h1 => exact N1.out
  case hr => omega
  case hc => exact NC.out
  case hf => exact NF.out
  rw [JN.out]
  refine hK.out _ _ trivial (fun hS1 => ?_)
  clear hK K
  (try simp only [Act.put, List.setIfInBounds_toArray, List.set_cons_zero, List.set_cons_succ])
  refine takeD 7 0 (v := ?_) rfl rfl (by kernel_rfl) (by kernel_rfl) (by kernel_rfl) (fun _ _ _ h => h) (Or.inl ⟨by rfl, ?_⟩) (by assumption) ?_
  rotate_left
  · intro w1 hSw; go_simp; (try with_reducible rfl)
  (try simp only [Act.put, List.setIfInBounds_toArray, List.set_cons_zero, List.set_cons_succ])
  refine wpAnyH_done (by kernel_rfl) ?_ _
  have HOd : w.drew.ownsRow lo 74 5 (.slice (some ⟨g, 0, none⟩) E.length (i + 1)) E.length (figs E) := HO.out
  obtain ⟨S1, G1⟩ := own_sets ((figs E).drop ((i + 1) * 5)) (figs E) (i * 5) w.drew (by rw [NL.out, figs_length]; omega) HOd
  have S1 := Lib.hid S1
  have G1 := Lib.hid (grown_trans (Below.grownBy (Below.refl w.heap.size w).drew (some g)) G1)
  obtain ⟨W1, hW⟩ : ∃ X, X = w.drew.setCells g (i * 5) ((figs E).drop ((i + 1) * 5)) := ⟨_, rfl⟩
  rw [← hW] at S1 G1 ⊢
  have hm := HM.out
  have SL : (setsL (figs E) (i * 5) ((figs E).drop ((i + 1) * 5))).length = E.length * 5 := by rw [setsL_len, figs_length]
  have zv : ∀ wz : World, (zeroValue 74).run Try.prog wz = .ok (.agg #[.int .i64 0, .int .i64 0, .int .i64 0, .int .i64 0, .int .i64 0]) wz := fun wz => by simp [zeroValue, typeInfo, I1.out, I2.out]
  have hcl : ∀ ty, (Builtin.clear_ #[29] ty #[.slice (some ⟨g, m * 5, none⟩) 1 ((i + 1) - m)]).run Try.prog W1 = .ok (.tuple #[]) (W1.setCells g (m * 5) (.agg #[.int .i64 0, .int .i64 0, .int .i64 0, .int .i64 0, .int .i64 0] : Value).cells.toList) := fun ty =>
    run_clear_one W1 29 74 ty (.agg #[.int .i64 0, .int .i64 0, .int .i64 0, .int .i64 0, .int .i64 0]) Try.underlying29 zv (by intro u hu; simp [Value.cells] at hu; subst hu; rfl) g (m * 5) ((i + 1) - m)
      (fun j hj => by
        have hj5 : j < 5 := hj
        rw [S1.out.cellAt (m * 5 + j) (by omega)]
        simp [SL]; omega)
      (fun j _ => S1.out.frozenAt _)
  have k1 : m ≤ E.length := by omega
  have k2 : E.length - m = 1 := by omega
  have k3 : ¬ i + 1 = m := by omega
  have k4 : m ≤ i + 1 := by omega
  obtain ⟨S2, G2⟩ := own_sets (.agg #[.int .i64 0, .int .i64 0, .int .i64 0, .int .i64 0, .int .i64 0] : Value).cells.toList _ (m * 5) W1 (by rw [SL]; show m * 5 + 5 ≤ _; omega) S1.out
  have S3 := Lib.hid (own_trunc S2 m k1)
  rw [figs_erase E i m hi hm _ rfl] at S3
  have G2 := Lib.hid (grown_trans G1.out G2)
  have HM2 := Lib.hid (show E.length - 1 = m by omega)
  clear hW HO HOd S1 G1 S2 SL NL N1 NC NF NH hm zv
  go_wp2
  go_light
  go_ret
  rw [HM2.out]
  exact ⟨rfl, S3.out, G2.out⟩

theorem delEnt {w : World} {lo g c : Nat} {E : List Fig} (i : Nat) (hi : i < E.length) (hE : E.length ≤ 4) (ho : w.ownsRow lo 74 5 (.slice (some ⟨g, 0, none⟩) E.length c) E.length (figs E)) :
    Calls Try.prog 94 #[.slice (some ⟨g, 0, none⟩) E.length c, .int .i64 (i : Int), .int .i64 ((i : Int) + 1)] w fun e w' => e = .returned (.slice (some ⟨g, 0, none⟩) (E.length - 1) c) ∧
      w'.ownsRow lo 74 5 (.slice (some ⟨g, 0, none⟩) (E.length - 1) c) (E.length - 1) (figs (E.eraseIdx i)) ∧ w.grownBy w' (some g) := by
  by_cases hci : c = i + 1
  · subst hci
    exact delEnt1 i hi hE ho
  · exact delEnt2 i hci hi hE ho

end Go.Proofs.Ythjiooocahdfpaa
