/- slices.Insert of one figure: ahead of the end, with room; at the end. -/
import Derived.Test.YthjiooocahdfpaaGzi
namespace Go.Proofs.Ythjiooocahdfpaa
open Go.ChangeShapes Go.WideShapes Go.ChangeAt Go.RowKit
set_option linter.unusedVariables false
set_option linter.unusedSimpArgs false

theorem own_shape {w : World} {base : Nat} {e : TypeId} {size g n c : Nat} {xs : List Value} (h : w.ownsRow base e size (.slice (some ⟨g, 0, none⟩) n c) n xs) : w.shape? g = some (e, c * size) := by
  rcases h.2 with ⟨h1, _⟩ | ⟨g', cap, cur, h1, h2, h3, h4, h5, h6, h7⟩
  · cases h1
  · simp only [Value.slice.injEq] at h1
    obtain ⟨h8, _, h9⟩ := h1
    cases h8
    subst h9
    simp [World.shape?, h3, h6]

set_option maxRecDepth 100000 in
set_option maxHeartbeats 4000000 in
theorem insRoom {w : World} {lo g c q : Nat} {E : List Fig} (i : Nat) (e : Fig) (hi : i < E.length) (hE : E.length ≤ 4) (ho : w.ownsRow lo 74 5 (.slice (some ⟨g, 0, none⟩) E.length c) E.length (figs E)) (hroom : E.length + 1 ≤ c)
    (hv : w.ownsRow lo 74 5 (.slice (some ⟨q, 0, none⟩) 1 1) 1 e.cells) (hq : g ≠ q) :
    Calls Try.prog 83 #[.slice (some ⟨g, 0, none⟩) E.length c, .int .i64 (i : Int), .slice (some ⟨q, 0, none⟩) 1 1] w (InsR lo (some ⟨g, 0, none⟩) c E i e w) := by
  obtain ⟨I, hi, hz0, hz1, hz2⟩ := parts_of infoEnt'
  have I1 := Lib.hid hi
  have I2 := Lib.hid hz0
  have I3 := Lib.hid hz1
  have I4 := Lib.hid hz2
  clear hi hz0 hz1 hz2
  have hfl : (figs E).length = E.length * 5 := figs_length E
  have hD : ((figs E).drop (i * 5)).length = (E.length - i) * 5 := by rw [List.length_drop, hfl]; omega
  obtain ⟨Z, hZ, oz⟩ := own_room ho (E.length + 1) (by omega) hroom
  have hXL : (figs E ++ Z).length = (E.length + 1) * 5 := by rw [List.length_append, hfl, hZ]; omega
  have hsz : ∀ wz : World, (Go.sizeOf 74).run Try.prog wz = .ok 5 wz := fun wz => by simp [sizeOf, typeInfo, I1.out, I3.out]
  have hov : ∀ lb cb, (callFunc 92 #[.slice (some ⟨q, 0, none⟩) 1 1, .slice (some ⟨g, (i + 1) * 5, none⟩) lb cb]).run Try.prog w = .ok (.value (.bool false)) w := fun lb cb => by
    rw [run_callFunc_extern Try.func92 (by kernel_rfl) (by kernel_rfl) (by kernel_rfl) (e := Extern.SlicesOverlaps.overlaps #[29, 29] #[4]) (by kernel_rfl),
      Lib.run_overlaps_apart w 29 4 74 Try.underlying29 5 hsz ⟨q, 0, none⟩ ⟨g, (i + 1) * 5, none⟩ 1 1 lb cb (fun h => hq h.symm) 74 74 (1 * 5) (c * 5) (own_shape hv) (own_shape oz) (by omega) (hv.frozenAt 0) (hv.frozenAt _)]
    rfl
  have hcB := fun ty => copyFig (w := w.drew) (dLen := E.length - i) (dCap := c - (i + 1)) (sLen := E.length + 1 - i) (sCap := c - i) (m := E.length - i) (o := (i + 1) * 5) (cs := ((figs E).drop (i * 5))) (ad := ⟨g, i * 5, none⟩) I I1.out I3.out (show w.drew.ownsRow _ _ _ _ _ _ from oz) (by simp only [Nat.min_def]; split <;> omega) hD (by rw [hXL, hD]; omega) (fun j u hj => by
      have h2 := (List.getElem?_eq_some_iff.1 hj).1
      rw [Addr.add_lit]
      have h3 : w.drew.cell? ⟨g, i * 5 + j, none⟩ = _ := ho.cellAt (i * 5 + j) (by omega)
      rw [List.getElem?_drop] at hj
      exact h3.trans hj) (fun u hu => figs_one E u (by have := List.mem_of_mem_drop hu; simpa [figs] using this)) ty
  obtain ⟨oB, gB⟩ := own_sets ((figs E).drop (i * 5)) _ ((i + 1) * 5) w.drew (by rw [hXL, hD]; omega) (show w.drew.ownsRow _ _ _ _ _ _ from oz)
  have XB : (setsL (figs E ++ Z) ((i + 1) * 5) ((figs E).drop (i * 5))).length = (E.length + 1) * 5 := by rw [setsL_len, hXL]
  obtain ⟨W1, hW1⟩ : ∃ W1, W1 = w.drew.setCells g ((i + 1) * 5) ((figs E).drop (i * 5)) := ⟨_, rfl⟩
  rw [← hW1] at hcB oB gB
  have G1 := grown_trans (Below.grownBy (Below.refl w.heap.size w).drew (some g)) gB
  have vc : ∀ j u, e.cells[j]? = some u → W1.cell? ((⟨q, 0, none⟩ : Addr).add j) = some u := fun j u hj => by
    have h2 := (List.getElem?_eq_some_iff.1 hj).1
    rw [Addr.add_lit, Nat.zero_add]
    have h3 : w.cell? ⟨q, j, none⟩ = _ := hv.cellAt j (by simpa [Fig.len] using h2)
    exact G1.cell (a := ⟨q, j, none⟩) (h3.trans hj) (by simp; omega)
  have v1 : ∀ u ∈ e.cells, u.oneCell' = true := fun u hu => figs_one [e] u (by simpa [figs] using hu)
  have hcA := fun ty => copyFig (dLen := E.length + 1 - i) (dCap := c - i) (sLen := 1) (sCap := 1) (m := 1) (o := i * 5) (cs := e.cells) (ad := ⟨q, 0, none⟩) I I1.out I3.out oB (by simp only [Nat.min_def]; split <;> omega) rfl (by rw [XB]; show i * 5 + 5 ≤ _; omega) vc v1 ty
  obtain ⟨oA, gA⟩ := own_sets e.cells _ (i * 5) W1 (by rw [XB]; show i * 5 + 5 ≤ _; omega) oB
  rw [ins_room _ _ _ i E.length hXL rfl hD (by omega)] at oA
  have hXt : (figs E ++ Z).take (i * 5) = (figs E).take (i * 5) := List.take_append_of_le_length (by omega)
  rw [hXt, ← figs_ins] at oA
  have HCA := Lib.hid hcA
  have HCB := Lib.hid hcB
  have HOV := Lib.hid hov
  clear hov
  have OA := Lib.hid oA
  have GF := Lib.hid (grown_trans G1 gA)
  have i0 : (0 : Int) ≤ (i : Int) := by omega
  have i1 : (i : Int) ≤ (E.length : Int) := by omega
  have i2 : ((i : Int) == (E.length : Int)) = false := by simp; omega
  have i3 : decide ((E.length : Int) + 1 > (c : Int)) = false := by simp; omega
  have i3b : decide ((c : Int) < (E.length : Int) + 1) = false := by simp; omega
  have i4 : IntKind.i64.wrap ((E.length : Int) + 1) = (E.length : Int) + 1 := IntWalk.i64_in _ (by omega)
  have i6 : IntKind.i64.wrap ((i : Int) + 1) = (i : Int) + 1 := IntWalk.i64_in _ (by omega)
  have i7 : ¬ c = i := by omega
  have i9 : ¬ c = i + 1 := by omega
  have j1 : i ≤ c := by omega
  have j2 : i ≤ E.length + 1 := by omega
  have j3 : i + 1 ≤ E.length + 1 := by omega
  have j4 : (0 : Int) ≤ (i : Int) + 1 := by omega
  have j5 : ((i : Int) + 1).toNat = i + 1 := by omega
  have j6 : (i : Int) ≤ (E.length : Int) + 1 := by omega
  have j7 : (i : Int) + 1 ≤ (E.length : Int) + 1 := by omega
  have k1 : (0 : Int) ≤ (E.length : Int) + 1 := by omega
  have k2 : ((E.length : Int) + 1).toNat = E.length + 1 := by omega
  have k3 : (E.length : Int) + 1 ≤ (c : Int) := by omega
  have k4 : ¬ c = 0 := by omega
  have hca := HCA.out
  have hov := HOV.out
  clear HCA HOV
  clear hcA hcB oB oA gA oz gB G1 hW1 ho hv vc v1 hXL XB hXt hfl hD hZ hsz
  go_enter Try.func83, Try.ntmps83
  go_wp2_with (fail)
  refine wp_region_held_drew (S := fun _ => True) (by kernel_rfl) trivial (fun hS0 => ?_)
  refine takeD 0 69 (v := ?_) rfl rfl (by kernel_rfl) (by kernel_rfl) (by kernel_rfl) (fun _ _ _ h => h) (Or.inl ⟨by rfl, ?_⟩) (by assumption) ?_
  rotate_left
  · intro w1 hSw; go_simp; (try with_reducible rfl)
  (try simp only [Act.put, List.setIfInBounds_toArray, List.set_cons_zero, List.set_cons_succ])
  refine takeD 1 70 (v := ?_) rfl rfl (by kernel_rfl) (by kernel_rfl) (by kernel_rfl) (fun _ _ _ h => h) (Or.inl ⟨by rfl, ?_⟩) (by assumption) ?_
  rotate_left
  · intro w1 hSw; go_simp; (try with_reducible rfl)
  (try simp only [Act.put, List.setIfInBounds_toArray, List.set_cons_zero, List.set_cons_succ])
  refine takeD 2 71 (v := ?_) rfl rfl (by kernel_rfl) (by kernel_rfl) (by kernel_rfl) (fun _ _ _ h => h) (Or.inl ⟨by rfl, ?_⟩) (by assumption) ?_
  rotate_left
  · intro w1 hSw; go_simp; (try with_reducible rfl)
  (try simp only [Act.put, List.setIfInBounds_toArray, List.set_cons_zero, List.set_cons_succ])
  refine takeD 3 72 (v := ?_) rfl rfl (by kernel_rfl) (by kernel_rfl) (by kernel_rfl) (fun _ _ _ h => h) (Or.inl ⟨by rfl, ?_⟩) (by assumption) ?_
  rotate_left
  · intro w1 hSw; go_simp; (try with_reducible rfl)
  (try simp only [Act.put, List.setIfInBounds_toArray, List.set_cons_zero, List.set_cons_succ])
  refine takeD 4 73 (v := ?_) rfl rfl (by kernel_rfl) (by kernel_rfl) (by kernel_rfl) (fun _ _ _ h => h) (Or.inl ⟨by rfl, ?_⟩) (by assumption) ?_
  rotate_left
  · intro w1 hSw; go_simp; (try with_reducible rfl)
  (try simp only [Act.put, List.setIfInBounds_toArray, List.set_cons_zero, List.set_cons_succ])
  refine takeD 5 74 (v := ?_) rfl rfl (by kernel_rfl) (by kernel_rfl) (by kernel_rfl) (fun _ _ _ h => h) (Or.inl ⟨by rfl, ?_⟩) (by assumption) ?_
  rotate_left
  · intro w1 hSw; go_simp; (try with_reducible rfl)
  (try simp only [Act.put, List.setIfInBounds_toArray, List.set_cons_zero, List.set_cons_succ])
  refine takeD 6 75 (v := ?_) rfl rfl (by kernel_rfl) (by kernel_rfl) (by kernel_rfl) (fun _ _ _ h => h) (Or.inl ⟨by rfl, ?_⟩) (by assumption) ?_
  rotate_left
  · intro w1 hSw; go_simp; (try with_reducible rfl)
  (try simp only [Act.put, List.setIfInBounds_toArray, List.set_cons_zero, List.set_cons_succ])
  refine takeD 7 76 (v := ?_) rfl rfl (by kernel_rfl) (by kernel_rfl) (by kernel_rfl) (fun _ _ _ h => h) (Or.inl ⟨by rfl, ?_⟩) (by assumption) ?_
  rotate_left
  · intro w1 hSw; go_simp; (try with_reducible rfl)
  (try simp only [Act.put, List.setIfInBounds_toArray, List.set_cons_zero, List.set_cons_succ])
  refine wpAnyH_ready (rs := [8]) (by kernel_rfl) (by simp) ?_
  refine AllReadyH.cons rfl (fun K hK => ?_) AllReadyH.nil
  refine step_copy (by rfl) _ _ 29 (by rfl) (.slice (some ⟨g, (i + 1) * 5, none⟩) (E.length - i) (c - (i + 1))) (.slice (some ⟨g, i * 5, none⟩) (E.length + 1 - i) (c - i)) (by rfl) (by rfl) HCB.out ?_
  refine hK.out _ _ trivial (fun hS1 => ?_)
  clear hK K
  (try simp only [Act.put, List.setIfInBounds_toArray, List.set_cons_zero, List.set_cons_succ])
  refine wpAnyH_done (by kernel_rfl) ?_ _
  go_wp2
  go_ret
  exact ⟨_, _, rfl, OA.out, GF.out, .inl rfl⟩

set_option maxRecDepth 100000 in
set_option maxHeartbeats 4000000 in
theorem insEnd {w : World} {lo c q : Nat} {A : Option Addr} {E : List Fig} (e : Fig) (hE : E.length ≤ 4) (hlo : lo ≤ w.heap.size) (ho : w.ownsRow lo 74 5 (.slice A E.length c) E.length (figs E))
    (hv : w.ownsRow lo 74 5 (.slice (some ⟨q, 0, none⟩) 1 1) 1 e.cells) :
    Calls Try.prog 83 #[.slice A E.length c, .int .i64 (E.length : Int), .slice (some ⟨q, 0, none⟩) 1 1] w (InsR lo A c E E.length e w) := by
  obtain ⟨I, hi, hz0, hz1, hz2⟩ := parts_of infoEnt'
  have I1 := Lib.hid hi
  have I2 := Lib.hid hz0
  have I3 := Lib.hid hz1
  have I4 := Lib.hid hz2
  clear hi hz0 hz1 hz2
  have HO := Lib.hid ho
  have hc := (own_cap ho).1
  have hr : Rd 5 Fig.cells w (some ⟨q, 0, none⟩) [e] := fun j hj => by
    obtain rfl : j = 0 := by simpa using hj
    refine ⟨q, 0, rfl, fun p u hu => ?_⟩
    rw [show 0 + 0 * 5 + p = p by omega]
    have h2 := (List.getElem?_eq_some_iff.1 hu).1
    exact (hv.cellAt p (by simpa [Fig.cells] using h2)).trans (by simpa using hu)
  have HR := Lib.hid hr
  have i0 : (0 : Int) ≤ (E.length : Int) := by omega
  have i2 : ((E.length : Int) == (E.length : Int)) = true := by simp
  have HE : Hid (figs (E.take E.length ++ e :: E.drop E.length) = figs E ++ e.cells) := by show _ = _; simp [figs]
  clear ho hv hr
  rcases hcn : decide (c = E.length) with _ | _
  · have k1 : ¬ c = E.length := by simpa using hcn
    clear hcn
    go_enter Try.func83, Try.ntmps83
    go_wp2_with (at_builtin; go_loud (refine list_app Fig.len rfl _ _ 29 rfl lo 74 I (.agg #[.int .i64 0, .int .i64 0, .int .i64 0, .int .i64 0, .int .i64 0]) 40 Try.underlying29 I1.out I2.out I3.out I4.out rfl (by decide) _ E.length (figs E) rfl HO.out _ _ 1 [e] rfl rfl HR.out (fun h => by cases h) (figs_one _) (by unfold maxLen; omega) (by omega) hlo ?_))
    intro v1 w1 ho1 hg1 hp1
    obtain ⟨A1, c1, rfl, _⟩ := own_form ho1
    rw [← HE.out] at ho1
    have HO1 := Lib.hid ho1
    have HG1 := Lib.hid hg1
    have HP1 := Lib.hid hp1
    clear ho1 hg1 hp1
    go_wp2
    go_ret
    refine ⟨_, _, rfl, HO1.out, HG1.out, ?_⟩
    rcases HP1.out with h | h
    · exact .inl h
    · exact .inr ⟨_, h, Nat.le_refl _⟩
  · have k1 : c = E.length := by simpa using hcn
    clear hcn
    subst k1
    go_enter Try.func83, Try.ntmps83
    go_wp2_with (at_builtin; go_loud (refine list_app Fig.len rfl _ _ 29 rfl lo 74 I (.agg #[.int .i64 0, .int .i64 0, .int .i64 0, .int .i64 0, .int .i64 0]) 40 Try.underlying29 I1.out I2.out I3.out I4.out rfl (by decide) _ E.length (figs E) rfl HO.out _ _ 1 [e] rfl rfl HR.out (fun h => by cases h) (figs_one _) (by unfold maxLen; omega) (by omega) hlo ?_))
    intro v1 w1 ho1 hg1 hp1
    obtain ⟨A1, c1, rfl, _⟩ := own_form ho1
    rw [← HE.out] at ho1
    have HO1 := Lib.hid ho1
    have HG1 := Lib.hid hg1
    have HP1 := Lib.hid hp1
    clear ho1 hg1 hp1
    go_wp2
    go_ret
    refine ⟨_, _, rfl, HO1.out, HG1.out, ?_⟩
    rcases HP1.out with h | h
    · exact .inl h
    · exact .inr ⟨_, h, Nat.le_refl _⟩

/-- slices.Insert of one figure, whole. -/
theorem insEnt {w : World} {lo c q : Nat} {A : Option Addr} {E : List Fig} (i : Nat) (e : Fig) (hi : i ≤ E.length) (hE : E.length ≤ 4) (hlo : lo ≤ w.heap.size) (ho : w.ownsRow lo 74 5 (.slice A E.length c) E.length (figs E))
    (hv : w.ownsRow lo 74 5 (.slice (some ⟨q, 0, none⟩) 1 1) 1 e.cells) (hq : (Value.slice A E.length c).ownBlock ≠ some q) :
    Calls Try.prog 83 #[.slice A E.length c, .int .i64 (i : Int), .slice (some ⟨q, 0, none⟩) 1 1] w (InsR lo A c E i e w) := by
  rcases Nat.lt_or_ge i E.length with h | h
  · obtain ⟨g, rfl, _, _⟩ := own_some ho (by omega)
    rcases Nat.lt_or_ge E.length c with h2 | h2
    · exact insRoom i e h hE ho h2 hv (fun hh => hq (by rw [← hh]; rfl))
    · have := (own_cap ho).1
      exact insGrow i e h hE hlo ho (by omega) hv
  · obtain rfl : i = E.length := by omega
    exact insEnd e hE hlo ho hv

end Go.Proofs.Ythjiooocahdfpaa
