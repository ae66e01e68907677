/- Whether a queue is ok: both ways. -/
import Derived.Test.YtgnemgnhjallhaaVh
namespace Go.Proofs.Ytgnemgnhjallhaa
open Go.ChangeShapes Go.WideShapes Go.ChangeAt Go.RowKit
set_option linter.unusedVariables false
set_option linter.unusedSimpArgs false

theorem okQ_of (L : List Tm) (h : L.length ≤ 20) : okQ L = (decide ((∀ x ∈ L, tmB x = true) ∧ L.Nodup) && decide (heapT L)) := by
  unfold okQ
  by_cases h1 : (∀ x ∈ L, tmB x = true) ∧ L.Nodup
  · by_cases h2 : heapT L
    · rw [decide_eq_true (⟨h, h1.1, h1.2, h2⟩ : OkQ L), decide_eq_true h1, decide_eq_true h2]
      rfl
    · rw [decide_eq_false (fun hh : OkQ L => h2 hh.heap), decide_eq_true h1, decide_eq_false h2]
      rfl
  · rw [decide_eq_false (fun hh : OkQ L => h1 ⟨hh.ok, hh.once⟩), decide_eq_false h1]
    rfl
theorem okQ_long (L : List Tm) (h : ¬ L.length ≤ 20) : okQ L = false := decide_eq_false (fun hh => h hh.len)
set_option maxRecDepth 100000 in
set_option maxHeartbeats 2000000 in
theorem implQueueOk (A : Option Addr) (a : Nat) (L : List Tm) (w : World) (hL : L.length ≤ 2097152) (h : RdT w A a L) :
    Calls Try.prog 16 #[.slice A L.length a] w fun e w' => e = .returned (.bool (okQ L)) ∧ Below w.heap.size w w' := by
  have HR := Lib.hid h
  clear h
  by_cases h20 : L.length ≤ 20
  · have i1 : (L.length : Int) ≤ 20 := by omega
    obtain ⟨b, hb⟩ : ∃ b, decide ((∀ x ∈ L, tmB x = true) ∧ L.Nodup) = b := ⟨_, rfl⟩
    obtain ⟨c, hc⟩ : ∃ c, decide (heapT L) = c := ⟨_, rfl⟩
    have HQ := Lib.hid (show okQ L = (b && c) by rw [okQ_of L h20, hb, hc])
    have AO := Lib.hid (allTimedOk A a L w (by unfold maxLen; omega) HR.out.r)
    have IO := Lib.hid (fun lo p A' a' wx hx => inOrder lo p A' a' L wx (by omega) hx)
    rw [hb] at AO
    rw [hc] at IO
    clear hb hc
    go_enter Try.func16, Try.ntmps16
    go_wp2_with (fail)
    refine AO.out.mono ?_
    rintro e w1 ⟨rfl, h1⟩
    rcases b with _ | _
    · go_wp2
      go_light
      go_ret
      exact ⟨ret_bool (by rw [HQ.out]; rfl), h1⟩
    · have Z := Lib.hid h1
      clear h1
      go_wp2_with (fail)
      refine (queueOf A a L _ (by omega) (HR.out.below Z.out)).mono ?_
      rintro e w2 ⟨p, A', a', rfl, h2, h3⟩
      have Z := Lib.hid (Below.and Z.out h3)
      have HH := Lib.hid h2
      clear h2 h3
      go_wp2_with (fail)
      refine (IO.out _ p A' a' _ HH.out).mono ?_
      rintro e w3 ⟨rfl, h3⟩
      have Z := Lib.hid (Below.and Z.out h3)
      clear h3
      go_wp2
      go_light
      go_ret
      exact ⟨ret_bool (by rw [HQ.out]; rfl), Z.out⟩
  · have i1 : ¬ (L.length : Int) ≤ 20 := by omega
    have d1 : decide ((L.length : Int) ≤ 20) = false := decide_eq_false i1
    have HQ := Lib.hid (okQ_long L h20)
    have HL := Lib.hid h20
    clear h20
    go_enter Try.func16, Try.ntmps16
    go_wp2
    go_light
    go_ret
    exact ⟨ret_bool (by rw [HQ.out]), Below.refl _ _⟩

theorem rdT_at {w : World} {A : Option Addr} {L : List Tm} (h : Rd 3 Tm.cells w A L) (h0 : 0 < L.length) : ∃ g o : Nat, A = some ⟨g, o, none⟩ ∧ g < w.heap.size ∧ ∀ i, i < L.length →
    w.cell? ⟨g, o + i * 3, none⟩ = some (.int .i64 (at' L i).a) ∧ w.cell? ⟨g, o + i * 3 + 1, none⟩ = some (.int .i64 (at' L i).f) ∧ w.cell? ⟨g, o + i * 3 + 2, none⟩ = some (.int .i64 (at' L i).n) := by
  obtain ⟨g, o, rfl, c0⟩ := h 0 h0
  refine ⟨g, o, rfl, World.block_lt_of_cell? w _ (c0 0 _ rfl), fun i hi => ?_⟩
  obtain ⟨b, o', hA, hc⟩ := h i hi
  injection hA with hA
  injection hA with h1 h2 h3
  subst h1 h2
  rw [at_eq L i hi]
  exact ⟨hc 0 _ rfl, hc 1 _ rfl, hc 2 _ rfl⟩
/-- The first i are ok. -/
structure OkI (L : List Tm) (i : Nat) : Prop where
  ok : ∀ j, j < i → tmB (at' L j) = true
  heap : ∀ j, 0 < j → j < i → lessT (at' L j) (at' L ((j - 1) / 2)) = false
  once : ∀ j, j < i → ∀ k, k < j → at' L k ≠ at' L j
theorem OkI.zero (L : List Tm) : OkI L 0 := ⟨fun j h => by omega, fun j h h1 => by omega, fun j h => by omega⟩
theorem OkI.step {L : List Tm} {i : Nat} (h : OkI L i) (h1 : tmB (at' L i) = true) (h2 : 0 < i → lessT (at' L i) (at' L ((i - 1) / 2)) = false) (h3 : ∀ k, k < i → at' L k ≠ at' L i) : OkI L (i + 1) := by
  refine ⟨fun j hj => ?_, fun j h0 hj => ?_, fun j hj => ?_⟩
  · by_cases e : j = i
    · subst e
      exact h1
    · exact h.ok j (by omega)
  · by_cases e : j = i
    · subst e
      exact h2 h0
    · exact h.heap j h0 (by omega)
  · by_cases e : j = i
    · subst e
      exact h3
    · exact h.once j (by omega)
theorem OkQ.of {L : List Tm} (h : OkI L L.length) (hl : L.length ≤ 20) : OkQ L := by
  refine ⟨hl, fun x hx => ?_, ?_, fun k h0 hk => h.heap k h0 hk⟩
  · obtain ⟨k, hk, rfl⟩ := List.getElem_of_mem hx
    rw [← at_eq L k hk]
    exact h.ok k hk
  · unfold List.Nodup
    rw [List.pairwise_iff_getElem]
    intro i j hi hj hij
    rw [← at_eq L i hi, ← at_eq L j hj]
    exact h.once j hj i hij
theorem OkQ.at_ne {L : List Tm} (h : OkQ L) {k j : Nat} (hj : j < L.length) (hk : k < j) : at' L k ≠ at' L j := by
  have := List.pairwise_iff_getElem.1 (show L.Pairwise _ from h.once) k j (by omega) hj hk
  rwa [at_eq L k (by omega), at_eq L j hj]
theorem OkQ.at_ok {L : List Tm} (h : OkQ L) {j : Nat} (hj : j < L.length) : tmB (at' L j) = true := by
  rw [at_eq L j hj]
  exact h.ok _ (List.getElem_mem hj)

set_option maxRecDepth 100000 in
set_option maxHeartbeats 4000000 in
theorem l13Ok (A : Option Addr) (a : Nat) (L : List Tm) (w : World) (hl : L.length ≤ 2097152) (hr : Rd 3 Tm.cells w A L) :
    Calls Try.prog 43 #[.slice A L.length a] w fun e w' => e = .returned (.bool (okQ L)) ∧ Below w.heap.size w w' := by
  have HR := Lib.hid hr
  obtain ⟨B, hB⟩ : ∃ B, okQ L = B := ⟨_, rfl⟩
  have HB := Lib.hid hB
  rw [hB]
  clear hr hB
  go_enter Try.func43, Try.ntmps43
  go_wp2
  go_loopw [3] (fun v wr => ∃ i : Nat, i ≤ L.length ∧ v = .int .i64 (i : Int) ∧ Hid (OkI L i) ∧ Hid (Below w.heap.size w wr)) (fun v _ => L.length - (intOf v).toNat)
  case atStart => exact ⟨0, Nat.zero_le _, rfl, OkI.zero L, Below.refl _ _⟩
  case round =>
    obtain ⟨i, hi, rfl, ha, hBw⟩ := hrel
    by_cases hlt : i < L.length
    · have HRw := Lib.hid (Rd.below HR.out hBw.out)
      obtain ⟨g, o, rfl, lg, C⟩ := rdT_at HRw.out (by omega)
      obtain ⟨x0, x1, x2⟩ := C i hlt
      obtain ⟨x, hx⟩ : ∃ x, at' L i = x := ⟨_, rfl⟩
      rw [hx] at x0 x1 x2
      have HX := Lib.hid hx
      clear hx C
      have i0 : (0 : Int) ≤ (i : Int) := by omega
      have i1 : (i : Int) < (L.length : Int) := by omega
      go_wp2_with (fail)
      refine (specTimedOk x _).mono ?_
      rintro e w1 ⟨rfl, hb⟩
      have hBw := Lib.hid (Below.and hBw.out hb)
      clear hb x0 x1 x2 HRw
      rcases hk : tmB x with _ | _
      · have HF := Lib.hid (show B = false by
          rw [← HB.out]
          refine decide_eq_false (fun hh => ?_)
          have := hh.at_ok hlt
          rw [HX.out, hk] at this
          cases this)
        go_wp2
        go_light
        go_ret
        exact ⟨ret_bool HF.out.symm, hBw.out⟩
      have HK := Lib.hid hk
      clear hk
      obtain ⟨bb, hbb⟩ : ∃ bb, (decide (0 < i) && lessT (at' L i) (at' L ((i - 1) / 2))) = bb := ⟨_, rfl⟩
      have HBB := Lib.hid hbb
      clear hbb
      obtain ⟨w2, hw2⟩ : ∃ X, X = w1 := ⟨_, rfl⟩
      rw [← hw2] at hBw ⊢
      clear hw2
      go_upto_region 6 with (fail)
      go_cut [31] from 17 to 45 (fun s31 wc => s31 = .bool bb ∧ Hid (Below w.heap.size w wc))
      case first =>
        rcases i with _ | m
        · have d1 : decide ((0 : Int) < ((0 : Nat) : Int)) = false := rfl
          have HE := Lib.hid (show bb = false by rw [← HBB.out]; rfl)
          clear HBB
          go_quiet (fail)
          go_wp2_with (fail)
          go_meet
          case rel => exact ⟨by rw [HE.out], Below.drewN hBw.out _⟩
        · obtain ⟨c, hc⟩ : ∃ c, c = m / 2 := ⟨_, rfl⟩
          have hcl : c < L.length := by omega
          have hh1 : (m : Int).tdiv 2 = (c : Int) := by rw [hc]; exact half_nat m
          have hh2 : IntKind.i64.wrap (m : Int) = (m : Int) := wrap_nat m (by omega)
          have hh3 : IntKind.i64.wrap (c : Int) = (c : Int) := wrap_nat c (by omega)
          have HRw := Lib.hid (Rd.below HR.out hBw.out)
          obtain ⟨g', o', hA, lg2, C⟩ := rdT_at HRw.out (by omega)
          injection hA with hA
          injection hA with hA1 hA2 hA3
          subst hA1 hA2
          obtain ⟨x0, x1, x2⟩ := C (m + 1) hlt
          obtain ⟨y0, y1, y2⟩ := C c hcl
          rw [HX.out] at x0 x1 x2
          obtain ⟨y, hy⟩ : ∃ y, at' L c = y := ⟨_, rfl⟩
          rw [hy] at y0 y1 y2
          have hxy : lessT x y = bb := by
            rw [← HBB.out, show (m + 1 - 1) / 2 = c by omega, HX.out, hy]
            simp
          have hxy := Lib.hid hxy
          clear hy hc C HBB HRw
          have m2 : (m : Int) + 1 < (L.length : Int) := by omega
          have m0 : (0 : Int) < (m : Int) + 1 := by omega
          have m1 : (0 : Int) ≤ (m : Int) + 1 := by omega
          have c0 : (0 : Int) ≤ (c : Int) := by omega
          have c1 : (c : Int) < (L.length : Int) := by omega
          rcases bb with _ | _
          · skip
            refine wp_region_held_drew (S := fun w1 => Below w2.heap.size w2 w1) (by kernel_rfl) ((Below.refl _ _).drew) (fun hq => ?_)
            refine takeD 0 17 (v := ?_) rfl rfl (by kernel_rfl) (by kernel_rfl) (by kernel_rfl) (fun _ _ _ h => h) (Or.inl ⟨by rfl, ?_⟩) (by assumption) ?_
            rotate_left
            · intro w1 hSw; obtain ⟨hcS, hfS⟩ := bcell hSw; go_simp; (try with_reducible rfl)
            (try simp only [Act.put, List.setIfInBounds_toArray, List.set_cons_zero, List.set_cons_succ])
            refine takeD 1 18 (v := ?_) rfl rfl (by kernel_rfl) (by kernel_rfl) (by kernel_rfl) (fun _ _ _ h => h) (Or.inl ⟨by rfl, ?_⟩) (by assumption) ?_
            rotate_left
            · intro w1 hSw; obtain ⟨hcS, hfS⟩ := bcell hSw; go_simp; (try with_reducible rfl)
            (try simp only [Act.put, List.setIfInBounds_toArray, List.set_cons_zero, List.set_cons_succ])
            refine takeD 2 19 (v := ?_) rfl rfl (by kernel_rfl) (by kernel_rfl) (by kernel_rfl) (fun _ _ _ h => h) (Or.inl ⟨by rfl, ?_⟩) (by assumption) ?_
            rotate_left
            · intro w1 hSw; obtain ⟨hcS, hfS⟩ := bcell hSw; go_simp; (try with_reducible rfl)
            (try simp only [Act.put, List.setIfInBounds_toArray, List.set_cons_zero, List.set_cons_succ])
            refine takeD 3 20 (v := ?_) rfl rfl (by kernel_rfl) (by kernel_rfl) (by kernel_rfl) (fun _ _ _ h => h) (Or.inl ⟨by rfl, ?_⟩) (by assumption) ?_
            rotate_left
            · intro w1 hSw; obtain ⟨hcS, hfS⟩ := bcell hSw; go_simp; (try with_reducible rfl)
            (try simp only [Act.put, List.setIfInBounds_toArray, List.set_cons_zero, List.set_cons_succ])
            refine takeD 4 21 (v := ?_) rfl rfl (by kernel_rfl) (by kernel_rfl) (by kernel_rfl) (fun _ _ _ h => h) (Or.inl ⟨by rfl, ?_⟩) (by assumption) ?_
            rotate_left
            · intro w1 hSw; obtain ⟨hcS, hfS⟩ := bcell hSw; go_simp; (try with_reducible rfl)
            (try simp only [Act.put, List.setIfInBounds_toArray, List.set_cons_zero, List.set_cons_succ])
            refine takeD 5 22 (v := ?_) rfl rfl (by kernel_rfl) (by kernel_rfl) (by kernel_rfl) (fun _ _ _ h => h) (Or.inl ⟨by rfl, ?_⟩) (by assumption) ?_
            rotate_left
            · intro w1 hSw; obtain ⟨hcS, hfS⟩ := bcell hSw; go_simp; (try with_reducible rfl)
            (try simp only [Act.put, List.setIfInBounds_toArray, List.set_cons_zero, List.set_cons_succ])
            refine takeD 6 23 (v := ?_) rfl rfl (by kernel_rfl) (by kernel_rfl) (by kernel_rfl) (fun _ _ _ h => h) (Or.inl ⟨by rfl, ?_⟩) (by assumption) ?_
            rotate_left
            · intro w1 hSw; obtain ⟨hcS, hfS⟩ := bcell hSw; go_simp; (try with_reducible rfl)
            (try simp only [Act.put, List.setIfInBounds_toArray, List.set_cons_zero, List.set_cons_succ])
            refine takeD 7 24 (v := ?_) rfl rfl (by kernel_rfl) (by kernel_rfl) (by kernel_rfl) (fun _ _ _ h => h) (Or.inl ⟨by rfl, ?_⟩) (by assumption) ?_
            rotate_left
            · intro w1 hSw; obtain ⟨hcS, hfS⟩ := bcell hSw; go_simp; (try with_reducible rfl)
            (try simp only [Act.put, List.setIfInBounds_toArray, List.set_cons_zero, List.set_cons_succ])
            refine takeD 8 25 (v := ?_) rfl rfl (by kernel_rfl) (by kernel_rfl) (by kernel_rfl) (fun _ _ _ h => h) (Or.inl ⟨by rfl, ?_⟩) (by assumption) ?_
            rotate_left
            · intro w1 hSw; obtain ⟨hcS, hfS⟩ := bcell hSw; go_simp; (try with_reducible rfl)
            (try simp only [Act.put, List.setIfInBounds_toArray, List.set_cons_zero, List.set_cons_succ])
            refine takeD 9 26 (v := ?_) rfl rfl (by kernel_rfl) (by kernel_rfl) (by kernel_rfl) (fun _ _ _ h => h) (Or.inl ⟨by rfl, ?_⟩) (by assumption) ?_
            rotate_left
            · intro w1 hSw; obtain ⟨hcS, hfS⟩ := bcell hSw; go_simp; (try with_reducible rfl)
            (try simp only [Act.put, List.setIfInBounds_toArray, List.set_cons_zero, List.set_cons_succ])
            refine takeD 10 27 (v := ?_) rfl rfl (by kernel_rfl) (by kernel_rfl) (by kernel_rfl) (fun _ _ _ h => h) (Or.inl ⟨by rfl, ?_⟩) (by assumption) ?_
            rotate_left
            · intro w1 hSw; obtain ⟨hcS, hfS⟩ := bcell hSw; go_simp; (try with_reducible rfl)
            (try simp only [Act.put, List.setIfInBounds_toArray, List.set_cons_zero, List.set_cons_succ])
            refine takeD 11 28 (v := ?_) rfl rfl (by kernel_rfl) (by kernel_rfl) (by kernel_rfl) (fun _ _ _ h => h) (Or.inl ⟨by rfl, ?_⟩) (by assumption) ?_
            rotate_left
            · intro w1 hSw; obtain ⟨hcS, hfS⟩ := bcell hSw; go_simp; (try with_reducible rfl)
            (try simp only [Act.put, List.setIfInBounds_toArray, List.set_cons_zero, List.set_cons_succ])
            refine takeD 12 29 (v := ?_) rfl rfl (by kernel_rfl) (by kernel_rfl) (by kernel_rfl) (fun _ _ _ h => h) (Or.inl ⟨by rfl, ?_⟩) (by assumption) ?_
            rotate_left
            · intro w1 hSw; obtain ⟨hcS, hfS⟩ := bcell hSw; go_simp; (try with_reducible rfl)
            (try simp only [Act.put, List.setIfInBounds_toArray, List.set_cons_zero, List.set_cons_succ])
            refine wpAnyH_ready (rs := [13]) (by kernel_rfl) (by simp) ?_
            refine AllReadyH.cons rfl (fun K hK => ?_) AllReadyH.nil
            go_simp
            refine (l13Less x y _).mono ?_
            rintro e w3 ⟨rfl, hb⟩
            rw [hxy.out]
            refine hK.out _ _ (Below.and hq hb) (fun hq2 => ?_)
            clear hK K
            (try simp only [Act.put, List.setIfInBounds_toArray, List.set_cons_zero, List.set_cons_succ])
            refine takeD 14 31 (v := ?_) rfl rfl (by kernel_rfl) (by kernel_rfl) (by kernel_rfl) (fun _ _ _ h => h) (Or.inl ⟨by rfl, ?_⟩) (by assumption) ?_
            rotate_left
            · intro w1 hSw; obtain ⟨hcS, hfS⟩ := bcell hSw; go_simp; (try with_reducible rfl)
            (try simp only [Act.put, List.setIfInBounds_toArray, List.set_cons_zero, List.set_cons_succ])
            refine wpAnyH_done (by kernel_rfl) ?_ _
            go_wp2_with (fail)
            go_meet
            case rel => exact ⟨rfl, Below.and hBw.out hq2⟩
          · skip
            refine wp_region_held_drew (S := fun w1 => Below w2.heap.size w2 w1) (by kernel_rfl) ((Below.refl _ _).drew) (fun hq => ?_)
            refine takeD 0 17 (v := ?_) rfl rfl (by kernel_rfl) (by kernel_rfl) (by kernel_rfl) (fun _ _ _ h => h) (Or.inl ⟨by rfl, ?_⟩) (by assumption) ?_
            rotate_left
            · intro w1 hSw; obtain ⟨hcS, hfS⟩ := bcell hSw; go_simp; (try with_reducible rfl)
            (try simp only [Act.put, List.setIfInBounds_toArray, List.set_cons_zero, List.set_cons_succ])
            refine takeD 1 18 (v := ?_) rfl rfl (by kernel_rfl) (by kernel_rfl) (by kernel_rfl) (fun _ _ _ h => h) (Or.inl ⟨by rfl, ?_⟩) (by assumption) ?_
            rotate_left
            · intro w1 hSw; obtain ⟨hcS, hfS⟩ := bcell hSw; go_simp; (try with_reducible rfl)
            (try simp only [Act.put, List.setIfInBounds_toArray, List.set_cons_zero, List.set_cons_succ])
            refine takeD 2 19 (v := ?_) rfl rfl (by kernel_rfl) (by kernel_rfl) (by kernel_rfl) (fun _ _ _ h => h) (Or.inl ⟨by rfl, ?_⟩) (by assumption) ?_
            rotate_left
            · intro w1 hSw; obtain ⟨hcS, hfS⟩ := bcell hSw; go_simp; (try with_reducible rfl)
            (try simp only [Act.put, List.setIfInBounds_toArray, List.set_cons_zero, List.set_cons_succ])
            refine takeD 3 20 (v := ?_) rfl rfl (by kernel_rfl) (by kernel_rfl) (by kernel_rfl) (fun _ _ _ h => h) (Or.inl ⟨by rfl, ?_⟩) (by assumption) ?_
            rotate_left
            · intro w1 hSw; obtain ⟨hcS, hfS⟩ := bcell hSw; go_simp; (try with_reducible rfl)
            (try simp only [Act.put, List.setIfInBounds_toArray, List.set_cons_zero, List.set_cons_succ])
            refine takeD 4 21 (v := ?_) rfl rfl (by kernel_rfl) (by kernel_rfl) (by kernel_rfl) (fun _ _ _ h => h) (Or.inl ⟨by rfl, ?_⟩) (by assumption) ?_
            rotate_left
            · intro w1 hSw; obtain ⟨hcS, hfS⟩ := bcell hSw; go_simp; (try with_reducible rfl)
            (try simp only [Act.put, List.setIfInBounds_toArray, List.set_cons_zero, List.set_cons_succ])
            refine takeD 5 22 (v := ?_) rfl rfl (by kernel_rfl) (by kernel_rfl) (by kernel_rfl) (fun _ _ _ h => h) (Or.inl ⟨by rfl, ?_⟩) (by assumption) ?_
            rotate_left
            · intro w1 hSw; obtain ⟨hcS, hfS⟩ := bcell hSw; go_simp; (try with_reducible rfl)
            (try simp only [Act.put, List.setIfInBounds_toArray, List.set_cons_zero, List.set_cons_succ])
            refine takeD 6 23 (v := ?_) rfl rfl (by kernel_rfl) (by kernel_rfl) (by kernel_rfl) (fun _ _ _ h => h) (Or.inl ⟨by rfl, ?_⟩) (by assumption) ?_
            rotate_left
            · intro w1 hSw; obtain ⟨hcS, hfS⟩ := bcell hSw; go_simp; (try with_reducible rfl)
            (try simp only [Act.put, List.setIfInBounds_toArray, List.set_cons_zero, List.set_cons_succ])
            refine takeD 7 24 (v := ?_) rfl rfl (by kernel_rfl) (by kernel_rfl) (by kernel_rfl) (fun _ _ _ h => h) (Or.inl ⟨by rfl, ?_⟩) (by assumption) ?_
            rotate_left
            · intro w1 hSw; obtain ⟨hcS, hfS⟩ := bcell hSw; go_simp; (try with_reducible rfl)
            (try simp only [Act.put, List.setIfInBounds_toArray, List.set_cons_zero, List.set_cons_succ])
            refine takeD 8 25 (v := ?_) rfl rfl (by kernel_rfl) (by kernel_rfl) (by kernel_rfl) (fun _ _ _ h => h) (Or.inl ⟨by rfl, ?_⟩) (by assumption) ?_
            rotate_left
            · intro w1 hSw; obtain ⟨hcS, hfS⟩ := bcell hSw; go_simp; (try with_reducible rfl)
            (try simp only [Act.put, List.setIfInBounds_toArray, List.set_cons_zero, List.set_cons_succ])
            refine takeD 9 26 (v := ?_) rfl rfl (by kernel_rfl) (by kernel_rfl) (by kernel_rfl) (fun _ _ _ h => h) (Or.inl ⟨by rfl, ?_⟩) (by assumption) ?_
            rotate_left
            · intro w1 hSw; obtain ⟨hcS, hfS⟩ := bcell hSw; go_simp; (try with_reducible rfl)
            (try simp only [Act.put, List.setIfInBounds_toArray, List.set_cons_zero, List.set_cons_succ])
            refine takeD 10 27 (v := ?_) rfl rfl (by kernel_rfl) (by kernel_rfl) (by kernel_rfl) (fun _ _ _ h => h) (Or.inl ⟨by rfl, ?_⟩) (by assumption) ?_
            rotate_left
            · intro w1 hSw; obtain ⟨hcS, hfS⟩ := bcell hSw; go_simp; (try with_reducible rfl)
            (try simp only [Act.put, List.setIfInBounds_toArray, List.set_cons_zero, List.set_cons_succ])
            refine takeD 11 28 (v := ?_) rfl rfl (by kernel_rfl) (by kernel_rfl) (by kernel_rfl) (fun _ _ _ h => h) (Or.inl ⟨by rfl, ?_⟩) (by assumption) ?_
            rotate_left
            · intro w1 hSw; obtain ⟨hcS, hfS⟩ := bcell hSw; go_simp; (try with_reducible rfl)
            (try simp only [Act.put, List.setIfInBounds_toArray, List.set_cons_zero, List.set_cons_succ])
            refine takeD 12 29 (v := ?_) rfl rfl (by kernel_rfl) (by kernel_rfl) (by kernel_rfl) (fun _ _ _ h => h) (Or.inl ⟨by rfl, ?_⟩) (by assumption) ?_
            rotate_left
            · intro w1 hSw; obtain ⟨hcS, hfS⟩ := bcell hSw; go_simp; (try with_reducible rfl)
            (try simp only [Act.put, List.setIfInBounds_toArray, List.set_cons_zero, List.set_cons_succ])
            refine wpAnyH_ready (rs := [13]) (by kernel_rfl) (by simp) ?_
            refine AllReadyH.cons rfl (fun K hK => ?_) AllReadyH.nil
            go_simp
            refine (l13Less x y _).mono ?_
            rintro e w3 ⟨rfl, hb⟩
            rw [hxy.out]
            refine hK.out _ _ (Below.and hq hb) (fun hq2 => ?_)
            clear hK K
            (try simp only [Act.put, List.setIfInBounds_toArray, List.set_cons_zero, List.set_cons_succ])
            refine takeD 14 31 (v := ?_) rfl rfl (by kernel_rfl) (by kernel_rfl) (by kernel_rfl) (fun _ _ _ h => h) (Or.inl ⟨by rfl, ?_⟩) (by assumption) ?_
            rotate_left
            · intro w1 hSw; obtain ⟨hcS, hfS⟩ := bcell hSw; go_simp; (try with_reducible rfl)
            (try simp only [Act.put, List.setIfInBounds_toArray, List.set_cons_zero, List.set_cons_succ])
            refine wpAnyH_done (by kernel_rfl) ?_ _
            go_wp2_with (fail)
            go_meet
            case rel => exact ⟨rfl, Below.and hBw.out hq2⟩
      case rest =>
        obtain ⟨rfl, hBw⟩ := hcut
        rcases bb with _ | _
        · have HP : Hid (0 < i → lessT (at' L i) (at' L ((i - 1) / 2)) = false) := fun h0 => by
            have := HBB.out
            simpa [h0] using this
          clear HBB
          go_wp2
          go_loopw [4] (fun v wq => ∃ k : Nat, k ≤ i ∧ v = .int .i64 (k : Int) ∧ Hid (∀ k', k' < k → at' L k' ≠ at' L i) ∧ Hid (Below w.heap.size w wq)) (fun v _ => i - (intOf v).toNat)
          case atStart => exact ⟨0, Nat.zero_le _, rfl, fun k' h => by omega, hBw.out⟩
          case round =>
            obtain ⟨k, hk, rfl, hne, hBq⟩ := hrel
            by_cases hki : k < i
            · have hkl : k < L.length := by omega
              have HRw := Lib.hid (Rd.below HR.out hBq.out)
              obtain ⟨g', o', hA, lg2, C⟩ := rdT_at HRw.out (by omega)
              injection hA with hA
              injection hA with hA1 hA2 hA3
              subst hA1 hA2
              obtain ⟨x0, x1, x2⟩ := C i hlt
              obtain ⟨y0, y1, y2⟩ := C k hkl
              rw [HX.out] at x0 x1 x2
              obtain ⟨y, hy⟩ : ∃ y, at' L k = y := ⟨_, rfl⟩
              rw [hy] at y0 y1 y2
              have HY := Lib.hid hy
              obtain ⟨d, hd⟩ : ∃ d, decide (y = x) = d := ⟨_, rfl⟩
              have HD := Lib.hid hd
              have hq : ∀ W, (binOp .eql 25 (.agg #[.int .i64 y.a, .int .i64 y.f, .int .i64 y.n]) (.agg #[.int .i64 x.a, .int .i64 x.f, .int .i64 x.n])).run Try.prog W = .ok (.bool d) W := fun W => by rw [← hd]; exact eqlTimed y x W
              clear hy hd C HRw
              have k0 : (0 : Int) ≤ (k : Int) := by omega
              have k1 : (k : Int) < (i : Int) := by omega
              have k2 : (k : Int) < (L.length : Int) := by omega
              go_wp2_with (fail)
              go_quiet (fail)
              rcases d with _ | _
              · have HN : Hid (∀ k', k' < k + 1 → at' L k' ≠ at' L i) := fun k' h => by
                  by_cases e : k' = k
                  · subst e
                    rw [HY.out, HX.out]
                    exact of_decide_eq_false HD.out
                  · exact hne.out k' (by omega)
                clear hne HD HY x0 x1 x2 y0 y1 y2 hq
                go_wp2
                go_roundw
                case rel => exact ⟨k + 1, by omega, by go_num, HN.out, Below.drewN hBq.out _⟩
                case measure => (simp [intOf]; try omega)
              · have HF := Lib.hid (show B = false by
                  rw [← HB.out]
                  refine decide_eq_false (fun hh => ?_)
                  exact hh.at_ne hlt hki (by rw [HY.out, HX.out]; exact of_decide_eq_true HD.out))
                clear HD HY x0 x1 x2 y0 y1 y2 hq
                go_wp2
                go_light
                go_ret
                exact ⟨ret_bool HF.out.symm, Below.drewN hBq.out _⟩
            · obtain rfl : k = i := by omega
              have k1 : ¬ (k : Int) < (k : Int) := by omega
              have HS := Lib.hid (ha.out.step (by rw [HX.out]; exact HK.out) HP.out hne.out)
              go_wp2

              go_roundw
              case rel => exact ⟨k + 1, by omega, by go_num, HS.out, hBq.out⟩
              case measure => (simp [intOf]; try omega)
        · have HF := Lib.hid (show B = false by
            rw [← HB.out]
            refine decide_eq_false (fun hh => ?_)
            have h9 := HBB.out
            simp only [Bool.and_eq_true, decide_eq_true_eq] at h9
            have := hh.heap i h9.1 hlt
            rw [h9.2] at this
            cases this)
          go_wp2
          go_light
          go_ret
          exact ⟨ret_bool HF.out.symm, hBw.out⟩
    · have HF := Lib.hid (show B = decide (L.length ≤ 20) by
        rw [← HB.out]
        obtain rfl : i = L.length := by omega
        exact decide_eq_decide.2 ⟨fun hh => hh.len, fun hh => OkQ.of ha.out hh⟩)
      have i1 : ¬ (i : Int) < (L.length : Int) := by omega
      have e9 : decide ((L.length : Int) ≤ 20) = decide (L.length ≤ 20) := decide_eq_decide.2 (by omega)
      have E9 := Lib.hid e9
      clear e9
      go_wp2
      go_light
      go_ret
      exact ⟨ret_bool (by rw [HF.out]; first | exact E9.out | rfl), hBw.out⟩
end Go.Proofs.Ytgnemgnhjallhaa
