/- One checksum more: the model's way. -/
import Derived.Test.YtgbnoemoangofaaYh0
namespace Go.Proofs.Ytgbnoemoangofaa
open Go.ChangeShapes Go.WideShapes Go.ChangeAt Go.RowKit
set_option linter.unusedVariables false
set_option linter.unusedSimpArgs false

theorem own_room3 {w : World} {lo : Nat} {A : Option Addr} {a : Nat} {L : List Ck} (h : OwK w lo A a L) : L.length ≤ a := by
  rcases (show w.ownsRow _ _ _ _ _ _ from h).2 with ⟨h1, h2⟩ | ⟨g, cap, cur, h1, _, _, h4, _⟩
  · omega
  · injection h1 with h5 h6 h7; omega
theorem rd_bkk {w : World} {g : Nat} {t : TypeId} {x : Ck} (h : Bkk w g t (ckCs x)) : Rd 3 Ck.cells w (some ⟨g, 0, none⟩) [x] := by
  intro i hi
  have h0 : i = 0 := by simpa using hi
  subst h0
  refine ⟨g, 0, rfl, fun j u hj => ?_⟩
  rw [show 0 + 0 * 3 + j = j by omega]
  rw [h.cell j]
  simpa [Ck.cells] using hj

set_option maxRecDepth 100000 in
set_option maxHeartbeats 8000000 in
theorem specCheckAdd (A : Option Addr) (a : Nat) (L : List Ck) (x : Ck) (w : World) (hL : L.length ≤ 1048577) (h : RdK w A a L) :
    Calls Try.prog 12 #[.slice A L.length a, x.val] w (DoKA (addC L x) w) := by
  obtain ⟨I, hi, hz0, hz1, hz2⟩ := parts_ofH infoCheck
  have I1 := Lib.hid hi
  have I2 := Lib.hid hz0
  have I3 := Lib.hid hz1
  have I4 := Lib.hid hz2
  clear hi hz0 hz1 hz2
  have KX : Hid (Bkk (w.alloc (.cells (ckCs x) 25)) w.heap.size 25 (ckCs x)) := Bkk.new _
  have Z : Hid (Below w.heap.size w (w.alloc (.cells (ckCs x) 25))) := (Below.refl _ _).alloc (Nat.le_refl _) _
  have HR := Lib.hid h
  clear h
  go_enter Try.func12, Try.ntmps12
  go_wp2_with (fail)
  obtain ⟨w0, hw0⟩ : ∃ X, X = (w.alloc (.cells (ckCs x) 25)) := ⟨_, rfl⟩
  rw [← hw0] at KX Z ⊢
  clear hw0
  refine (l15Ok A a L _ (by omega) (HR.out.below Z.out).r).mono ?_
  rintro e w1 ⟨rfl, hb⟩
  replace KX := Lib.hid (KX.out.below hb)
  replace Z := Lib.hid (Below.and Z.out hb)
  clear hb
  rcases hok : okC L with _ | _
  · have HX := Lib.hid (addC_bad (x := x) hok)
    clear hok
    go_wp2
    go_light
    go_ret2
    rw [HX.out]
    exact ⟨none, 0, rfl, OwK.nil _ _, Z.out⟩
  have HOK := Lib.hid hok
  have h24 := (okC_iff.1 hok).len
  clear hok
  have LZ := Lib.hid (show w.heap.size ≤ w1.heap.size from Z.out.size)
  have HNA := Lib.hid HR.out.nA
  have HXK := Lib.hid KX.out.lt
  go_upto_region 3 with (fail)
  obtain ⟨q0, hq0⟩ : ∃ X, X = w1.drew := ⟨_, rfl⟩
  obtain ⟨lo, hlo⟩ : ∃ X, X = q0.heap.size := ⟨_, rfl⟩
  have HLO := Lib.hid hlo
  have HRq := Lib.hid (show Rd 3 Ck.cells q0 A L by rw [hq0]; exact (HR.out.below Z.out).r)
  have KXq : Hid (Bkk q0 w.heap.size 25 (ckCs x)) := by rw [hq0]; exact KX.out
  have Zq := Lib.hid (show Below w.heap.size w q0 by rw [hq0]; exact Z.out.drew)
  have LZq := Lib.hid (show w.heap.size ≤ lo by rw [hlo, hq0]; exact LZ.out)
  have HS : Hid (Below q0.heap.size q0 q0) := Below.refl _ _
  clear KX Z hlo LZ HXK
  go_cut [6] from 10 (fun s6 wc => ∃ (A5 : Option Addr) (a5 : Nat), s6 = .slice A5 (L ++ [x]).length a5 ∧ Hid (OwK wc lo A5 a5 (L ++ [x])) ∧ Hid (Below q0.heap.size q0 wc))
  case first =>
    clear HOK LZq Zq
    have x0 : q0.cell? ⟨w.heap.size, 0, none⟩ = some (.int .i64 x.a) := KXq.out.cell 0
    have x1 : q0.cell? ⟨w.heap.size, 1, none⟩ = some (.int .i64 x.f) := KXq.out.cell 1
    have x2 : q0.cell? ⟨w.heap.size, 2, none⟩ = some (.int .i64 x.n) := KXq.out.cell 2
    have lx := KXq.out.lt
    have xf := KXq.out.frozen
    refine wp_held_drewC (fun w1 => Below q0.heap.size q0 w1) (by kernel_rfl) (by rw [← hq0]; exact HS.out) (fun hS0 => ?_)
    rw [← hq0] at hS0 ⊢
    clear hq0
    refine takeR 1 11 (v := ?_) rfl rfl (by kernel_rfl) (by kernel_rfl) (by kernel_rfl) (fun _ _ _ h => h) (Or.inl ⟨by rfl, ?_⟩) (by assumption) ?_
    rotate_left
    · intro w1 hSw; obtain ⟨hcS, hfS⟩ := bcell hSw; go_simp; (try with_reducible rfl)
    (try simp only [Act.put, List.getElem_toArray, List.getElem_cons_succ, List.getElem_cons_zero, List.setIfInBounds_toArray, List.set_cons_zero, List.set_cons_succ])
    refine takeR 3 13 (v := ?_) rfl rfl (by kernel_rfl) (by kernel_rfl) (by kernel_rfl) (fun _ _ _ h => h) (Or.inl ⟨by rfl, ?_⟩) (by assumption) ?_
    rotate_left
    · intro w1 hSw; obtain ⟨hcS, hfS⟩ := bcell hSw; go_simp; (try with_reducible rfl)
    (try simp only [Act.put, List.getElem_toArray, List.getElem_cons_succ, List.getElem_cons_zero, List.setIfInBounds_toArray, List.set_cons_zero, List.set_cons_succ])
    refine wpAnyH_ready (rs := [0, 4]) (by kernel_rfl) (by simp) ?_
    refine AllReadyH.cons rfl (fun KK hK => ?_) (AllReadyH.cons rfl (fun KK hK => ?_) AllReadyH.nil)
    · go_simp
      have hb : Below q0.heap.size q0 (q0.alloc (.cells #[] 25)) := (Below.refl _ _).alloc (Nat.le_refl _) _
      have OO : Hid (OwK (q0.alloc (.cells #[] 25)) lo (some ⟨q0.heap.size, 0, none⟩) 0 []) := OwK.base (own_nil_newH q0 25 3 rfl) (by rw [HLO.out]; exact HS.out.size)
      have HB0 : Hid (q0.heap.size < (q0.alloc (.cells #[] 25)).heap.size) := by simp [Hid]
      replace HS := Lib.hid (Below.and HS.out hb)
      clear hb
      obtain ⟨q1, hq1⟩ : ∃ X, X = q0.alloc (.cells #[] 25) := ⟨_, rfl⟩
      obtain ⟨b0, hb0⟩ : ∃ X, X = q0.heap.size := ⟨_, rfl⟩
      rw [← hq1] at HS OO HB0 ⊢
      rw [← hb0] at OO HB0  ⊢
      clear hq1 hb0
      refine hK.out _ _ HS.out (fun hS1 => ?_)
      clear hK KK
      (try simp only [Act.put, List.getElem_toArray, List.getElem_cons_succ, List.getElem_cons_zero, List.setIfInBounds_toArray, List.set_cons_zero, List.set_cons_succ])
      refine wpAnyH_ready (rs := [2, 4]) (by kernel_rfl) (by simp) ?_
      refine AllReadyH.cons rfl (fun KK hK => ?_) (AllReadyH.cons rfl (fun KK hK => ?_) AllReadyH.nil)
      · have HRL := Lib.hid (Rd.below HRq.out HS.out)
        refine step_app3 (k := 3) (f := Ck.cells) (fun _ => rfl) (by rfl) _ _ 23 (by rfl) lo 25 I (.agg #[.int .i64 0, .int .i64 0, .int .i64 0]) 24 Try.underlying23 I1.out I2.out I3.out I4.out (by rfl) (by omega) _ 0 [] (by rfl) OO.out _ _ _ L rfl (by rfl) HRL.out HNA.out (ck_one _) (by unfold maxLen; omega) (by omega) (by rw [HLO.out]; exact HS.out.size) ?_
        clear HRL
        intro v' q2 ho hg hB
        (try simp only [Nat.zero_add, List.nil_append] at ho)
        obtain ⟨A1, a1, rfl⟩ := own_formH ho
        have OL := Lib.hid (show OwK q2 lo A1 a1 L from ho)
        replace HS := Lib.hid (HS.out.trans (hB.mono (by rw [HLO.out]; exact Nat.le_refl _)))
        clear ho hg hB OO HB0
        refine hK.out _ _ HS.out (fun hS2 => ?_)
        clear hK KK
        (try simp only [Act.put, List.getElem_toArray, List.getElem_cons_succ, List.getElem_cons_zero, List.setIfInBounds_toArray, List.set_cons_zero, List.set_cons_succ])
        refine wpAnyH_ready (rs := [4]) (by kernel_rfl) (by simp) ?_
        refine AllReadyH.cons rfl (fun KK hK => ?_) AllReadyH.nil
        go_simp
        have hb : Below q2.heap.size q2 (q2.alloc (.cells #[.int .i64 x.a, .int .i64 x.f, .int .i64 x.n] 25)) := (Below.refl _ _).alloc (Nat.le_refl _) _
        replace OL := Lib.hid (OwK.below OL.out hb)
        have RX : Hid (Bkk (q2.alloc (.cells #[.int .i64 x.a, .int .i64 x.f, .int .i64 x.n] 25)) q2.heap.size 25 (ckCs x)) := Bkk.new _
        have HB4 : Hid (q2.heap.size < (q2.alloc (.cells #[.int .i64 x.a, .int .i64 x.f, .int .i64 x.n] 25)).heap.size) := by simp [Hid]
        replace HS := Lib.hid (Below.and HS.out hb)
        clear hb
        obtain ⟨q3, hq3⟩ : ∃ X, X = q2.alloc (.cells #[.int .i64 x.a, .int .i64 x.f, .int .i64 x.n] 25) := ⟨_, rfl⟩
        obtain ⟨b4, hb4⟩ : ∃ X, X = q2.heap.size := ⟨_, rfl⟩
        rw [← hq3] at HS OL RX HB4 ⊢
        rw [← hb4] at RX HB4  ⊢
        clear hq3 hb4
        refine hK.out _ _ HS.out (fun hS3 => ?_)
        clear hK KK
        (try simp only [Act.put, List.getElem_toArray, List.getElem_cons_succ, List.getElem_cons_zero, List.setIfInBounds_toArray, List.set_cons_zero, List.set_cons_succ])
        refine wpAnyH_ready (rs := [5]) (by kernel_rfl) (by simp) ?_
        refine AllReadyH.cons rfl (fun KK hK => ?_) AllReadyH.nil
        have HRX := Lib.hid (rd_bkk RX.out)
        refine step_app3 (k := 3) (f := Ck.cells) (fun _ => rfl) (by rfl) _ _ 23 (by rfl) lo 25 I (.agg #[.int .i64 0, .int .i64 0, .int .i64 0]) 24 Try.underlying23 I1.out I2.out I3.out I4.out (by rfl) (by omega) _ L.length (L.flatMap Ck.cells) (by rfl) OL.out _ _ 1 [x] rfl (by rfl) HRX.out (fun h => by cases h) (ck_one _) (by unfold maxLen; omega) (by omega) (by rw [HLO.out]; exact HS.out.size) ?_
        intro v' q4 ho hg hB
        replace HS := Lib.hid (HS.out.trans (hB.mono (by rw [HLO.out]; exact Nat.le_refl _)))
        obtain ⟨A5, a5, rfl, oa⟩ := OwK.push ho
        have OM := Lib.hid oa
        clear ho hg hB OL RX oa HRX
        refine hK.out _ _ HS.out (fun hS4 => ?_)
        clear hK KK
        (try simp only [Act.put, List.getElem_toArray, List.getElem_cons_succ, List.getElem_cons_zero, List.setIfInBounds_toArray, List.set_cons_zero, List.set_cons_succ])
        refine takeR 6 6 (v := ?_) rfl rfl (by kernel_rfl) (by kernel_rfl) (by kernel_rfl) (fun _ _ _ h => h) (Or.inl ⟨by rfl, ?_⟩) (by assumption) ?_
        rotate_left
        · intro w1 hSw; obtain ⟨hcS, hfS⟩ := bcell hSw; go_simp; (try with_reducible rfl)
        (try simp only [Act.put, List.getElem_toArray, List.getElem_cons_succ, List.getElem_cons_zero, List.setIfInBounds_toArray, List.set_cons_zero, List.set_cons_succ])
        refine wpAnyH_done (by kernel_rfl) ?_ _
        go_wp2_with (fail)
        go_meet
        case rel => exact ⟨A5, a5, by simp, OM.out, HS.out⟩
      · go_simp
        have hb : Below q1.heap.size q1 (q1.alloc (.cells #[.int .i64 x.a, .int .i64 x.f, .int .i64 x.n] 25)) := (Below.refl _ _).alloc (Nat.le_refl _) _
        replace OO := Lib.hid (OwK.below OO.out hb)
        have RX : Hid (Bkk (q1.alloc (.cells #[.int .i64 x.a, .int .i64 x.f, .int .i64 x.n] 25)) q1.heap.size 25 (ckCs x)) := Bkk.new _
        have HNE := Lib.hid (show q1.heap.size ≠ b0 from fun e => by have h1 := HB0.out; omega)
        replace HS := Lib.hid (Below.and HS.out hb)
        clear hb HB0
        obtain ⟨q2, hq2⟩ : ∃ X, X = q1.alloc (.cells #[.int .i64 x.a, .int .i64 x.f, .int .i64 x.n] 25) := ⟨_, rfl⟩
        obtain ⟨b4, hb4⟩ : ∃ X, X = q1.heap.size := ⟨_, rfl⟩
        rw [← hq2] at HS OO RX ⊢
        rw [← hb4] at RX  HNE ⊢
        clear hq2 hb4
        refine hK.out _ _ HS.out (fun hS2 => ?_)
        clear hK KK
        (try simp only [Act.put, List.getElem_toArray, List.getElem_cons_succ, List.getElem_cons_zero, List.setIfInBounds_toArray, List.set_cons_zero, List.set_cons_succ])
        refine wpAnyH_ready (rs := [2]) (by kernel_rfl) (by simp) ?_
        refine AllReadyH.cons rfl (fun KK hK => ?_) AllReadyH.nil
        have HRL := Lib.hid (Rd.below HRq.out HS.out)
        refine step_app3 (k := 3) (f := Ck.cells) (fun _ => rfl) (by rfl) _ _ 23 (by rfl) lo 25 I (.agg #[.int .i64 0, .int .i64 0, .int .i64 0]) 24 Try.underlying23 I1.out I2.out I3.out I4.out (by rfl) (by omega) _ 0 [] (by rfl) OO.out _ _ _ L rfl (by rfl) HRL.out HNA.out (ck_one _) (by unfold maxLen; omega) (by omega) (by rw [HLO.out]; exact HS.out.size) ?_
        clear HRL
        intro v' q3 ho hg hB
        (try simp only [Nat.zero_add, List.nil_append] at ho)
        obtain ⟨A1, a1, rfl⟩ := own_formH ho
        have OL := Lib.hid (show OwK q3 lo A1 a1 L from ho)
        replace RX := Lib.hid (Bkk.grownK RX.out hg (by have := HNE.out; simp [Value.ownBlock]; first | exact this | exact fun e => this e.symm))
        replace HS := Lib.hid (HS.out.trans (hB.mono (by rw [HLO.out]; exact Nat.le_refl _)))
        clear ho hg hB OO
        refine hK.out _ _ HS.out (fun hS3 => ?_)
        clear hK KK
        (try simp only [Act.put, List.getElem_toArray, List.getElem_cons_succ, List.getElem_cons_zero, List.setIfInBounds_toArray, List.set_cons_zero, List.set_cons_succ])
        refine wpAnyH_ready (rs := [5]) (by kernel_rfl) (by simp) ?_
        refine AllReadyH.cons rfl (fun KK hK => ?_) AllReadyH.nil
        have HRX := Lib.hid (rd_bkk RX.out)
        refine step_app3 (k := 3) (f := Ck.cells) (fun _ => rfl) (by rfl) _ _ 23 (by rfl) lo 25 I (.agg #[.int .i64 0, .int .i64 0, .int .i64 0]) 24 Try.underlying23 I1.out I2.out I3.out I4.out (by rfl) (by omega) _ L.length (L.flatMap Ck.cells) (by rfl) OL.out _ _ 1 [x] rfl (by rfl) HRX.out (fun h => by cases h) (ck_one _) (by unfold maxLen; omega) (by omega) (by rw [HLO.out]; exact HS.out.size) ?_
        intro v' q4 ho hg hB
        replace HS := Lib.hid (HS.out.trans (hB.mono (by rw [HLO.out]; exact Nat.le_refl _)))
        obtain ⟨A5, a5, rfl, oa⟩ := OwK.push ho
        have OM := Lib.hid oa
        clear ho hg hB OL RX oa HRX
        refine hK.out _ _ HS.out (fun hS4 => ?_)
        clear hK KK
        (try simp only [Act.put, List.getElem_toArray, List.getElem_cons_succ, List.getElem_cons_zero, List.setIfInBounds_toArray, List.set_cons_zero, List.set_cons_succ])
        refine takeR 6 6 (v := ?_) rfl rfl (by kernel_rfl) (by kernel_rfl) (by kernel_rfl) (fun _ _ _ h => h) (Or.inl ⟨by rfl, ?_⟩) (by assumption) ?_
        rotate_left
        · intro w1 hSw; obtain ⟨hcS, hfS⟩ := bcell hSw; go_simp; (try with_reducible rfl)
        (try simp only [Act.put, List.getElem_toArray, List.getElem_cons_succ, List.getElem_cons_zero, List.setIfInBounds_toArray, List.set_cons_zero, List.set_cons_succ])
        refine wpAnyH_done (by kernel_rfl) ?_ _
        go_wp2_with (fail)
        go_meet
        case rel => exact ⟨A5, a5, by simp, OM.out, HS.out⟩
    · go_simp
      have hb : Below q0.heap.size q0 (q0.alloc (.cells #[.int .i64 x.a, .int .i64 x.f, .int .i64 x.n] 25)) := (Below.refl _ _).alloc (Nat.le_refl _) _
      have RX : Hid (Bkk (q0.alloc (.cells #[.int .i64 x.a, .int .i64 x.f, .int .i64 x.n] 25)) q0.heap.size 25 (ckCs x)) := Bkk.new _
      have HB4 : Hid (q0.heap.size < (q0.alloc (.cells #[.int .i64 x.a, .int .i64 x.f, .int .i64 x.n] 25)).heap.size) := by simp [Hid]
      replace HS := Lib.hid (Below.and HS.out hb)
      clear hb
      obtain ⟨q1, hq1⟩ : ∃ X, X = q0.alloc (.cells #[.int .i64 x.a, .int .i64 x.f, .int .i64 x.n] 25) := ⟨_, rfl⟩
      obtain ⟨b4, hb4⟩ : ∃ X, X = q0.heap.size := ⟨_, rfl⟩
      rw [← hq1] at HS RX HB4 ⊢
      rw [← hb4] at RX HB4  ⊢
      clear hq1 hb4
      refine hK.out _ _ HS.out (fun hS1 => ?_)
      clear hK KK
      (try simp only [Act.put, List.getElem_toArray, List.getElem_cons_succ, List.getElem_cons_zero, List.setIfInBounds_toArray, List.set_cons_zero, List.set_cons_succ])
      refine wpAnyH_ready (rs := [0]) (by kernel_rfl) (by simp) ?_
      refine AllReadyH.cons rfl (fun KK hK => ?_) AllReadyH.nil
      go_simp
      have hb : Below q1.heap.size q1 (q1.alloc (.cells #[] 25)) := (Below.refl _ _).alloc (Nat.le_refl _) _
      replace RX := Lib.hid (Bkk.below RX.out hb)
      have OO : Hid (OwK (q1.alloc (.cells #[] 25)) lo (some ⟨q1.heap.size, 0, none⟩) 0 []) := OwK.base (own_nil_newH q1 25 3 rfl) (by rw [HLO.out]; exact HS.out.size)
      have HNE := Lib.hid (show q1.heap.size ≠ b4 from fun e => by have h1 := HB4.out; omega)
      replace HS := Lib.hid (Below.and HS.out hb)
      clear hb HB4
      obtain ⟨q2, hq2⟩ : ∃ X, X = q1.alloc (.cells #[] 25) := ⟨_, rfl⟩
      obtain ⟨b0, hb0⟩ : ∃ X, X = q1.heap.size := ⟨_, rfl⟩
      rw [← hq2] at HS RX OO ⊢
      rw [← hb0] at OO  HNE ⊢
      clear hq2 hb0
      refine hK.out _ _ HS.out (fun hS2 => ?_)
      clear hK KK
      (try simp only [Act.put, List.getElem_toArray, List.getElem_cons_succ, List.getElem_cons_zero, List.setIfInBounds_toArray, List.set_cons_zero, List.set_cons_succ])
      refine wpAnyH_ready (rs := [2]) (by kernel_rfl) (by simp) ?_
      refine AllReadyH.cons rfl (fun KK hK => ?_) AllReadyH.nil
      have HRL := Lib.hid (Rd.below HRq.out HS.out)
      refine step_app3 (k := 3) (f := Ck.cells) (fun _ => rfl) (by rfl) _ _ 23 (by rfl) lo 25 I (.agg #[.int .i64 0, .int .i64 0, .int .i64 0]) 24 Try.underlying23 I1.out I2.out I3.out I4.out (by rfl) (by omega) _ 0 [] (by rfl) OO.out _ _ _ L rfl (by rfl) HRL.out HNA.out (ck_one _) (by unfold maxLen; omega) (by omega) (by rw [HLO.out]; exact HS.out.size) ?_
      clear HRL
      intro v' q3 ho hg hB
      (try simp only [Nat.zero_add, List.nil_append] at ho)
      obtain ⟨A1, a1, rfl⟩ := own_formH ho
      have OL := Lib.hid (show OwK q3 lo A1 a1 L from ho)
      replace RX := Lib.hid (Bkk.grownK RX.out hg (by have := HNE.out; simp [Value.ownBlock]; first | exact this | exact fun e => this e.symm))
      replace HS := Lib.hid (HS.out.trans (hB.mono (by rw [HLO.out]; exact Nat.le_refl _)))
      clear ho hg hB OO
      refine hK.out _ _ HS.out (fun hS3 => ?_)
      clear hK KK
      (try simp only [Act.put, List.getElem_toArray, List.getElem_cons_succ, List.getElem_cons_zero, List.setIfInBounds_toArray, List.set_cons_zero, List.set_cons_succ])
      refine wpAnyH_ready (rs := [5]) (by kernel_rfl) (by simp) ?_
      refine AllReadyH.cons rfl (fun KK hK => ?_) AllReadyH.nil
      have HRX := Lib.hid (rd_bkk RX.out)
      refine step_app3 (k := 3) (f := Ck.cells) (fun _ => rfl) (by rfl) _ _ 23 (by rfl) lo 25 I (.agg #[.int .i64 0, .int .i64 0, .int .i64 0]) 24 Try.underlying23 I1.out I2.out I3.out I4.out (by rfl) (by omega) _ L.length (L.flatMap Ck.cells) (by rfl) OL.out _ _ 1 [x] rfl (by rfl) HRX.out (fun h => by cases h) (ck_one _) (by unfold maxLen; omega) (by omega) (by rw [HLO.out]; exact HS.out.size) ?_
      intro v' q4 ho hg hB
      replace HS := Lib.hid (HS.out.trans (hB.mono (by rw [HLO.out]; exact Nat.le_refl _)))
      obtain ⟨A5, a5, rfl, oa⟩ := OwK.push ho
      have OM := Lib.hid oa
      clear ho hg hB OL RX oa HRX
      refine hK.out _ _ HS.out (fun hS4 => ?_)
      clear hK KK
      (try simp only [Act.put, List.getElem_toArray, List.getElem_cons_succ, List.getElem_cons_zero, List.setIfInBounds_toArray, List.set_cons_zero, List.set_cons_succ])
      refine takeR 6 6 (v := ?_) rfl rfl (by kernel_rfl) (by kernel_rfl) (by kernel_rfl) (fun _ _ _ h => h) (Or.inl ⟨by rfl, ?_⟩) (by assumption) ?_
      rotate_left
      · intro w1 hSw; obtain ⟨hcS, hfS⟩ := bcell hSw; go_simp; (try with_reducible rfl)
      (try simp only [Act.put, List.getElem_toArray, List.getElem_cons_succ, List.getElem_cons_zero, List.setIfInBounds_toArray, List.set_cons_zero, List.set_cons_succ])
      refine wpAnyH_done (by kernel_rfl) ?_ _
      go_wp2_with (fail)
      go_meet
      case rel => exact ⟨A5, a5, by simp, OM.out, HS.out⟩
  case rest =>
    obtain ⟨A5, a5, rfl, OM, HS⟩ := hcut
    have Z := Lib.hid (Below.and Zq.out HS.out)
    clear HRq KXq hq0 Zq
    obtain ⟨M, hM⟩ : ∃ M, L ++ [x] = M := ⟨_, rfl⟩
    have hMl : M.length ≤ 25 := by rw [← hM]; simp; omega
    have HM := Lib.hid hM
    have hMn : M.length = L.length + 1 := by rw [← hM]; simp
    have HMN := Lib.hid hMn
    rw [hM] at OM ⊢
    clear hM hMn
    go_wp2_with (fail)
    refine (l15Ok A5 a5 M _ (by omega) OM.out.rd).mono ?_
    rintro e w6 ⟨rfl, hb⟩
    replace OM := Lib.hid (OM.out.below hb)
    replace Z := Lib.hid (Below.and Z.out hb)
    clear hb
    rcases hok : okC M with _ | _
    · have HX := Lib.hid (show addC L x = (L, false) from addC_no HOK.out (by rw [HM.out]; exact hok))
      have hge := (show OwK w6 lo A5 a5 M from OM.out)
      have hroom : M.length ≤ a5 := own_room3 OM.out
      have hLM : L.length ≤ a5 := by have := HMN.out; omega
      have hLMi : (L.length : Int) ≤ (a5 : Int) := by omega
      obtain ⟨g, rfl, hg1, hg2⟩ := own_gK OM.out (by have := HMN.out; omega)
      have OL := Lib.hid (show OwK w6 lo (some ⟨g, 0, none⟩) a5 L by
        have h9 := OM.out
        rw [← HM.out] at h9
        show World.ownsRow _ _ _ _ _ _ _
        have h8 : w6.ownsRow lo 25 3 (.slice (some ⟨g, 0, none⟩) (L.length + 1) a5) (L.length + 1) (L.flatMap Ck.cells ++ [x].flatMap Ck.cells) := by
          have h7 := h9
          unfold OwK at h7
          rw [List.flatMap_append, List.length_append] at h7
          exact h7
        exact own_prefix h8 (rows_length 3 Ck.cells (fun _ => rfl) L))
      clear hok hge hg1 hg2
      go_wp2
      go_light
      go_ret2
      rw [HX.out]
      exact ⟨_, _, rfl, OL.out.base LZq.out, Z.out⟩
    · have HX := Lib.hid (show addC L x = (M, true) by rw [← HM.out]; exact addC_yes HOK.out (by rw [HM.out]; exact hok))
      clear hok
      go_wp2
      go_light
      go_ret2
      rw [HX.out]
      exact ⟨A5, a5, rfl, OM.out.base LZq.out, Z.out⟩

end Go.Proofs.Ytgbnoemoangofaa
