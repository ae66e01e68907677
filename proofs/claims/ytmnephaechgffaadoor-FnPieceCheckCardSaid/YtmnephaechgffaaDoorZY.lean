/- Py, Pz -/
import Derived.Test.YtmnephaechgffaaDoorZV
import Derived.Test.YtmnephaechgffaaDoorPj
import Derived.Test.YtmnephaechgffaaDoorPi
import Derived.Test.YtmnephaechgffaaDoorPt
/- A piece with its sums drawn. -/
namespace Go.Proofs.YtmnephaechgffaaDoor
open Go.ChangeShapes Go.WideShapes Go.ChangeAt Go.RowKit
set_option linter.unusedVariables false
set_option linter.unusedSimpArgs false

theorem proofF_len : ∀ (f : Nat) (l : List Int) (a : Nat), (proofF f l a).length ≤ f
  | 0, l, a => Nat.le_refl _
  | f + 1, l, a => by
    by_cases h : l.length ≤ 1
    · rw [proofF_done _ _ _ h]; simp
    · by_cases h2 : a ^^^ 1 < l.length
      · rw [proofF_take f l a h h2]; have := proofF_len f (upF l) (a / 2); simp only [List.length_cons]; omega
      · rw [proofF_skip f l a h h2]; have := proofF_len f (upF l) (a / 2); omega
theorem proofF_64 : ∀ (f : Nat) (l : List Int) (a : Nat), (∀ x ∈ l, I64 x) → ∀ x ∈ proofF f l a, I64 x
  | 0, l, a, hl, x, h => by cases h
  | f + 1, l, a, hl, x, hx => by
    by_cases h : l.length ≤ 1
    · rw [proofF_done _ _ _ h] at hx; cases hx
    · by_cases h2 : a ^^^ 1 < l.length
      · rw [proofF_take f l a h h2] at hx
        rcases List.mem_cons.1 hx with rfl | hx
        · exact hl _ (List.getElem_mem h2)
        · exact proofF_64 f (upF l) (a / 2) (upF_64 l hl) x hx
      · rw [proofF_skip f l a h h2] at hx
        exact proofF_64 f (upF l) (a / 2) (upF_64 l hl) x hx
theorem proofP_ok (S : List ByteArray) (a : Int) : (proofP S a).length ≤ 16 ∧ ∀ x ∈ proofP S a, I64 x := by
  unfold proofP
  split
  · exact ⟨proofF_len _ _ _, proofF_64 _ _ _ (leavesF_64 S 0)⟩
  · exact ⟨by simp, fun x h => by cases h⟩
theorem pcs_12 (s : ByteArray) : ∀ b ∈ pcs s, b.size ≤ 12 := by
  by_cases h : s.size ≤ 192
  · exact (wfB_of (pcs_wf h).1).2.2
  · intro b hb
    unfold pcs at hb
    rw [if_pos (by omega)] at hb
    cases hb
theorem OwN.drawn {w w' : World} {lo R : Nat} {B : Option Addr} {d : Nat} {D : List Int} (h : OwN w lo B d D) (hR : R < lo) (hg : w.grownBy w' (some R)) : OwN w' lo B d D :=
  own_same (show w.ownsRow _ _ _ _ _ _ from h) (fun k hk => hg.block k (h.ge k hk).2 (fun e => by injection e with e; have := (h.ge k hk).1; omega))
theorem OwN.room {w : World} {lo : Nat} {B : Option Addr} {d : Nat} {D : List Int} (h : OwN w lo B d D) : D.length ≤ d := by
  rcases h.2 with ⟨h1, h2⟩ | ⟨g, cap, cur, h1, h2⟩
  · omega
  · have h3 := h1
    injection h3 with e1 e2 e3
    subst e3
    exact h2.2.2.1
theorem OwS.rowX {w w' : World} {lo lo2 : Nat} {B : Option Addr} {d : Nat} {D : List ByteArray} {row : Option Nat} (h : OwS w lo B d D) (hb : ∀ k, (Value.slice B D.length d).ownBlock = some k → k < lo2) (hg : w.grownBy w' row) (hx : ∀ k, row = some k → lo2 ≤ k) : OwS w' lo B d D :=
  own_same (show w.ownsRow _ _ _ _ _ _ from h) (fun k hk => hg.block k (h.ge k hk).2 (fun e => by have h1 := hb k hk; have h2 := hx k e.symm; omega))

set_option maxRecDepth 100000 in
set_option maxHeartbeats 8000000 in
theorem drawPieceCheck {w : World} {A : Option Addr} {n c : Nat} (hn : n ≤ 1048576) (hc : n ≤ c) (hb : InB w A n) :
    Calls Tryd.prog 15 #[.slice A n c] w fun e w' => ∃ (root many at' : Int) (s : ByteArray) (G : Option Addr) (k d : Nat) (P : List Int), e = .returned (.tuple #[.int .i64 root, .int .i64 many, .int .i64 at', .string s, .slice G k d]) ∧ s.size ≤ 1048576 ∧ (P.length = k ∧ k ≤ 17 ∧ k ≤ d) ∧ InI w' G P ∧ (∀ x ∈ P, I64 x) ∧ Below w.heap.size w w' := by
  obtain ⟨I, hi, hz0, hz1, hz2⟩ := parts_ofS infoIntN
  have I1 := Lib.hid hi
  have I2 := Lib.hid hz0
  have I3 := Lib.hid hz1
  have I4 := Lib.hid hz2
  have HB := Lib.hid hb
  clear hi hz0 hz1 hz2 hb
  go_enter Tryd.func15, Tryd.ntmps15
  go_wp2_with (fail)
  refine (l20Open hn hc HB.out).mono ?_
  rintro e w1 ⟨m, rfl, hr, h1⟩
  have RD := Lib.hid hr
  have Z := Lib.hid h1
  clear hr h1 HB
  go_wp2_with (fail)
  refine (l20Long RD.out (by omega)).mono ?_
  rintro e w2 ⟨s, rfl, hs, q1, q10, q11, hr, hg⟩
  have RD := Lib.hid hr
  have Z := Lib.hid (Z.out.grown hg Z.out.size (fun k hk => by injection hk with hk; omega))
  have hz2 : w.heap.size < w2.heap.size := RD.out.lt
  clear hr hg
  go_wp2_with (fail)
  refine (specPieceOf s _ (by omega)).mono ?_
  obtain ⟨D, hD⟩ : ∃ D, D = pcs s := ⟨_, rfl⟩
  have hl : D.length ≤ 17 := by rw [hD]; exact pcs_len s
  have H12 := Lib.hid (show ∀ b ∈ D, b.size ≤ 12 by rw [hD]; exact pcs_12 s)
  rw [← hD]
  clear hD
  rintro e w3 ⟨B, d, rfl, oo, hb⟩
  have OO : Hid (OwS w3 (w.heap.size + 1) B d D) := oo.baseS (by omega)
  have RD := Lib.hid (RD.out.below hb)
  have Z := Lib.hid (Below.and Z.out hb)
  have hz3 : w.heap.size < w3.heap.size := RD.out.lt
  clear oo hb hz2 hs
  by_cases h0 : D.length = 0
  · have e0 : ((D.length : Int) == 0) = true := by rw [beq_iff_eq]; omega
    have hb0 : Below w3.heap.size w3 (w3.alloc (.cells #[.int .i64 0, .int .i64 1, .int .i64 17] 3)) := (Below.refl _ _).alloc (Nat.le_refl _) _
    have RD := Lib.hid (RD.out.below hb0)
    have Z := Lib.hid (Below.and Z.out hb0)
    clear hb0 OO H12
    go_wp2_with (fail)
    refine (oneP w3.heap.size [0, 1, 17] RD.out (by omega) (by simp) (by simp) (by omega) (lit_cellsP w3 3 [0, 1, 17])).mono ?_
    rintro e w4 ⟨v, hv, rfl, q2, q20, q21, hr, hg⟩
    have Z := Lib.hid (Z.out.grown hg Z.out.size (fun k hk => by injection hk with hk; omega))
    clear hr hg hv
    go_wp2
    refine bodyPost_ret (v := .tuple #[.int .i64 0, .int .i64 v, .int .i64 0, .string ⟨#[120]⟩, .slice none 0 0]) (by simp [results, Tryd.results15, go_sem]) rfl ⟨0, v, 0, ⟨#[120]⟩, none, 0, 0, [], rfl, (by decide), ⟨rfl, by omega, by omega⟩, (fun i hi => absurd hi (by simp)), (fun x hx => by cases hx), Z.out⟩
  have e0 : ((D.length : Int) == 0) = false := by rw [beq_eq_false_iff_ne]; omega
  go_wp2_with (fail)
  refine (pickR (D.length : Int) RD.out (by omega) (by omega) (by omega)).mono ?_
  rintro e w4 ⟨v, v0, v1, rfl, q2, q20, q21, hr, hg⟩
  obtain ⟨j, rfl⟩ := Int.eq_ofNat_of_zero_le v0
  have OO := Lib.hid (OO.out.drawn (R := w.heap.size) (by omega) hg)
  have RD := Lib.hid hr
  have Z := Lib.hid (Z.out.grown hg Z.out.size (fun k hk => by injection hk with hk; omega))
  have hz4 : w.heap.size < w4.heap.size := RD.out.lt
  clear hr hg hz3 e0 h0
  go_wp2_with (fail)
  refine (specPieceProof B d D (j : Int) _ (by omega) OO.out.rd).mono ?_
  obtain ⟨P, hP⟩ : ∃ P, P = proofP D (j : Int) := ⟨_, rfl⟩
  have hP2 := proofP_ok D (j : Int)
  rw [← hP] at hP2 ⊢
  obtain ⟨hPl, hP6⟩ := hP2
  have HP6 := Lib.hid hP6
  clear hP hP6
  rintro e w5 ⟨G, g, rfl, og, hb⟩
  obtain ⟨lo2, hlo2⟩ : ∃ x, x = w4.heap.size := ⟨_, rfl⟩
  have HA : Hid (∀ k, (Value.slice B D.length d).ownBlock = some k → k < lo2) := fun k hk => by rw [hlo2]; exact (OO.out.ge k hk).2
  have ON : Hid (OwN w5 lo2 G g P) := by rw [hlo2]; exact og
  have hlo3 : w.heap.size < lo2 := by omega
  have hs5 : lo2 ≤ w5.heap.size := by rw [hlo2]; exact hb.size
  have OO := Lib.hid (OO.out.below hb)
  have RD := Lib.hid (RD.out.below hb)
  have Z := Lib.hid (Below.and Z.out hb)
  clear og hb hz4 hlo2
  have hj : j < D.length := by omega
  obtain ⟨gB, oB, hB, hcB⟩ := OO.out.rd j hj
  have ht12 := H12.out _ (List.getElem_mem hj)
  obtain ⟨t, ht⟩ : ∃ t, t = D[j] := ⟨_, rfl⟩
  rw [← ht] at hcB ht12
  have hcB : w5.cell? ⟨gB, oB + j, none⟩ = some (.string t) := by have := hcB 0 _ rfl; simpa using this
  have i0 : (0 : Int) ≤ (j : Int) := by omega
  have i1 : (j : Int) < (D.length : Int) := by omega
  have HBB := Lib.hid hB
  clear ht H12
  rw [hB]
  clear hB
  go_wp2_with (fail)
  rw [← HBB.out]
  refine (pickR 6 RD.out (by omega) (by omega) (by omega)).mono ?_
  rintro e w6 ⟨v, v2, v3, rfl, q3, q30, q31, hr, hg⟩
  have OO := Lib.hid (OO.out.drawn (R := w.heap.size) (by omega) hg)
  have ON := Lib.hid (ON.out.drawn hlo3 hg)
  have RD := Lib.hid hr
  have Z := Lib.hid (Z.out.grown hg Z.out.size (fun k hk => by injection hk with hk; omega))
  have hz6 : w.heap.size < w6.heap.size := RD.out.lt
  have hs6 : lo2 ≤ w6.heap.size := Nat.le_trans hs5 hg.size
  clear hs5
  clear hr hg hcB HBB i0 i1 v0 v1
  obtain ⟨dl, hdl⟩ : ∃ x, x = D.length := ⟨_, rfl⟩
  obtain ⟨pl, hpl⟩ : ∃ x, x = P.length := ⟨_, rfl⟩
  by_cases c0 : v = 0
  · subst c0
    go_wp2_with (fail)
    refine (specPieceRoot B d D _ (by omega) OO.out.rd).mono ?_
    obtain ⟨rt, hrt⟩ : ∃ x, x = rootP D := ⟨_, rfl⟩
    rw [← hrt]
    rintro e w8 ⟨rfl, hb⟩
    have ON := Lib.hid (ON.out.below hb)
    have RN := Lib.hid ON.out.rd.inI
    have RM := Lib.hid ON.out.room
    have Z := Lib.hid (Below.and Z.out hb)
    clear hrt
    go_wp2
    refine bodyPost_ret (v := .tuple #[.int .i64 rt, .int .i64 (D.length : Int), .int .i64 (j : Int), .string (t ++ ⟨#[120]⟩), .slice G P.length g]) (by simp [results, Tryd.results15, go_sem]) rfl ⟨rt, (D.length : Int), (j : Int), (t ++ ⟨#[120]⟩), G, P.length, g, P, rfl, (by rw [ByteArray.size_append]; have : (⟨#[120]⟩ : ByteArray).size = 1 := rfl; omega), ⟨rfl, by omega, RM.out⟩, RN.out, HP6.out, Z.out⟩
  have d0 : (v == 0) = false := by simpa using c0
  by_cases c1 : v = 1
  · subst c1
    have hba : Below w6.heap.size w6 (w6.alloc (.cells #[.int .i64 5] 3)) := (Below.refl _ _).alloc (Nat.le_refl _) _
    have OB := Lib.hid (ON.out.below hba)
    have OO := Lib.hid (OO.out.below hba)
    have BA := Lib.hid (Below.and Z.out hba)
    have HRd := Lib.hid (int_oneN w6 5)
    have hsz : lo2 ≤ (w6.alloc (.cells #[.int .i64 5] 3)).heap.size := by simp; omega
    clear hba
    go_wp2_with (at_builtin; go_loud (refine list_app (f := cN) (fun _ => rfl) rfl _ _ 22 rfl lo2 3 I (.int .i64 0) 8 Tryd.underlying22 I1.out I2.out I3.out I4.out rfl (by decide) (.slice G P.length g) P.length (P.flatMap cN) rfl (show World.ownsRow _ _ _ _ _ _ _ from OB.out) _ _ 1 [5] rfl rfl HRd.out (fun h => by cases h) (ints_oneN _) (by unfold maxLen; omega) (by omega) hsz ?_))
    intro v5 w7 ho hg hp
    have Z := Lib.hid (BA.out.grown hg BA.out.size (fun q hq => by have := (OB.out.ge q hq).1; omega))
    have OO := Lib.hid (OO.out.rowX HA.out hg (fun k hk => (OB.out.ge k hk).1))
    obtain ⟨G5, g5, rfl, oa⟩ := OwN.push ho
    have ON := Lib.hid oa
    have HP7 : Hid (∀ x ∈ P ++ [5], I64 x) := fun x hx => by
      rcases List.mem_append.1 hx with h | h
      · exact HP6.out x h
      · obtain rfl := List.mem_singleton.1 h; exact ⟨by omega, by omega⟩
    clear ho hg hp oa OB BA HRd hsz
    go_wp2_with (fail)
    refine (specPieceRoot B d D _ (by omega) OO.out.rd).mono ?_
    obtain ⟨rt, hrt⟩ : ∃ x, x = rootP D := ⟨_, rfl⟩
    rw [← hrt]
    rintro e w8 ⟨rfl, hb⟩
    have ON := Lib.hid (ON.out.below hb)
    have RN := Lib.hid ON.out.rd.inI
    have RM := Lib.hid ON.out.room
    have Z := Lib.hid (Below.and Z.out hb)
    clear hrt
    go_wp2
    refine bodyPost_ret (v := .tuple #[.int .i64 rt, .int .i64 (D.length : Int), .int .i64 (j : Int), .string t, .slice G5 (P ++ [5]).length g5]) (by simp [results, Tryd.results15, go_sem]) rfl ⟨rt, (D.length : Int), (j : Int), t, G5, (P ++ [5]).length, g5, (P ++ [5]), rfl, (by omega), ⟨rfl, by simp; omega, RM.out⟩, RN.out, HP7.out, Z.out⟩
  have d1 : (v == 1) = false := by simpa using c1
  by_cases c2 : v = 2
  · subst c2
    have wd : IntKind.i64.wrap ((D.length : Int) + 1) = (D.length : Int) + 1 := IntWalk.i64_in _ (by omega)
    go_wp2_with (fail)
    refine (specPieceRoot B d D _ (by omega) OO.out.rd).mono ?_
    obtain ⟨rt, hrt⟩ : ∃ x, x = rootP D := ⟨_, rfl⟩
    rw [← hrt]
    rintro e w8 ⟨rfl, hb⟩
    have ON := Lib.hid (ON.out.below hb)
    have RN := Lib.hid ON.out.rd.inI
    have RM := Lib.hid ON.out.room
    have Z := Lib.hid (Below.and Z.out hb)
    clear hrt
    go_wp2
    refine bodyPost_ret (v := .tuple #[.int .i64 rt, .int .i64 ((D.length : Int) + 1), .int .i64 (j : Int), .string t, .slice G P.length g]) (by simp [results, Tryd.results15, go_sem]) rfl ⟨rt, ((D.length : Int) + 1), (j : Int), t, G, P.length, g, P, rfl, (by omega), ⟨rfl, by omega, RM.out⟩, RN.out, HP6.out, Z.out⟩
  have d2 : (v == 2) = false := by simpa using c2
  by_cases c3 : v = 3
  · subst c3
    go_wp2_with (fail)
    refine (specPieceRoot B d D _ (by omega) OO.out.rd).mono ?_
    obtain ⟨rt, hrt⟩ : ∃ x, x = rootP D := ⟨_, rfl⟩
    rw [← hrt]
    rintro e w8 ⟨rfl, hb⟩
    have ON := Lib.hid (ON.out.below hb)
    have RD := Lib.hid (RD.out.below hb)
    have Z := Lib.hid (Below.and Z.out hb)
    clear hrt hb
    go_wp2_with (fail)
    refine (pickR (D.length : Int) RD.out (by omega) (by omega) (by omega)).mono ?_
    rintro e w9 ⟨v', v4, v5, rfl, q4, q40, q41, hr, hg⟩
    have ON := Lib.hid (ON.out.drawn hlo3 hg)
    have Z := Lib.hid (Z.out.grown hg Z.out.size (fun k hk => by injection hk with hk; omega))
    have RN := Lib.hid ON.out.rd.inI
    have RM := Lib.hid ON.out.room
    clear hr hg
    go_wp2
    refine bodyPost_ret (v := .tuple #[.int .i64 rt, .int .i64 (D.length : Int), .int .i64 v', .string t, .slice G P.length g]) (by simp [results, Tryd.results15, go_sem]) rfl ⟨rt, (D.length : Int), v', t, G, P.length, g, P, rfl, (by omega), ⟨rfl, by omega, RM.out⟩, RN.out, HP6.out, Z.out⟩
  have d3 : (v == 3) = false := by simpa using c3
  go_wp2_with (fail)
  refine (specPieceRoot B d D _ (by omega) OO.out.rd).mono ?_
  obtain ⟨rt, hrt⟩ : ∃ x, x = rootP D := ⟨_, rfl⟩
  rw [← hrt]
  rintro e w8 ⟨rfl, hb⟩
  have ON := Lib.hid (ON.out.below hb)
  have RN := Lib.hid ON.out.rd.inI
  have RM := Lib.hid ON.out.room
  have Z := Lib.hid (Below.and Z.out hb)
  clear hrt
  go_wp2
  refine bodyPost_ret (v := .tuple #[.int .i64 rt, .int .i64 (D.length : Int), .int .i64 (j : Int), .string t, .slice G P.length g]) (by simp [results, Tryd.results15, go_sem]) rfl ⟨rt, (D.length : Int), (j : Int), t, G, P.length, g, P, rfl, (by omega), ⟨rfl, by omega, RM.out⟩, RN.out, HP6.out, Z.out⟩
end Go.Proofs.YtmnephaechgffaaDoor

/- A wrong sum, or a sum less, is no proof: the law. -/
namespace Go.Proofs.YtmnephaechgffaaDoor
open Go.ChangeShapes Go.WideShapes Go.ChangeAt Go.RowKit
set_option linter.unusedVariables false
set_option linter.unusedSimpArgs false

theorem chk_cnt : ∀ (f m a : Nat) (x x' : Int) (P P' : List Int) (y y' : Int) (r r' : List Int), chk f m a x P = some (y, r) → chk f m a x' P' = some (y', r') → P.length + r'.length = P'.length + r.length
  | 0, m, a, x, x', P, P', y, y', r, r', h, h' => by
    injection h with h; injection h with h1 h2
    injection h' with h'; injection h' with h3 h4
    subst h2 h4; omega
  | f + 1, m, a, x, x', P, P', y, y', r, r', h, h' => by
    by_cases hm : m ≤ 1
    · rw [chk_done _ _ _ _ _ hm] at h h'
      injection h with h; injection h with h1 h2
      injection h' with h'; injection h' with h3 h4
      subst h2 h4; omega
    · by_cases hs : a ^^^ 1 < m
      · rcases P with _ | ⟨p, P⟩
        · rw [chk_none f m a x hm hs] at h; cases h
        · rcases P' with _ | ⟨p', P'⟩
          · rw [chk_none f m a x' hm hs] at h'; cases h'
          · rw [chk_take f m a x p P hm hs] at h
            rw [chk_take f m a x' p' P' hm hs] at h'
            have := chk_cnt f _ _ _ _ _ _ _ _ _ _ h h'
            simp only [List.length_cons]; omega
      · rw [chk_skip f m a x P hm hs] at h
        rw [chk_skip f m a x' P' hm hs] at h'
        exact chk_cnt f _ _ _ _ _ _ _ _ _ _ h h'
theorem chk_in : ∀ (f m a : Nat) (x : Int) (P : List Int) (y : Int) (r : List Int), (0 ≤ x ∧ x < 4294967296) → chk f m a x P = some (y, r) → 0 ≤ y ∧ y < 4294967296
  | 0, m, a, x, P, y, r, hx, h => by
    injection h with h; injection h with h1 h2
    subst h1; exact hx
  | f + 1, m, a, x, P, y, r, hx, h => by
    by_cases hm : m ≤ 1
    · rw [chk_done _ _ _ _ _ hm] at h
      injection h with h; injection h with h1 h2
      subst h1; exact hx
    · by_cases hs : a ^^^ 1 < m
      · rcases P with _ | ⟨p, P⟩
        · rw [chk_none f m a x hm hs] at h; cases h
        · rw [chk_take f m a x p P hm hs] at h
          refine chk_in f _ _ _ _ _ _ ?_ h
          split
          · exact nodeN_in _ _
          · exact nodeN_in _ _
      · rw [chk_skip f m a x P hm hs] at h
        exact chk_in f _ _ _ _ _ _ hx h
theorem checkB_of {root m a : Int} {s : ByteArray} {P : List Int} (h : checkB root m a s P = true) : chk m.toNat m.toNat a.toNat (leafN a s.data.toList) P = some (root, []) := by
  simp only [checkB, Bool.and_eq_true, decide_eq_true_eq] at h
  rcases hR : chk m.toNat m.toNat a.toNat (leafN a s.data.toList) P with _ | ⟨x, r⟩
  · rw [hR] at h; simp [topB] at h
  · rw [hR] at h
    have h4 := h.2.2.2
    simp only [topB, Bool.and_eq_true, decide_eq_true_eq, List.isEmpty_iff] at h4
    rw [h4.1, h4.2]
theorem checkB_less {root m a : Int} {s : ByteArray} {p : Int} {P : List Int} (h : checkB root m a s (p :: P) = true) : checkB root m a s P = false := by
  rcases h2 : checkB root m a s P with _ | _
  · rfl
  · have := chk_cnt _ _ _ _ _ _ _ _ _ _ _ (checkB_of h) (checkB_of h2)
    simp only [List.length_cons, List.length_nil] at this
    omega
theorem checkB_other {root root' m a : Int} {s : ByteArray} {P : List Int} (h : checkB root m a s P = true) (hne : root' ≠ root) : checkB root' m a s P = false := by
  rcases h2 : checkB root' m a s P with _ | _
  · rfl
  · have h3 := (checkB_of h).symm.trans (checkB_of h2)
    injection h3 with h3; injection h3 with h3 h4
    exact absurd h3.symm hne
theorem checkB_root {root m a : Int} {s : ByteArray} {P : List Int} (h : checkB root m a s P = true) : 0 ≤ root ∧ root < 4294967296 :=
  chk_in _ _ _ _ _ _ _ (leafN_in _ _) (checkB_of h)
theorem xor_ne (n : Nat) : n ^^^ 1 ≠ n := by
  intro h
  have h2 : n ^^^ (n ^^^ 1) = n ^^^ n := by rw [h]
  rw [← Nat.xor_assoc, Nat.xor_self, Nat.zero_xor] at h2
  cases h2

set_option maxRecDepth 100000 in
set_option maxHeartbeats 8000000 in
theorem lawPieceCheck {w : World} {A : Option Addr} {n c : Nat} (hm : n ≤ maxLen) (hc : n ≤ c) (hb : InB w A n) (ht : Tab w) :
    Calls Tryd.prog 4 #[.slice A n c] w fun e w' => e = .returned (.bool true) ∧ Below w.heap.size w w' := by
  have HB := Lib.hid hb
  have HT := Lib.hid ht
  unfold maxLen at hm
  clear hb ht
  by_cases hn : ¬ n ≤ 1048576
  · have e1 : decide ((1048576 : Int) < (n : Int)) = true := by simp; omega
    go_enter Tryd.func4, Tryd.ntmps4
    go_wp2
    go_ret
    exact ⟨rfl, Below.refl _ _⟩
  have hn : n ≤ 1048576 := by omega
  have e1 : decide ((1048576 : Int) < (n : Int)) = false := by simp; omega
  go_enter Tryd.func4, Tryd.ntmps4
  go_wp2_with (fail)
  refine (drawPieceCheck hn hc HB.out).mono ?_
  rintro e w1 ⟨root, m0, a0, s, G, k, d, P, rfl, hs, ⟨hk, hk2, hk3⟩, hr, h6, hb⟩
  have HR := Lib.hid hr
  have HI := Lib.hid h6
  have HT := Lib.hid (Tab.below HT.out hb)
  have Z := Lib.hid hb
  subst hk
  have hl : P.length ≤ 1048576 := by omega
  obtain ⟨cb, hcb⟩ : ∃ x, checkB root m0 a0 s P = x := ⟨_, rfl⟩
  have HCB := Lib.hid hcb
  clear hr h6 hb HB hcb
  go_wp2_with (fail)
  refine (implPieceCheck root m0 a0 s G d P _ hs hl hk3 HR.out HI.out HT.out).mono ?_
  rintro e w2 ⟨rfl, hb⟩
  rw [HCB.out]
  have HR := Lib.hid (InI.bel HR.out hb)
  have HT := Lib.hid (Tab.below HT.out hb)
  have Z := Lib.hid (Below.and Z.out hb)
  clear hb
  rcases cb with _ | _
  · -- no
    go_wp2_with (fail)
    refine (specPieceCheck root m0 a0 s G d P _ hs hl HR.out HI.out).mono ?_
    rintro e w3 ⟨rfl, hb⟩
    rw [HCB.out]
    have HR := Lib.hid (InI.bel HR.out hb)
    have HT := Lib.hid (Tab.below HT.out hb)
    have Z := Lib.hid (Below.and Z.out hb)
    clear hb
    go_wp2_with (fail)
    refine (specPieceCheck root m0 a0 s G d P _ hs hl HR.out HI.out).mono ?_
    rintro e w4 ⟨rfl, hb⟩
    rw [HCB.out]
    have HR := Lib.hid (InI.bel HR.out hb)
    have HT := Lib.hid (Tab.below HT.out hb)
    have Z := Lib.hid (Below.and Z.out hb)
    clear hb
    go_wp2
    go_light
    go_ret
    exact ⟨rfl, Z.out⟩
  rcases P with _ | ⟨p, Q⟩
  · -- no sums
    have HCB0 := HCB
    go_wp2_with (fail)
    refine (specPieceCheck root m0 a0 s G d [] _ hs hl HR.out HI.out).mono ?_
    rintro e w3 ⟨rfl, hb⟩
    rw [HCB.out]
    have HR := Lib.hid (InI.bel HR.out hb)
    have Z := Lib.hid (Below.and Z.out hb)
    clear hb
    go_wp2_with (fail)
    refine (specPieceCheck root m0 a0 s G d [] _ hs hl HR.out HI.out).mono ?_
    rintro e w4 ⟨rfl, hb⟩
    rw [HCB.out]
    have Z := Lib.hid (Below.and Z.out hb)
    clear hb
    go_wp2
    go_light
    go_ret
    exact ⟨rfl, Z.out⟩
  · obtain ⟨b, off, rfl, _⟩ := HR.out 0 (by simp)
    have HLS := Lib.hid (checkB_less HCB.out)
    have hrt := checkB_root HCB.out
    obtain ⟨rn, rfl⟩ : ∃ x : Nat, root = (x : Int) := ⟨root.toNat, by omega⟩
    have ex := i64_xorC rn 1 (by omega) (by omega)
    have ex : bits .xor .i64 (rn : Int) 1 = ((rn ^^^ 1 : Nat) : Int) := ex
    have HOT := Lib.hid (checkB_other (root' := ((rn ^^^ 1 : Nat) : Int)) HCB.out (by have := xor_ne rn; omega))
    obtain ⟨rx, hrx⟩ : ∃ x, x = rn ^^^ 1 := ⟨_, rfl⟩
    rw [← hrx] at ex HOT
    obtain ⟨k, hk⟩ : ∃ n, n = Q.length := ⟨_, rfl⟩
    have hk1 : (p :: Q).length = k + 1 := by simp [hk]
    have HK := Lib.hid hk1
    have HQ := Lib.hid hk
    rw [hk1] at hk2 hk3 hl ⊢
    have i5 : (((k + 1 : Nat) : Int) == 0) = false := by rw [beq_eq_false_iff_ne]; omega
    clear hk hk1 hrx hrt
    go_wp2_with (fail)
    rw [← HK.out]
    refine (specPieceCheck (rn : Int) m0 a0 s (some ⟨b, off, none⟩) d (p :: Q) _ hs (by rw [HK.out]; exact hl) HR.out HI.out).mono ?_
    rintro e w3 ⟨rfl, hb⟩
    rw [HCB.out, HK.out]
    have HR := Lib.hid (InI.bel HR.out hb)
    have HT := Lib.hid (Tab.below HT.out hb)
    have Z := Lib.hid (Below.and Z.out hb)
    clear hb
    by_cases h1d : d = 1
    · subst h1d
      obtain rfl : k = 0 := by omega
      have hq0 : Q = [] := List.length_eq_zero_iff.1 HQ.out.symm
      subst hq0
      have HR2 : Hid (InI w3 (some ⟨b, off, none⟩) []) := fun i hi => absurd hi (by simp)
      have HI2 := Lib.hid (fun y hy => HI.out y (List.mem_cons_of_mem _ hy) : ∀ y ∈ [], I64 y)
      go_wp2_with (fail)
      refine (implPieceCheck (rn : Int) m0 a0 s (some ⟨b, off, none⟩) 0 [] _ hs (by simp) (by simp) HR2.out HI2.out HT.out).mono ?_
      rintro e w4 ⟨rfl, hb⟩
      rw [HLS.out]
      have HR := Lib.hid (InI.bel HR.out hb)
      have HT := Lib.hid (Tab.below HT.out hb)
      have Z := Lib.hid (Below.and Z.out hb)
      clear hb HR2 HI2
      go_wp2_with (fail)
      refine (implPieceCheck (rx : Int) m0 a0 s (some ⟨b, off, none⟩) 1 [p] _ hs (by simp) (by simp) HR.out HI.out HT.out).mono ?_
      rintro e w5 ⟨rfl, hb⟩
      rw [HOT.out]
      have Z := Lib.hid (Below.and Z.out hb)
      clear hb
      go_wp2
      go_light
      go_ret
      exact ⟨rfl, Z.out⟩
    ·
      have HR2 := Lib.hid (InI.tail HR.out)
      have HI2 := Lib.hid (fun y hy => HI.out y (List.mem_cons_of_mem _ hy) : ∀ y ∈ Q, I64 y)
      go_wp2_with (fail)
      rw [HQ.out]
      refine (implPieceCheck (rn : Int) m0 a0 s (some ⟨b, off + 1, none⟩) (d - 1) Q _ hs (by rw [← HQ.out]; omega) (by rw [← HQ.out]; omega) HR2.out HI2.out HT.out).mono ?_
      rintro e w4 ⟨rfl, hb⟩
      rw [HLS.out, ← HQ.out]
      have HR := Lib.hid (InI.bel HR.out hb)
      have HT := Lib.hid (Tab.below HT.out hb)
      have Z := Lib.hid (Below.and Z.out hb)
      clear hb HR2 HI2
      go_wp2_with (fail)
      rw [← HK.out]
      refine (implPieceCheck (rx : Int) m0 a0 s (some ⟨b, off, none⟩) d (p :: Q) _ hs (by rw [HK.out]; exact hl) (by rw [HK.out]; exact hk3) HR.out HI.out HT.out).mono ?_
      rintro e w5 ⟨rfl, hb⟩
      rw [HOT.out]
      have Z := Lib.hid (Below.and Z.out hb)
      clear hb
      go_wp2
      go_light
      go_ret
      exact ⟨rfl, Z.out⟩
end Go.Proofs.YtmnephaechgffaaDoor
