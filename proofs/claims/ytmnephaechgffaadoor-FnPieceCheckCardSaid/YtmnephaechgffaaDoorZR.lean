/- Pr, Ps -/
import Derived.Test.YtmnephaechgffaaDoorPo
import Derived.Test.YtmnephaechgffaaDoorMem2
/- A piece and its sums: the program's way. -/
namespace Go.Proofs.YtmnephaechgffaaDoor
open Go.ChangeShapes Go.WideShapes Go.ChangeAt Go.RowKit
set_option linter.unusedVariables false
set_option linter.unusedSimpArgs false

/-- What PieceCheck answers, out of the top. -/
def topB (root : Int) : Option (Int × List Int) → Bool
  | none => false
  | some (x, r) => decide (x = root) && r.isEmpty
def checkB (root many at' : Int) (s : ByteArray) (P : List Int) : Bool :=
  inB many 1 16 && (inB at' 0 (many - 1) && (decide (s.size ≤ 12) && topB root (chk many.toNat many.toNat at'.toNat (leafN at' s.data.toList) P)))
theorem leafN_64' (n : Int) (s : List UInt8) : I64 (leafN n s) := by have := leafN_in n s; exact ⟨by omega, by omega⟩
theorem nodeN_64' (a b : Int) : I64 (nodeN a b) := by have := nodeN_in a b; exact ⟨by omega, by omega⟩
theorem half_up' (m : Nat) : ((m : Int) + 1).tdiv 2 = (((m + 1) / 2 : Nat) : Int) := by
  rw [Int.tdiv_eq_ediv_of_nonneg (by omega)]; omega
theorem half_dn' (a : Nat) : (a : Int).tdiv 2 = ((a / 2 : Nat) : Int) := by
  rw [Int.tdiv_eq_ediv_of_nonneg (by omega)]; omega
theorem inB_of {x lo hi : Int} (h : inB x lo hi = true) : lo ≤ x ∧ x ≤ hi := by
  simpa [inB] using h
theorem InI.tail {w : World} {b off : Nat} {p : Int} {Q : List Int} (h : InI w (some ⟨b, off, none⟩) (p :: Q)) : InI w (some ⟨b, off + 1, none⟩) Q := fun i hi => by
  obtain ⟨b', off', e, hc⟩ := h (i + 1) (by simp; omega)
  cases e
  exact ⟨b, off + 1, rfl, by rw [show off + 1 + i = off + (i + 1) by omega, hc]; simp⟩

set_option maxRecDepth 100000 in
set_option maxHeartbeats 8000000 in
theorem implPieceCheck (root m0 a0 : Int) (s : ByteArray) (A : Option Addr) (c : Nat) (P : List Int) (w : World) (hs : s.size ≤ 1048576) (hl : P.length ≤ 1048576) (hcap : P.length ≤ c) (hr : InI w A P) (hi : ∀ x ∈ P, I64 x) (ht : Tab w) :
    Calls Tryd.prog 13 #[.int .i64 root, .int .i64 m0, .int .i64 a0, .string s, .slice A P.length c] w fun e w' => e = .returned (.bool (checkB root m0 a0 s P)) ∧ Below w.heap.size w w' := by
  have HR := Lib.hid hr
  have HI := Lib.hid hi
  have HT := Lib.hid ht
  clear hr hi ht
  rcases h1 : inB m0 1 16 with _ | _
  · have H1 := Lib.hid h1
    clear h1
    go_enter Tryd.func13, Tryd.ntmps13
    go_wp2_with (fail)
    refine (implIn _ _ _ _).mono ?_
    rintro e w' ⟨rfl, rfl⟩
    rw [H1.out]
    go_wp2
    go_light
    go_ret
    exact ⟨ret_bool (by rw [checkB, H1.out]; rfl), Below.refl _ _⟩
  obtain ⟨b1, b2⟩ := inB_of h1
  have hw : IntKind.i64.wrap (m0 - 1) = m0 - 1 := IntWalk.i64_in _ (by omega)
  have H1 := Lib.hid h1
  clear h1
  rcases h2 : inB a0 0 (m0 - 1) with _ | _
  · have H2 := Lib.hid h2
    clear h2
    go_enter Tryd.func13, Tryd.ntmps13
    go_wp2_with (fail)
    refine (implIn _ _ _ _).mono ?_
    rintro e w' ⟨rfl, rfl⟩
    rw [H1.out]
    go_wp2_with (fail)
    refine (implIn _ _ _ _).mono ?_
    rintro e w' ⟨rfl, rfl⟩
    rw [H2.out]
    go_wp2
    go_light
    go_ret
    exact ⟨ret_bool (by rw [checkB, H2.out]; simp), Below.refl _ _⟩
  obtain ⟨b3, b4⟩ := inB_of h2
  have H2 := Lib.hid h2
  clear h2
  by_cases h3 : ¬ s.size ≤ 12
  · have i3 : (12 : Int) < (s.size : Int) := by omega
    have H3 := Lib.hid h3
    clear h3
    go_enter Tryd.func13, Tryd.ntmps13
    go_wp2_with (fail)
    refine (implIn _ _ _ _).mono ?_
    rintro e w' ⟨rfl, rfl⟩
    rw [H1.out]
    go_wp2_with (fail)
    refine (implIn _ _ _ _).mono ?_
    rintro e w' ⟨rfl, rfl⟩
    rw [H2.out]
    go_wp2
    go_light
    go_ret
    exact ⟨ret_bool (by rw [checkB, decide_eq_false H3.out]; simp), Below.refl _ _⟩
  have i3 : ¬ (12 : Int) < (s.size : Int) := by omega
  have H3 := Lib.hid (show s.size ≤ 12 by omega)
  clear h3
  have hCB : checkB root m0 a0 s P = topB root (chk m0.toNat m0.toNat a0.toNat (leafN a0 s.data.toList) P) := by
    rw [checkB, H1.out, H2.out, decide_eq_true H3.out]; rfl
  obtain ⟨m1, rfl⟩ : ∃ n : Nat, m0 = (n : Int) := ⟨m0.toNat, by omega⟩
  obtain ⟨a1, rfl⟩ : ∃ n : Nat, a0 = (n : Int) := ⟨a0.toNat, by omega⟩
  rw [Int.toNat_natCast, Int.toNat_natCast] at hCB
  have hm1 : m1 ≤ 16 := by omega
  have ha1 : a1 < 16 := by omega
  have HS := Lib.hid (show s.data.toList.length ≤ 1048000 by have := H3.out; simp; omega)
  have X0 := Lib.hid (leafN_64' (a1 : Int) s.data.toList)
  obtain ⟨x0, hx0⟩ : ∃ X, X = leafN (a1 : Int) s.data.toList := ⟨_, rfl⟩
  rw [← hx0] at X0 hCB
  have HX := Lib.hid hx0
  obtain ⟨R, hR⟩ : ∃ X, X = chk m1 m1 a1 x0 P := ⟨_, rfl⟩
  rw [← hR] at hCB
  have HRR := Lib.hid hR
  have HCB := Lib.hid hCB
  clear hx0 hR hCB b1 b2 b3 b4
  go_enter Tryd.func13, Tryd.ntmps13
  go_wp2_with (fail)
  refine (implIn _ _ _ _).mono ?_
  rintro e w' ⟨rfl, rfl⟩
  rw [H1.out]
  go_wp2_with (fail)
  refine (implIn _ _ _ _).mono ?_
  rintro e w' ⟨rfl, rfl⟩
  rw [H2.out]
  clear hw
  go_wp2_with (fail)
  refine (leafI (a1 : Int) s.data.toList _ ⟨by omega, by omega⟩ HS.out HT.out).mono ?_
  rw [← HX.out]
  rintro e w1 ⟨rfl, hb⟩
  have HB1 := Lib.hid hb
  have HT1 := Lib.hid (Tab.below HT.out hb)
  have HR1 : Hid (InI w1 A P) := fun i hi => by
    obtain ⟨b, off, e, hc⟩ := HR.out i hi
    exact ⟨b, off, e, cell_kept hb hc⟩
  clear hb HX HS H1 H2 H3 i3 HR
  go_wp2
  go_loopw [2, 4, 11, 12] (fun av pv xv mv wr => ∃ (f m a d : Nat) (x : Int) (B : Option Addr) (Q : List Int), av = .int .i64 (a : Int) ∧ pv = .slice B Q.length d ∧ xv = .int .i64 x ∧ mv = .int .i64 (m : Int) ∧ m ≤ 16 ∧ m ≤ f + 1 ∧ a < 16 ∧ Q.length ≤ 1048576 ∧ Q.length ≤ d ∧ Hid (I64 x) ∧ Hid (∀ y ∈ Q, I64 y) ∧ Hid (InI wr B Q) ∧ Hid (Tab wr) ∧ Hid (R = chk f m a x Q) ∧ Hid (Below w.heap.size w wr)) (fun _ _ _ mv _ => (intOf mv).toNat)
  case atStart => exact ⟨m1, m1, a1, c, x0, A, P, rfl, rfl, rfl, rfl, hm1, by omega, ha1, hl, hcap, X0.out, HI.out, HR1.out, HT1.out, HRR.out, HB1.out⟩
  case round =>
    obtain ⟨f, m, a, d, x, B, Q, rfl, rfl, rfl, rfl, h16, hf, ha, hq1, hq2, hx, hI, hr, ht, hc, hb⟩ := hrel
    clear HRR HB1 HT1 HR1 X0 HI
    by_cases h1 : m ≤ 1
    · have HC : Hid (R = some (x, Q)) := hc.out.trans (chk_done f m a x _ h1)
      have i1 : ¬ (1 : Int) < (m : Int) := by omega
      have HE : Hid (((Q.length : Int) == 0) = Q.isEmpty) := by cases Q with
        | nil => rfl
        | cons y t => show (((y :: t).length : Int) == 0) = false; rw [beq_eq_false_iff_ne]; simp; omega
      have HV := Lib.hid (show checkB root (m1 : Int) (a1 : Int) s P = ((x == root) && ((Q.length : Int) == 0)) by
        rw [HCB.out, HC.out, HE.out]; show (decide (x = root) && _) = _; congr 1)
      clear hc hf h16 ha HC HE
      obtain ⟨q, hq⟩ : ∃ n, n = Q.length := ⟨_, rfl⟩
      rw [← hq] at HV ⊢
      clear hq hq1 hq2
      rcases hxr : (x == root) with _ | _
      · go_wp2
        go_light
        go_ret
        exact ⟨ret_bool (by rw [HV.out, hxr]; rfl), hb.out⟩
      · go_wp2
        go_light
        go_ret
        exact ⟨ret_bool (by rw [HV.out, hxr]; rfl), hb.out⟩
    · obtain ⟨f, rfl⟩ : ∃ g, f = g + 1 := ⟨f - 1, by omega⟩
      have i1 : (1 : Int) < (m : Int) := by omega
      have hq := half_dn' a
      have hw : IntKind.i64.wrap ((m : Int) + 1) = (m : Int) + 1 := IntWalk.i64_in _ (by omega)
      have hq2' := half_up' m
      have HSK := Lib.hid (chk_skip f m a x Q h1)
      have HNO := Lib.hid (chk_none f m a x h1)
      have HTK := Lib.hid (fun p P' => chk_take f m a x p P' h1)
      have HSE := Lib.hid (sib_even a ha)
      have HSI := Lib.hid (siblingI a m)
      obtain ⟨sb, hsb⟩ : ∃ X, X = a ^^^ 1 := ⟨_, rfl⟩
      rw [← hsb] at HSK HNO HTK HSE HSI
      clear hsb
      obtain ⟨a2, ha2⟩ : ∃ X, X = a / 2 := ⟨_, rfl⟩
      obtain ⟨m2, hm2⟩ : ∃ X, X = (m + 1) / 2 := ⟨_, rfl⟩
      rw [← ha2] at hq HSK HTK
      rw [← hm2] at hq2' HSK HTK
      have A2 : a2 < 16 := by omega
      have M2 : m2 ≤ 16 := by omega
      have M3 : m2 ≤ f + 1 := by omega
      have M4 : m2 < m := by omega
      have wa : IntKind.i64.wrap (a2 : Int) = (a2 : Int) := IntWalk.i64_in _ (by omega)
      have wm : IntKind.i64.wrap (m2 : Int) = (m2 : Int) := IntWalk.i64_in _ (by omega)
      clear ha2 hm2
      by_cases hs : sb < m
      · have hd : decide (sb < m) = true := decide_eq_true hs
        have HSM := Lib.hid hs
        clear hs
        rcases Q with _ | ⟨p, Q⟩
        · have HC : Hid (R = none) := hc.out.trans (HNO.out HSM.out)
          clear HSK HNO HTK HSE hc hq hw hq2' wa wm
          go_wp2_with (fail)
          refine (HSI.out _ ha).mono ?_
          rintro e w' ⟨rfl, rfl⟩
          rw [hd]
          go_wp2
          go_light
          go_ret
          exact ⟨ret_bool (by rw [HCB.out, HC.out]; rfl), hb.out⟩
        · obtain ⟨b, off, rfl, hc1⟩ := hr.out 0 (by simp)
          have hc1 : wr.cell? ⟨b, off, none⟩ = some (.int .i64 p) := by simpa using hc1
          have HTL := Lib.hid (InI.tail hr.out)
          have HP := Lib.hid (hI.out p (by simp))
          have HI2 := Lib.hid (fun y hy => hI.out y (List.mem_cons_of_mem _ hy) : ∀ y ∈ Q, I64 y)
          have HN := Lib.hid (HTK.out p Q HSM.out)
          obtain ⟨k, hk⟩ : ∃ n, n = Q.length := ⟨_, rfl⟩
          have hk1 : (p :: Q).length = k + 1 := by simp [hk]
          rw [hk1] at hq1 hq2 ⊢
          have i4 : (0 : Int) < ((k + 1 : Nat) : Int) := by omega
          have i5 : (((k + 1 : Nat) : Int) == 0) = false := by rw [beq_eq_false_iff_ne]; omega
          have HK := Lib.hid hk
          clear hk hk1 hI hr HSK HNO HTK
          rcases Nat.mod_two_eq_zero_or_one a with he | he
          · have i6 : ¬ (sb : Int) < (a : Int) := by have := HSE.out.1 he; omega
            have HT2 : Hid (R = chk f m2 a2 (nodeN x p) Q) := by
              have h := hc.out.trans HN.out
              rw [if_pos he] at h
              exact h
            clear he hc HSE HN
            go_wp2_with (fail)
            refine (HSI.out _ ha).mono ?_
            rintro e w' ⟨rfl, rfl⟩
            rw [hd]
            go_wp2_with (fail)
            refine (nodeI x p _ hx.out HP.out ht.out).mono ?_
            rintro e w2 ⟨rfl, hb2⟩
            have Z := Lib.hid (Below.and hb.out hb2)
            have HT3 := Lib.hid (Tab.below ht.out hb2)
            have HTL2 : Hid (InI w2 (some ⟨b, off + 1, none⟩) Q) := fun i hi => by
              obtain ⟨b', off', e, hc⟩ := HTL.out i hi
              exact ⟨b', off', e, cell_kept hb2 hc⟩
            have HNN := Lib.hid (nodeN_64' x p)
            have HTL3 : Hid (InI w2 (if d = 1 then some ⟨b, off, none⟩ else some ⟨b, off + 1, none⟩) Q) := by
              by_cases h : d = 1
              · intro i hi
                have := HK.out
                omega
              · rw [if_neg h]; exact HTL2.out
            clear hb2 hc1 HTL ht HTL2
            go_wp2
            go_roundw
            case rel => exact ⟨f, m2, a2, d - 1, nodeN x p, (if d = 1 then some ⟨b, off, none⟩ else some ⟨b, off + 1, none⟩), Q, by first | rfl | go_num, by rw [← HK.out], rfl, by first | rfl | go_num, M2, M3, A2, by rw [← HK.out]; omega, by rw [← HK.out]; omega, HNN.out, HI2.out, HTL3.out, HT3.out, HT2.out, Z.out⟩
            case measure => (simp [intOf]; try omega)
          · have i6 : (sb : Int) < (a : Int) := by have := HSE.out.2 (by omega); omega
            have HT2 : Hid (R = chk f m2 a2 (nodeN p x) Q) := by
              have h := hc.out.trans HN.out
              rw [if_neg (by omega)] at h
              exact h
            clear he hc HSE HN
            go_wp2_with (fail)
            refine (HSI.out _ ha).mono ?_
            rintro e w' ⟨rfl, rfl⟩
            rw [hd]
            go_wp2_with (fail)
            refine (nodeI p x _ HP.out hx.out ht.out).mono ?_
            rintro e w2 ⟨rfl, hb2⟩
            have Z := Lib.hid (Below.and hb.out hb2)
            have HT3 := Lib.hid (Tab.below ht.out hb2)
            have HTL2 : Hid (InI w2 (some ⟨b, off + 1, none⟩) Q) := fun i hi => by
              obtain ⟨b', off', e, hc⟩ := HTL.out i hi
              exact ⟨b', off', e, cell_kept hb2 hc⟩
            have HNN := Lib.hid (nodeN_64' p x)
            have HTL3 : Hid (InI w2 (if d = 1 then some ⟨b, off, none⟩ else some ⟨b, off + 1, none⟩) Q) := by
              by_cases h : d = 1
              · intro i hi
                have := HK.out
                omega
              · rw [if_neg h]; exact HTL2.out
            clear hb2 hc1 HTL ht HTL2
            go_wp2
            go_roundw
            case rel => exact ⟨f, m2, a2, d - 1, nodeN p x, (if d = 1 then some ⟨b, off, none⟩ else some ⟨b, off + 1, none⟩), Q, by first | rfl | go_num, by rw [← HK.out], rfl, by first | rfl | go_num, M2, M3, A2, by rw [← HK.out]; omega, by rw [← HK.out]; omega, HNN.out, HI2.out, HTL3.out, HT3.out, HT2.out, Z.out⟩
            case measure => (simp [intOf]; try omega)
      · have hd : decide (sb < m) = false := decide_eq_false hs
        have HT2 : Hid (R = chk f m2 a2 x Q) := hc.out.trans (HSK.out hs)
        clear HSK HNO HTK HSE hc hs
        obtain ⟨q, hq'⟩ : ∃ n, n = Q.length := ⟨_, rfl⟩
        rw [← hq'] at hq1 hq2 ⊢
        have HQ := Lib.hid hq'
        clear hq'
        go_wp2_with (fail)
        refine (HSI.out _ ha).mono ?_
        rintro e w' ⟨rfl, rfl⟩
        rw [hd]
        go_wp2
        go_roundw
        case rel => exact ⟨f, m2, a2, d, x, B, Q, by first | rfl | go_num, by rw [← HQ.out], rfl, by first | rfl | go_num, M2, M3, A2, by rw [← HQ.out]; omega, by rw [← HQ.out]; omega, hx.out, hI.out, hr.out, ht.out, HT2.out, hb.out⟩
        case measure => (simp [intOf]; try omega)
end Go.Proofs.YtmnephaechgffaaDoor

/- A piece and its sums: the model's way. -/
namespace Go.Proofs.YtmnephaechgffaaDoor
open Go.ChangeShapes Go.WideShapes Go.ChangeAt Go.RowKit
set_option linter.unusedVariables false
set_option linter.unusedSimpArgs false

def outN : Option (Int × List Int) → Int
  | none => 0
  | some (x, _) => x
def outB : Option (Int × List Int) → Bool
  | none => false
  | some (_, r) => r.isEmpty
theorem topB_out (root : Int) (R : Option (Int × List Int)) : topB root R = (outB R && (outN R == root)) := by
  rcases R with _ | ⟨x, r⟩
  · rfl
  · show (decide (x = root) && r.isEmpty) = (r.isEmpty && (x == root)); rw [Bool.and_comm]; congr 1
theorem odd_even (a : Nat) : (a : Int).tmod 2 = ((a % 2 : Nat) : Int) := by
  rw [Int.tmod_eq_emod_of_nonneg (by omega)]; omega
theorem drop_emptyI (P : List Int) (u : Nat) (h : u ≤ P.length) : ((u : Int) == (P.length : Int)) = (P.drop u).isEmpty := by
  rcases Nat.lt_or_ge u P.length with h1 | h1
  · have e1 : ((u : Int) == (P.length : Int)) = false := by
      rw [beq_eq_false_iff_ne]; omega
    rw [e1, List.drop_eq_getElem_cons h1]
    rfl
  · have e1 : ((u : Int) == (P.length : Int)) = true := by
      rw [beq_iff_eq]; omega
    rw [e1, List.drop_of_length_le h1]
    rfl

set_option maxRecDepth 100000 in
set_option maxHeartbeats 8000000 in
theorem specL12C (m0 a0 : Nat) (s : ByteArray) (A : Option Addr) (c : Nat) (P : List Int) (w : World) (hm0 : m0 ≤ 16) (ha0 : a0 < 16) (hs : s.size ≤ 12) (hl : P.length ≤ 1048576) (hr : InI w A P) (hi : ∀ x ∈ P, I64 x) :
    Calls Tryd.prog 38 #[.int .i64 (a0 : Int), .int .i64 (m0 : Int), .string s, .slice A P.length c] w fun e w' => e = .returned (.tuple #[.int .i64 (outN (chk m0 m0 a0 (leafN (a0 : Int) s.data.toList) P)), .bool (outB (chk m0 m0 a0 (leafN (a0 : Int) s.data.toList) P))]) ∧ Below w.heap.size w w' := by
  have HR := Lib.hid hr
  have HI := Lib.hid hi
  have HS := Lib.hid (show s.data.toList.length ≤ 1048000 by simp; omega)
  have X0 := Lib.hid (leafN_64' (a0 : Int) s.data.toList)
  obtain ⟨x0, hx0⟩ : ∃ X, X = leafN (a0 : Int) s.data.toList := ⟨_, rfl⟩
  rw [← hx0] at X0 ⊢
  have HX := Lib.hid hx0
  obtain ⟨R, hR⟩ : ∃ X, X = chk m0 m0 a0 x0 P := ⟨_, rfl⟩
  rw [← hR]
  have HRR := Lib.hid hR
  obtain ⟨pl, hpl⟩ : ∃ n, n = P.length := ⟨_, rfl⟩
  rw [← hpl] at hl ⊢
  have HPL := Lib.hid hpl
  clear hr hi hs hx0 hR hpl
  go_enter Tryd.func38, Tryd.ntmps38
  go_wp2_with (fail)
  refine (leafS (a0 : Int) s.data.toList _ ⟨by omega, by omega⟩ HS.out).mono ?_
  rw [← HX.out]
  rintro e w1 ⟨rfl, hb⟩
  have HB1 := Lib.hid hb
  clear hb HX HS
  go_wp2
  go_loopw [0, 1, 10, 11] (fun av mv xv uv wr => ∃ (f m a u : Nat) (x : Int), av = .int .i64 (a : Int) ∧ mv = .int .i64 (m : Int) ∧ xv = .int .i64 x ∧ uv = .int .i64 (u : Int) ∧ m ≤ 16 ∧ m ≤ f + 1 ∧ a < 16 ∧ u ≤ pl ∧ Hid (I64 x) ∧ Hid (R = chk f m a x (P.drop u)) ∧ Hid (Below w.heap.size w wr)) (fun _ mv _ _ _ => (intOf mv).toNat)
  case atStart => exact ⟨m0, m0, a0, 0, x0, rfl, rfl, rfl, rfl, hm0, by omega, ha0, Nat.zero_le _, X0.out, HRR.out, HB1.out⟩
  case round =>
    obtain ⟨f, m, a, u, x, rfl, rfl, rfl, rfl, h16, hf, ha, hu, hx, hc, hb⟩ := hrel
    clear HRR HB1 X0
    by_cases h1 : m ≤ 1
    · have HC : Hid (R = some (x, P.drop u)) := hc.out.trans (chk_done f m a x _ h1)
      have HE : Hid (((u : Int) == (pl : Int)) = (P.drop u).isEmpty) := by
        have := drop_emptyI P u (by rw [← HPL.out]; omega)
        rw [← HPL.out] at this
        exact this
      have i1 : ¬ (1 : Int) < (m : Int) := by omega
      clear hc hf h16 ha
      go_wp2
      go_light
      go_ret2
      exact ⟨by rw [HC.out]; show _ = Ending.returned (.tuple #[.int .i64 x, .bool (P.drop u).isEmpty]); rw [← HE.out]; rfl, hb.out⟩
    · obtain ⟨f, rfl⟩ : ∃ g, f = g + 1 := ⟨f - 1, by omega⟩
      have i1 : (1 : Int) < (m : Int) := by omega
      have ex := i64_xorC a 1 (by omega) (by omega)
      have ex : bits .xor .i64 (a : Int) 1 = ((a ^^^ 1 : Nat) : Int) := ex
      have hq := half_dn' a
      have hw : IntKind.i64.wrap ((m : Int) + 1) = (m : Int) + 1 := IntWalk.i64_in _ (by omega)
      have hq2' := half_up' m
      have HSK := Lib.hid (chk_skip f m a x (P.drop u) h1)
      have HNO := Lib.hid (chk_none f m a x h1)
      have HTK := Lib.hid (fun p P' => chk_take f m a x p P' h1)
      obtain ⟨sb, hsb⟩ : ∃ X, X = a ^^^ 1 := ⟨_, rfl⟩
      rw [← hsb] at ex HSK HNO HTK
      clear hsb
      obtain ⟨a2, ha2⟩ : ∃ X, X = a / 2 := ⟨_, rfl⟩
      obtain ⟨m2, hm2⟩ : ∃ X, X = (m + 1) / 2 := ⟨_, rfl⟩
      rw [← ha2] at hq HSK HTK
      rw [← hm2] at hq2' HSK HTK
      have A2 : a2 < 16 := by omega
      have M2 : m2 ≤ 16 := by omega
      have M3 : m2 ≤ f + 1 := by omega
      have M4 : m2 < m := by omega
      have wa : IntKind.i64.wrap (a2 : Int) = (a2 : Int) := IntWalk.i64_in _ (by omega)
      have wm : IntKind.i64.wrap (m2 : Int) = (m2 : Int) := IntWalk.i64_in _ (by omega)
      clear ha2 hm2
      by_cases hs : sb < m
      · have i2 : (sb : Int) < (m : Int) := by omega
        have HSM := Lib.hid hs
        clear hs
        by_cases hlt : u < pl
        · have i3 : ¬ (pl : Int) ≤ (u : Int) := by omega
          have i4 : (u : Int) < (pl : Int) := by omega
          have i5 : (0 : Int) ≤ (u : Int) := by omega
          have hlt' : u < P.length := by rw [← HPL.out]; exact hlt
          obtain ⟨b, off, rfl, hc0⟩ := HR.out u hlt'
          have hc1 := cell_kept hb.out hc0
          have HP := Lib.hid (HI.out _ (List.getElem_mem hlt'))
          have HD := Lib.hid (List.drop_eq_getElem_cons hlt')
          obtain ⟨p, hp⟩ : ∃ X, X = P[u] := ⟨_, rfl⟩
          rw [← hp] at hc1 HP HD
          clear hc0 hp hlt'
          have HT : Hid (R = chk f m2 a2 (if a % 2 = 0 then nodeN x p else nodeN p x) (P.drop (u + 1))) := by
            have h := hc.out
            rw [HD.out, HTK.out p _ HSM.out] at h
            exact h
          clear HSK HNO HTK hc HD HSM
          have wu : IntKind.i64.wrap ((u : Int) + 1) = (u : Int) + 1 := IntWalk.i64_in _ (by omega)
          rcases Nat.mod_two_eq_zero_or_one a with he | he
          ·
            have ht : (a : Int).tmod 2 = 0 := by rw [odd_even, he]; rfl
            have HT2 : Hid (R = chk f m2 a2 (nodeN x p) (P.drop (u + 1))) := by
              have h := HT.out
              rw [if_pos he] at h
              exact h
            clear HT he
            go_wp2_with (fail)
            refine (nodeS x p _ hx.out HP.out).mono ?_
            rintro e w2 ⟨rfl, hb2⟩
            have Z := Lib.hid (Below.and hb.out hb2)
            have HN := Lib.hid (nodeN_64' x p)
            clear hb2 hc1
            go_wp2
            go_roundw
            case rel => exact ⟨f, m2, a2, u + 1, nodeN x p, by first | rfl | go_num, by first | rfl | go_num, rfl, by go_num, M2, M3, A2, by omega, HN.out, HT2.out, Z.out⟩
            case measure => (simp [intOf]; try omega)
          ·
            have ht : (a : Int).tmod 2 = 1 := by rw [odd_even, he]; rfl
            have HT2 : Hid (R = chk f m2 a2 (nodeN p x) (P.drop (u + 1))) := by
              have h := HT.out
              rw [if_neg (by omega)] at h
              exact h
            clear HT he
            go_wp2_with (fail)
            refine (nodeS p x _ HP.out hx.out).mono ?_
            rintro e w2 ⟨rfl, hb2⟩
            have Z := Lib.hid (Below.and hb.out hb2)
            have HN := Lib.hid (nodeN_64' p x)
            clear hb2 hc1
            go_wp2
            go_roundw
            case rel => exact ⟨f, m2, a2, u + 1, nodeN p x, by first | rfl | go_num, by first | rfl | go_num, rfl, by go_num, M2, M3, A2, by omega, HN.out, HT2.out, Z.out⟩
            case measure => (simp [intOf]; try omega)
        · have i3 : (pl : Int) ≤ (u : Int) := by omega
          have HC : Hid (R = none) := by
            have h := hc.out
            rw [List.drop_of_length_le (by rw [← HPL.out]; omega), HNO.out HSM.out] at h
            exact h
          clear HSK HNO HTK hc HSM
          go_wp2
          go_light
          go_ret2
          exact ⟨by rw [HC.out]; rfl, hb.out⟩
      · have i2 : ¬ (sb : Int) < (m : Int) := by omega
        have HT2 : Hid (R = chk f m2 a2 x (P.drop u)) := hc.out.trans (HSK.out hs)
        clear HSK HNO HTK hc hs
        go_wp2
        go_roundw
        case rel => exact ⟨f, m2, a2, u, x, by first | rfl | go_num, by first | rfl | go_num, rfl, rfl, M2, M3, A2, hu, hx.out, HT2.out, hb.out⟩
        case measure => (simp [intOf]; try omega)

set_option maxRecDepth 100000 in
set_option maxHeartbeats 4000000 in
theorem specPieceCheck (root m0 a0 : Int) (s : ByteArray) (A : Option Addr) (c : Nat) (P : List Int) (w : World) (hs : s.size ≤ 1048576) (hl : P.length ≤ 1048576) (hr : InI w A P) (hi : ∀ x ∈ P, I64 x) :
    Calls Tryd.prog 11 #[.int .i64 root, .int .i64 m0, .int .i64 a0, .string s, .slice A P.length c] w fun e w' => e = .returned (.bool (checkB root m0 a0 s P)) ∧ Below w.heap.size w w' := by
  have HR := Lib.hid hr
  have HI := Lib.hid hi
  clear hr hi
  rcases h1 : inB m0 1 16 with _ | _
  · have H1 := Lib.hid h1
    clear h1
    go_enter Tryd.func11, Tryd.ntmps11
    go_wp2_with (fail)
    refine (specIn _ _ _ _).mono ?_
    rintro e w' ⟨rfl, rfl⟩
    rw [H1.out]
    go_wp2
    go_light
    go_ret
    exact ⟨ret_bool (by rw [checkB, H1.out]; rfl), Below.refl _ _⟩
  obtain ⟨b1, b2⟩ := inB_of h1
  have hw : IntKind.i64.wrap (m0 - 1) = m0 - 1 := IntWalk.i64_in _ (by omega)
  have H1 := Lib.hid h1
  clear h1
  rcases h2 : inB a0 0 (m0 - 1) with _ | _
  · have H2 := Lib.hid h2
    clear h2
    go_enter Tryd.func11, Tryd.ntmps11
    go_wp2_with (fail)
    refine (specIn _ _ _ _).mono ?_
    rintro e w' ⟨rfl, rfl⟩
    rw [H1.out]
    go_wp2_with (fail)
    refine (specIn _ _ _ _).mono ?_
    rintro e w' ⟨rfl, rfl⟩
    rw [H2.out]
    go_wp2
    go_light
    go_ret
    exact ⟨ret_bool (by rw [checkB, H2.out]; simp), Below.refl _ _⟩
  obtain ⟨b3, b4⟩ := inB_of h2
  have H2 := Lib.hid h2
  clear h2
  by_cases h3 : ¬ s.size ≤ 12
  · have i3 : (12 : Int) < (s.size : Int) := by omega
    have H3 := Lib.hid h3
    clear h3
    go_enter Tryd.func11, Tryd.ntmps11
    go_wp2_with (fail)
    refine (specIn _ _ _ _).mono ?_
    rintro e w' ⟨rfl, rfl⟩
    rw [H1.out]
    go_wp2_with (fail)
    refine (specIn _ _ _ _).mono ?_
    rintro e w' ⟨rfl, rfl⟩
    rw [H2.out]
    go_wp2
    go_light
    go_ret
    exact ⟨ret_bool (by rw [checkB, decide_eq_false H3.out]; simp), Below.refl _ _⟩
  have i3 : ¬ (12 : Int) < (s.size : Int) := by omega
  have H3 := Lib.hid (show s.size ≤ 12 by omega)
  clear h3
  have hCB : checkB root m0 a0 s P = topB root (chk m0.toNat m0.toNat a0.toNat (leafN a0 s.data.toList) P) := by
    rw [checkB, H1.out, H2.out, decide_eq_true H3.out]; rfl
  obtain ⟨m1, rfl⟩ : ∃ n : Nat, m0 = (n : Int) := ⟨m0.toNat, by omega⟩
  obtain ⟨a1, rfl⟩ : ∃ n : Nat, a0 = (n : Int) := ⟨a0.toNat, by omega⟩
  rw [Int.toNat_natCast, Int.toNat_natCast, topB_out] at hCB
  have hm1 : m1 ≤ 16 := by omega
  have ha1 : a1 < 16 := by omega
  have HCB := Lib.hid hCB
  clear hCB b1 b2 b3 b4
  go_enter Tryd.func11, Tryd.ntmps11
  go_wp2_with (fail)
  refine (specIn _ _ _ _).mono ?_
  rintro e w' ⟨rfl, rfl⟩
  rw [H1.out]
  go_wp2_with (fail)
  refine (specIn _ _ _ _).mono ?_
  rintro e w' ⟨rfl, rfl⟩
  rw [H2.out]
  clear hw
  go_wp2_with (fail)
  refine (specL12C m1 a1 s A c P _ hm1 ha1 H3.out hl HR.out HI.out).mono ?_
  obtain ⟨R, hR⟩ : ∃ X, X = chk m1 m1 a1 (leafN (a1 : Int) s.data.toList) P := ⟨_, rfl⟩
  have HCB2 : Hid (checkB root (m1 : Int) (a1 : Int) s P = (outB R && (outN R == root))) := by
    have h := HCB.out
    rw [← hR] at h
    exact h
  rw [← hR]
  clear HCB hR
  rintro e w1 ⟨rfl, hb⟩
  have Z := Lib.hid hb
  clear hb
  rcases hB : outB R with _ | _
  all_goals obtain ⟨q, hq⟩ : ∃ y, y = outN R := ⟨_, rfl⟩
  all_goals rw [hB, ← hq] at HCB2
  all_goals rw [← hq]
  all_goals clear hq hB
  all_goals go_wp2
  all_goals go_light
  all_goals go_ret
  all_goals exact ⟨ret_bool (by rw [HCB2.out]; rfl), Z.out⟩
end Go.Proofs.YtmnephaechgffaaDoor
