import Derived.Test.YtameldhdegcpoaaMC
import Derived.Test.YtameldhdegcpoaaMH
import Derived.Test.YtameldhdegcpoaaAp
import Derived.Test.YtameldhdegcpoaaBk
namespace Go.Proofs.Ytameldhdegcpoaa
open Go.ChangeShapes Go.WideShapes Go.ChangeAt Go.RowKit
set_option linter.unusedVariables false
set_option linter.unusedSimpArgs false
structure OkE (E : List Fig) : Prop where
 len : E.length ≤ 4
 bd : ∀ i (h : i < E.length), 1 ≤ (E[i]'h).c ∧ (E[i]'h).c ≤ 4 ∧ 0 ≤ (E[i]'h).x ∧ (E[i]'h).x ≤ 3 ∧ 0 ≤ (E[i]'h).y ∧ (E[i]'h).y ≤ 3 ∧ 0 ≤ (E[i]'h).l ∧ (E[i]'h).l ≤ 3 ∧ 0 ≤ (E[i]'h).g ∧ (E[i]'h).g ≤ 20
 asc : ∀ i j (hi : i < E.length) (hj : j < E.length), i < j → (E[i]'hi).c < (E[j]'hj).c
theorem ents_len (E : List Fig) : ∀ p : Int, p ≤ 4 → entsB p E = true → (E.length : Int) ≤ 4 - p := by
 induction E with
 | nil => intro p hp _; simp; omega
 | cons e t ih =>
  intro p hp h
  simp only [entsB, entB, inB, Bool.and_eq_true, decide_eq_true_eq] at h
  have := ih e.c h.2.1.1.2 h.2.2
  simp; omega
theorem ents_bd (E : List Fig) : ∀ p : Int, entsB p E = true → ∀ i (h : i < E.length), p < (E[i]'h).c ∧ 1 ≤ (E[i]'h).c ∧ (E[i]'h).c ≤ 4 ∧ 0 ≤ (E[i]'h).x ∧ (E[i]'h).x ≤ 3 ∧ 0 ≤ (E[i]'h).y ∧ (E[i]'h).y ≤ 3 ∧ 0 ≤ (E[i]'h).l ∧ (E[i]'h).l ≤ 3 ∧ 0 ≤ (E[i]'h).g ∧ (E[i]'h).g ≤ 20 := by
 induction E with
 | nil => intro p _ i h; simp at h
 | cons e t ih =>
  intro p h i hi
  simp only [entsB, entB, onB, inB, Bool.and_eq_true, decide_eq_true_eq] at h
  rcases i with _ | i
  · simp only [List.getElem_cons_zero]; omega
  · simp only [List.getElem_cons_succ]
    have := ih e.c h.2.2 i (by simpa using hi)
    omega
theorem ents_asc (E : List Fig) : ∀ p : Int, entsB p E = true → ∀ i j (hi : i < E.length) (hj : j < E.length), i < j → (E[i]'hi).c < (E[j]'hj).c := by
 induction E with
 | nil => intro p _ i j h; simp at h
 | cons e t ih =>
  intro p h i j hi hj hij
  have h2 : entsB e.c t = true := by simp only [entsB, Bool.and_eq_true] at h; exact h.2.2
  rcases j with _ | j
  · omega
  rcases i with _ | i
  · simp only [List.getElem_cons_zero, List.getElem_cons_succ]
    exact (ents_bd t e.c h2 j (by simpa using hj)).1
  · simp only [List.getElem_cons_succ]
    exact ih e.c h2 i j (by simpa using hi) (by simpa using hj) (by omega)
theorem okE_of {E : List Fig} (h : entsB 0 E = true) : OkE E :=
 ⟨by have := ents_len E 0 (by omega) h; omega, fun i hi => (ents_bd E 0 h i hi).2, ents_asc E 0 h⟩
structure OkG (E : List Fig) (F L : List Int) : Prop where
 e : OkE E
 f : F.length = 16
 l : L.length = 4
 fb : ∀ i (h : i < F.length), 0 ≤ F[i]'h ∧ F[i]'h ≤ 20
 lb : ∀ i (h : i < L.length), 0 ≤ L[i]'h ∧ L[i]'h ≤ 30
theorem okG_of {E : List Fig} {F L : List Int} (h : gokB E F L = true) : OkG E F L := by
 simp only [gokB, Bool.and_eq_true, decide_eq_true_eq] at h
 exact ⟨okE_of h.2.2.1, h.1, h.2.1, allB_at h.2.2.2.1, allB_at h.2.2.2.2.1⟩
def atF (c : Int) (E : List Fig) : Option Nat := E.findIdx? fun e => e.c == c
theorem atF_some {c : Int} {E : List Fig} {k : Nat} (h : atF c E = some k) : ∃ hk : k < E.length, (E[k]'hk).c = c ∧ ∀ j (hj : j < k), (E[j]'(by omega)).c ≠ c := by
 unfold atF at h
 rw [List.findIdx?_eq_some_iff_getElem] at h
 obtain ⟨hk, h1, h2⟩ := h
 exact ⟨hk, by simpa using h1, fun j hj => by simpa using h2 j hj⟩
theorem atF_none {c : Int} {E : List Fig} (h : atF c E = none) : ∀ j (hj : j < E.length), (E[j]'hj).c ≠ c := by
 unfold atF at h
 rw [List.findIdx?_eq_none_iff] at h
 intro j hj
 simpa using h _ (List.getElem_mem hj)
def ltF (c : Int) : List Fig → Nat
 | [] => 0
 | e :: E => if e.c < c then ltF c E + 1 else 0
theorem ltF_le (c : Int) (E : List Fig) : ltF c E ≤ E.length := by
 induction E with
 | nil => exact Nat.le_refl _
 | cons e E ih => unfold ltF; split <;> simp <;> omega
theorem ltF_of (c : Int) : ∀ (E : List Fig) (k : Nat), k ≤ E.length → (∀ j (hj : j < E.length), j < k → (E[j]'hj).c < c) → (∀ hk : k < E.length, ¬ (E[k]'hk).c < c) → ltF c E = k := by
 intro E
 induction E with
 | nil => intro k hk _ _; simp at hk; simp [ltF, hk]
 | cons e E ih =>
  intro k hk h1 h2
  rcases k with _ | k
  · unfold ltF
    rw [if_neg (show ¬ e.c < c from h2 (by simp))]
  · unfold ltF
    rw [if_pos (show e.c < c from h1 0 (by simp) (by omega)), ih k (by simpa using hk) (fun j hj hjk => h1 (j + 1) (by simpa using hj) (by omega)) (fun hk' => h2 (by simpa using hk'))]
def nearB (a b : Fig) : Bool := inB (a.x - b.x) (-1) 1 && inB (a.y - b.y) (-1) 1
def sq (e : Fig) : Nat := (e.y * 4 + e.x).toNat
abbrev Gm := List Fig × List Int × List Int
def actG (E : List Fig) (F L : List Int) (k : Nat) (e : Fig) (r : Rq) : Gm × Int :=
 if r.o = 2 then (if onB (e.x + r.x) (e.y + r.y) = true then ((E.set k ⟨e.c, e.x + r.x, e.y + r.y, e.l, e.g⟩, F, L), 0) else ((E, F, L), 6))
 else if r.o = 3 then (if F.getD (sq e) 0 = 0 then ((E, F, L), 7) else ((E.set k ⟨e.c, e.x, e.y, e.l, e.g + 1⟩, F.set (sq e) (F.getD (sq e) 0 - 1), L), 0))
 else match atF r.x E with
  | none => ((E, F, L), 8)
  | some n => match E[n]? with
   | none => ((E, F, L), 8)
   | some f =>
    if n = k ∨ nearB e f = false then ((E, F, L), 8)
    else if r.o = 4 then (if f.l - 1 ≤ 0 then ((E.eraseIdx n, F.set (sq f) (F.getD (sq f) 0 + f.g), L), 0) else ((E.set n ⟨f.c, f.x, f.y, f.l - 1, f.g⟩, F, L), 0))
    else if e.g < r.y then ((E, F, L), 7) else (((E.set n ⟨f.c, f.x, f.y, f.l, f.g + r.y⟩).set k ⟨e.c, e.x, e.y, e.l, e.g - r.y⟩, F, L), 0)
def doG (E : List Fig) (F L : List Int) (r : Rq) : Gm × Int :=
 if nullB r = true then ((E, F, L), 2)
 else if r.n ≤ L.getD (r.c - 1).toNat 0 then ((E, F, L), 3)
 else let L' := L.set (r.c - 1).toNat r.n
  if r.o = 1 then match atF r.c E with
   | some _ => ((E, F, L'), 4)
   | none => ((E.take (ltF r.c E) ++ ⟨r.c, r.c - 1, r.c - 1, 3, 0⟩ :: E.drop (ltF r.c E), F, L'), 0)
  else match atF r.c E with
   | none => ((E, F, L'), 5)
   | some k => match E[k]? with
    | none => ((E, F, L'), 5)
    | some e => actG E F L' k e r
end Go.Proofs.Ytameldhdegcpoaa
namespace Go.Proofs.Ytameldhdegcpoaa
open Go.ChangeShapes Go.WideShapes Go.ChangeAt Go.RowKit
set_option linter.unusedVariables false
set_option linter.unusedSimpArgs false
theorem cmpEnt (f : Fig) (c : Int) (w : World) :
 Calls Try.prog 118 #[f.val, .int .i64 c] w fun e w' => e = .returned (.int .i64 (cmpI f.c c)) ∧ Below w.heap.size w w' := by
 obtain ⟨a, x, y, l, g⟩ := f
 unfold Fig.val
 have BB : Hid (Below w.heap.size w (w.alloc (.cells #[.int .i64 a, .int .i64 x, .int .i64 y, .int .i64 l, .int .i64 g] 72))) := (Below.refl _ _).alloc (Nat.le_refl _) _
 go_enter Try.func118, Try.ntmps118
 go_wp2_with (fail)
 refine (compare _ _ _).mono ?_
 rintro e w' ⟨rfl, rfl⟩
 go_wp2
 go_ret
 exact ⟨rfl, BB.out⟩
theorem cmp_eq (a b : Int) : (cmpI a b == 0) = decide (a = b) := by
 unfold cmpI
 by_cases h1 : a < b
 · have : a ≠ b := by omega
   simp [h1, this]
 · by_cases h2 : b < a
   · have : a ≠ b := by omega
     simp [h1, h2, this]
   · have : a = b := by omega
     simp [h1, h2, this]
theorem at_of {E : List Fig} {c : Int} {i : Nat} (hE : OkE E) (h1 : ∀ q (hq : q < E.length), q < i → (E[q]'hq).c < c) (h2 : ∀ q (hq : q < E.length), i ≤ q → c ≤ (E[q]'hq).c) : (atF c E).isSome = decide (∃ h : i < E.length, (E[i]'h).c = c) := by
 rcases ha : atF c E with _ | k
 · symm
   refine decide_eq_false fun ⟨h, he⟩ => atF_none ha i h he
 · obtain ⟨hk, hc, _⟩ := atF_some ha
   symm
   refine decide_eq_true ?_
   rcases Nat.lt_or_ge k i with h3 | h3
   · have := h1 k hk h3; omega
   · have hi : i < E.length := by omega
     refine ⟨hi, ?_⟩
     have h4 := h2 i hi (Nat.le_refl _)
     rcases Nat.lt_or_ge i k with h5 | h5
     · have := hE.asc i k hi hk h5; omega
     · obtain rfl : i = k := by omega
       exact hc
theorem half (i j : Nat) (h : i < j) (hj : j ≤ 4) : i ≤ (i + j) / 2 ∧ (i + j) / 2 < j := by omega
set_option maxRecDepth 100000 in
set_option maxHeartbeats 4000000 in
theorem bsearch (A : Option Addr) (a : Nat) (E : List Fig) (c : Int) (w : World) (hE : OkE E) (rE : RdF w A E) :
 Calls Try.prog 117 #[.slice A E.length a, .int .i64 c, .func (.func 118) #[] #[]] w fun e w' => e = .returned (.tuple #[.int .i64 (ltF c E), .bool (atF c E).isSome]) ∧ Below w.heap.size w w' := by
 have HE := Lib.hid rE
 have HO := Lib.hid hE
 have hl4 : E.length ≤ 4 := hE.len
 have hE' := hE
 clear rE hE
 go_enter Try.func117, Try.ntmps117
 go_wp2
 go_loopw [9, 10] (fun lo hi wr => ∃ i j : Nat, i ≤ j ∧ j ≤ E.length ∧ lo = .int .i64 i ∧ hi = .int .i64 j ∧ Hid (∀ q (hq : q < E.length), q < i → (E[q]'hq).c < c) ∧ Hid (∀ q (hq : q < E.length), j ≤ q → c ≤ (E[q]'hq).c) ∧ Hid (Below w.heap.size w wr)) (fun lo hi _ => (intOf hi).toNat - (intOf lo).toNat)
 case atStart => exact ⟨0, E.length, Nat.zero_le _, Nat.le_refl _, rfl, rfl, fun q hq h => by omega, fun q hq h => by omega, Below.refl _ _⟩
 case round =>
  obtain ⟨i, j, hij, hj, rfl, rfl, hlo, hhi, hb⟩ := hrel
  by_cases hlt : i < j
  · have hh := half i j hlt (by omega)
    obtain ⟨m, hm⟩ : ∃ m, (i + j) / 2 = m := ⟨_, rfl⟩
    obtain ⟨g, rfl, a0, a1, a2, a3, a4⟩ := RdF.below HE.out hb.out m (by omega)
    have n0 : (i : Int) < (j : Int) := by omega
    have i0 : (0 : Int) ≤ (m : Int) := by omega
    have i1 : (m : Int) < (E.length : Int) := by omega
    have HM := Lib.hid hm
    go_wp2_with (fail)
    refine (cmpEnt (E[m]'(by omega)) c _).mono ?_
    rintro e w1 ⟨rfl, h1⟩
    have BB := Lib.hid (Below.and hb.out h1)
    clear h1 a0 a1 a2 a3 a4
    by_cases hc : (E[m]'(by omega)).c < c
    · rw [show cmpI (E[m]'(by omega)).c c = -1 by unfold cmpI; rw [if_pos hc]]
      have HC := Lib.hid hc
      clear hc
      go_wp2
      go_roundw
      case rel =>
       refine ⟨m + 1, j, by omega, by omega, ?_, rfl, fun q hq hqm => ?_, hhi.out, BB.out⟩
       · congr 1; have := HM.out; omega
       · rcases Nat.lt_or_ge q m with h1 | h1
         · exact Int.lt_trans (HO.out.asc q m hq (by omega) h1) HC.out
         · obtain rfl : q = m := by omega
           exact HC.out
      case measure => have := HM.out; simp [intOf]; omega
    · have hv : ∃ v : Int, cmpI (E[m]'(by omega)).c c = v ∧ ¬ v < 0 := by
       refine ⟨_, rfl, ?_⟩
       unfold cmpI
       rw [if_neg hc]
       split <;> omega
      obtain ⟨v, hv, hv0⟩ := hv
      rw [hv]
      have HC := Lib.hid hc
      clear hc hv
      go_wp2
      go_roundw
      case rel =>
       refine ⟨i, m, by omega, by omega, rfl, ?_, hlo.out, fun q hq hqm => ?_, BB.out⟩
       · congr 1; have := HM.out; omega
       · have h2 : ¬ (E[m]'(by omega)).c < c := by have := HC.out; omega
         rcases Nat.lt_or_ge m q with h1 | h1
         · have := HO.out.asc m q (by omega) hq h1; omega
         · obtain rfl : q = m := by omega
           omega
      case measure => have := HM.out; simp [intOf]; omega
  · obtain rfl : i = j := by omega
    have HL : Hid (ltF c E = i) := ltF_of c E i hj (fun q hq h => hlo.out q hq h) (fun hk h => by have := hhi.out i hk (Nat.le_refl _); omega)
    have HI := Lib.hid (at_of hE' hlo.out hhi.out)
    by_cases hi : i < E.length
    · obtain ⟨g, rfl, a0, a1, a2, a3, a4⟩ := RdF.below HE.out hb.out i hi
      have n1 : (i : Int) < (E.length : Int) := by omega
      have i0 : (0 : Int) ≤ (i : Int) := by omega
      go_wp2_with (fail)
      refine (cmpEnt (E[i]'hi) c _).mono ?_
      rintro e w1 ⟨rfl, h1⟩
      have BB := Lib.hid (Below.and hb.out h1)
      clear h1 a0 a1 a2 a3 a4
      by_cases hc : (E[i]'hi).c = c
      · rw [show cmpI (E[i]'hi).c c = 0 by unfold cmpI; rw [if_neg (by omega), if_neg (by omega)]]
        have HS : Hid ((atF c E).isSome = true) := by rw [Hid, HI.out]; exact decide_eq_true ⟨hi, hc⟩
        clear hc
        go_wp2
        go_light
        refine bodyPost_ret (v := .tuple #[.int .i64 i, .bool true]) (by simp [results, Try.results117, go_sem]) rfl ⟨by rw [HL.out, HS.out], BB.out⟩
      · have HS : Hid ((atF c E).isSome = false) := by rw [Hid, HI.out]; exact decide_eq_false (fun h => hc h.2)
        have hv : ∃ v : Int, cmpI (E[i]'hi).c c = v ∧ (v == 0) = false := ⟨_, rfl, by rw [cmp_eq]; exact decide_eq_false hc⟩
        obtain ⟨v, hv, hv0⟩ := hv
        rw [hv]
        clear hc hv
        go_wp2
        go_light
        refine bodyPost_ret (v := .tuple #[.int .i64 i, .bool false]) (by simp [results, Try.results117, go_sem]) rfl ⟨by rw [HL.out, HS.out], BB.out⟩
    · have n1 : ¬ (i : Int) < (E.length : Int) := by omega
      have HS : Hid ((atF c E).isSome = false) := by rw [Hid, HI.out]; exact decide_eq_false (fun h => hi h.1)
      go_wp2
      go_light
      refine bodyPost_ret (v := .tuple #[.int .i64 i, .bool false]) (by simp [results, Try.results117, go_sem]) rfl ⟨by rw [HL.out, HS.out], hb.out⟩
theorem placeOf (A : Option Addr) (a : Nat) (E : List Fig) (c : Int) (w : World) (hE : OkE E) (rE : RdF w A E) :
 Calls Try.prog 110 #[.slice A E.length a, .int .i64 c] w fun e w' => e = .returned (.tuple #[.int .i64 (ltF c E), .bool (atF c E).isSome]) ∧ Below w.heap.size w w' := by
 have HE := Lib.hid rE
 have HO := Lib.hid hE
 clear rE hE
 go_enter Try.func110, Try.ntmps110
 go_wp2_with (fail)
 refine (bsearch A a E c _ HO.out HE.out).mono ?_
 rintro e w1 ⟨rfl, hb⟩
 have BB := Lib.hid hb
 clear hb
 go_wp2
 go_light
 refine bodyPost_ret (v := .tuple #[.int .i64 (ltF c E), .bool (atF c E).isSome]) (by simp [results, Try.results110, go_sem]) rfl ⟨rfl, BB.out⟩
end Go.Proofs.Ytameldhdegcpoaa
namespace Go.Proofs.Ytameldhdegcpoaa
open Go.ChangeShapes Go.WideShapes Go.ChangeAt Go.RowKit
set_option linter.unusedVariables false
set_option linter.unusedSimpArgs false
theorem l2Near (a b : Fig) (w : World) (h1 : 0 ≤ a.x ∧ a.x ≤ 3) (h2 : 0 ≤ a.y ∧ a.y ≤ 3) (h3 : 0 ≤ b.x ∧ b.x ≤ 3) (h4 : 0 ≤ b.y ∧ b.y ≤ 3) :
 Calls Try.prog 107 #[a.val, b.val] w fun e w' => e = .returned (.bool (nearB a b)) ∧ Below w.heap.size w w' := by
 obtain ⟨ac, ax, ay, al, ag⟩ := a
 obtain ⟨bc, bx, b_y, bl, bg⟩ := b
 unfold nearB
 simp only at h1 h2 h3 h4 ⊢
 unfold Fig.val
 have q1 : IntKind.i64.wrap (ax - bx) = ax - bx := IntWalk.i64_in _ (by omega)
 have q2 : IntKind.i64.wrap (ay - b_y) = ay - b_y := IntWalk.i64_in _ (by omega)
 have BB : Hid (Below w.heap.size w ((w.alloc (.cells #[.int .i64 ac, .int .i64 ax, .int .i64 ay, .int .i64 al, .int .i64 ag] 72)).alloc (.cells #[.int .i64 bc, .int .i64 bx, .int .i64 b_y, .int .i64 bl, .int .i64 bg] 72))) := below_alloc2 w _ _
 rcases e1 : inB (ax - bx) (-1) 1 with _ | _
 · clear h1 h2 h3 h4
   go_enter Try.func107, Try.ntmps107
   go_wp2_with (go_at_call 79; refine (specIn _ _ _ _).mono ?_; rintro e w' ⟨rfl, rfl⟩; rw [e1])
   go_light
   go_ret
   exact ⟨rfl, BB.out⟩
 · rcases e2 : inB (ay - b_y) (-1) 1 with _ | _
   all_goals clear h1 h2 h3 h4
   all_goals go_enter Try.func107, Try.ntmps107
   all_goals go_wp2_with (go_at_call 79; refine (specIn _ _ _ _).mono ?_; rintro e w' ⟨rfl, rfl⟩; first | rw [e1] | rw [e2])
   all_goals go_light
   all_goals go_ret
   all_goals exact ⟨rfl, BB.out⟩
def posF (c : Int) (E : List Fig) : Int := match atF c E with | some k => (k : Int) | none => -1
theorem posF_of {c : Int} {E : List Fig} {k : Nat} (hk : k < E.length) (hc : (E[k]'hk).c = c) (hn : ∀ q (hq : q < E.length), q < k → (E[q]'hq).c ≠ c) : posF c E = k := by
 have : atF c E = some k := by
  unfold atF
  rw [List.findIdx?_eq_some_iff_getElem]
  exact ⟨hk, by simpa using hc, fun j hj => by simpa using hn j (by omega) hj⟩
 unfold posF; rw [this]
theorem posF_no {c : Int} {E : List Fig} (hn : ∀ q (hq : q < E.length), (E[q]'hq).c ≠ c) : posF c E = -1 := by
 have : atF c E = none := by
  unfold atF
  rw [List.findIdx?_eq_none_iff]
  intro x hx
  obtain ⟨q, hq, rfl⟩ := List.getElem_of_mem hx
  simpa using hn q hq
 unfold posF; rw [this]
set_option maxRecDepth 100000 in
set_option maxHeartbeats 4000000 in
theorem l2At (A : Option Addr) (a : Nat) (B : Option Addr) (b : Nat) (C : Option Addr) (d : Nat) (E : List Fig) (F L : List Int) (c : Int) (w : World) (hE : E.length ≤ 1048576) (rE : RdF w A E) :
 Calls Try.prog 86 #[gameV A E.length a B F.length b C L.length d, .int .i64 c] w fun e w' => e = .returned (.int .i64 (posF c E)) ∧ Below w.heap.size w w' := by
 have BW : Hid (Below w.heap.size w (w.alloc (.cells #[.slice A E.length a, .slice B F.length b, .slice C L.length d] 29))) := (Below.refl _ _).alloc (Nat.le_refl _) _
 have HE := Lib.hid (RdF.below rE BW.out)
 have K0 : Hid ((w.alloc (.cells #[.slice A E.length a, .slice B F.length b, .slice C L.length d] 29)).heap[w.heap.size]? = some (.cells #[.slice A E.length a, .slice B F.length b, .slice C L.length d] 29)) := heap_alloc_new w _
 clear rE
 unfold gameV
 go_enter Try.func86, Try.ntmps86
 go_wp2
 go_loopw [5] (fun i wr => ∃ k : Nat, k ≤ E.length ∧ i = .int .i64 k ∧ Hid (∀ q (hq : q < E.length), q < k → (E[q]'hq).c ≠ c) ∧ Hid (Below (w.alloc (.cells #[.slice A E.length a, .slice B F.length b, .slice C L.length d] 29)).heap.size (w.alloc (.cells #[.slice A E.length a, .slice B F.length b, .slice C L.length d] 29)) wr)) (fun i _ => E.length - (intOf i).toNat)
 case atStart => exact ⟨0, Nat.zero_le _, rfl, fun q hq h => by omega, Below.refl _ _⟩
 case round =>
  obtain ⟨k, hk, rfl, hn, hb⟩ := hrel
  have x0 : wr.cell? ⟨w.heap.size, 0, none⟩ = some (.slice A E.length a) := cell_kept hb.out (cell_of_row _ _ 0 _ 29 (0, 0) K0.out)
  by_cases hlt : k < E.length
  · obtain ⟨g, rfl, a0, a1, a2, a3, a4⟩ := RdF.below HE.out hb.out k hlt
    have i0 : (0 : Int) ≤ (k : Int) := by omega
    have i1 : (k : Int) < (E.length : Int) := by omega
    by_cases hc : (E[k]'hlt).c = c
    · have HP := Lib.hid (posF_of hlt hc hn.out)
      have e1 : ((E[k]'hlt).c == c) = true := by simpa using hc
      clear hc
      go_wp2
      go_light
      go_ret
      exact ⟨by rw [HP.out]; rfl, Below.and BW.out hb.out⟩
    · have e1 : ((E[k]'hlt).c == c) = false := by simpa using hc
      have HN : Hid (∀ q (hq : q < E.length), q < k + 1 → (E[q]'hq).c ≠ c) := fun q hq h => by
       rcases Nat.lt_or_ge q k with h1 | h1
       · exact hn.out q hq h1
       · obtain rfl : q = k := by omega
         exact hc
      clear hc
      go_wp2
      go_roundw
      case rel => exact ⟨k + 1, by omega, by go_num, HN.out, hb.out⟩
      case measure => simp [intOf]; omega
  · have i1 : ¬ (k : Int) < (E.length : Int) := by omega
    have HP := Lib.hid (posF_no (c := c) (E := E) fun q hq => hn.out q hq (by omega))
    go_wp2
    go_light
    go_ret
    exact ⟨by rw [HP.out]; rfl, Below.and BW.out hb.out⟩
end Go.Proofs.Ytameldhdegcpoaa
namespace Go.Proofs.Ytameldhdegcpoaa
open Go.ChangeShapes Go.WideShapes Go.ChangeAt Go.RowKit
set_option linter.unusedVariables false
set_option linter.unusedSimpArgs false
theorem infoEnt' : (Try.prog.info? 72).map (fun i => (i.zero, i.size, i.bytes)) = some (some (.agg #[.int .i64 0, .int .i64 0, .int .i64 0, .int .i64 0, .int .i64 0]), 5, 40) := by kernel_rfl
theorem infoInt' : (Try.prog.info? 3).map (fun i => (i.zero, i.size, i.bytes)) = some (some (.int .i64 0), 1, 8) := by kernel_rfl
theorem parts_of {P : Program} {t : TypeId} {z : Option Value} {n b : Nat} (h : (P.info? t).map (fun i => (i.zero, i.size, i.bytes)) = some (z, n, b)) : ∃ i, P.info? t = some i ∧ i.zero = z ∧ i.size = n ∧ i.bytes = b := by
 rcases hi : P.info? t with _ | i
 · rw [hi] at h; cases h
 · rw [hi] at h
   simp only [Option.map_some, Option.some.injEq, Prod.mk.injEq] at h
   exact ⟨i, rfl, h.1, h.2.1, h.2.2⟩
theorem own_keepN {w w' : World} {base : Nat} {e : TypeId} {size : Nat} {v : Value} {n : Nat} {xs : List Value} (h : w.ownsRow base e size v n xs) (hg : w.grownBy w' none) : w'.ownsRow base e size v n xs := by
 rcases hq : v.ownBlock with _ | x
 · exact h.kept hg (.inl hq)
 · exact h.kept hg (.inr (by rw [hq]; simp))
theorem RdF.rd {w : World} {A : Option Addr} {E : List Fig} (h : RdF w A E) : Rd 5 Fig.cells w A E := fun i hi => by
 obtain ⟨g, rfl, a0, a1, a2, a3, a4⟩ := h i hi
 refine ⟨g, 0, rfl, fun p u hu => ?_⟩
 rw [Nat.zero_add]
 rcases p with _ | _ | _ | _ | _ | p
 · injection hu with hu; rw [← hu]; exact a0
 · injection hu with hu; rw [← hu]; exact a1
 · injection hu with hu; rw [← hu]; exact a2
 · injection hu with hu; rw [← hu]; exact a3
 · injection hu with hu; rw [← hu]; exact a4
 · cases hu
theorem RdI.rd {w : World} {A : Option Addr} {l : List Int} (h : RdI w A l) : Rd 1 cI w A l := fun i hi => by
 obtain ⟨g, rfl, a0⟩ := h i hi
 refine ⟨g, 0, rfl, fun p u hu => ?_⟩
 rw [Nat.zero_add, Nat.mul_one]
 rcases p with _ | p
 · injection hu with hu; rw [← hu]; exact a0
 · cases hu
set_option maxRecDepth 100000 in
set_option maxHeartbeats 8000000 in
theorem copyGame (A : Option Addr) (a : Nat) (B : Option Addr) (b : Nat) (C : Option Addr) (d : Nat) (E : List Fig) (F L : List Int) (w : World) (hE : E.length ≤ 4) (hF : F.length ≤ 16) (hL : L.length ≤ 4)
 (rE : RdF w A E) (rF : RdI w B F) (rL : RdI w C L) (nA : A = none → a = 0) (nB : B = none → b = 0) (nC : C = none → d = 0) :
 Calls Try.prog 70 #[gameV A E.length a B F.length b C L.length d] w fun e w' => ∃ A' a' B' b' C' d', e = .returned (gameV A' E.length a' B' F.length b' C' L.length d') ∧
  w'.ownsRow w.heap.size 72 5 (.slice A' E.length a') E.length (figs E) ∧ w'.ownsRow w.heap.size 3 1 (.slice B' F.length b') F.length (ints F) ∧ w'.ownsRow w.heap.size 3 1 (.slice C' L.length d') L.length (ints L) ∧
  (∀ x, (Value.slice A' E.length a').ownBlock = some x → (Value.slice B' F.length b').ownBlock ≠ some x) ∧ (∀ x, (Value.slice A' E.length a').ownBlock = some x → (Value.slice C' L.length d').ownBlock ≠ some x) ∧ (∀ x, (Value.slice B' F.length b').ownBlock = some x → (Value.slice C' L.length d').ownBlock ≠ some x) ∧ Below w.heap.size w w' := by
 obtain ⟨I, hi, hz0, hz1, hz2⟩ := parts_of infoEnt'
 have I1 := Lib.hid hi
 have I2 := Lib.hid hz0
 have I3 := Lib.hid hz1
 have I4 := Lib.hid hz2
 clear hi hz0 hz1 hz2
 obtain ⟨J, hi, hz0, hz1, hz2⟩ := parts_of infoInt'
 have J1 := Lib.hid hi
 have J2 := Lib.hid hz0
 have J3 := Lib.hid hz1
 have J4 := Lib.hid hz2
 clear hi hz0 hz1 hz2
 have BW : Hid (Below w.heap.size w ((w.alloc (.cells #[.slice A E.length a, .slice B F.length b, .slice C L.length d] 29)).alloc (.cells #[.slice none 0 0, .slice none 0 0, .slice none 0 0] 29))) := below_alloc2 w _ _
 have HS0 : Hid (Below (w.alloc (.cells #[.slice A E.length a, .slice B F.length b, .slice C L.length d] 29)).heap.size (w.alloc (.cells #[.slice A E.length a, .slice B F.length b, .slice C L.length d] 29)) ((w.alloc (.cells #[.slice A E.length a, .slice B F.length b, .slice C L.length d] 29)).alloc (.cells #[.slice none 0 0, .slice none 0 0, .slice none 0 0] 29))) := (Below.refl _ _).alloc (Nat.le_refl _) _
 have HB2 : Hid (Below ((w.alloc (.cells #[.slice A E.length a, .slice B F.length b, .slice C L.length d] 29)).alloc (.cells #[.slice none 0 0, .slice none 0 0, .slice none 0 0] 29)).heap.size ((w.alloc (.cells #[.slice A E.length a, .slice B F.length b, .slice C L.length d] 29)).alloc (.cells #[.slice none 0 0, .slice none 0 0, .slice none 0 0] 29)) ((w.alloc (.cells #[.slice A E.length a, .slice B F.length b, .slice C L.length d] 29)).alloc (.cells #[.slice none 0 0, .slice none 0 0, .slice none 0 0] 29)).drew) := (Below.refl _ _).drew
 have HE := Lib.hid (RdF.below rE BW.out)
 have HF := Lib.hid (RdI.below rF BW.out)
 have HL := Lib.hid (RdI.below rL BW.out)
 have HA := Lib.hid nA
 have HB := Lib.hid nB
 have HC := Lib.hid nC
 clear rE rF rL nA nB nC
 unfold gameV
 go_enter Try.func70, Try.ntmps70
 go_wp2_with (fail)
 refine wp_region_held_drew (S := fun w1 => Below (w.alloc (.cells #[.slice A E.length a, .slice B F.length b, .slice C L.length d] 29)).heap.size (w.alloc (.cells #[.slice A E.length a, .slice B F.length b, .slice C L.length d] 29)) w1) (by kernel_rfl) (Below.and HS0.out HB2.out) (fun hH => ?_)
 refine tkI 0 3 (v := ?_) rfl rfl ?_ ?_
 rotate_left
 · intro w1 hSw; obtain ⟨hcS, hfS⟩ := bcell hSw; go_simp; (try with_reducible rfl)
 (try simp only [Act.put, pu1, pu2, pu3])
 refine tkI 1 4 (v := ?_) rfl rfl ?_ ?_
 rotate_left
 · intro w1 hSw; obtain ⟨hcS, hfS⟩ := bcell hSw; go_simp; (try with_reducible rfl)
 (try simp only [Act.put, pu1, pu2, pu3])
 refine tkI 3 6 (v := ?_) rfl rfl ?_ ?_
 rotate_left
 · intro w1 hSw; obtain ⟨hcS, hfS⟩ := bcell hSw; go_simp; (try with_reducible rfl)
 (try simp only [Act.put, pu1, pu2, pu3])
 refine tkI 4 7 (v := ?_) rfl rfl ?_ ?_
 rotate_left
 · intro w1 hSw; obtain ⟨hcS, hfS⟩ := bcell hSw; go_simp; (try with_reducible rfl)
 (try simp only [Act.put, pu1, pu2, pu3])
 refine tkI 6 9 (v := ?_) rfl rfl ?_ ?_
 rotate_left
 · intro w1 hSw; obtain ⟨hcS, hfS⟩ := bcell hSw; go_simp; (try with_reducible rfl)
 (try simp only [Act.put, pu1, pu2, pu3])
 refine tkI 7 10 (v := ?_) rfl rfl ?_ ?_
 rotate_left
 · intro w1 hSw; obtain ⟨hcS, hfS⟩ := bcell hSw; go_simp; (try with_reducible rfl)
 (try simp only [Act.put, pu1, pu2, pu3])
 refine wpAnyH_ready (rs := [2]) (by kernel_rfl) (by simp) ?_
 refine AllReadyH.cons rfl (fun K hK => ?_) AllReadyH.nil
 refine step_app Fig.len (by rfl) _ _ 26 (by rfl) (w.heap.size + 2) 72 I (.agg #[.int .i64 0, .int .i64 0, .int .i64 0, .int .i64 0, .int .i64 0]) 40 Try.underlying26 I1.out I2.out I3.out I4.out (by rfl) (by omega) (.slice none 0 0) 0 [] (by rfl) (World.ownsRow_nil _ _ _ _) A a E.length E rfl (by rfl) (RdF.below HE.out HB2.out).rd HA.out (figs_one E) (by unfold maxLen; omega) (by omega) (by have := HB2.out.size; first | (simp at this ⊢; done) | (simp at this ⊢; omega) | omega) ?_
 intro v3 w3 ho3 hg3 hp3
 have HB3 := Lib.hid (Below.trans HB2.out (Below.of_grown hg3 HB2.out.size (fun k hk => by simp [Value.ownBlock] at hk)))
 refine hK.out _ _ (Below.and HS0.out HB3.out) (fun hS3 => ?_)
 clear hK K
 (try simp only [Act.put, pu1, pu2, pu3])
 refine wpAnyH_ready (rs := [5]) (by kernel_rfl) (by simp) ?_
 refine AllReadyH.cons rfl (fun K hK => ?_) AllReadyH.nil
 refine step_app cI_len (by rfl) _ _ 27 (by rfl) (w.heap.size + 2) 3 J (.int .i64 0) 8 Try.underlying27 J1.out J2.out J3.out J4.out (by rfl) (by omega) (.slice none 0 0) 0 [] (by rfl) (World.ownsRow_nil _ _ _ _) B b F.length F rfl (by rfl) (RdI.below HF.out HB3.out).rd HB.out (ints_one F) (by unfold maxLen; omega) (by omega) (by have := HB3.out.size; first | (simp at this ⊢; done) | (simp at this ⊢; omega) | omega) ?_
 intro v4 w4 ho4 hg4 hp4
 have HB4 := Lib.hid (Below.trans HB3.out (Below.of_grown hg4 HB3.out.size (fun k hk => by simp [Value.ownBlock] at hk)))
 refine hK.out _ _ (Below.and HS0.out HB4.out) (fun hS4 => ?_)
 clear hK K
 (try simp only [Act.put, pu1, pu2, pu3])
 refine wpAnyH_ready (rs := [8]) (by kernel_rfl) (by simp) ?_
 refine AllReadyH.cons rfl (fun K hK => ?_) AllReadyH.nil
 refine step_app cI_len (by rfl) _ _ 27 (by rfl) (w.heap.size + 2) 3 J (.int .i64 0) 8 Try.underlying27 J1.out J2.out J3.out J4.out (by rfl) (by omega) (.slice none 0 0) 0 [] (by rfl) (World.ownsRow_nil _ _ _ _) C d L.length L rfl (by rfl) (RdI.below HL.out HB4.out).rd HC.out (ints_one L) (by unfold maxLen; omega) (by omega) (by have := HB4.out.size; first | (simp at this ⊢; done) | (simp at this ⊢; omega) | omega) ?_
 intro v5 w5 ho5 hg5 hp5
 have HB5 := Lib.hid (Below.trans HB4.out (Below.of_grown hg5 HB4.out.size (fun k hk => by simp [Value.ownBlock] at hk)))
 refine hK.out _ _ (Below.and HS0.out HB5.out) (fun hS5 => ?_)
 clear hK K
 (try simp only [Act.put, pu1, pu2, pu3])
 simp only [Nat.zero_add, List.nil_append, ints_flat] at ho3 ho4 ho5
 obtain ⟨A', a', hv3, m3⟩ := own_form ho3
 obtain ⟨B', b', hv4, m4⟩ := own_form ho4
 obtain ⟨C', d', hv5, m5⟩ := own_form ho5
 subst hv3
 subst hv4
 subst hv5
 have OA := Lib.hid (own_keepN (own_keepN ho3 hg4) hg5)
 have OB := Lib.hid (own_keepN ho4 hg5)
 have OC := Lib.hid ho5
 have D1 : Hid (∀ x, (Value.slice A' E.length a').ownBlock = some x → (Value.slice B' F.length b').ownBlock ≠ some x) := fun x hx e => by
  have h1 := (own_block_ge ho3 x hx).2
  rcases hp4 with h | h
  · rw [h] at e; simp [Value.ownBlock] at e
  · rw [h] at e; injection e with e; omega
 have D2 : Hid (∀ x, (Value.slice A' E.length a').ownBlock = some x → (Value.slice C' L.length d').ownBlock ≠ some x) := fun x hx e => by
  have h1 := (own_block_ge ho3 x hx).2
  have h2 := hg4.size
  rcases hp5 with h | h
  · rw [h] at e; simp [Value.ownBlock] at e
  · rw [h] at e; injection e with e; omega
 have D3 : Hid (∀ x, (Value.slice B' F.length b').ownBlock = some x → (Value.slice C' L.length d').ownBlock ≠ some x) := fun x hx e => by
  have h1 := (own_block_ge ho4 x hx).2
  rcases hp5 with h | h
  · rw [h] at e; simp [Value.ownBlock] at e
  · rw [h] at e; injection e with e; omega
 have K5 : Hid (Three w5 (w.heap.size + 1) 29 (.slice none 0 0) (.slice none 0 0) (.slice none 0 0)) := by
  have h0 : Three ((w.alloc (.cells #[.slice A E.length a, .slice B F.length b, .slice C L.length d] 29)).alloc (.cells #[.slice none 0 0, .slice none 0 0, .slice none 0 0] 29)) (w.heap.size + 1) 29 (.slice none 0 0) (.slice none 0 0) (.slice none 0 0) := by
   have h := heap_alloc_new (w.alloc (.cells #[.slice A E.length a, .slice B F.length b, .slice C L.length d] 29)) (.cells #[.slice none 0 0, .slice none 0 0, .slice none 0 0] 29)
   rw [show (w.alloc (.cells #[.slice A E.length a, .slice B F.length b, .slice C L.length d] 29)).heap.size = w.heap.size + 1 by simp] at h
   exact h
  exact h0.below HB5.out (by simp)
 have BF := Lib.hid (Below.and BW.out HB5.out)
 clear ho3 ho4 ho5 hg3 hg4 hg5 hp3 hp4 hp5 m3 m4 m5 HE HF HL HA HB HC I1 I2 I3 I4 J1 J2 J3 J4 hS3 hS4 hH HB2 HB3 HB4 HB5
 obtain ⟨z0, z1, z2⟩ := K5.out.cells
 have zf := K5.out.frozen
 have zl := K5.out.lt
 refine tkI 9 12 (v := ?_) rfl rfl ?_ ?_
 rotate_left
 · intro w1 hSw; go_simp; (try with_reducible rfl)
 (try simp only [Act.put, pu1, pu2, pu3])
 refine wpAnyH_ready (rs := [10]) (by kernel_rfl) (by simp) ?_
 refine AllReadyH.cons rfl (fun K hK => ?_) AllReadyH.nil
 go_simp
 refine hK.out _ _ (Below.setCell (Below.setCell (Below.setCell hS5 (by simp) _) (by simp) _) (by simp) _) (fun hS6 => ?_)
 clear hK K
 (try simp only [Act.put, pu1, pu2, pu3])
 refine wpAnyH_done (by kernel_rfl) ?_ _
 have bb : w.heap.size ≤ w5.heap.size := BF.out.size
 go_wp2
 refine bodyPost_ret (v := .agg #[.slice A' E.length a', .slice B' F.length b', .slice C' L.length d']) (by simp [results, Try.results70, go_sem, z0, z1, z2]) rfl ⟨A', a', B', b', C', d', rfl, own_base (own_put (own_put (own_put OA.out (by omega) _ _) (by omega) _ _) (by omega) _ _) (by omega), own_base (own_put (own_put (own_put OB.out (by omega) _ _) (by omega) _ _) (by omega) _ _) (by omega), own_base (own_put (own_put (own_put OC.out (by omega) _ _) (by omega) _ _) (by omega) _ _) (by omega), D1.out, D2.out, D3.out, ?_⟩
 iterate 3 (refine Below.setCell ?_ (by first | (simp; done) | (simp; omega)) _)
 exact BF.out
end Go.Proofs.Ytameldhdegcpoaa
namespace Go.Proofs.Ytameldhdegcpoaa
open Go.ChangeShapes Go.WideShapes Go.ChangeAt Go.RowKit
set_option linter.unusedVariables false
set_option linter.unusedSimpArgs false
set_option maxRecDepth 100000 in
set_option maxHeartbeats 2000000 in
theorem entAt (p k e n a : Nat) (w : World) (h0 : w.cell? ⟨p, 0, none⟩ = some (.slice (some ⟨e, 0, none⟩) n a)) (hk : k < n) :
 Calls Try.prog 112 #[.agg #[.pointer (some ⟨p, 0, none⟩), .int .i64 k]] w fun r w' => r = .returned (.pointer (some ⟨e, k * 5, none⟩)) ∧ Below w.heap.size w w' := by
 have BW : Hid (Below w.heap.size w (w.alloc (.cells #[.pointer (some ⟨p, 0, none⟩), .int .i64 k] 111))) := (Below.refl _ _).alloc (Nat.le_refl _) _
 have x0 := cell_kept BW.out h0
 have i0 : (0 : Int) ≤ (k : Int) := by omega
 have i1 : (k : Int) < (n : Int) := by omega
 have pl : p < w.heap.size := World.block_lt_of_cell? w _ h0
 clear h0
 have pl2 : p < w.heap.size + 1 := by omega
 go_enter Try.func112, Try.ntmps112
 go_wp2
 refine wp_region_held_drew (S := fun w1 => Below (w.alloc (.cells #[.pointer (some ⟨p, 0, none⟩), .int .i64 k] 111)).heap.size (w.alloc (.cells #[.pointer (some ⟨p, 0, none⟩), .int .i64 k] 111)) w1) (by kernel_rfl) ((Below.refl _ _).drew) (fun hHeld => ?_)
 refine tkI 0 3 (v := ?_) rfl rfl ?_ ?_
 rotate_left
 · intro w1 hSw; obtain ⟨hcS, hfS⟩ := bcell hSw; go_simp; (try with_reducible rfl)
 (try simp only [Act.put, pu1, pu2, pu3])
 refine tkI 1 4 (v := ?_) rfl rfl ?_ ?_
 rotate_left
 · intro w1 hSw; obtain ⟨hcS, hfS⟩ := bcell hSw; go_simp; (try with_reducible rfl)
 (try simp only [Act.put, pu1, pu2, pu3])
 refine tkI 2 5 (v := ?_) rfl rfl ?_ ?_
 rotate_left
 · intro w1 hSw; obtain ⟨hcS, hfS⟩ := bcell hSw; go_simp; (try with_reducible rfl)
 (try simp only [Act.put, pu1, pu2, pu3])
 refine tkI 3 6 (v := ?_) rfl rfl ?_ ?_
 rotate_left
 · intro w1 hSw; obtain ⟨hcS, hfS⟩ := bcell hSw; go_simp; (try with_reducible rfl)
 (try simp only [Act.put, pu1, pu2, pu3])
 refine tkI 4 7 (v := ?_) rfl rfl ?_ ?_
 rotate_left
 · intro w1 hSw; obtain ⟨hcS, hfS⟩ := bcell hSw; go_simp; (try with_reducible rfl)
 (try simp only [Act.put, pu1, pu2, pu3])
 refine tkI 5 8 (v := ?_) rfl rfl ?_ ?_
 rotate_left
 · intro w1 hSw; obtain ⟨hcS, hfS⟩ := bcell hSw; go_simp; (try with_reducible rfl)
 (try simp only [Act.put, pu1, pu2, pu3])
 refine tkI 6 9 (v := ?_) rfl rfl ?_ ?_
 rotate_left
 · intro w1 hSw; obtain ⟨hcS, hfS⟩ := bcell hSw; go_simp; (try with_reducible rfl)
 (try simp only [Act.put, pu1, pu2, pu3])
 refine tkI 7 10 (v := ?_) rfl rfl ?_ ?_
 rotate_left
 · intro w1 hSw; obtain ⟨hcS, hfS⟩ := bcell hSw; go_simp; (try with_reducible rfl)
 (try simp only [Act.put, pu1, pu2, pu3])
 refine tkI 8 2 (v := ?_) rfl rfl ?_ ?_
 rotate_left
 · intro w1 hSw; obtain ⟨hcS, hfS⟩ := bcell hSw; go_simp; (try with_reducible rfl)
 (try simp only [Act.put, pu1, pu2, pu3])
 refine wpAnyH_done (by kernel_rfl) ?_ _
 have BB := Lib.hid (Below.and BW.out hHeld)
 clear hHeld
 go_wp2
 go_light
 go_ret
 exact ⟨rfl, BB.out⟩
set_option maxRecDepth 100000 in
set_option maxHeartbeats 2000000 in
theorem groundAt (p k e n a g m b : Nat) (x y : Int) (w : World) (h0 : w.cell? ⟨p, 0, none⟩ = some (.slice (some ⟨e, 0, none⟩) n a)) (hk : k < n) (h1 : w.cell? ⟨p, 1, none⟩ = some (.slice (some ⟨g, 0, none⟩) m b))
 (hx : w.cell? ⟨e, k * 5 + 1, none⟩ = some (.int .i64 x)) (hy : w.cell? ⟨e, k * 5 + 2, none⟩ = some (.int .i64 y)) (bx : 0 ≤ x ∧ x ≤ 3) (b_y : 0 ≤ y ∧ y ≤ 3) (hm : 16 ≤ m) :
 Calls Try.prog 113 #[.agg #[.pointer (some ⟨p, 0, none⟩), .int .i64 k]] w fun r w' => r = .returned (.pointer (some ⟨g, (y * 4 + x).toNat, none⟩)) ∧ Below w.heap.size w w' := by
 have BW : Hid (Below w.heap.size w (w.alloc (.cells #[.pointer (some ⟨p, 0, none⟩), .int .i64 k] 111))) := (Below.refl _ _).alloc (Nat.le_refl _) _
 have KF : Hid (Bkk (w.alloc (.cells #[.pointer (some ⟨p, 0, none⟩), .int .i64 k] 111)) w.heap.size 111 #[.pointer (some ⟨p, 0, none⟩), .int .i64 k]) := Bkk.new w
 have H0 := Lib.hid (cell_kept BW.out h0)
 have H1 := Lib.hid (cell_kept BW.out h1)
 have HX := Lib.hid (cell_kept BW.out hx)
 have HY := Lib.hid (cell_kept BW.out hy)
 clear h0 h1 hx hy
 go_enter Try.func113, Try.ntmps113
 go_wp2_with (fail)
 refine (entAt p k e n a _ H0.out hk).mono ?_
 rintro r wa ⟨rfl, hb⟩
 have x0 := cell_kept hb (KF.out.cell 0)
 have x1 := cell_kept hb (KF.out.cell 1)
 have x2 := cell_kept hb H0.out
 have x3 := cell_kept hb H1.out
 have x4 := cell_kept hb HX.out
 have x5 := cell_kept hb HY.out
 have BB := Lib.hid (Below.and BW.out hb)
 clear hb H0 H1 HX HY KF
 have w1_ : IntKind.i64.wrap (y * 4) = y * 4 := IntWalk.i64_in _ (by omega)
 have w2_ : IntKind.i64.wrap (y * 4 + x) = y * 4 + x := IntWalk.i64_in _ (by omega)
 have i0 : 0 ≤ y * 4 + x := by omega
 have i1 : y * 4 + x < (m : Int) := by omega
 have l0 : w.heap.size < wa.heap.size := World.block_lt_of_cell? wa _ x0
 have l1 : p < wa.heap.size := World.block_lt_of_cell? wa _ x2
 have l2 : e < wa.heap.size := World.block_lt_of_cell? wa _ x4
 go_wp2
 refine wp_region_held_drew (S := fun w1 => Below wa.heap.size wa w1) (by kernel_rfl) ((Below.refl _ _).drew) (fun hHeld => ?_)
 refine tkI 0 6 (v := ?_) rfl rfl ?_ ?_
 rotate_left
 · intro w1 hSw; obtain ⟨hcS, hfS⟩ := bcell hSw; go_simp; (try with_reducible rfl)
 (try simp only [Act.put, pu1, pu2, pu3])
 refine tkI 1 7 (v := ?_) rfl rfl ?_ ?_
 rotate_left
 · intro w1 hSw; obtain ⟨hcS, hfS⟩ := bcell hSw; go_simp; (try with_reducible rfl)
 (try simp only [Act.put, pu1, pu2, pu3])
 refine tkI 2 8 (v := ?_) rfl rfl ?_ ?_
 rotate_left
 · intro w1 hSw; obtain ⟨hcS, hfS⟩ := bcell hSw; go_simp; (try with_reducible rfl)
 (try simp only [Act.put, pu1, pu2, pu3])
 refine tkI 3 9 (v := ?_) rfl rfl ?_ ?_
 rotate_left
 · intro w1 hSw; obtain ⟨hcS, hfS⟩ := bcell hSw; go_simp; (try with_reducible rfl)
 (try simp only [Act.put, pu1, pu2, pu3])
 refine tkI 4 10 (v := ?_) rfl rfl ?_ ?_
 rotate_left
 · intro w1 hSw; obtain ⟨hcS, hfS⟩ := bcell hSw; go_simp; (try with_reducible rfl)
 (try simp only [Act.put, pu1, pu2, pu3])
 refine tkI 5 11 (v := ?_) rfl rfl ?_ ?_
 rotate_left
 · intro w1 hSw; obtain ⟨hcS, hfS⟩ := bcell hSw; go_simp; (try with_reducible rfl)
 (try simp only [Act.put, pu1, pu2, pu3])
 refine tkI 6 12 (v := ?_) rfl rfl ?_ ?_
 rotate_left
 · intro w1 hSw; obtain ⟨hcS, hfS⟩ := bcell hSw; go_simp; (try with_reducible rfl)
 (try simp only [Act.put, pu1, pu2, pu3])
 refine tkI 7 13 (v := ?_) rfl rfl ?_ ?_
 rotate_left
 · intro w1 hSw; obtain ⟨hcS, hfS⟩ := bcell hSw; go_simp; (try with_reducible rfl)
 (try simp only [Act.put, pu1, pu2, pu3])
 refine tkI 8 14 (v := ?_) rfl rfl ?_ ?_
 rotate_left
 · intro w1 hSw; obtain ⟨hcS, hfS⟩ := bcell hSw; go_simp; (try with_reducible rfl)
 (try simp only [Act.put, pu1, pu2, pu3])
 refine tkI 9 15 (v := ?_) rfl rfl ?_ ?_
 rotate_left
 · intro w1 hSw; obtain ⟨hcS, hfS⟩ := bcell hSw; go_simp; (try with_reducible rfl)
 (try simp only [Act.put, pu1, pu2, pu3])
 refine tkI 10 16 (v := ?_) rfl rfl ?_ ?_
 rotate_left
 · intro w1 hSw; obtain ⟨hcS, hfS⟩ := bcell hSw; go_simp; (try with_reducible rfl)
 (try simp only [Act.put, pu1, pu2, pu3])
 refine tkI 11 17 (v := ?_) rfl rfl ?_ ?_
 rotate_left
 · intro w1 hSw; obtain ⟨hcS, hfS⟩ := bcell hSw; go_simp; (try with_reducible rfl)
 (try simp only [Act.put, pu1, pu2, pu3])
 refine tkI 12 18 (v := ?_) rfl rfl ?_ ?_
 rotate_left
 · intro w1 hSw; obtain ⟨hcS, hfS⟩ := bcell hSw; go_simp; (try with_reducible rfl)
 (try simp only [Act.put, pu1, pu2, pu3])
 refine tkI 13 19 (v := ?_) rfl rfl ?_ ?_
 rotate_left
 · intro w1 hSw; obtain ⟨hcS, hfS⟩ := bcell hSw; go_simp; (try with_reducible rfl)
 (try simp only [Act.put, pu1, pu2, pu3])
 refine tkI 14 20 (v := ?_) rfl rfl ?_ ?_
 rotate_left
 · intro w1 hSw; obtain ⟨hcS, hfS⟩ := bcell hSw; go_simp; (try with_reducible rfl)
 (try simp only [Act.put, pu1, pu2, pu3])
 refine tkI 15 21 (v := ?_) rfl rfl ?_ ?_
 rotate_left
 · intro w1 hSw; obtain ⟨hcS, hfS⟩ := bcell hSw; go_simp; (try with_reducible rfl)
 (try simp only [Act.put, pu1, pu2, pu3])
 refine tkI 16 2 (v := ?_) rfl rfl ?_ ?_
 rotate_left
 · intro w1 hSw; obtain ⟨hcS, hfS⟩ := bcell hSw; go_simp; (try with_reducible rfl)
 (try simp only [Act.put, pu1, pu2, pu3])
 refine wpAnyH_done (by kernel_rfl) ?_ _
 have BB := Lib.hid (Below.and BB.out hHeld)
 clear hHeld
 go_wp2
 go_light
 go_ret
 exact ⟨rfl, BB.out⟩
set_option maxRecDepth 100000 in
set_option maxHeartbeats 2000000 in
theorem figureOf (p : Nat) (A : Option Addr) (a : Nat) (E : List Fig) (c : Int) (w : World) (hE : OkE E) (rE : RdF w A E) (h0 : w.cell? ⟨p, 0, none⟩ = some (.slice A E.length a)) :
 Calls Try.prog 99 #[.pointer (some ⟨p, 0, none⟩), .int .i64 c] w fun r w' => r = .returned (.tuple #[.agg #[.pointer (some ⟨p, 0, none⟩), .int .i64 (ltF c E)], .bool (atF c E).isSome]) ∧ Below w.heap.size w w' := by
 have BW : Hid (Below w.heap.size w (w.alloc (.cells #[.pointer none, .int .i64 0] 111))) := (Below.refl _ _).alloc (Nat.le_refl _) _
 have KF : Hid (Bkk (w.alloc (.cells #[.pointer none, .int .i64 0] 111)) w.heap.size 111 #[.pointer none, .int .i64 0]) := Bkk.new w
 have x0 := cell_kept BW.out h0
 have pl : p < w.heap.size := World.block_lt_of_cell? w _ h0
 have HE := Lib.hid (RdF.below rE BW.out)
 have HO := Lib.hid hE
 clear h0 rE hE
 go_enter Try.func99, Try.ntmps99
 go_wp2_with (fail)
 refine (placeOf A a E c _ HO.out HE.out).mono ?_
 rintro r w1 ⟨rfl, hb⟩
 have BB := Lib.hid (Below.and BW.out hb)
 have KF := Lib.hid (KF.out.below hb)
 have z0 : w1.cell? ⟨w.heap.size, 0, none⟩ = some (.pointer none) := KF.out.cell 0
 have z1 : w1.cell? ⟨w.heap.size, 1, none⟩ = some (.int .i64 0) := KF.out.cell 1
 have zf := KF.out.frozen
 have zl := KF.out.lt
 clear hb HE HO x0
 go_wp2
 refine bodyPost_ret (v := .tuple #[.agg #[.pointer (some ⟨p, 0, none⟩), .int .i64 (ltF c E)], .bool (atF c E).isSome]) (by simp [results, Try.results99, go_sem, z0, z1]) rfl ⟨rfl, ?_⟩
 iterate 2 (refine Below.setCell ?_ (by first | (simp; done) | (simp; omega)) _)
 exact BB.out
end Go.Proofs.Ytameldhdegcpoaa
namespace Go.Proofs.Ytameldhdegcpoaa
open Go.ChangeShapes Go.WideShapes Go.ChangeAt Go.RowKit
set_option linter.unusedVariables false
set_option linter.unusedSimpArgs false
structure Bd (w : World) (p lo : Nat) (A : Option Addr) (a : Nat) (B : Option Addr) (b : Nat) (C : Option Addr) (d : Nat) (E : List Fig) (F L : List Int) : Prop where
 at_ : Three w p 29 (.slice A E.length a) (.slice B F.length b) (.slice C L.length d)
 e : w.ownsRow lo 72 5 (.slice A E.length a) E.length (figs E)
 f : w.ownsRow lo 3 1 (.slice B F.length b) F.length (ints F)
 l : w.ownsRow lo 3 1 (.slice C L.length d) L.length (ints L)
 ef : ∀ x, (Value.slice A E.length a).ownBlock = some x → (Value.slice B F.length b).ownBlock ≠ some x
 el : ∀ x, (Value.slice A E.length a).ownBlock = some x → (Value.slice C L.length d).ownBlock ≠ some x
 fl : ∀ x, (Value.slice B F.length b).ownBlock = some x → (Value.slice C L.length d).ownBlock ≠ some x
 pe : (Value.slice A E.length a).ownBlock ≠ some p
 pf : (Value.slice B F.length b).ownBlock ≠ some p
 pl : (Value.slice C L.length d).ownBlock ≠ some p
 lo : lo ≤ p
section
variable {w w' : World} {p lo : Nat} {A : Option Addr} {a : Nat} {B : Option Addr} {b : Nat} {C : Option Addr} {d : Nat} {E : List Fig} {F L : List Int}
theorem Bd.below (h : Bd w p lo A a B b C d E F L) (hb : Below w.heap.size w w') : Bd w' p lo A a B b C d E F L :=
 ⟨h.at_.below hb h.at_.lt, own_keepN h.e (Below.grownBy hb none), own_keepN h.f (Below.grownBy hb none), own_keepN h.l (Below.grownBy hb none), h.ef, h.el, h.fl, h.pe, h.pf, h.pl, h.lo⟩
theorem Bd.setE {g : Nat} (h : Bd w p lo (some ⟨g, 0, none⟩) a B b C d E F L) (k j : Nat) (hk : k < E.length) (hj : j < 5) (u : Value) (f : Fig) (hf : f.cells = (E[k]'hk).cells.set j u) : Bd (w.setCell ⟨g, k * 5 + j, none⟩ u) p lo (some ⟨g, 0, none⟩) a B b C d (E.set k f) F L := by
 have hn : E.length = (E.set k f).length := by simp
 have hl : k * 5 + j < (figs E).length := by rw [figs_length]; omega
 obtain ⟨h1, h2⟩ := own_set1 (k * 5 + j) u hl h.e
 rw [figs_set E k j hk hj u f hf] at h1
 rw [hn] at h1
 have e0 := h.at_
 have e2 := h.ef
 have e3 := h.el
 have e4 := h.pe
 rw [hn] at e0 e2 e3 e4
 refine ⟨e0.grown h2 (by simpa [Value.ownBlock] using fun e => h.pe (by rw [← e]; rfl)), h1, ?_, ?_, e2, e3, h.fl, e4, h.pf, h.pl, h.lo⟩
 · exact h.f.kept h2 (.inr (h.ef g rfl))
 · exact h.l.kept h2 (.inr (h.el g rfl))
theorem Bd.setF {g : Nat} (h : Bd w p lo A a (some ⟨g, 0, none⟩) b C d E F L) (k : Nat) (hk : k < F.length) (v : Int) : Bd (w.setCell ⟨g, k, none⟩ (.int .i64 v)) p lo A a (some ⟨g, 0, none⟩) b C d E (F.set k v) L := by
 have hn : F.length = (F.set k v).length := by simp
 have hl : k < (ints F).length := by simpa [ints] using hk
 obtain ⟨h1, h2⟩ := own_set1 k (.int .i64 v) hl h.f
 have hi : (ints F).set k (.int .i64 v) = ints (F.set k v) := by unfold ints; rw [List.map_set]
 rw [hi, hn] at h1
 have e0 := h.at_
 have e2 := h.ef
 have e3 := h.fl
 have e4 := h.pf
 rw [hn] at e0 e2 e3 e4
 refine ⟨e0.grown h2 (by simpa [Value.ownBlock] using fun e => h.pf (by rw [← e]; rfl)), ?_, h1, ?_, e2, h.el, e3, h.pe, e4, h.pl, h.lo⟩
 · exact h.e.kept h2 (.inr fun e => h.ef g e rfl)
 · exact h.l.kept h2 (.inr (h.fl g rfl))
end
end Go.Proofs.Ytameldhdegcpoaa
namespace Go.Proofs.Ytameldhdegcpoaa
open Go.ChangeShapes Go.WideShapes Go.ChangeAt Go.RowKit
set_option linter.unusedVariables false
set_option linter.unusedSimpArgs false
set_option maxRecDepth 100000 in
set_option maxHeartbeats 4000000 in
theorem moveNo {w : World} {p lo : Nat} {A : Option Addr} {a : Nat} {B : Option Addr} {b : Nat} {C : Option Addr} {d : Nat} {E : List Fig} {F L : List Int} (h : Bd w p lo A a B b C d E F L) (k : Nat) (hk : k < E.length) (fc fx fy fl fg rc rn ro rx ry : Int) (hf : E[k]'hk = ⟨fc, fx, fy, fl, fg⟩)
 (b1 : 0 ≤ fx ∧ fx ≤ 3) (b2 : 0 ≤ fy ∧ fy ≤ 3) (b3 : -9 ≤ rx ∧ rx ≤ 9) (b4 : -9 ≤ ry ∧ ry ≤ 9) (ho : onB (fx + rx) (fy + ry) = false) :
 Calls Try.prog 100 #[.agg #[.pointer (some ⟨p, 0, none⟩), .int .i64 k], .agg #[.int .i64 rc, .int .i64 rn, .int .i64 ro, .int .i64 rx, .int .i64 ry]] w fun e w' => e = .returned (.int .i64 6) ∧ Bd w' p lo A a B b C d E F L ∧ Below lo w w' := by
 obtain ⟨g, rfl, _, _⟩ := own_some h.e (by omega)
 have hlo := (own_block_ge h.e g rfl).1
 have hlw : lo ≤ w.heap.size := by have := (own_block_ge h.e g rfl).2; omega
 have BW : Hid (Below w.heap.size w ((w.alloc (.cells #[.pointer (some ⟨p, 0, none⟩), .int .i64 k] 111)).alloc (.cells #[.int .i64 rc, .int .i64 rn, .int .i64 ro, .int .i64 rx, .int .i64 ry] 49))) := below_alloc2 w _ _
 have H := Lib.hid (h.below BW.out)
 have KR : Hid (Bkk ((w.alloc (.cells #[.pointer (some ⟨p, 0, none⟩), .int .i64 k] 111)).alloc (.cells #[.int .i64 rc, .int .i64 rn, .int .i64 ro, .int .i64 rx, .int .i64 ry] 49)) (w.heap.size + 1) 49 #[.int .i64 rc, .int .i64 rn, .int .i64 ro, .int .i64 rx, .int .i64 ry]) := by have := Bkk.new (t := 49) (cs := #[.int .i64 rc, .int .i64 rn, .int .i64 ro, .int .i64 rx, .int .i64 ry]) (w.alloc (.cells #[.pointer (some ⟨p, 0, none⟩), .int .i64 k] 111)); simpa [Hid] using this
 have HF := Lib.hid hf
 have HO := Lib.hid ho
 have HG := Lib.hid hlo
 have HW := Lib.hid hlw
 clear h hf ho hlo hlw
 go_enter Try.func100, Try.ntmps100
 go_wp2_with (fail)
 refine (entAt p k g E.length a _ H.out.at_.cells.1 hk).mono ?_
 rintro e wa ⟨rfl, hb⟩
 have BB := Lib.hid (Below.and BW.out hb)
 have H := Lib.hid (H.out.below hb)
 have KR := Lib.hid (KR.out.below hb)
 clear hb
 obtain ⟨g', hg', a0, a1, a2, a3, a4⟩ := RdF.of_own H.out.e k hk
 cases hg'
 rw [HF.out] at a0 a1 a2 a3 a4
 simp only at a0 a1 a2 a3 a4
 have x3 : wa.cell? ⟨w.heap.size + 1, 3, none⟩ = some (.int .i64 rx) := KR.out.cell 3
 have x4 : wa.cell? ⟨w.heap.size + 1, 4, none⟩ = some (.int .i64 ry) := KR.out.cell 4
 have l1 : g < wa.heap.size := World.block_lt_of_cell? wa _ a0
 have l2 : w.heap.size + 1 < wa.heap.size := KR.out.lt
 have q1 : IntKind.i64.wrap (fx + rx) = fx + rx := IntWalk.i64_in _ (by omega)
 have q2 : IntKind.i64.wrap (fy + ry) = fy + ry := IntWalk.i64_in _ (by omega)
 go_wp2
 refine wp_region_held_drew (S := fun w1 => Below wa.heap.size wa w1) (by kernel_rfl) ((Below.refl _ _).drew) (fun hHeld => ?_)
 refine tkI 0 10 (v := ?_) rfl rfl ?_ ?_
 rotate_left
 · intro w1 hSw; obtain ⟨hcS, hfS⟩ := bcell hSw; go_simp; (try with_reducible rfl)
 (try simp only [Act.put, pu1, pu2, pu3])
 refine tkI 1 11 (v := ?_) rfl rfl ?_ ?_
 rotate_left
 · intro w1 hSw; obtain ⟨hcS, hfS⟩ := bcell hSw; go_simp; (try with_reducible rfl)
 (try simp only [Act.put, pu1, pu2, pu3])
 refine tkI 2 12 (v := ?_) rfl rfl ?_ ?_
 rotate_left
 · intro w1 hSw; obtain ⟨hcS, hfS⟩ := bcell hSw; go_simp; (try with_reducible rfl)
 (try simp only [Act.put, pu1, pu2, pu3])
 refine tkI 3 13 (v := ?_) rfl rfl ?_ ?_
 rotate_left
 · intro w1 hSw; obtain ⟨hcS, hfS⟩ := bcell hSw; go_simp; (try with_reducible rfl)
 (try simp only [Act.put, pu1, pu2, pu3])
 refine tkI 4 14 (v := ?_) rfl rfl ?_ ?_
 rotate_left
 · intro w1 hSw; obtain ⟨hcS, hfS⟩ := bcell hSw; go_simp; (try with_reducible rfl)
 (try simp only [Act.put, pu1, pu2, pu3])
 refine tkI 5 15 (v := ?_) rfl rfl ?_ ?_
 rotate_left
 · intro w1 hSw; obtain ⟨hcS, hfS⟩ := bcell hSw; go_simp; (try with_reducible rfl)
 (try simp only [Act.put, pu1, pu2, pu3])
 refine tkI 6 16 (v := ?_) rfl rfl ?_ ?_
 rotate_left
 · intro w1 hSw; obtain ⟨hcS, hfS⟩ := bcell hSw; go_simp; (try with_reducible rfl)
 (try simp only [Act.put, pu1, pu2, pu3])
 refine tkI 7 17 (v := ?_) rfl rfl ?_ ?_
 rotate_left
 · intro w1 hSw; obtain ⟨hcS, hfS⟩ := bcell hSw; go_simp; (try with_reducible rfl)
 (try simp only [Act.put, pu1, pu2, pu3])
 refine tkI 8 18 (v := ?_) rfl rfl ?_ ?_
 rotate_left
 · intro w1 hSw; obtain ⟨hcS, hfS⟩ := bcell hSw; go_simp; (try with_reducible rfl)
 (try simp only [Act.put, pu1, pu2, pu3])
 refine tkI 9 19 (v := ?_) rfl rfl ?_ ?_
 rotate_left
 · intro w1 hSw; obtain ⟨hcS, hfS⟩ := bcell hSw; go_simp; (try with_reducible rfl)
 (try simp only [Act.put, pu1, pu2, pu3])
 refine tkI 10 20 (v := ?_) rfl rfl ?_ ?_
 rotate_left
 · intro w1 hSw; obtain ⟨hcS, hfS⟩ := bcell hSw; go_simp; (try with_reducible rfl)
 (try simp only [Act.put, pu1, pu2, pu3])
 refine tkI 11 21 (v := ?_) rfl rfl ?_ ?_
 rotate_left
 · intro w1 hSw; obtain ⟨hcS, hfS⟩ := bcell hSw; go_simp; (try with_reducible rfl)
 (try simp only [Act.put, pu1, pu2, pu3])
 refine tkI 12 22 (v := ?_) rfl rfl ?_ ?_
 rotate_left
 · intro w1 hSw; obtain ⟨hcS, hfS⟩ := bcell hSw; go_simp; (try with_reducible rfl)
 (try simp only [Act.put, pu1, pu2, pu3])
 refine tkI 13 23 (v := ?_) rfl rfl ?_ ?_
 rotate_left
 · intro w1 hSw; obtain ⟨hcS, hfS⟩ := bcell hSw; go_simp; (try with_reducible rfl)
 (try simp only [Act.put, pu1, pu2, pu3])
 refine tkI 14 6 (v := ?_) rfl rfl ?_ ?_
 rotate_left
 · intro w1 hSw; obtain ⟨hcS, hfS⟩ := bcell hSw; go_simp; (try with_reducible rfl)
 (try simp only [Act.put, pu1, pu2, pu3])
 refine tkI 15 7 (v := ?_) rfl rfl ?_ ?_
 rotate_left
 · intro w1 hSw; obtain ⟨hcS, hfS⟩ := bcell hSw; go_simp; (try with_reducible rfl)
 (try simp only [Act.put, pu1, pu2, pu3])
 refine wpAnyH_done (by kernel_rfl) ?_ _
 have HD := Lib.hid (H.out.below hHeld)
 clear hHeld
 go_wp2_with (fail)
 refine (onBoard _ _ _).mono ?_
 rintro e w2 ⟨rfl, rfl⟩
 rw [HO.out]
 go_wp2
 go_light
 go_ret
 exact ⟨rfl, HD.out, (BB.out.mono HW.out).drew⟩
set_option maxRecDepth 100000 in
set_option maxHeartbeats 4000000 in
theorem moveYes {w : World} {p lo : Nat} {A : Option Addr} {a : Nat} {B : Option Addr} {b : Nat} {C : Option Addr} {d : Nat} {E : List Fig} {F L : List Int} (h : Bd w p lo A a B b C d E F L) (k : Nat) (hk : k < E.length) (fc fx fy fl fg rc rn ro rx ry : Int) (hf : E[k]'hk = ⟨fc, fx, fy, fl, fg⟩)
 (b1 : 0 ≤ fx ∧ fx ≤ 3) (b2 : 0 ≤ fy ∧ fy ≤ 3) (b3 : -9 ≤ rx ∧ rx ≤ 9) (b4 : -9 ≤ ry ∧ ry ≤ 9) (ho : onB (fx + rx) (fy + ry) = true) :
 Calls Try.prog 100 #[.agg #[.pointer (some ⟨p, 0, none⟩), .int .i64 k], .agg #[.int .i64 rc, .int .i64 rn, .int .i64 ro, .int .i64 rx, .int .i64 ry]] w fun e w' => e = .returned (.int .i64 0) ∧ Bd w' p lo A a B b C d (E.set k ⟨fc, fx + rx, fy + ry, fl, fg⟩) F L ∧ Below lo w w' := by
 obtain ⟨g, rfl, _, _⟩ := own_some h.e (by omega)
 have hlo := (own_block_ge h.e g rfl).1
 have hlw : lo ≤ w.heap.size := by have := (own_block_ge h.e g rfl).2; omega
 have BW : Hid (Below w.heap.size w ((w.alloc (.cells #[.pointer (some ⟨p, 0, none⟩), .int .i64 k] 111)).alloc (.cells #[.int .i64 rc, .int .i64 rn, .int .i64 ro, .int .i64 rx, .int .i64 ry] 49))) := below_alloc2 w _ _
 have H := Lib.hid (h.below BW.out)
 have KR : Hid (Bkk ((w.alloc (.cells #[.pointer (some ⟨p, 0, none⟩), .int .i64 k] 111)).alloc (.cells #[.int .i64 rc, .int .i64 rn, .int .i64 ro, .int .i64 rx, .int .i64 ry] 49)) (w.heap.size + 1) 49 #[.int .i64 rc, .int .i64 rn, .int .i64 ro, .int .i64 rx, .int .i64 ry]) := by have := Bkk.new (t := 49) (cs := #[.int .i64 rc, .int .i64 rn, .int .i64 ro, .int .i64 rx, .int .i64 ry]) (w.alloc (.cells #[.pointer (some ⟨p, 0, none⟩), .int .i64 k] 111)); simpa [Hid] using this
 have HF := Lib.hid hf
 have HO := Lib.hid ho
 have HG := Lib.hid hlo
 have HW := Lib.hid hlw
 clear h hf ho hlo hlw
 go_enter Try.func100, Try.ntmps100
 go_wp2_with (fail)
 refine (entAt p k g E.length a _ H.out.at_.cells.1 hk).mono ?_
 rintro e wa ⟨rfl, hb⟩
 have BB := Lib.hid (Below.and BW.out hb)
 have H := Lib.hid (H.out.below hb)
 have KR := Lib.hid (KR.out.below hb)
 clear hb
 obtain ⟨g', hg', a0, a1, a2, a3, a4⟩ := RdF.of_own H.out.e k hk
 cases hg'
 rw [HF.out] at a0 a1 a2 a3 a4
 simp only at a0 a1 a2 a3 a4
 have x3 : wa.cell? ⟨w.heap.size + 1, 3, none⟩ = some (.int .i64 rx) := KR.out.cell 3
 have x4 : wa.cell? ⟨w.heap.size + 1, 4, none⟩ = some (.int .i64 ry) := KR.out.cell 4
 have l1 : g < wa.heap.size := World.block_lt_of_cell? wa _ a0
 have l2 : w.heap.size + 1 < wa.heap.size := KR.out.lt
 have q1 : IntKind.i64.wrap (fx + rx) = fx + rx := IntWalk.i64_in _ (by omega)
 have q2 : IntKind.i64.wrap (fy + ry) = fy + ry := IntWalk.i64_in _ (by omega)
 go_wp2
 refine wp_region_held_drew (S := fun w1 => Below wa.heap.size wa w1) (by kernel_rfl) ((Below.refl _ _).drew) (fun hHeld => ?_)
 refine tkI 0 10 (v := ?_) rfl rfl ?_ ?_
 rotate_left
 · intro w1 hSw; obtain ⟨hcS, hfS⟩ := bcell hSw; go_simp; (try with_reducible rfl)
 (try simp only [Act.put, pu1, pu2, pu3])
 refine tkI 1 11 (v := ?_) rfl rfl ?_ ?_
 rotate_left
 · intro w1 hSw; obtain ⟨hcS, hfS⟩ := bcell hSw; go_simp; (try with_reducible rfl)
 (try simp only [Act.put, pu1, pu2, pu3])
 refine tkI 2 12 (v := ?_) rfl rfl ?_ ?_
 rotate_left
 · intro w1 hSw; obtain ⟨hcS, hfS⟩ := bcell hSw; go_simp; (try with_reducible rfl)
 (try simp only [Act.put, pu1, pu2, pu3])
 refine tkI 3 13 (v := ?_) rfl rfl ?_ ?_
 rotate_left
 · intro w1 hSw; obtain ⟨hcS, hfS⟩ := bcell hSw; go_simp; (try with_reducible rfl)
 (try simp only [Act.put, pu1, pu2, pu3])
 refine tkI 4 14 (v := ?_) rfl rfl ?_ ?_
 rotate_left
 · intro w1 hSw; obtain ⟨hcS, hfS⟩ := bcell hSw; go_simp; (try with_reducible rfl)
 (try simp only [Act.put, pu1, pu2, pu3])
 refine tkI 5 15 (v := ?_) rfl rfl ?_ ?_
 rotate_left
 · intro w1 hSw; obtain ⟨hcS, hfS⟩ := bcell hSw; go_simp; (try with_reducible rfl)
 (try simp only [Act.put, pu1, pu2, pu3])
 refine tkI 6 16 (v := ?_) rfl rfl ?_ ?_
 rotate_left
 · intro w1 hSw; obtain ⟨hcS, hfS⟩ := bcell hSw; go_simp; (try with_reducible rfl)
 (try simp only [Act.put, pu1, pu2, pu3])
 refine tkI 7 17 (v := ?_) rfl rfl ?_ ?_
 rotate_left
 · intro w1 hSw; obtain ⟨hcS, hfS⟩ := bcell hSw; go_simp; (try with_reducible rfl)
 (try simp only [Act.put, pu1, pu2, pu3])
 refine tkI 8 18 (v := ?_) rfl rfl ?_ ?_
 rotate_left
 · intro w1 hSw; obtain ⟨hcS, hfS⟩ := bcell hSw; go_simp; (try with_reducible rfl)
 (try simp only [Act.put, pu1, pu2, pu3])
 refine tkI 9 19 (v := ?_) rfl rfl ?_ ?_
 rotate_left
 · intro w1 hSw; obtain ⟨hcS, hfS⟩ := bcell hSw; go_simp; (try with_reducible rfl)
 (try simp only [Act.put, pu1, pu2, pu3])
 refine tkI 10 20 (v := ?_) rfl rfl ?_ ?_
 rotate_left
 · intro w1 hSw; obtain ⟨hcS, hfS⟩ := bcell hSw; go_simp; (try with_reducible rfl)
 (try simp only [Act.put, pu1, pu2, pu3])
 refine tkI 11 21 (v := ?_) rfl rfl ?_ ?_
 rotate_left
 · intro w1 hSw; obtain ⟨hcS, hfS⟩ := bcell hSw; go_simp; (try with_reducible rfl)
 (try simp only [Act.put, pu1, pu2, pu3])
 refine tkI 12 22 (v := ?_) rfl rfl ?_ ?_
 rotate_left
 · intro w1 hSw; obtain ⟨hcS, hfS⟩ := bcell hSw; go_simp; (try with_reducible rfl)
 (try simp only [Act.put, pu1, pu2, pu3])
 refine tkI 13 23 (v := ?_) rfl rfl ?_ ?_
 rotate_left
 · intro w1 hSw; obtain ⟨hcS, hfS⟩ := bcell hSw; go_simp; (try with_reducible rfl)
 (try simp only [Act.put, pu1, pu2, pu3])
 refine tkI 14 6 (v := ?_) rfl rfl ?_ ?_
 rotate_left
 · intro w1 hSw; obtain ⟨hcS, hfS⟩ := bcell hSw; go_simp; (try with_reducible rfl)
 (try simp only [Act.put, pu1, pu2, pu3])
 refine tkI 15 7 (v := ?_) rfl rfl ?_ ?_
 rotate_left
 · intro w1 hSw; obtain ⟨hcS, hfS⟩ := bcell hSw; go_simp; (try with_reducible rfl)
 (try simp only [Act.put, pu1, pu2, pu3])
 refine wpAnyH_done (by kernel_rfl) ?_ _
 have HD := Lib.hid (H.out.below hHeld)
 clear hHeld
 go_wp2_with (fail)
 refine (onBoard _ _ _).mono ?_
 rintro e w2 ⟨rfl, rfl⟩
 rw [HO.out]
 have ff : ∀ q, wa.frozen? ⟨g, q, none⟩ = false := fun q => H.out.e.frozenAt q
 go_wp2
 go_light
 go_ret
 have S1 := H.out.setE k 1 hk (by decide) (.int .i64 (fx + rx)) ⟨fc, fx + rx, fy, fl, fg⟩ (by rw [HF.out]; rfl)
 have S2 := S1.setE k 2 (by simpa using hk) (by decide) (.int .i64 (fy + ry)) ⟨fc, fx + rx, fy + ry, fl, fg⟩ (by rw [List.getElem_set_self]; rfl)
 rw [List.set_set] at S2
 exact ⟨rfl, S2.below (Below.refl _ _).drew, (Below.setCell (Below.setCell (BB.out.mono HW.out) HG.out _) HG.out _).drew⟩
end Go.Proofs.Ytameldhdegcpoaa
namespace Go.Proofs.Ytameldhdegcpoaa
open Go.ChangeShapes Go.WideShapes Go.ChangeAt Go.RowKit
set_option linter.unusedVariables false
set_option linter.unusedSimpArgs false
set_option maxRecDepth 100000 in
set_option maxHeartbeats 4000000 in
theorem takeNo {w : World} {p lo : Nat} {A : Option Addr} {a : Nat} {B : Option Addr} {b : Nat} {C : Option Addr} {d : Nat} {E : List Fig} {F L : List Int} (h : Bd w p lo A a B b C d E F L) (k : Nat) (hk : k < E.length) (fc fx fy fl fg rc rn ro rx ry v : Int) (hf : E[k]'hk = ⟨fc, fx, fy, fl, fg⟩)
 (b1 : 0 ≤ fx ∧ fx ≤ 3) (b2 : 0 ≤ fy ∧ fy ≤ 3) (b3 : 0 ≤ fg ∧ fg ≤ 20) (hF : 16 ≤ F.length) (hv : F.getD (fy * 4 + fx).toNat 0 = v) (b4 : 0 ≤ v ∧ v ≤ 20) (ho : v = 0) :
 Calls Try.prog 101 #[.agg #[.pointer (some ⟨p, 0, none⟩), .int .i64 k], .agg #[.int .i64 rc, .int .i64 rn, .int .i64 ro, .int .i64 rx, .int .i64 ry]] w fun e w' => e = .returned (.int .i64 7) ∧ Bd w' p lo A a B b C d E F L ∧ Below lo w w' := by
 obtain ⟨g, rfl, _, _⟩ := own_some h.e (by omega)
 obtain ⟨q, rfl, _, _⟩ := own_some h.f (by omega)
 have hlo := (own_block_ge h.e g rfl).1
 have hlq := (own_block_ge h.f q rfl).1
 have hlw : lo ≤ w.heap.size := by have := (own_block_ge h.e g rfl).2; omega
 have hqw := (own_block_ge h.f q rfl).2
 have hgq : g ≠ q := fun e => h.ef g rfl (by rw [e]; rfl)
 have BW : Hid (Below w.heap.size w ((w.alloc (.cells #[.pointer (some ⟨p, 0, none⟩), .int .i64 k] 111)).alloc (.cells #[.int .i64 rc, .int .i64 rn, .int .i64 ro, .int .i64 rx, .int .i64 ry] 49))) := below_alloc2 w _ _
 have H := Lib.hid (h.below BW.out)
 have KF : Hid (Bkk ((w.alloc (.cells #[.pointer (some ⟨p, 0, none⟩), .int .i64 k] 111)).alloc (.cells #[.int .i64 rc, .int .i64 rn, .int .i64 ro, .int .i64 rx, .int .i64 ry] 49)) w.heap.size 111 #[.pointer (some ⟨p, 0, none⟩), .int .i64 k]) := (Bkk.new w).alloc _
 obtain ⟨j, hj⟩ : ∃ j, (fy * 4 + fx).toNat = j := ⟨_, rfl⟩
 have hjl : j < F.length := by omega
 rw [hj] at hv
 have hv' : F[j]'hjl = v := by rw [List.getD_eq_getElem?_getD, List.getElem?_eq_getElem hjl] at hv; exact hv
 have HF := Lib.hid hf
 have HV := Lib.hid hv'
 have HG := Lib.hid hlo
 have HQ := Lib.hid hlq
 have HW := Lib.hid hlw
 have HQW := Lib.hid hqw
 clear hqw
 have HJ := Lib.hid hj
 clear h hf hlo hlq hlw hv hv'
 have gnd : ∀ (wz : World) (hz : Bd wz p lo (some ⟨g, 0, none⟩) a (some ⟨q, 0, none⟩) b C d E F L), Calls Try.prog 113 #[.agg #[.pointer (some ⟨p, 0, none⟩), .int .i64 k]] wz fun r w' => r = .returned (.pointer (some ⟨q, j, none⟩)) ∧ Below wz.heap.size wz w' := fun wz hz => by
  obtain ⟨g', hg', a0, a1, a2, a3, a4⟩ := RdF.of_own hz.e k hk
  cases hg'
  rw [HF.out] at a1 a2
  have := groundAt p k g E.length a q F.length b fx fy wz hz.at_.cells.1 hk hz.at_.cells.2.1 a1 a2 b1 b2 hF
  rw [HJ.out] at this
  exact this
 have GN := Lib.hid gnd
 clear gnd
 go_enter Try.func101, Try.ntmps101
 go_wp2_with (fail)
 refine (GN.out _ H.out).mono ?_
 rintro e wa ⟨rfl, hb⟩
 have BB := Lib.hid (Below.and BW.out hb)
 have H := Lib.hid (H.out.below hb)
 have KF := Lib.hid (KF.out.below hb)
 clear hb
 obtain ⟨q', hq', c0⟩ := RdI.of_own H.out.f j hjl
 cases hq'
 rw [HV.out] at c0
 have l1 : q < wa.heap.size := World.block_lt_of_cell? wa _ c0
 have e0 : (v == 0) = true := by simp [ho]
 go_wp2
 go_light
 go_ret
 exact ⟨rfl, H.out, BB.out.mono HW.out⟩
set_option maxRecDepth 100000 in
set_option maxHeartbeats 4000000 in
theorem takeYes {w : World} {p lo : Nat} {A : Option Addr} {a : Nat} {B : Option Addr} {b : Nat} {C : Option Addr} {d : Nat} {E : List Fig} {F L : List Int} (h : Bd w p lo A a B b C d E F L) (k : Nat) (hk : k < E.length) (fc fx fy fl fg rc rn ro rx ry v : Int) (hf : E[k]'hk = ⟨fc, fx, fy, fl, fg⟩)
 (b1 : 0 ≤ fx ∧ fx ≤ 3) (b2 : 0 ≤ fy ∧ fy ≤ 3) (b3 : 0 ≤ fg ∧ fg ≤ 20) (hF : 16 ≤ F.length) (hv : F.getD (fy * 4 + fx).toNat 0 = v) (b4 : 0 ≤ v ∧ v ≤ 20) (ho : v ≠ 0) :
 Calls Try.prog 101 #[.agg #[.pointer (some ⟨p, 0, none⟩), .int .i64 k], .agg #[.int .i64 rc, .int .i64 rn, .int .i64 ro, .int .i64 rx, .int .i64 ry]] w fun e w' => e = .returned (.int .i64 0) ∧ Bd w' p lo A a B b C d (E.set k ⟨fc, fx, fy, fl, fg + 1⟩) (F.set (fy * 4 + fx).toNat (v - 1)) L ∧ Below lo w w' := by
 obtain ⟨g, rfl, _, _⟩ := own_some h.e (by omega)
 obtain ⟨q, rfl, _, _⟩ := own_some h.f (by omega)
 have hlo := (own_block_ge h.e g rfl).1
 have hlq := (own_block_ge h.f q rfl).1
 have hlw : lo ≤ w.heap.size := by have := (own_block_ge h.e g rfl).2; omega
 have hqw := (own_block_ge h.f q rfl).2
 have hgq : g ≠ q := fun e => h.ef g rfl (by rw [e]; rfl)
 have BW : Hid (Below w.heap.size w ((w.alloc (.cells #[.pointer (some ⟨p, 0, none⟩), .int .i64 k] 111)).alloc (.cells #[.int .i64 rc, .int .i64 rn, .int .i64 ro, .int .i64 rx, .int .i64 ry] 49))) := below_alloc2 w _ _
 have H := Lib.hid (h.below BW.out)
 have KF : Hid (Bkk ((w.alloc (.cells #[.pointer (some ⟨p, 0, none⟩), .int .i64 k] 111)).alloc (.cells #[.int .i64 rc, .int .i64 rn, .int .i64 ro, .int .i64 rx, .int .i64 ry] 49)) w.heap.size 111 #[.pointer (some ⟨p, 0, none⟩), .int .i64 k]) := (Bkk.new w).alloc _
 obtain ⟨j, hj⟩ : ∃ j, (fy * 4 + fx).toNat = j := ⟨_, rfl⟩
 have hjl : j < F.length := by omega
 rw [hj] at hv
 have hv' : F[j]'hjl = v := by rw [List.getD_eq_getElem?_getD, List.getElem?_eq_getElem hjl] at hv; exact hv
 have HF := Lib.hid hf
 have HV := Lib.hid hv'
 have HG := Lib.hid hlo
 have HQ := Lib.hid hlq
 have HW := Lib.hid hlw
 have HQW := Lib.hid hqw
 clear hqw
 have HJ := Lib.hid hj
 clear h hf hlo hlq hlw hv hv'
 have gnd : ∀ (wz : World) (hz : Bd wz p lo (some ⟨g, 0, none⟩) a (some ⟨q, 0, none⟩) b C d E F L), Calls Try.prog 113 #[.agg #[.pointer (some ⟨p, 0, none⟩), .int .i64 k]] wz fun r w' => r = .returned (.pointer (some ⟨q, j, none⟩)) ∧ Below wz.heap.size wz w' := fun wz hz => by
  obtain ⟨g', hg', a0, a1, a2, a3, a4⟩ := RdF.of_own hz.e k hk
  cases hg'
  rw [HF.out] at a1 a2
  have := groundAt p k g E.length a q F.length b fx fy wz hz.at_.cells.1 hk hz.at_.cells.2.1 a1 a2 b1 b2 hF
  rw [HJ.out] at this
  exact this
 have GN := Lib.hid gnd
 clear gnd
 go_enter Try.func101, Try.ntmps101
 go_wp2_with (fail)
 refine (GN.out _ H.out).mono ?_
 rintro e wa ⟨rfl, hb⟩
 have BB := Lib.hid (Below.and BW.out hb)
 have H := Lib.hid (H.out.below hb)
 have KF := Lib.hid (KF.out.below hb)
 clear hb
 obtain ⟨q', hq', c0⟩ := RdI.of_own H.out.f j hjl
 cases hq'
 rw [HV.out] at c0
 have l1 : q < wa.heap.size := World.block_lt_of_cell? wa _ c0
 have e0 : (v == 0) = false := by simp [ho]
 have q1 : IntKind.i64.wrap (v - 1) = v - 1 := IntWalk.i64_in _ (by omega)
 have q2 : IntKind.i64.wrap (fg + 1) = fg + 1 := IntWalk.i64_in _ (by omega)
 have ff := fun i => H.out.f.frozenAt i
 have S1 := Lib.hid (H.out.setF j hjl (v - 1))
 have B1 : Hid (Below lo w (wa.setCell ⟨q, j, none⟩ (.int .i64 (v - 1)))) := Below.setCell (BB.out.mono HW.out) HQ.out _
 have hwq : q ≠ w.heap.size := by have := HQW.out; omega
 have KF1 : Hid (Bkk (wa.setCell ⟨q, j, none⟩ (.int .i64 (v - 1))) w.heap.size 111 #[.pointer (some ⟨p, 0, none⟩), .int .i64 k]) := KF.out.far hwq.symm j _
 have x0 : (wa.setCell ⟨q, j, none⟩ (.int .i64 (v - 1))).cell? ⟨w.heap.size, 0, none⟩ = some (.pointer (some ⟨p, 0, none⟩)) := KF1.out.cell 0
 have x1 : (wa.setCell ⟨q, j, none⟩ (.int .i64 (v - 1))).cell? ⟨w.heap.size, 1, none⟩ = some (.int .i64 k) := KF1.out.cell 1
 clear KF KF1
 go_wp2_with (fail)
 refine (entAt p k g E.length a _ S1.out.at_.cells.1 hk).mono ?_
 rintro e wb ⟨rfl, hb⟩
 have S1 := Lib.hid (S1.out.below hb)
 have B1 : Hid (Below lo w wb) := Below.trans B1.out (hb.mono (by have := B1.out.size; have := HW.out; omega))
 clear hb x0 x1 c0 ff H BB
 obtain ⟨g', hg', a0, a1, a2, a3, a4⟩ := RdF.of_own S1.out.e k hk
 cases hg'
 rw [HF.out] at a4
 simp only at a4
 have ff := fun i => S1.out.e.frozenAt i
 clear a0 a1 a2 a3
 go_wp2
 go_light
 go_ret
 have S2 := S1.out.setE k 4 hk (by decide) (.int .i64 (fg + 1)) ⟨fc, fx, fy, fl, fg + 1⟩ (by rw [HF.out]; rfl)
 rw [HJ.out]
 exact ⟨rfl, S2, Below.setCell B1.out HG.out _⟩
end Go.Proofs.Ytameldhdegcpoaa
