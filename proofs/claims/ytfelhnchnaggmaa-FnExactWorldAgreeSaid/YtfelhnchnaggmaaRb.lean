/- What a keeper took, each once; letters that it heard: the program's way. -/
import Derived.Test.YtfelhnchnaggmaaRa
import Derived.Test.YtfelhnchnaggmaaMH
import Derived.Test.YtfelhnchnaggmaaOg
import Derived.Maps.OwnSet
import Derived.Maps.Views
import Derived.DeepKeys4
namespace Go.Proofs.Ytfelhnchnaggmaa
open Go.ChangeShapes Go.WideShapes Go.ChangeAt Go.RowKit Go.Maps
set_option linter.unusedVariables false
set_option linter.unusedSimpArgs false

theorem snoc_ind {α : Type} {P : List α → Prop} (h0 : P []) (h1 : ∀ l a, P l → P (l ++ [a])) (l : List α) : P l := by
  have h : ∀ r : List α, P r.reverse := fun r => by
    induction r with
    | nil => exact h0
    | cons a r ih => rw [List.reverse_cons]; exact h1 _ _ ih
  have := h l.reverse
  rwa [List.reverse_reverse] at this

/-- The key of a place of a view. -/
abbrev keyV (c : Cl) : Value := .agg #[.int .i64 c.s, .int .i64 c.v, .int .i64 0, .int .i64 0, .int .i64 0, .int .i64 0, .int .i64 0]
theorem lawClaim : Keyed Try.prog 77 := Keyed.of_law (deep_law_laid Try.laidOut (m := 3) (by omega) (of_decide_eq_true (by kernel_rfl)) (by kernel_rfl) (by kernel_rfl))
/-- ky tells the keys of right places. -/
def KY (ky : Cl → Lit) : Prop := (∀ c, clB c = true → keyOf Try.prog 77 (keyV c) = some (ky c)) ∧ ∀ c d : Cl, c.s = d.s → c.v = d.v → ky c = ky d
theorem keys_all : ((List.range 5).all fun i => (List.range 7).all fun j => (keyOf Try.prog 77 (.agg #[.int .i64 ((i + 1 : Nat) : Int), .int .i64 ((j : Nat) : Int), .int .i64 0, .int .i64 0, .int .i64 0, .int .i64 0, .int .i64 0])).isSome) = true := by kernel_rfl
theorem cl_bd {c : Cl} (h : clB c = true) : (1 ≤ c.s ∧ c.s ≤ 5) ∧ 0 ≤ c.v ∧ c.v ≤ 6 := by
  simp only [clB, inB, Bool.and_eq_true, decide_eq_true_eq] at h
  exact ⟨h.1, h.2.1⟩
theorem ky_ex : ∃ ky, KY ky := by
  refine ⟨fun c => (keyOf Try.prog 77 (keyV c)).getD (.bool false), fun c h => ?_, fun c d h1 h2 => by show (keyOf Try.prog 77 (keyV c)).getD (.bool false) = (keyOf Try.prog 77 (keyV d)).getD (.bool false); rw [show keyV c = keyV d from by simp [h1, h2]]⟩
  obtain ⟨⟨h1, h2⟩, h3, h4⟩ := cl_bd h
  have ha := List.all_eq_true.1 (List.all_eq_true.1 keys_all (c.s.toNat - 1) (List.mem_range.2 (by omega))) c.v.toNat (List.mem_range.2 (by omega))
  rw [show ((c.s.toNat - 1 + 1 : Nat) : Int) = c.s from by omega, show ((c.v.toNat : Nat) : Int) = c.v from by omega] at ha
  obtain ⟨l, hl⟩ := Option.isSome_iff_exists.1 ha
  show keyOf Try.prog 77 (keyV c) = some ((keyOf Try.prog 77 (keyV c)).getD (.bool false))
  rw [show keyOf Try.prog 77 (keyV c) = some l from hl]
  rfl
section
variable {ky : Cl → Lit} (K : KY ky)
include K
theorem kyC_inj {c d : Cl} (hc : clB c = true) (hd : clB d = true) (h : ky c = ky d) : c.s = d.s ∧ c.v = d.v := by
  have := lawClaim.inj (K.1 c hc) (by rw [K.1 d hd, h])
  simpa using this
theorem kyC_lit {c : Cl} (h : clB c = true) : WideAt.IsKeyLit (ky c) := lawClaim.key (K.1 c h)
end

abbrev pl (c : Cl) : Int × Int := (c.s, c.v)
def pset (ky : Cl → Lit) (l : List Cl) : DataW Unit := l.foldl (fun D c => D.put (ky c) (.agg [])) (.map [])
theorem pset_snoc (ky : Cl → Lit) (l : List Cl) (c : Cl) : pset ky (l ++ [c]) = (pset ky l).put (ky c) (.agg []) := by unfold pset; rw [List.foldl_append]; rfl
theorem pset_facts {ky : Cl → Lit} (K : KY ky) : ∀ l : List Cl, (∀ c ∈ l, clB c = true) → Tidy (pset ky l) ∧ (∀ c, clB c = true → (Maps.has (pset ky l) (ky c) = true ↔ pl c ∈ l.map pl)) ∧ Maps.size (pset ky l) ≤ l.length ∧ (Maps.size (pset ky l) = l.length ↔ (l.map pl).Nodup) := by
  refine snoc_ind ?_ ?_
  · intro _
    refine ⟨tidy_empty, fun c _ => ?_, ?_, ?_⟩
    · simp [pset, Maps.has]
    · simp [pset, Maps.size]
    · simp [pset, Maps.size]
  · intro l a ih hl
    obtain ⟨t, hm, hs, hn⟩ := ih fun c hc => hl c (by simp [hc])
    have ha : clB a = true := hl a (by simp)
    have hk := kyC_lit K ha
    rw [pset_snoc]
    have e := size_put t (k := ky a) (.agg [])
    refine ⟨t.put hk _, fun c hc => ?_, ?_, ?_⟩
    · by_cases hq : ky c = ky a
      · rw [hq, has_put_same t.isMap hk]
        obtain ⟨h1, h2⟩ := kyC_inj K hc ha hq
        simp [h1, h2]
      · rw [has_put_other hq, hm c hc]
        have : pl c ≠ pl a := fun e => hq (K.2 c a (congrArg Prod.fst e) (congrArg Prod.snd e))
        simp only [List.map_append, List.mem_append, List.map_cons, List.map_nil, List.mem_singleton, this, or_false]
    · rw [e, List.length_append, List.length_singleton]
      split <;> omega
    · rw [e, List.length_append, List.length_singleton, List.map_append, List.nodup_append]
      by_cases hh : Maps.has (pset ky l) (ky a) = true
      · rw [if_pos hh]
        have hmem := (hm a ha).1 hh
        constructor
        · intro h; omega
        · rintro ⟨_, _, h⟩
          exact absurd rfl (h (pl a) hmem (pl a) (by simp))
      · rw [if_neg hh]
        have hmem : ¬ pl a ∈ l.map pl := fun h => hh ((hm a ha).2 h)
        constructor
        · intro h
          refine ⟨hn.1 (by omega), by simp, fun x hx y hy e => hmem ?_⟩
          simp only [List.map_cons, List.map_nil, List.mem_singleton] at hy
          rw [← hy, ← e]
          exact hx
        · rintro ⟨h, _, _⟩
          have := hn.2 h
          omega

/-- What a keeper took: right claims, each place of a view once. -/
def TK (l : List Cl) : Prop := (∀ c ∈ l, clB c = true) ∧ (l.map pl).Nodup
instance (l : List Cl) : Decidable (TK l) := inferInstanceAs (Decidable (_ ∧ _))
def tkB (l : List Cl) : Bool := decide (TK l)
theorem TK.take {l : List Cl} (h : TK l) (k : Nat) : TK (l.take k) := ⟨fun c hc => h.1 c (List.mem_of_mem_take hc), by rw [List.map_take]; exact h.2.sublist (List.take_sublist _ _)⟩
theorem not_tk_bad {l : List Cl} {k : Nat} (h : k < l.length) (hc : clB l[k] = false) : tkB l = false := decide_eq_false fun t => by have := t.1 l[k] (List.getElem_mem h); rw [hc] at this; cases this
theorem all_take {l : List Cl} {k : Nat} (h : k < l.length) (ht : ∀ c ∈ l.take k, clB c = true) (hc : clB l[k] = true) : ∀ c ∈ l.take (k + 1), clB c = true := fun c h' => by
  rw [List.take_succ_eq_append_getElem h, List.mem_append] at h'
  rcases h' with h' | h'
  · exact ht c h'
  · simp only [List.mem_singleton] at h'; rw [h']; exact hc
theorem tk_size {ky : Cl → Lit} (K : KY ky) {l : List Cl} (ht : ∀ c ∈ l, clB c = true) : decide (Maps.size (pset ky l) = l.length) = tkB l := by
  unfold tkB
  rw [decide_eq_decide]
  exact ⟨fun h => ⟨ht, (pset_facts K l ht).2.2.2.1 h⟩, fun h => (pset_facts K l ht).2.2.2.2 h.2⟩
abbrev OwP (w : World) (b n : Nat) (D : DataW Unit) : Prop := w.ownsMap Try.prog 77 unitElem b n D

set_option maxRecDepth 100000 in
set_option maxHeartbeats 1000000 in
theorem setAddC {ky : Cl → Lit} (K : KY ky) (b n : Nat) (D : DataW Unit) (x : Cl) (w : World) (hown : OwP w b n D) (hn : n < maxLen) (hx : clB x = true) :
    Calls Try.prog 101 #[.map (some b), keyV x] w fun e w' => e = .returned (.tuple #[]) ∧ OwP w' b (n + 1) (D.put (ky x) (.agg [])) ∧ w.grownBy w' (some b) := by
  have HO : Hid (OwP (w.alloc (.cells #[.int .i64 x.s, .int .i64 x.v, .int .i64 0, .int .i64 0, .int .i64 0, .int .i64 0, .int .i64 0] 77)) b n D) := hown.alloc _
  have GR : Hid (w.grownBy (w.alloc (.cells #[.int .i64 x.s, .int .i64 x.v, .int .i64 0, .int .i64 0, .int .i64 0, .int .i64 0, .int .i64 0] 77)) (some b)) := World.grownBy_alloc w _ (some b)
  have hkey := K.1 x hx
  clear hown hx
  go_enter Try.func101, Try.ntmps101
  go_wp2_with (at_mapUpdate; refine wpList_mapUpdate_own _ rfl _ _ _ 122 rfl 77 143 lawClaim Try.underlying122 (unitElem (H := Unit)) b n _ rfl HO.out hn _ _ _ rfl rfl hkey _ [] unitElem_mk ?_; intro w1 hown1 hgrow1)
  go_end0
  exact ⟨rfl, hown1, grownBy_trans GR.out hgrow1⟩

set_option maxRecDepth 100000 in
set_option maxHeartbeats 4000000 in
theorem tookOk (A : Option Addr) (a : Nat) (l : List Cl) (w : World) (hn : l.length ≤ maxLen) (hr : RdC w A l) :
    Calls Try.prog 77 #[.slice A l.length a] w fun e w' => e = .returned (.bool (decide (l.length ≤ 40) && tkB l)) ∧ Below w.heap.size w w' := by
  obtain ⟨ky, hky⟩ := ky_ex
  have KK := Lib.hid hky
  clear hky
  unfold maxLen at hn
  have HR := Lib.hid hr
  clear hr
  by_cases h40 : 40 < l.length
  · have e0 : decide ((40 : Int) < (l.length : Int)) = true := by simp; omega
    have HF := Lib.hid (show (decide (l.length ≤ 40) && tkB l) = false by rw [decide_eq_false (by omega)]; rfl)
    clear h40
    go_enter Try.func77, Try.ntmps77
    go_wp2
    go_light
    go_ret
    exact ⟨ret_bool HF.out.symm, Below.refl _ _⟩
  have e0 : decide ((40 : Int) < (l.length : Int)) = false := by simp; omega
  have HT := Lib.hid (show (decide (l.length ≤ 40) && tkB l) = tkB l by rw [decide_eq_true (by omega)]; rfl)
  have Z0 : Hid (Below w.heap.size w (w.alloc (.map #[] 0))) := (Below.refl _ _).alloc (Nat.le_refl _) _
  have O0 : Hid (OwP (w.alloc (.map #[] 0)) w.heap.size 0 (pset ky [])) := World.ownsMap_made w Try.prog 77 (unitElem (H := Unit))
  have hmm := @run_makeMap Try.prog
  go_enter Try.func77, Try.ntmps77
  go_wp2
  go_loopw [12] (fun i wr => ∃ k : Nat, k ≤ l.length ∧ i = .int .i64 k ∧ Hid (∀ c ∈ l.take k, clB c = true) ∧ Hid (OwP wr w.heap.size k (pset ky (l.take k))) ∧ Hid (Below w.heap.size w wr)) (fun i _ => l.length - (intOf i).toNat)
  case atStart => exact ⟨0, Nat.zero_le _, rfl, by simp [Hid], O0, Z0⟩
  case round =>
    clear Z0 O0 hmm
    obtain ⟨k, hk, rfl, hv, ho, hb⟩ := hrel
    by_cases hlt : k < l.length
    · obtain ⟨g, o, rfl, ca⟩ := Rd.below HR.out hb.out k hlt
      have HS := Lib.hid (show pset ky (l.take (k + 1)) = (pset ky (l.take k)).put (ky l[k]) (.agg []) by rw [List.take_succ_eq_append_getElem hlt, pset_snoc])
      have HV := Lib.hid (fun h => all_take hlt hv.out h)
      have HB := Lib.hid (fun h => not_tk_bad hlt h)
      generalize l[k] = x at ca HS HV HB
      have a0 : wr.cell? ⟨g, o + k * 7, none⟩ = some (.int .i64 x.s) := ca 0 _ rfl
      have a1 : wr.cell? ⟨g, o + k * 7 + 1, none⟩ = some (.int .i64 x.v) := ca 1 _ rfl
      have a2 : wr.cell? ⟨g, o + k * 7 + 2, none⟩ = some (.int .i64 x.r.c) := ca 2 _ rfl
      have a3 : wr.cell? ⟨g, o + k * 7 + 3, none⟩ = some (.int .i64 x.r.n) := ca 3 _ rfl
      have a4 : wr.cell? ⟨g, o + k * 7 + 4, none⟩ = some (.int .i64 x.r.o) := ca 4 _ rfl
      have a5 : wr.cell? ⟨g, o + k * 7 + 5, none⟩ = some (.int .i64 x.r.x) := ca 5 _ rfl
      have a6 : wr.cell? ⟨g, o + k * 7 + 6, none⟩ = some (.int .i64 x.r.y) := ca 6 _ rfl
      clear ca
      have BB := Lib.hid (hb.out.alloc hb.out.size (.cells #[.int .i64 x.s, .int .i64 x.v, .int .i64 x.r.c, .int .i64 x.r.n, .int .i64 x.r.o, .int .i64 x.r.x, .int .i64 x.r.y] 77))
      have OD : Hid (OwP (wr.alloc (.cells #[.int .i64 x.s, .int .i64 x.v, .int .i64 x.r.c, .int .i64 x.r.n, .int .i64 x.r.o, .int .i64 x.r.x, .int .i64 x.r.y] 77)) w.heap.size k (pset ky (l.take k))) := ho.out.alloc _
      have KX : Hid (Blk (wr.alloc (.cells #[.int .i64 x.s, .int .i64 x.v, .int .i64 x.r.c, .int .i64 x.r.n, .int .i64 x.r.o, .int .i64 x.r.x, .int .i64 x.r.y] 77)) wr.heap.size 77 #[.int .i64 x.s, .int .i64 x.v, .int .i64 x.r.c, .int .i64 x.r.n, .int .i64 x.r.o, .int .i64 x.r.x, .int .i64 x.r.y]) := Blk.new wr
      have i0 : (0 : Int) ≤ (k : Int) := by omega
      have i1 : (k : Int) < (l.length : Int) := by omega
      go_wp2_with (fail)
      refine (claimValid x _).mono ?_
      rintro e w1 ⟨rfl, h1⟩
      have BB := Lib.hid (Below.and BB.out h1)
      have KX := Lib.hid (KX.out.below h1)
      have OD : Hid (OwP w1 w.heap.size k (pset ky (l.take k))) := OD.out.kept (Below.grownBy h1 none) (by simp)
      clear h1
      rcases hc : clB x with _ | _
      · go_wp2
        go_light
        go_ret
        exact ⟨ret_bool (HT.out.trans (HB.out hc)).symm, BB.out⟩
      have HC := Lib.hid hc
      clear hc
      have y0 : w1.cell? ⟨wr.heap.size, 0, none⟩ = some (.int .i64 x.s) := KX.out.cell 0
      have y1 : w1.cell? ⟨wr.heap.size, 1, none⟩ = some (.int .i64 x.v) := KX.out.cell 1
      go_wp2_with (fail)
      refine (setAddC KK.out w.heap.size k _ x _ OD.out (by unfold maxLen; omega) HC.out).mono ?_
      rintro e w6 ⟨rfl, ho6, hg6⟩
      have O6 : Hid (OwP w6 w.heap.size (k + 1) (pset ky (l.take (k + 1)))) := by
        show OwP _ _ _ _
        rw [HS.out]
        exact ho6
      have B6 := Lib.hid (Below.trans BB.out (Below.of_grown hg6 BB.out.size (fun q hq => by cases hq; omega)))
      clear ho6 hg6 y0 y1
      go_wp2
      go_roundw
      case rel => exact ⟨k + 1, by omega, by go_num, HV.out HC.out, O6, B6⟩
      case measure => simp [intOf]; omega
    · obtain rfl : k = l.length := by omega
      have hv := hv.out
      have ho := ho.out
      rw [List.take_length] at hv ho
      have HE := Lib.hid (tk_size KK.out hv)
      have ho := Lib.hid ho
      generalize hz : Maps.size (pset ky l) = z at HE
      have HZ := Lib.hid hz
      clear hz hv
      by_cases hzl : z = l.length
      · have hq : ((z : Int) == (l.length : Int)) = true := by simp; omega
        go_wp2_with (at_len; refine wpList_len_own _ rfl _ 122 rfl 77 143 Try.underlying122 (unitElem (H := Unit)) _ l.length _ rfl ho.out ?_; rw [HZ.out])
        go_light
        go_ret
        exact ⟨ret_bool (by rw [HT.out, ← HE.out]; simp; omega), hb.out⟩
      · have hq : ((z : Int) == (l.length : Int)) = false := by simp; omega
        go_wp2_with (at_len; refine wpList_len_own _ rfl _ 122 rfl 77 143 Try.underlying122 (unitElem (H := Unit)) _ l.length _ rfl ho.out ?_; rw [HZ.out])
        go_light
        go_ret
        exact ⟨ret_bool (by rw [HT.out, ← HE.out]; simp; omega), hb.out⟩

theorem storable (k : Int) (w : World) :
    Calls Try.prog 102 #[.int .i64 k] w fun e w' => e = .returned (.bool (inB k 3 5)) ∧ w = w' := by
  go_enter Try.func102, Try.ntmps102
  by_cases h3 : k = 3
  · subst h3
    go_wp2
    go_light
    go_ret
    exact ⟨rfl, rfl⟩
  have e3 : (k == 3) = false := by simpa using h3
  by_cases h4 : k = 4
  · subst h4
    go_wp2
    go_light
    go_ret
    exact ⟨rfl, rfl⟩
  have e4 : (k == 4) = false := by simpa using h4
  by_cases h5 : k = 5
  · subst h5
    go_wp2
    go_light
    go_ret
    exact ⟨rfl, rfl⟩
  have e5 : (k == 5) = false := by simpa using h5
  have hf : inB k 3 5 = false := by
    simp only [inB, Bool.and_eq_false_iff, decide_eq_false_iff_not]
    omega
  have HF := Lib.hid hf
  clear hf h3 h4 h5
  go_wp2
  go_light
  go_ret
  exact ⟨ret_bool HF.out.symm, rfl⟩

def hdB (P : List MgP) : Bool := P.all fun m => inB m.k 3 5 && okP m
theorem hdB_step {P : List MgP} {k : Nat} (h : k < P.length) : hdB (P.drop k) = ((inB P[k].k 3 5 && okP P[k]) && hdB (P.drop (k + 1))) := by
  rw [List.drop_eq_getElem_cons h]; rfl

set_option maxRecDepth 100000 in
set_option maxHeartbeats 4000000 in
theorem heardOk (A : Option Addr) (a : Nat) (P : List MgP) (w : World) (hn : P.length ≤ maxLen) (hr : RdMs w A P) :
    Calls Try.prog 78 #[.slice A P.length a] w fun e w' => e = .returned (.bool (decide (P.length ≤ 120) && hdB P)) ∧ Below w.heap.size w w' := by
  unfold maxLen at hn
  have HR := Lib.hid hr
  clear hr
  by_cases h40 : 120 < P.length
  · have e0 : decide ((120 : Int) < (P.length : Int)) = true := by simp; omega
    have HF := Lib.hid (show (decide (P.length ≤ 120) && hdB P) = false by rw [decide_eq_false (by omega)]; rfl)
    clear h40
    go_enter Try.func78, Try.ntmps78
    go_wp2
    go_light
    go_ret
    exact ⟨ret_bool HF.out.symm, Below.refl _ _⟩
  have e0 : decide ((120 : Int) < (P.length : Int)) = false := by simp; omega
  have HT := Lib.hid (show (decide (P.length ≤ 120) && hdB P) = hdB P by rw [decide_eq_true (by omega)]; rfl)
  go_enter Try.func78, Try.ntmps78
  go_wp2
  go_loopw [10] (fun i wr => ∃ k : Nat, k ≤ P.length ∧ i = .int .i64 k ∧ Hid (hdB P = hdB (P.drop k)) ∧ Hid (Below w.heap.size w wr)) (fun i _ => P.length - (intOf i).toNat)
  case atStart => exact ⟨0, Nat.zero_le _, rfl, by simp [Hid], Below.refl _ _⟩
  case round =>
    obtain ⟨k, hk, rfl, ht, hb⟩ := hrel
    by_cases hlt : k < P.length
    · obtain ⟨g, o, rfl, ca⟩ := Rd.below HR.out.1 hb.out k hlt
      have rx := (HR.out.2 P[k] (List.getElem_mem hlt)).below hb.out
      have HD := Lib.hid (ht.out.trans (hdB_step hlt))
      clear ht
      generalize P[k] = x at ca rx HD
      have a0 : wr.cell? ⟨g, o + k * 11, none⟩ = some (.int .i64 x.k) := ca 0 _ rfl
      have a1 : wr.cell? ⟨g, o + k * 11 + 1, none⟩ = some (.int .i64 x.f) := ca 1 _ rfl
      have a2 : wr.cell? ⟨g, o + k * 11 + 2, none⟩ = some (.int .i64 x.v) := ca 2 _ rfl
      have a3 : wr.cell? ⟨g, o + k * 11 + 3, none⟩ = some (.int .i64 x.s) := ca 3 _ rfl
      have a4 : wr.cell? ⟨g, o + k * 11 + 4, none⟩ = some (.int .i64 x.r.c) := ca 4 _ rfl
      have a5 : wr.cell? ⟨g, o + k * 11 + 5, none⟩ = some (.int .i64 x.r.n) := ca 5 _ rfl
      have a6 : wr.cell? ⟨g, o + k * 11 + 6, none⟩ = some (.int .i64 x.r.o) := ca 6 _ rfl
      have a7 : wr.cell? ⟨g, o + k * 11 + 7, none⟩ = some (.int .i64 x.r.x) := ca 7 _ rfl
      have a8 : wr.cell? ⟨g, o + k * 11 + 8, none⟩ = some (.int .i64 x.r.y) := ca 8 _ rfl
      have a9 : wr.cell? ⟨g, o + k * 11 + 9, none⟩ = some (.slice x.A x.cl.length x.a) := ca 9 _ rfl
      have a10 : wr.cell? ⟨g, o + k * 11 + 10, none⟩ = some (.slice x.B x.vt.length x.b) := ca 10 _ rfl
      clear ca
      have BB := Lib.hid (hb.out.alloc hb.out.size (.cells #[.int .i64 x.k, .int .i64 x.f, .int .i64 x.v, .int .i64 x.s, .int .i64 x.r.c, .int .i64 x.r.n, .int .i64 x.r.o, .int .i64 x.r.x, .int .i64 x.r.y, .slice x.A x.cl.length x.a, .slice x.B x.vt.length x.b] 72))
      have RX : Hid (x.rd (wr.alloc (.cells #[.int .i64 x.k, .int .i64 x.f, .int .i64 x.v, .int .i64 x.s, .int .i64 x.r.c, .int .i64 x.r.n, .int .i64 x.r.o, .int .i64 x.r.x, .int .i64 x.r.y, .slice x.A x.cl.length x.a, .slice x.B x.vt.length x.b] 72))) := rx.below ((Below.refl _ _).alloc (Nat.le_refl _) _)
      clear rx
      have i0 : (0 : Int) ≤ (k : Int) := by omega
      have i1 : (k : Int) < (P.length : Int) := by omega
      rcases h1 : inB x.k 3 5 with _ | _
      · have HN := Lib.hid (show hdB P = false by rw [HD.out, h1]; rfl)
        go_wp2_with (go_at_call 102; refine (storable _ _).mono ?_; rintro e w' ⟨rfl, rfl⟩; rw [h1])
        go_light
        go_ret
        exact ⟨ret_bool (HT.out.trans HN.out).symm, BB.out⟩
      have HD := Lib.hid (show hdB P = (okP x && hdB (P.drop (k + 1))) by rw [HD.out, h1]; rfl)
      go_wp2_with (go_at_call 102; refine (storable _ _).mono ?_; rintro e w' ⟨rfl, rfl⟩; rw [h1])
      refine (implMsgOk x _ RX.out).mono ?_
      rintro e w1 ⟨rfl, hb1⟩
      have BB := Lib.hid (Below.and BB.out hb1)
      clear hb1
      rcases h2 : okP x with _ | _
      · have HN := Lib.hid (show hdB P = false by rw [HD.out, h2]; rfl)
        go_wp2
        go_light
        go_ret
        exact ⟨ret_bool (HT.out.trans HN.out).symm, BB.out⟩
      · have HN := Lib.hid (show hdB P = hdB (P.drop (k + 1)) by rw [HD.out, h2]; rfl)
        clear h1 h2
        go_wp2
        go_roundw
        case rel => exact ⟨k + 1, by omega, by go_num, HN, BB⟩
        case measure => simp [intOf]; omega
    · have HZ := Lib.hid (show hdB P = true by rw [ht.out, List.drop_of_length_le (by omega)]; rfl)
      go_wp2
      go_light
      go_ret
      exact ⟨ret_bool (HT.out.trans HZ.out).symm, hb.out⟩

end Go.Proofs.Ytfelhnchnaggmaa
