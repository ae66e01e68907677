/- A list is shuffled, the program's way. -/
import Derived.Test.YtkhneligclhgaaaFc
import Derived.Test.YtkhneligclhgaaaAp
import Derived.Test.YtkhneligclhgaaaFe
namespace Go.Proofs.Ytkhneligclhgaaa
open Go.ChangeShapes Go.WideShapes Go.ChangeAt Go.RowKit
set_option linter.unusedVariables false
set_option linter.unusedSimpArgs false

open Go.Shelf
attribute [local go_sem] Oper.semAt_some
abbrev cD (x : Int) : List Value := [.int .i64 x]
theorem flat_cD (D : List Int) : D.flatMap cD = ints D := by
  induction D with
  | nil => rfl
  | cons a t ih => simp only [List.flatMap_cons, ih]; rfl
theorem cD_one (D : List Int) : ∀ u ∈ D.flatMap cD, u.oneCell' = true := by
  intro u hu
  rw [flat_cD] at hu
  obtain ⟨a, _, rfl⟩ := List.mem_map.1 hu
  rfl
theorem infoInt : (Try.prog.info? 3).map (fun i => (i.zero, i.size, i.bytes)) = some (some (.int .i64 0), 1, 8) := by kernel_rfl
theorem parts_ofD {P : Program} {e : TypeId} {z : Value} {s b : Nat} (h : (P.info? e).map (fun i => (i.zero, i.size, i.bytes)) = some (some z, s, b)) : ∃ i, P.info? e = some i ∧ i.zero = some z ∧ i.size = s ∧ i.bytes = b := by
  cases hi : P.info? e with
  | none => rw [hi] at h; cases h
  | some i =>
    rw [hi] at h
    simp only [Option.map_some, Option.some.injEq, Prod.mk.injEq] at h
    exact ⟨i, rfl, h.1, h.2.1, h.2.2⟩
theorem own_formD {w : World} {base : Nat} {e : TypeId} {size : Nat} {v : Value} {n : Nat} {xs : List Value} (h : w.ownsRow base e size v n xs) : ∃ A c, v = .slice A n c := by
  obtain ⟨A, c, h1, _⟩ := own_form h
  exact ⟨A, c, h1⟩
def OwD (w : World) (lo : Nat) (A : Option Addr) (a : Nat) (D : List Int) : Prop := w.ownsRow lo 3 1 (.slice A D.length a) D.length (ints D)
theorem OwD.nil (w : World) (lo : Nat) : OwD w lo none 0 [] := World.ownsRow_nil _ _ _ _
theorem OwD.below {w w' : World} {lo : Nat} {A : Option Addr} {a : Nat} {D : List Int} (h : OwD w lo A a D) (hb : Below w.heap.size w w') : OwD w' lo A a D := own_below (show w.ownsRow _ _ _ _ _ _ from h) hb
theorem OwD.base {w : World} {lo lo' : Nat} {A : Option Addr} {a : Nat} {D : List Int} (h : OwD w lo A a D) (hb : lo' ≤ lo) : OwD w lo' A a D := own_base (show w.ownsRow _ _ _ _ _ _ from h) hb
theorem OwD.rdI {w : World} {lo : Nat} {A : Option Addr} {a : Nat} {D : List Int} (h : OwD w lo A a D) : RdI w A D := RdI.of_own (show w.ownsRow _ _ _ _ _ _ from h)
theorem RdI.rd {w : World} {A : Option Addr} {D : List Int} (h : RdI w A D) : Rd 1 cD w A D := fun i hi => by
  obtain ⟨g, e, hc⟩ := h i hi
  refine ⟨g, 0, e, fun j v hj => ?_⟩
  rcases j with _ | j
  · simp only [cD, List.getElem?_cons_zero, Option.some.injEq] at hj
    subst hj
    simpa using hc
  · simp [cD] at hj
theorem OwD.kept {w w' : World} {lo : Nat} {A : Option Addr} {a : Nat} {D : List Int} {row : Option Nat} (h : OwD w lo A a D) (hg : w.grownBy w' row) (hr : (Value.slice A D.length a).ownBlock ≠ row) : OwD w' lo A a D :=
  World.ownsRow.kept (show w.ownsRow _ _ _ _ _ _ from h) hg (.inr hr)
theorem OwD.ge {w : World} {lo : Nat} {A : Option Addr} {a : Nat} {D : List Int} (h : OwD w lo A a D) : ∀ k, (Value.slice A D.length a).ownBlock = some k → lo ≤ k ∧ k < w.heap.size := own_block_ge (show w.ownsRow _ _ _ _ _ _ from h)
def DoS (R : List Int) (w : World) (e : Ending) (w' : World) : Prop := ∃ A' a', e = .returned (.slice A' R.length a') ∧ OwD w' w.heap.size A' a' R ∧ Below w.heap.size w w'
set_option maxRecDepth 100000 in
set_option maxHeartbeats 2000000 in
theorem implShufNo (A : Option Addr) (a : Nat) (L : List Int) (s : Int) (w : World) (hl : L.length ≤ 1048576) (h : shB L s = false) :
    Calls Try.prog 23 #[.slice A L.length a, .int .i64 s] w (DoS [] w) := by
  go_enter Try.func23, Try.ntmps23
  go_wp2_with (go_at_call 40; refine (canShuffle A a L s _ (by omega)).mono ?_; rintro e w' ⟨rfl, rfl⟩; rw [h])
  go_ret
  exact ⟨none, 0, rfl, OwD.nil _ _, Below.refl _ _⟩

set_option maxRecDepth 100000 in
set_option maxHeartbeats 4000000 in
theorem implShufYes (A : Option Addr) (a : Nat) (L : List Int) (n : Nat) (w : World) (hA : A = none → a = 0) (hr : RdI w A L) (h : shB L (n : Int) = true) :
    Calls Try.prog 23 #[.slice A L.length a, .int .i64 (n : Int)] w (DoS (shufI L (n : Int)) w) := by
  obtain ⟨n', hn', hn, h20⟩ := shB_nat h
  obtain rfl : n = n' := by omega
  have HR := Lib.hid hr.rd
  have HA := Lib.hid hA
  have HX := Lib.hid (shufI_yes h)
  have HH := Lib.hid h
  clear hr hA hn' h
  obtain ⟨I, hi, hz0, hz1, hz2⟩ := parts_ofD infoInt
  have I1 := Lib.hid hi
  have I2 := Lib.hid hz0
  have I3 := Lib.hid hz1
  have I4 := Lib.hid hz2
  clear hi hz0 hz1 hz2
  refine (callsIn_wide (n := 10)).1 ?_
  refine callsIn_of_wp_marks Try.func23 rfl trivial ?_ rfl
  simp only [Try.ntmps23, List.size_toArray, List.length_cons, List.length_nil, Nat.reduceAdd, Nat.reduceSub, Array.replicate_succ, Array.replicate_zero, List.push_toArray, List.append_toArray, List.nil_append, List.cons_append]
  refine wpIn_wide.2 ?_
  go_wp2_with (fail)
  refine (canShuffle A a L _ _ (by omega)).mono ?_
  rintro e w' ⟨rfl, rfl⟩
  rw [HH.out]
  go_wp2_with (at_builtin; go_loud (refine list_app (f := cD) (fun _ => rfl) rfl _ _ 30 rfl w.heap.size 3 I (.int .i64 0) 8 Try.underlying30 I1.out I2.out I3.out I4.out rfl (by decide) (.slice none 0 0) 0 [] rfl (World.ownsRow_nil _ _ _ _) A a L.length L rfl rfl HR.out HA.out (cD_one _) (by unfold maxLen; omega) (by omega) (Nat.le_refl _) ?_))
  intro v3 w3 ho hg hp
  (try simp only [Nat.zero_add, List.nil_append] at ho)
  rw [flat_cD] at ho
  obtain ⟨A1, a1, rfl⟩ := own_formD ho
  have Z := Lib.hid ((Below.refl w.heap.size w).grown hg (Nat.le_refl _) (fun q hq => by cases hq))
  have OA := Lib.hid (show OwD w3 w.heap.size A1 a1 L from ho)
  clear ho hg hp
  go_wp2_with (fail)
  refine (rollsC L.length n _).mono ?_
  rintro e w' ⟨rfl, rfl⟩
  go_wp2_with (fail)
  obtain ⟨p, hp⟩ : ∃ p, w3.heap.size = p := ⟨_, rfl⟩
  obtain ⟨W0, hW0⟩ : ∃ W0, W0 = ((w3.alloc (.cells #[.slice A1 L.length a1] 30)).alloc (.cells #[.int .i64 (L.length : Int)] 3)).alloc (.cells #[.int .i64 (n : Int)] 3) := ⟨_, rfl⟩
  have B1 : Boxed W0 p 30 (.slice A1 L.length a1) := by rw [hW0, ← hp]; exact ((Boxed.new w3 _ _).alloc _).alloc _
  have B2 : Bkk W0 (p + 1) 3 #[.int .i64 (L.length : Int)] := by rw [hW0, ← hp]; have := (Bkk.new (t := 3) (cs := #[.int .i64 (L.length : Int)]) (w3.alloc (.cells #[.slice A1 L.length a1] 30))).alloc (.cells #[.int .i64 (n : Int)] 3); simpa using this
  have B3 : Bkk W0 (p + 1 + 1) 3 #[.int .i64 (n : Int)] := by rw [hW0, ← hp]; have := (Bkk.new (t := 3) (cs := #[.int .i64 (n : Int)]) ((w3.alloc (.cells #[.slice A1 L.length a1] 30)).alloc (.cells #[.int .i64 (L.length : Int)] 3))); simpa using this
  have hb0 : Below w3.heap.size w3 W0 := by rw [hW0]; exact (((Below.refl _ _).alloc (Nat.le_refl _) _).alloc (by simp) _).alloc (by simp; omega) _
  have ZW := Below.and Z.out hb0
  have OW := OA.out.below hb0
  have hle : w.heap.size ≤ p := by rw [← hp]; exact Z.out.size
  have hlW := B1.lt
  rw [hp, ← hW0]
  clear hb0 hW0 OA Z
  refine (wpIn_wide (n := 10)).1 ?_
  refine wpIn_rangeFunc_ownF (n := 10) (Kp := fun _ _ => True) rfl (by decide) (gf := 44) (lb := #[.pointer (some ⟨p + 1 + 1, 0, none⟩), .pointer (some ⟨p + 1, 0, none⟩)]) rfl trivial (enters_of Try.func44 (by kernel_rfl) rfl)
    (rollStops 9 (by decide) (p + 1) (p + 1 + 1) L.length n W0 h20 hn B2 B3) (fun _ _ => trivial) (fun _ _ _ _ _ _ _ _ => trivial) (Below.refl _ _) (fun _ => rfl)
    (fun pre W => (∃ v, Boxed W p 30 v ∧ W.ownsRow w.heap.size 3 1 v L.length (ints (dRun (pre.map Subtype.val) L)) ∧ v = .slice A1 L.length a1) ∧ Below w.heap.size w W)
    (fun _ _ _ => False)
    (OwnFrom.and (Own.from (holdsRow_own w.heap.size p 30 3 1 (fun _ => L.length) (fun pre : List (PrM L.length) => ints (dRun (pre.map Subtype.val) L)) (fun _ v => v = .slice A1 L.length a1)) _) (ownFrom_below (Nat.le_refl _) (by omega)))
    (fun _ _ _ _ _ hs _ _ => hs)
    ⟨⟨_, B1, OW, rfl⟩, ZW⟩
    (fun x => { tmps := #[.slice A L.length a, .int .i64 (n : Int), undef, undef, .slice none 0 0, .pointer (some ⟨p, 0, none⟩), .int .i64 (x.1.1 : Int), .int .i64 (x.1.2 : Int), .slice A L.length a, .int .i64 (n : Int), .bool true, .bool false, .slice A L.length a, .slice A1 L.length a1, .slice A L.length a, .int .i64 (L.length : Int), .int .i64 (n : Int), .func (.func 44) #[] #[.pointer (some ⟨p + 1 + 1, 0, none⟩), .pointer (some ⟨p + 1, 0, none⟩)], .int .i64 (x.1.1 : Int), .int .i64 (x.1.2 : Int), undef, undef, undef, undef, undef, undef, undef, undef, undef, undef, undef, undef, undef, undef, undef], defers := [] }) ?assign ?body ?done ?stop
  case assign =>
    intro l x W K hK
    gi_wp2
    exact hK
  case body =>
    rintro l pre ⟨⟨i, k⟩, hi, hk⟩ W ⟨⟨_, BX, ho, rfl⟩, hB⟩ _
    dsimp only at hi hk ⊢
    obtain ⟨D, hD⟩ : ∃ D, dRun (pre.map Subtype.val) L = D := ⟨_, rfl⟩
    have hDl : D.length = L.length := by rw [← hD, dRun_len]
    have HF := Lib.hid (show dRun ((pre ++ [(⟨(i, k), hi, hk⟩ : PrM L.length)]).map Subtype.val) L = dSw D (i, k) by rw [List.map_append, dRun_app, hD]; rfl)
    rw [hD] at ho
    obtain ⟨g, rfl, hg1, hg2⟩ := own_some ho (by omega)
    have hne : p ≠ g := fun e => BX.not_row (by decide) ho (by rw [e]; rfl)
    have ci : W.cell? ⟨g, i, none⟩ = some (.int .i64 (D.getD i 0)) := by
      rw [ho.cellAt i (by omega)]; simp [List.getD_eq_getElem?_getD, show i < D.length by omega]
    have ck : W.cell? ⟨g, k, none⟩ = some (.int .i64 (D.getD k 0)) := by
      rw [ho.cellAt k (by omega)]; simp [List.getD_eq_getElem?_getD, show k < D.length by omega]
    have bne : some p ≠ some g := fun e => hne (by injection e)
    obtain ⟨W1, hW1⟩ : ∃ X, X = W.drew := ⟨_, rfl⟩
    have BX1 : Boxed W1 p 30 (.slice (some ⟨g, 0, none⟩) L.length a1) := by rw [hW1]; exact BX
    have ho1 : W1.ownsRow w.heap.size 3 1 (.slice (some ⟨g, 0, none⟩) L.length a1) L.length (ints D) := by rw [hW1]; exact ho
    have hB1 : Below w.heap.size w W1 := by rw [hW1]; exact hB.drew
    have hK1 : KeepsOthers W W1 := by rw [hW1]; exact KeepsOthers.drew W
    have ci1 : W1.cell? ⟨g, i, none⟩ = some (.int .i64 (D.getD i 0)) := by rw [hW1]; exact ci
    have ck1 : W1.cell? ⟨g, k, none⟩ = some (.int .i64 (D.getD k 0)) := by rw [hW1]; exact ck
    have hs1 := ho1.stored i (.int .i64 (D.getD k 0))
    have hs2 := hs1.1.stored k (.int .i64 (D.getD i 0))
    have hrow : ((ints D).set i (.int .i64 (D.getD k 0))).set k (.int .i64 (D.getD i 0)) = ints (dSw D (i, k)) := by
      simp only [ints, dSw, List.map_set]
    rw [hrow, ← HF.out] at hs2
    have HEND := Lib.hid (show KeepsOthers W ((W1.setCell ⟨g, i, none⟩ (.int .i64 (D.getD k 0))).setCell ⟨g, k, none⟩ (.int .i64 (D.getD i 0))) ∧ True ∧ (∃ v, Boxed ((W1.setCell ⟨g, i, none⟩ (.int .i64 (D.getD k 0))).setCell ⟨g, k, none⟩ (.int .i64 (D.getD i 0))) p 30 v ∧ ((W1.setCell ⟨g, i, none⟩ (.int .i64 (D.getD k 0))).setCell ⟨g, k, none⟩ (.int .i64 (D.getD i 0))).ownsRow w.heap.size 3 1 v L.length (ints (dRun ((pre ++ [(⟨(i, k), hi, hk⟩ : PrM L.length)]).map Subtype.val) L)) ∧ v = .slice (some ⟨g, 0, none⟩) L.length a1) ∧ Below w.heap.size w ((W1.setCell ⟨g, i, none⟩ (.int .i64 (D.getD k 0))).setCell ⟨g, k, none⟩ (.int .i64 (D.getD i 0))) from
      ⟨hK1.trans ((KeepsOthers.setCell _ _ _).trans (KeepsOthers.setCell _ _ _)), trivial, ⟨_, (BX1.kept hs1.2 bne).kept hs2.2 bne, hs2.1, rfl⟩, (hB1.setCell (p := ⟨g, i, none⟩) hg1 _).setCell (p := ⟨g, k, none⟩) hg1 _⟩)
    obtain ⟨z, cz⟩ : ∃ z, (W1.setCell ⟨g, i, none⟩ (.int .i64 (D.getD k 0))).cell? ⟨g, k, none⟩ = some z := ⟨_, (hs1.1.cellAt k (by omega)).trans (List.getElem?_eq_getElem (by simp; omega))⟩
    have fz : ∀ o, W1.frozen? ⟨g, o, none⟩ = false := fun o => ho1.frozenAt o
    have cx := BX1.cell
    have SC := Lib.hid (fun (j : Nat) (u : Value) => show (W1.setCell ⟨g, j, none⟩ u).cell? ⟨p, 0, none⟩ = some (.slice (some ⟨g, 0, none⟩) L.length a1) from (BX1.kept (ho1.stored j u).2 bne).cell)
    have SC2 := Lib.hid (fun (j : Nat) (u : Value) (j2 : Nat) (u2 : Value) => show ((W1.setCell ⟨g, j, none⟩ u).setCell ⟨g, j2, none⟩ u2).cell? ⟨p, 0, none⟩ = some (.slice (some ⟨g, 0, none⟩) L.length a1) from ((BX1.kept (ho1.stored j u).2 bne).kept ((ho1.stored j u).1.stored j2 u2).2 bne).cell)
    have i0 : (0 : Int) ≤ (i : Int) := by omega
    have i1 : (i : Int) < (L.length : Int) := by omega
    have k0 : (0 : Int) ≤ (k : Int) := by omega
    have k1 : (k : Int) < (L.length : Int) := by omega
    clear ci ck ho ho1 hs1 hs2 hrow HF hD hDl BX BX1 hB hB1 hK1 bne hne B1 B2 B3 OW ZW hg1 hle hlW
    generalize D.getD i 0 = u at ci1 HEND
    generalize D.getD k 0 = v at ck1 HEND cz
    gi_wp2
    refine region_round (K := fun w1 => KeepsOthers W w1 ∧ True ∧ (∃ v, Boxed w1 p 30 v ∧ w1.ownsRow w.heap.size 3 1 v L.length (ints (dRun ((pre ++ [(⟨(i, k), hi, hk⟩ : PrM L.length)]).map Subtype.val) L)) ∧ v = .slice (some ⟨g, 0, none⟩) L.length a1) ∧ Below w.heap.size w w1) (by kernel_rfl) (noDefer_at (by kernel_rfl)) (fun w1 => w1.cell? ⟨p, 0, none⟩ = some (.slice (some ⟨g, 0, none⟩) L.length a1)) (by rw [← hW1]; exact cx) (fun hS0 => ?_) (fun _ _ h => by first | exact h | (gi_wp2; exact h))
    rw [← hW1] at hS0 ⊢
    clear hW1
    refine takeR 0 20 (v := ?_) rfl rfl (by kernel_rfl) (by kernel_rfl) (by kernel_rfl) (fun _ _ _ h => h) (Or.inl ⟨by rfl, ?_⟩) (by assumption) ?_
    rotate_left
    · intro w1 hSw; go_simp; (try with_reducible rfl)
    (try simp only [Act.put, List.setIfInBounds_toArray, List.set_cons_zero, List.set_cons_succ])
    refine takeR 1 21 (v := ?_) rfl rfl (by kernel_rfl) (by kernel_rfl) (by kernel_rfl) (fun _ _ _ h => h) (Or.inl ⟨by rfl, ?_⟩) (by assumption) ?_
    rotate_left
    · intro w1 hSw; go_simp; (try with_reducible rfl)
    (try simp only [Act.put, List.setIfInBounds_toArray, List.set_cons_zero, List.set_cons_succ])
    refine takeR 2 22 (v := ?_) rfl rfl (by kernel_rfl) (by kernel_rfl) (by kernel_rfl) (fun _ _ _ h => h) (Or.inl ⟨by rfl, ?_⟩) (by assumption) ?_
    rotate_left
    · intro w1 hSw; go_simp; (try with_reducible rfl)
    (try simp only [Act.put, List.setIfInBounds_toArray, List.set_cons_zero, List.set_cons_succ])
    refine takeR 3 23 (v := ?_) rfl rfl (by kernel_rfl) (by kernel_rfl) (by kernel_rfl) (fun _ _ _ h => h) (Or.inl ⟨by rfl, ?_⟩) (by assumption) ?_
    rotate_left
    · intro w1 hSw; go_simp; (try with_reducible rfl)
    (try simp only [Act.put, List.setIfInBounds_toArray, List.set_cons_zero, List.set_cons_succ])
    refine takeR 4 24 (v := ?_) rfl rfl (by kernel_rfl) (by kernel_rfl) (by kernel_rfl) (fun _ _ _ h => h) (Or.inl ⟨by rfl, ?_⟩) (by assumption) ?_
    rotate_left
    · intro w1 hSw; go_simp; (try with_reducible rfl)
    (try simp only [Act.put, List.setIfInBounds_toArray, List.set_cons_zero, List.set_cons_succ])
    refine takeR 5 25 (v := ?_) rfl rfl (by kernel_rfl) (by kernel_rfl) (by kernel_rfl) (fun _ _ _ h => h) (Or.inl ⟨by rfl, ?_⟩) (by assumption) ?_
    rotate_left
    · intro w1 hSw; go_simp; (try with_reducible rfl)
    (try simp only [Act.put, List.setIfInBounds_toArray, List.set_cons_zero, List.set_cons_succ])
    refine takeR 6 26 (v := ?_) rfl rfl (by kernel_rfl) (by kernel_rfl) (by kernel_rfl) (fun _ _ _ h => h) (Or.inl ⟨by rfl, ?_⟩) (by assumption) ?_
    rotate_left
    · intro w1 hSw; go_simp; (try with_reducible rfl)
    (try simp only [Act.put, List.setIfInBounds_toArray, List.set_cons_zero, List.set_cons_succ])
    refine takeR 8 28 (v := ?_) rfl rfl (by kernel_rfl) (by kernel_rfl) (by kernel_rfl) (fun _ _ _ h => h) (Or.inl ⟨by rfl, ?_⟩) (by assumption) ?_
    rotate_left
    · intro w1 hSw; go_simp; (try with_reducible rfl)
    (try simp only [Act.put, List.setIfInBounds_toArray, List.set_cons_zero, List.set_cons_succ])
    refine takeR 9 29 (v := ?_) rfl rfl (by kernel_rfl) (by kernel_rfl) (by kernel_rfl) (fun _ _ _ h => h) (Or.inl ⟨by rfl, ?_⟩) (by assumption) ?_
    rotate_left
    · intro w1 hSw; go_simp; (try with_reducible rfl)
    (try simp only [Act.put, List.setIfInBounds_toArray, List.set_cons_zero, List.set_cons_succ])
    refine takeR 10 30 (v := ?_) rfl rfl (by kernel_rfl) (by kernel_rfl) (by kernel_rfl) (fun _ _ _ h => h) (Or.inl ⟨by rfl, ?_⟩) (by assumption) ?_
    rotate_left
    · intro w1 hSw; go_simp; (try with_reducible rfl)
    (try simp only [Act.put, List.setIfInBounds_toArray, List.set_cons_zero, List.set_cons_succ])
    refine wpAnyH_ready (rs := [7, 11]) (by kernel_rfl) (by simp) ?_
    refine AllReadyH.cons rfl (fun KK hK => ?_) (AllReadyH.cons rfl (fun KK hK => ?_) AllReadyH.nil)
    · go_simp
      refine hK.out _ _ (cx) (fun hS1 => ?_)
      clear hK KK
      (try simp only [Act.put, List.setIfInBounds_toArray, List.set_cons_zero, List.set_cons_succ])
      refine wpAnyH_ready (rs := [11]) (by kernel_rfl) (by simp) ?_
      refine AllReadyH.cons rfl (fun KK hK => ?_) AllReadyH.nil
      go_simp
      refine hK.out _ _ (cx) (fun hS1 => ?_)
      clear hK KK
      (try simp only [Act.put, List.setIfInBounds_toArray, List.set_cons_zero, List.set_cons_succ])
      refine takeR 12 32 (v := ?_) rfl rfl (by kernel_rfl) (by kernel_rfl) (by kernel_rfl) (fun _ _ _ h => h) (Or.inl ⟨by rfl, ?_⟩) (by assumption) ?_
      rotate_left
      · intro w1 hSw; go_simp; (try with_reducible rfl)
      (try simp only [Act.put, List.setIfInBounds_toArray, List.set_cons_zero, List.set_cons_succ])
      refine wpAnyH_ready (rs := [13]) (by kernel_rfl) (by simp) ?_
      refine AllReadyH.cons rfl (fun KK hK => ?_) AllReadyH.nil
      go_simp
      refine hK.out _ _ (SC.out _ _) (fun hS1 => ?_)
      clear hK KK
      (try simp only [Act.put, List.setIfInBounds_toArray, List.set_cons_zero, List.set_cons_succ])
      refine takeR 14 33 (v := ?_) rfl rfl (by kernel_rfl) (by kernel_rfl) (by kernel_rfl) (fun _ _ _ h => h) (Or.inl ⟨by rfl, ?_⟩) (by assumption) ?_
      rotate_left
      · intro w1 hSw; go_simp; (try with_reducible rfl)
      (try simp only [Act.put, List.setIfInBounds_toArray, List.set_cons_zero, List.set_cons_succ])
      refine wpAnyH_ready (rs := [15]) (by kernel_rfl) (by simp) ?_
      refine AllReadyH.cons rfl (fun KK hK => ?_) AllReadyH.nil
      go_simp
      refine hK.out _ _ (SC2.out _ _ _ _) (fun hS1 => ?_)
      clear hK KK
      (try simp only [Act.put, List.setIfInBounds_toArray, List.set_cons_zero, List.set_cons_succ])
      refine wpAnyH_done (by kernel_rfl) ?_ _
      exact HEND.out
    · go_simp
      refine hK.out _ _ (cx) (fun hS1 => ?_)
      clear hK KK
      (try simp only [Act.put, List.setIfInBounds_toArray, List.set_cons_zero, List.set_cons_succ])
      refine wpAnyH_ready (rs := [7]) (by kernel_rfl) (by simp) ?_
      refine AllReadyH.cons rfl (fun KK hK => ?_) AllReadyH.nil
      go_simp
      refine hK.out _ _ (cx) (fun hS1 => ?_)
      clear hK KK
      (try simp only [Act.put, List.setIfInBounds_toArray, List.set_cons_zero, List.set_cons_succ])
      refine takeR 12 32 (v := ?_) rfl rfl (by kernel_rfl) (by kernel_rfl) (by kernel_rfl) (fun _ _ _ h => h) (Or.inl ⟨by rfl, ?_⟩) (by assumption) ?_
      rotate_left
      · intro w1 hSw; go_simp; (try with_reducible rfl)
      (try simp only [Act.put, List.setIfInBounds_toArray, List.set_cons_zero, List.set_cons_succ])
      refine wpAnyH_ready (rs := [13]) (by kernel_rfl) (by simp) ?_
      refine AllReadyH.cons rfl (fun KK hK => ?_) AllReadyH.nil
      go_simp
      refine hK.out _ _ (SC.out _ _) (fun hS1 => ?_)
      clear hK KK
      (try simp only [Act.put, List.setIfInBounds_toArray, List.set_cons_zero, List.set_cons_succ])
      refine takeR 14 33 (v := ?_) rfl rfl (by kernel_rfl) (by kernel_rfl) (by kernel_rfl) (fun _ _ _ h => h) (Or.inl ⟨by rfl, ?_⟩) (by assumption) ?_
      rotate_left
      · intro w1 hSw; go_simp; (try with_reducible rfl)
      (try simp only [Act.put, List.setIfInBounds_toArray, List.set_cons_zero, List.set_cons_succ])
      refine wpAnyH_ready (rs := [15]) (by kernel_rfl) (by simp) ?_
      refine AllReadyH.cons rfl (fun KK hK => ?_) AllReadyH.nil
      go_simp
      refine hK.out _ _ (SC2.out _ _ _ _) (fun hS1 => ?_)
      clear hK KK
      (try simp only [Act.put, List.setIfInBounds_toArray, List.set_cons_zero, List.set_cons_succ])
      refine wpAnyH_done (by kernel_rfl) ?_ _
      exact HEND.out
  case done =>
    rintro D ys W hD hS ⟨⟨_, BX, ho, rfl⟩, hB⟩ hK
    have hX := HX.out
    rw [hS, ← hX] at ho
    have cx := BX.cell
    clear hX B1 B2 B3 OW ZW
    go_wp2
    refine ⟨by simp, .inl ⟨_, _, rfl, run_takeDeferred hK, ?_⟩⟩
    have hl : (shufI L (n : Int)).length = L.length := shufI_len HH.out
    refine ⟨_, results_tmp rfl _ _ _, A1, a1, by rw [hl]; rfl, ?_, hB.trans (belowK_b (w := w) (Nat.le_refl _) W D _ _ (by omega) hK rfl rfl)⟩
    show World.ownsRow _ _ _ _ _ _ _
    rw [hl]
    exact ownsRow_putObj ho _ hK rfl
  case stop =>
    rintro D c pre W _ _ h _
    exact h.elim
end Go.Proofs.Ytkhneligclhgaaa
