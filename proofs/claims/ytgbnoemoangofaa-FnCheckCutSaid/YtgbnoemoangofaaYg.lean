/- How many have a sum, and what is stable: the model's way. -/
import Derived.Test.YtgbnoemoangofaaYf
namespace Go.Proofs.Ytgbnoemoangofaa
open Go.ChangeShapes Go.WideShapes Go.ChangeAt Go.RowKit
set_option linter.unusedVariables false
set_option linter.unusedSimpArgs false

theorem many_take {L : List Ck} {j : Nat} {y : Ck} (h : L.take (j + 1) = L.take j ++ [y]) (k : Int × Int) : manyC (L.take (j + 1)) k = manyC (L.take j) k + (if kyC y = k then 1 else 0) := by rw [h, manyC_snoc]
theorem many_le (L : List Ck) (k : Int × Int) : manyC L k ≤ L.length := List.countP_le_length

set_option maxRecDepth 100000 in
set_option maxHeartbeats 2000000 in
theorem l15Many (A : Option Addr) (a : Nat) (L : List Ck) (x : Ck) (w : World) (hl : L.length ≤ 1048577) (hr : Rd 3 Ck.cells w A L) :
    Calls Try.prog 34 #[.slice A L.length a, x.val] w fun e w' => e = .returned (.int .i64 ((manyC L (kyC x) : Nat) : Int)) ∧ Below w.heap.size w w' := by
  have HR := Lib.hid hr
  have KX : Hid (Bkk (w.alloc (.cells (ckCs x) 25)) w.heap.size 25 (ckCs x)) := Bkk.new _
  have Z : Hid (Below w.heap.size w (w.alloc (.cells (ckCs x) 25))) := (Below.refl _ _).alloc (Nat.le_refl _) _
  clear hr
  go_enter Try.func34, Try.ntmps34
  go_wp2
  go_loopw [5, 6] (fun u v wr => ∃ j : Nat, j ≤ L.length ∧ u = .int .i64 ((manyC (L.take j) (kyC x) : Nat) : Int) ∧ v = .int .i64 (j : Int) ∧ Hid (Bkk wr w.heap.size 25 (ckCs x)) ∧ Hid (Below w.heap.size w wr)) (fun _ v _ => L.length - (intOf v).toNat)
  case atStart => exact ⟨0, Nat.zero_le _, rfl, rfl, KX.out, Z.out⟩
  case round =>
    clear KX Z
    obtain ⟨j, hj, rfl, rfl, KX, hB⟩ := hrel
    by_cases hlt : j < L.length
    · obtain ⟨g, o, hg, yc⟩ := Rd.below HR.out hB.out j hlt
      subst hg
      have HT := Lib.hid (List.take_succ_eq_append_getElem hlt)
      generalize L[j] = y at yc HT
      have HN0 := Lib.hid (many_take HT.out (kyC x))
      have hm := many_le (L.take j) (kyC x)
      have hml : manyC (L.take j) (kyC x) ≤ 1048577 := Nat.le_trans hm (by rw [List.length_take]; omega)
      clear hm
      obtain ⟨m, hm⟩ : ∃ m, manyC (L.take j) (kyC x) = m := ⟨_, rfl⟩
      rw [hm] at HN0 hml ⊢
      clear hm HT
      have y0 : wr.cell? ⟨g, o + j * 3, none⟩ = some (.int .i64 y.a) := yc 0 _ rfl
      have y1 : wr.cell? ⟨g, o + j * 3 + 1, none⟩ = some (.int .i64 y.f) := yc 1 _ rfl
      have y2 : wr.cell? ⟨g, o + j * 3 + 2, none⟩ = some (.int .i64 y.n) := yc 2 _ rfl
      have x0 : wr.cell? ⟨w.heap.size, 0, none⟩ = some (.int .i64 x.a) := KX.out.cell 0
      have x1 : wr.cell? ⟨w.heap.size, 1, none⟩ = some (.int .i64 x.f) := KX.out.cell 1
      have x2 : wr.cell? ⟨w.heap.size, 2, none⟩ = some (.int .i64 x.n) := KX.out.cell 2
      have lx := KX.out.lt
      clear yc
      have ly : g < wr.heap.size := World.block_lt_of_cell? wr _ y0
      have ew : IntKind.i64.wrap ((m : Int) + 1) = (m : Int) + 1 := IntWalk.i64_in _ (by omega)
      have i0 : (0 : Int) ≤ (j : Int) := by omega
      have i1 : (j : Int) < (L.length : Int) := by omega
      rcases ef : (y.f == x.f) with _ | _
      · have HN := Lib.hid (show manyC (L.take (j + 1)) (kyC x) = m by
          rw [HN0.out, if_neg (fun e => by have : y.f = x.f := congrArg Prod.fst e; rw [this] at ef; simp at ef)]; rfl)
        clear HN0
        go_wp2_with (fail)
        go_quiet (fail)
        clear y0 y1 y2 x0 x1 x2 lx
        go_wp2
        go_roundw
        case rel => exact ⟨j + 1, by omega, by rw [HN.out], by go_num, Bkk.below KX.out (Below.drewN (Below.refl _ _) _), Below.drewN hB.out _⟩
        case measure => (simp [intOf]; try omega)
      · rcases en : (y.n == x.n) with _ | _
        · have HN := Lib.hid (show manyC (L.take (j + 1)) (kyC x) = m by
            rw [HN0.out, if_neg (fun e => by have : y.n = x.n := congrArg Prod.snd e; rw [this] at en; simp at en)]; rfl)
          clear HN0
          go_wp2_with (fail)
          go_quiet (fail)
          clear y0 y1 y2 x0 x1 x2 lx
          go_wp2
          go_roundw
          case rel => exact ⟨j + 1, by omega, by rw [HN.out], by go_num, Bkk.below KX.out (Below.drewN (Below.refl _ _) _), Below.drewN hB.out _⟩
          case measure => (simp [intOf]; try omega)
        · have HN := Lib.hid (show manyC (L.take (j + 1)) (kyC x) = m + 1 by
            have e1 : y.f = x.f := by simpa using ef
            have e2 : y.n = x.n := by simpa using en
            rw [HN0.out, if_pos (show kyC y = kyC x by unfold kyC; rw [e1, e2])])
          clear HN0
          go_wp2_with (fail)
          go_quiet (fail)
          clear y0 y1 y2 x0 x1 x2 lx
          go_wp2
          go_roundw
          case rel => exact ⟨j + 1, by omega, by rw [HN.out]; push_cast; rfl, by go_num, Bkk.below KX.out (Below.drewN (Below.refl _ _) _), Below.drewN hB.out _⟩
          case measure => (simp [intOf]; try omega)
    · obtain rfl : j = L.length := by omega
      have i1 : ¬ (L.length : Int) < (L.length : Int) := by omega
      have HN := Lib.hid (show manyC (L.take L.length) (kyC x) = manyC L (kyC x) by rw [List.take_length])
      obtain ⟨m, hm⟩ : ∃ m, manyC (L.take L.length) (kyC x) = m := ⟨_, rfl⟩
      rw [hm] at HN ⊢
      clear hm
      go_wp2
      go_light
      go_ret
      exact ⟨by rw [HN.out]; rfl, hB.out⟩

def DoST (r : Int × Int × Bool) (w : World) (e : Ending) (w' : World) : Prop := e = .returned (.tuple #[.int .i64 r.1, .int .i64 r.2.1, .bool r.2.2]) ∧ Below w.heap.size w w'
theorem out_no {r : Int × Int} (h : r.1 < 0) : outC r = (0, 0, false) := by unfold outC; rw [if_pos h]
theorem out_yes {r : Int × Int} (h : ¬ r.1 < 0) : outC r = (r.1, r.2, true) := by unfold outC; rw [if_neg h]
theorem stC_yes {L : List Ck} (h : okC L = true) : stC L = outC (pickAllC L L) := by unfold stC; rw [h]; rfl
theorem pickAllC_take {L : List Ck} {j : Nat} {y : Ck} (h : L.take (j + 1) = L.take j ++ [y]) : pickAllC L (L.take (j + 1)) = pickC L y (pickAllC L (L.take j)) := by rw [h, pickAllC_snoc]
theorem pick_no {L : List Ck} {x : Ck} {r : Int × Int} (h : ¬ (r.1 < x.f ∧ 3 ≤ manyC L (kyC x))) : pickC L x r = r := by unfold pickC; rw [if_neg h]
theorem pick_yes {L : List Ck} {x : Ck} {r : Int × Int} (h : r.1 < x.f ∧ 3 ≤ manyC L (kyC x)) : pickC L x r = (x.f, x.n) := by unfold pickC; rw [if_pos h]

set_option maxRecDepth 100000 in
set_option maxHeartbeats 4000000 in
theorem specCheckStable (A : Option Addr) (a : Nat) (L : List Ck) (w : World) (hl : L.length ≤ 1048577) (hr : Rd 3 Ck.cells w A L) :
    Calls Try.prog 18 #[.slice A L.length a] w (DoST (stC L) w) := by
  have HR := Lib.hid hr
  clear hr
  by_cases hok : okC L = false
  · have HX := Lib.hid (stC_no hok)
    have HOK := Lib.hid hok
    clear hok
    go_enter Try.func18, Try.ntmps18
    go_wp2
    go_loopw [5, 6, 7] (fun u z v wr => u = .int .i64 (-1) ∧ z = .int .i64 0 ∧ v = .int .i64 0 ∧ Hid (Below w.heap.size w wr)) (fun _ _ v _ => 0)
    case atStart => exact ⟨rfl, rfl, rfl, Below.refl _ _⟩
    case round =>
      obtain ⟨rfl, rfl, rfl, Z⟩ := hrel
      by_cases h0 : 0 < L.length
      · have i1 : (0 : Int) < (L.length : Int) := by omega
        go_wp2_with (fail)
        refine (l15Ok A a L _ (by omega) (Rd.below HR.out Z.out)).mono ?_
        rintro e w2 ⟨rfl, hb⟩
        rw [HOK.out]
        replace Z := Lib.hid (Below.and Z.out hb)
        clear hb
        go_wp2
        go_light
        refine bodyPost_ret (v := .tuple #[.int .i64 0, .int .i64 0, .bool false]) (by simp [results, Try.results18, go_sem]) rfl ?_
        rw [HX.out]
        exact ⟨rfl, Z.out⟩
      · have i1 : ¬ (0 : Int) < (L.length : Int) := by omega
        go_wp2
        go_light
        refine bodyPost_ret (v := .tuple #[.int .i64 0, .int .i64 0, .bool false]) (by simp [results, Try.results18, go_sem]) rfl ?_
        rw [HX.out]
        exact ⟨rfl, Z.out⟩
  replace hok : okC L = true := by simpa using hok
  have HX := Lib.hid (stC_yes hok)
  have HOK := Lib.hid hok
  clear hok
  go_enter Try.func18, Try.ntmps18
  go_wp2
  go_loopw [5, 6, 7] (fun u z v wr => ∃ (j : Nat) (r : Int × Int), j ≤ L.length ∧ u = .int .i64 r.1 ∧ z = .int .i64 r.2 ∧ v = .int .i64 (j : Int) ∧ Hid (r = pickAllC L (L.take j)) ∧ Hid (Below w.heap.size w wr)) (fun _ _ v _ => L.length - (intOf v).toNat)
  case atStart => exact ⟨0, (-1, 0), Nat.zero_le _, rfl, rfl, rfl, rfl, Below.refl _ _⟩
  case round =>
    obtain ⟨j, ⟨rf, rn⟩, hj, rfl, rfl, rfl, hr, hB⟩ := hrel
    by_cases hlt : j < L.length
    · have i0 : (0 : Int) ≤ (j : Int) := by omega
      have i1 : (j : Int) < (L.length : Int) := by omega
      have HT := Lib.hid (List.take_succ_eq_append_getElem hlt)
      go_wp2_with (fail)
      refine (l15Ok A a L _ (by omega) (Rd.below HR.out hB.out)).mono ?_
      rintro e w2 ⟨rfl, hb⟩
      rw [HOK.out]
      replace hB := Lib.hid (Below.and hB.out hb)
      clear hb
      obtain ⟨g, o, hg, xc⟩ := Rd.below HR.out hB.out j hlt
      subst hg
      obtain ⟨x, hx⟩ : ∃ x, x = L[j] := ⟨_, rfl⟩
      rw [← hx] at xc HT
      have HXJ := Lib.hid hx
      clear hx
      have x0 : w2.cell? ⟨g, o + j * 3, none⟩ = some (.int .i64 x.a) := xc 0 _ rfl
      have x1 : w2.cell? ⟨g, o + j * 3 + 1, none⟩ = some (.int .i64 x.f) := xc 1 _ rfl
      have x2 : w2.cell? ⟨g, o + j * 3 + 2, none⟩ = some (.int .i64 x.n) := xc 2 _ rfl
      clear xc
      have HP := Lib.hid (show pickAllC L (L.take (j + 1)) = pickC L x (rf, rn) by rw [pickAllC_take HT.out, ← hr.out])
      by_cases hc : rf < x.f
      · go_wp2_with (fail)
        refine (l15Many _ a L x _ hl (Rd.below HR.out hB.out)).mono ?_
        rintro e w3 ⟨rfl, hb⟩
        replace hB := Lib.hid (Below.and hB.out hb)
        clear hb x0 x1 x2
        by_cases hm : 3 ≤ manyC L (kyC x)
        · have hmi : (3 : Int) ≤ ((manyC L (kyC x) : Nat) : Int) := by omega
          have HN := Lib.hid (show (x.f, x.n) = pickAllC L (L.take (j + 1)) by rw [HP.out, pick_yes ⟨hc, hm⟩])
          obtain ⟨m, hmm⟩ : ∃ m, manyC L (kyC x) = m := ⟨_, rfl⟩
          rw [hmm] at hmi ⊢
          obtain ⟨g', o', hA, xc⟩ := Rd.below HR.out hB.out j hlt
          injection hA with hA
          injection hA with hA1 hA2 hA3
          subst hA1 hA2
          have hxj : L[j] = x := HXJ.out.symm
          rw [hxj] at xc
          have x0 : w3.cell? ⟨g, o + j * 3, none⟩ = some (.int .i64 x.a) := xc 0 _ rfl
          have x1 : w3.cell? ⟨g, o + j * 3 + 1, none⟩ = some (.int .i64 x.f) := xc 1 _ rfl
          have x2 : w3.cell? ⟨g, o + j * 3 + 2, none⟩ = some (.int .i64 x.n) := xc 2 _ rfl
          clear xc hxj hm hmm HP HT hr
          go_wp2
          go_roundw
          case rel => exact ⟨j + 1, _, by omega, rfl, rfl, by go_num, HN.out, hB.out⟩
          case measure => (simp [intOf]; try omega)
        · have hmi : ¬ (3 : Int) ≤ ((manyC L (kyC x) : Nat) : Int) := by omega
          have HN := Lib.hid (show (rf, rn) = pickAllC L (L.take (j + 1)) by rw [HP.out, pick_no (fun hh => hm hh.2)])
          obtain ⟨m, hmm⟩ : ∃ m, manyC L (kyC x) = m := ⟨_, rfl⟩
          rw [hmm] at hmi ⊢
          clear hm hmm HP HT hr
          go_wp2
          go_roundw
          case rel => exact ⟨j + 1, _, by omega, rfl, rfl, by go_num, HN.out, hB.out⟩
          case measure => (simp [intOf]; try omega)
      · have HN := Lib.hid (show (rf, rn) = pickAllC L (L.take (j + 1)) by rw [HP.out, pick_no (fun hh => hc hh.1)])
        clear HP HT hr
        go_wp2
        go_roundw
        case rel => exact ⟨j + 1, _, by omega, rfl, rfl, by go_num, HN.out, hB.out⟩
        case measure => (simp [intOf]; try omega)
    · obtain rfl : j = L.length := by omega
      have i1 : ¬ (L.length : Int) < (L.length : Int) := by omega
      have HO := Lib.hid (show stC L = outC (rf, rn) by rw [HX.out, hr.out, List.take_length])
      by_cases hneg : rf < 0
      · have HZ := Lib.hid (show stC L = (0, 0, false) by rw [HO.out]; exact out_no hneg)
        go_wp2
        go_light
        refine bodyPost_ret (v := .tuple #[.int .i64 0, .int .i64 0, .bool false]) (by simp [results, Try.results18, go_sem]) rfl ?_
        rw [HZ.out]
        exact ⟨rfl, hB.out⟩
      · have HZ := Lib.hid (show stC L = (rf, rn, true) by rw [HO.out]; exact out_yes hneg)
        go_wp2
        go_light
        refine bodyPost_ret (v := .tuple #[.int .i64 rf, .int .i64 rn, .bool true]) (by simp [results, Try.results18, go_sem]) rfl ?_
        rw [HZ.out]
        exact ⟨rfl, hB.out⟩

end Go.Proofs.Ytgbnoemoangofaa
