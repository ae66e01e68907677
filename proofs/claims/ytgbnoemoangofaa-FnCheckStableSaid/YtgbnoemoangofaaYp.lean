/- The stable sum does not hang on the order: the law. -/
import Derived.Test.YtgbnoemoangofaaYo
namespace Go.Proofs.Ytgbnoemoangofaa
open Go.ChangeShapes Go.WideShapes Go.ChangeAt Go.RowKit
set_option linter.unusedVariables false
set_option linter.unusedSimpArgs false

theorem OwK.push2 {w' : World} {lo : Nat} {L : List Ck} {v' : Value} {r : Ck} (ho : w'.ownsRow lo 25 3 v' (L.length + 1) (L.flatMap Ck.cells ++ [r].flatMap Ck.cells)) :
    ∃ A' a', v' = .slice A' (L ++ [r]).length a' ∧ OwK w' lo A' a' (L ++ [r]) := OwK.push ho
theorem st_count {D : List Ck} {f n : Int} {b : Bool} (h : OkC D) (e : stC D = (f, n, b)) : b = false ∨ 3 ≤ manyC D (f, n) := by
  have := stC_best h
  rw [e] at this
  rcases this with ⟨h1, _⟩ | ⟨_, h2, _⟩
  · injection h1 with _ h1
    injection h1 with _ h1
    exact .inl h1
  · exact .inr h2
theorem drop_snoc (D : List Ck) (k : Nat) (h : k < D.length) {T : List Ck} (hT : T = (D.drop (k + 1)).reverse) : T ++ [D[k]] = (D.drop k).reverse := by
  rw [List.drop_eq_getElem_cons h, List.reverse_cons, hT]

set_option maxRecDepth 100000 in
set_option maxHeartbeats 8000000 in
theorem lawCheckStable (A : Option Addr) (c n : Nat) (w : World) (hn : n ≤ maxLen) (hc : n ≤ c) (hb : InB w A n) :
    Calls Try.prog 4 #[.slice A n c] w fun e w' => e = .returned (.bool true) ∧ Below w.heap.size w w' := by
  obtain ⟨I, hi, hz0, hz1, hz2⟩ := parts_ofH infoCheck
  have I1 := Lib.hid hi
  have I2 := Lib.hid hz0
  have I3 := Lib.hid hz1
  have I4 := Lib.hid hz2
  clear hi hz0 hz1 hz2
  have HB := Lib.hid hb
  have Z : Hid (Below w.heap.size w w) := Below.refl _ _
  clear hb hn
  go_enter Try.func4, Try.ntmps4
  by_cases h1 : (1048576 : Int) < n
  · go_wp2
    go_light
    go_ret
    exact ⟨rfl, Z.out⟩
  go_wp2_with (fail)
  refine (drawCheckStable (by omega) hc HB.out).mono ?_
  rintro e w1 ⟨D, B, d, rfl, hl, oo, hz⟩
  replace Z := Lib.hid hz
  have OD := Lib.hid oo
  clear hz oo HB h1 hc
  obtain ⟨⟨f1, n1, b1⟩, h1⟩ : ∃ X, stC D = X := ⟨_, rfl⟩
  have H1 := Lib.hid h1
  have ef : (f1 == f1) = true := by simp
  have en : (n1 == n1) = true := by simp
  have eb : (b1 == b1) = true := by simp
  have nf : (f1 != f1) = false := by simp
  have nn : (n1 != n1) = false := by simp
  have nb : (b1 != b1) = false := by simp
  clear h1
  go_wp2_with (fail)
  refine (implCheckStable _ _ D _ (by omega) OD.out.rd).mono ?_
  rw [H1.out]
  dsimp only [DoST]
  rintro e w2 ⟨rfl, hb⟩
  replace Z := Lib.hid (Below.and Z.out hb)
  replace OD := Lib.hid (OD.out.below hb)
  clear hb
  go_wp2_with (fail)
  refine (specCheckStable _ _ D _ (by omega) OD.out.rd).mono ?_
  rw [H1.out]
  dsimp only [DoST]
  rintro e w3 ⟨rfl, hb⟩
  replace Z := Lib.hid (Below.and Z.out hb)
  replace OD := Lib.hid (OD.out.below hb)
  clear hb
  rcases hok : okC D with _ | _
  · have HOK := Lib.hid hok
    clear hok
    go_wp2_with (fail)
    refine (implCheckOk _ _ D _ (by omega) OD.out.rd).mono ?_
    rw [HOK.out]
    rintro e w4 ⟨rfl, hb⟩
    replace Z := Lib.hid (Below.and Z.out hb)
    replace OD := Lib.hid (OD.out.below hb)
    clear hb
    go_wp2
    go_light
    go_ret
    exact ⟨rfl, Z.out⟩
  have HOK := Lib.hid hok
  have HRV := Lib.hid (show stC D.reverse = (f1, n1, b1) by rw [stC_rev (okC_iff.1 hok)]; exact H1.out)
  have HCN := Lib.hid (show b1 = false ∨ 3 ≤ manyC D (f1, n1) from st_count (okC_iff.1 hok) H1.out)
  clear hok
  go_wp2_with (fail)
  refine (implCheckOk _ _ D _ (by omega) OD.out.rd).mono ?_
  rw [HOK.out]
  rintro e w4 ⟨rfl, hb⟩
  replace Z := Lib.hid (Below.and Z.out hb)
  replace OD := Lib.hid (OD.out.below hb)
  clear hb
  clear HOK H1 nf nn nb
  have LW := Lib.hid (show w.heap.size ≤ w4.heap.size from Z.out.size)
  have hba : Below w4.heap.size w4 (w4.alloc (.cells #[] 25)) := (Below.refl _ _).alloc (Nat.le_refl _) _
  have OT : Hid (OwK (w4.alloc (.cells #[] 25)) w4.heap.size (some ⟨w4.heap.size, 0, none⟩) 0 []) := own_nil_newH w4 25 3 rfl
  have HBD := Lib.hid (show ∀ k, (Value.slice B D.length d).ownBlock = some k → k < w4.heap.size from fun k hk => (OD.out.lt k hk).2)
  replace OD := Lib.hid (OD.out.below hba)
  replace Z := Lib.hid (Below.and Z.out hba)
  have GE0 := Lib.hid hba.size
  clear hba
  have ew : IntKind.i64.wrap ((D.length : Int) - 1) = (D.length : Int) - 1 := IntWalk.i64_in _ (by omega)
  go_upto_region 9 with (fail)
  obtain ⟨w0, hw0⟩ : ∃ X, X = w4.alloc (.cells #[] 25) := ⟨_, rfl⟩
  obtain ⟨T0, hT0⟩ : ∃ X : Option Addr, X = some ⟨w4.heap.size, 0, none⟩ := ⟨_, rfl⟩
  rw [← hw0] at OT OD Z GE0 ⊢
  rw [← hT0] at OT ⊢
  clear hw0 hT0
  go_wp2
  go_loopw [10, 11, 12] (fun u v x wr => ∃ (k : Nat) (T : List Ck) (P : Option Addr) (p q : Nat), k ≤ D.length ∧ u = .slice P T.length p ∧ v = .int .i64 (q : Int) ∧ x = .int .i64 ((k : Int) - 1) ∧ Hid (T = (D.drop k).reverse) ∧ Hid (manyC T (f1, n1) = q) ∧ T.length ≤ 25 ∧ q ≤ 25 ∧ Hid (OwK wr w4.heap.size P p T) ∧ Hid (OwK wr w.heap.size B d D) ∧ Hid (Below w.heap.size w wr) ∧ Hid (w4.heap.size ≤ wr.heap.size)) (fun _ _ x _ => (intOf x + 1).toNat)
  case atStart => exact ⟨D.length, [], T0, 0, 0, Nat.le_refl _, rfl, rfl, rfl, by simp [Hid], rfl, by simp, by omega, OT.out, OD.out, Z.out, GE0.out⟩
  case round =>
    clear OT OD Z ew GE0
    obtain ⟨k, T, P, p, q, hk, rfl, rfl, rfl, hT, hQ, hTl, hql, OT, OD, Z, GE⟩ := hrel
    rcases k with _ | k
    · have i0 : ¬ (0 : Int) ≤ ((0 : Nat) : Int) - 1 := by omega
      obtain ⟨z, hz⟩ : ∃ z, ((0 : Nat) : Int) - 1 = z := ⟨_, rfl⟩
      rw [hz] at i0 ⊢
      have hTD : T = D.reverse := by have := hT.out; simpa using this
      have HTS := Lib.hid (show stC T = (f1, n1, b1) by rw [hTD]; exact HRV.out)
      have hc : b1 = false ∨ 3 ≤ q := by have := HCN.out; rw [← hQ.out, hTD, manyC_rev]; exact this
      clear hz hT hk hTD hQ OD HRV HCN
      go_wp2_with (fail)
      refine (implCheckStable _ _ T _ (by omega) OT.out.rd).mono ?_
      rw [HTS.out]
      dsimp only [DoST]
      rintro e w5 ⟨rfl, hb⟩
      replace Z := Lib.hid (Below.and Z.out hb)
      replace OT := Lib.hid (OT.out.below hb)
      clear hb
      rcases b1 with _ | _
      · clear hc
        go_wp2
        go_light
        go_ret
        exact ⟨rfl, Z.out⟩
      · have h3 : (3 : Int) ≤ (q : Int) := by
          rcases hc with h | h
          · cases h
          · omega
        clear hc
        go_wp2
        go_light
        go_ret
        exact ⟨rfl, Z.out⟩
    · have hlt : k < D.length := by omega
      have i0 : (0 : Int) ≤ ((k + 1 : Nat) : Int) - 1 := by omega
      have hz : ((k + 1 : Nat) : Int) - 1 = (k : Int) := by omega
      rw [hz] at i0 ⊢
      obtain ⟨g, o, hgo, yc⟩ := OD.out.rd k hlt
      subst hgo
      have HN := Lib.hid (drop_snoc D k hlt hT.out)
      have hTl2 : (T ++ [D[k]]).length ≤ 25 := by rw [HN.out, List.length_reverse, List.length_drop]; omega
      have HM := Lib.hid (manyC_snoc T D[k] (f1, n1))
      rw [hQ.out] at HM
      obtain ⟨y, hy⟩ : ∃ y, D[k] = y := ⟨_, rfl⟩
      rw [hy] at yc HN hTl2 HM
      have HY := Lib.hid hy
      clear hy
      have x0 : wr.cell? ⟨g, o + k * 3, none⟩ = some (.int .i64 y.a) := yc 0 _ rfl
      have x1 : wr.cell? ⟨g, o + k * 3 + 1, none⟩ = some (.int .i64 y.f) := yc 1 _ rfl
      have x2 : wr.cell? ⟨g, o + k * 3 + 2, none⟩ = some (.int .i64 y.n) := yc 2 _ rfl
      clear yc
      have ew : IntKind.i64.wrap ((k : Int) - 1) = (k : Int) - 1 := IntWalk.i64_in _ (by omega)
      have k1 : (k : Int) < (D.length : Int) := by omega
      have hba : Below wr.heap.size wr (wr.alloc (.cells #[.int .i64 y.a, .int .i64 y.f, .int .i64 y.n] 25)) := (Below.refl _ _).alloc (Nat.le_refl _) _
      have HRw := Lib.hid (ckR wr y)
      have LE := Lib.hid (show w4.heap.size ≤ (wr.alloc (.cells #[.int .i64 y.a, .int .i64 y.f, .int .i64 y.n] 25)).heap.size by have := GE.out; have := hba.size; omega)
      replace OT := Lib.hid (OT.out.below hba)
      replace OD := Lib.hid (OD.out.below hba)
      replace Z := Lib.hid (Below.and Z.out hba)
      clear hba hz hk hTl hT hQ
      go_wp2_with (at_builtin; go_loud (refine list_app (f := Ck.cells) (fun _ => rfl) rfl _ _ 23 rfl w4.heap.size 25 I (.agg #[.int .i64 0, .int .i64 0, .int .i64 0]) 24 Try.underlying23 I1.out I2.out I3.out I4.out rfl (by decide) _ T.length (T.flatMap Ck.cells) rfl OT.out _ _ 1 [y] rfl rfl HRw.out (fun h => by cases h) (ck_one _) (by simp at hTl2; unfold maxLen; omega) (by simp at hTl2; omega) LE.out ?_))
      intro v6 w6 ho hg hp
      have hge := own_block_ge (show World.ownsRow _ _ _ _ _ _ _ from OT.out)
      replace Z := Lib.hid (Z.out.grown hg Z.out.size (fun q hq => by have := (hge q hq).1; have := LW.out; omega))
      replace OD := Lib.hid (OD.out.grown hg (fun k1 hk1 e => by
        have h2 := HBD.out k1 hk1
        have h3 := (hge k1 e).1
        omega))
      have GE6 := Lib.hid (show w4.heap.size ≤ w6.heap.size from Nat.le_trans LE.out hg.size)
      obtain ⟨P6, p6, rfl, oa⟩ := OwK.push ho
      replace OT := Lib.hid oa
      clear ho hg hp hge HRw oa LE x0 x1 x2
      obtain ⟨g2, o2, hgo, yc⟩ := OD.out.rd k hlt
      have e2 : g = g2 ∧ o = o2 := by
        injection hgo with hgo
        injection hgo with h2 h3 h4
        exact ⟨h2, h3⟩
      obtain ⟨rfl, rfl⟩ := e2
      rw [HY.out] at yc
      have y0 : w6.cell? ⟨g, o + k * 3, none⟩ = some (.int .i64 y.a) := yc 0 _ rfl
      have y1 : w6.cell? ⟨g, o + k * 3 + 1, none⟩ = some (.int .i64 y.f) := yc 1 _ rfl
      have y2 : w6.cell? ⟨g, o + k * 3 + 2, none⟩ = some (.int .i64 y.n) := yc 2 _ rfl
      clear yc hgo HY
      by_cases c1 : y.f = f1
      · have q1 : (y.f == f1) = true := by simpa using c1
        by_cases c2 : y.n = n1
        · have q2 : (y.n == n1) = true := by simpa using c2
          have HQ1 := Lib.hid (show manyC (T ++ [y]) (f1, n1) = q + 1 by rw [HM.out, if_pos (by unfold kyC; rw [c1, c2])])
          have hq26 : q + 1 ≤ 25 := by rw [← HQ1.out]; exact Nat.le_trans (many_le _ _) hTl2
          have ewq : IntKind.i64.wrap ((q : Int) + 1) = (q : Int) + 1 := IntWalk.i64_in _ (by omega)
          clear c1 c2 HM
          go_wp2
          go_roundw
          case rel => exact ⟨k, _, P6, p6, q + 1, by omega, rfl, by go_num, by go_num, HN.out, HQ1.out, hTl2, hq26, OT.out, OD.out, Z.out, GE6.out⟩
          case measure => (simp [intOf]; try omega)
        · have q2 : (y.n == n1) = false := by simpa using c2
          have HQ1 := Lib.hid (show manyC (T ++ [y]) (f1, n1) = q by rw [HM.out, if_neg (by unfold kyC; intro h; injection h with _ h; exact c2 h)]; rfl)
          clear c1 c2 HM
          go_wp2
          go_roundw
          case rel => exact ⟨k, _, P6, p6, q, by omega, rfl, by go_num, by go_num, HN.out, HQ1.out, hTl2, hql, OT.out, OD.out, Z.out, GE6.out⟩
          case measure => (simp [intOf]; try omega)
      · have q1 : (y.f == f1) = false := by simpa using c1
        have HQ1 := Lib.hid (show manyC (T ++ [y]) (f1, n1) = q by rw [HM.out, if_neg (by unfold kyC; intro h; injection h with h _; exact c1 h)]; rfl)
        clear c1 HM
        go_wp2
        go_roundw
        case rel => exact ⟨k, _, P6, p6, q, by omega, rfl, by go_num, by go_num, HN.out, HQ1.out, hTl2, hql, OT.out, OD.out, Z.out, GE6.out⟩
        case measure => (simp [intOf]; try omega)

end Go.Proofs.Ytgbnoemoangofaa
