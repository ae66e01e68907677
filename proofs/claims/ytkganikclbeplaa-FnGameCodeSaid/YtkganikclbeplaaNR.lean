/- Qc, Qp -/
import Derived.Test.YtkganikclbeplaaNQ
import Derived.Deep.Cut
import Derived.Deep.RegionWith
import Derived.Test.YtkganikclbeplaaMQ
import Derived.Test.YtkganikclbeplaaGx
/- A game and a request drawn. -/
namespace Go.Proofs.Ytkganikclbeplaa
open Go.ChangeShapes Go.WideShapes Go.ChangeAt Go.RowKit
set_option linter.unusedVariables false
set_option linter.unusedSimpArgs false

theorem InB.alc {w : World} {A : Option Addr} {n : Nat} (h : InB w A n) (o : Obj) : InB (w.alloc o) A n := fun i hi => by
 obtain ⟨b, off, u, h1, h2, h3⟩ := h i hi
 exact ⟨b, off, u, h1, (World.grownBy_alloc w o none).cell h2 (by simp), h3⟩
theorem Five.far {w : World} {g : Nat} {t : TypeId} {u0 u1 u2 u3 u4 : Value} (h : Five w g t u0 u1 u2 u3 u4) {g' j : Nat} (hg : g ≠ g') (v : Value) : Five (w.setCell ⟨g', j, none⟩ v) g t u0 u1 u2 u3 u4 := (heap_setCell_other w ⟨g', j, none⟩ g v (by simpa using hg)).trans h
theorem Five.drew {w : World} {g : Nat} {t : TypeId} {u0 u1 u2 u3 u4 : Value} (h : Five w g t u0 u1 u2 u3 u4) : Five w.drew g t u0 u1 u2 u3 u4 := h
theorem OwG.far5 {w : World} {lo : Nat} {A : Option Addr} {a : Nat} {B : Option Addr} {b : Nat} {C : Option Addr} {d : Nat} {E : List Fig} {F L : List Int} (h : OwG w lo A a B b C d E F L) {g : Nat} {u0 u1 u2 u3 u4 : Value} (hT : Five w g 39 u0 u1 u2 u3 u4) (o : Nat) (u : Value) : OwG (w.setCell ⟨g, o, none⟩ u) lo A a B b C d E F L := by
 have put : ∀ {e : TypeId} {size n : Nat} {v : Value} {xs : List Value}, w.ownsRow lo e size v n xs → v.ownBlock ≠ some g → (w.setCell ⟨g, o, none⟩ u).ownsRow lo e size v n xs := fun h1 h2 => own_same h1 (fun k hk => heap_setCell_other w ⟨g, o, none⟩ k _ (by
  intro e
  subst e
  exact h2 hk))
 exact ⟨put h.e (own_type h.e hT (by decide)), put h.f (own_type h.f hT (by decide)), put h.l (own_type h.l hT (by decide)), h.ef, h.el, h.fl⟩
theorem reqB_c {c n o x y : Int} (h : reqB c n o x y = true) : 1 ≤ c ∧ c ≤ 4 := by
 simp only [reqB, inB, Bool.and_eq_true, decide_eq_true_eq] at h
 omega

set_option maxRecDepth 100000 in
set_option maxHeartbeats 8000000 in
theorem drawGameDo {w : World} {A : Option Addr} {n c : Nat} (hn : n ≤ 1048576) (hc : n ≤ c) (hb : InB w A n) :
 Calls Try.prog 16 #[.slice A n c] w fun e w' => ∃ (A' : Option Addr) (a : Nat) (B : Option Addr) (b : Nat) (C : Option Addr) (d : Nat) (E : List Fig) (F L : List Int) (r : Rq), e = .returned (.tuple #[gameV A' E.length a B F.length b C L.length d, r.val]) ∧ GmT w' w.heap.size A' a B b C d E F L ∧ (E.length ≤ 4 ∧ F.length = 16 ∧ L.length ≤ 4) ∧ Below w.heap.size w w' := by
 have HB := Lib.hid ((hb.alc (.cells #[.slice none 0 0, .slice none 0 0, .slice none 0 0] 30)).alc (.cells #[.int .i64 0, .int .i64 0, .int .i64 0, .int .i64 0, .int .i64 0] 39))
 have T2 := Lib.hid ((Three.new (u0 := .slice none 0 0) (u1 := .slice none 0 0) (u2 := .slice none 0 0) (t := 30) w).alloc (.cells #[.int .i64 0, .int .i64 0, .int .i64 0, .int .i64 0, .int .i64 0] 39))
 have F3 : Hid (Five ((w.alloc (.cells #[.slice none 0 0, .slice none 0 0, .slice none 0 0] 30)).alloc (.cells #[.int .i64 0, .int .i64 0, .int .i64 0, .int .i64 0, .int .i64 0] 39)) (w.heap.size + 1) 39 (.int .i64 0) (.int .i64 0) (.int .i64 0) (.int .i64 0) (.int .i64 0)) := by have := Five.new (u0 := .int .i64 0) (u1 := .int .i64 0) (u2 := .int .i64 0) (u3 := .int .i64 0) (u4 := .int .i64 0) (t := 39) (w.alloc (.cells #[.slice none 0 0, .slice none 0 0, .slice none 0 0] 30)); simpa [Hid] using this
 have BL := Lib.hid (below_alloc2 w (.cells #[.slice none 0 0, .slice none 0 0, .slice none 0 0] 30) (.cells #[.int .i64 0, .int .i64 0, .int .i64 0, .int .i64 0, .int .i64 0] 39))
 clear hb
 go_enter Try.func16, Try.ntmps16
 go_wp2_with (fail)
 refine (l20Open hn hc HB.out).mono ?_
 rintro e wa ⟨m, rfl, hr, hbl⟩
 have hr : Reader wa (w.heap.size + 1 + 1) A m c 0 := by simpa using hr
 have RD := Lib.hid hr
 have T2 := Lib.hid (Three.below T2.out hbl T2.out.lt)
 have F3 := Lib.hid (F3.out.grown (Below.grownBy hbl none) (by simp))
 have BL := Lib.hid (Below.and BL.out hbl)
 have hRl := hr.lt
 clear hr hbl HB
 go_wp2_with (fail)
 refine (l20AnyGame RD.out (by omega)).mono ?_
 rintro e wb ⟨A1, a1, B1, b1, C1, c1, E, F, L, rfl, gt, hln, q1, q10, q11, hr, hgr⟩
 have LN := Lib.hid hln
 have hsz := hgr.size
 have RD := Lib.hid hr
 have BL := Lib.hid (BL.out.grown hgr BL.out.size (fun k hk => by injection hk with hk; omega))
 have T2 := Lib.hid (T2.out.grown hgr (by first | (simp; done) | (simp; omega)))
 have F3 := Lib.hid (F3.out.grown hgr (by first | (simp; done) | (simp; omega)))
 clear hr hgr
 have hba : Below wb.heap.size wb (wb.alloc (.cells #[.slice A1 E.length a1, .slice B1 F.length b1, .slice C1 L.length c1] 30)) := (Below.refl _ _).alloc (Nat.le_refl _) _
 have GT := Lib.hid (gt.map (fun _ _ _ h => h.below hba))
 have T5 := Lib.hid (Three.new (u0 := .slice A1 E.length a1) (u1 := .slice B1 F.length b1) (u2 := .slice C1 L.length c1) (t := 30) wb)
 have RD := Lib.hid (RD.out.below hba)
 have T2 := Lib.hid (Three.below T2.out hba T2.out.lt)
 have F3 := Lib.hid (F3.out.grown (Below.grownBy hba none) (by simp))
 have BL := Lib.hid (Below.and BL.out hba)
 clear hba
 clear gt hln
 unfold gameV
 go_upto_region 3 with (fail)
 obtain ⟨lo, hlo⟩ : ∃ X, X = wa.heap.size := ⟨_, rfl⟩
 obtain ⟨p5, hp5⟩ : ∃ X, X = wb.heap.size := ⟨_, rfl⟩
 obtain ⟨wB, hwB⟩ : ∃ X, X = wb.alloc (.cells #[.slice A1 E.length a1, .slice B1 F.length b1, .slice C1 L.length c1] 30) := ⟨_, rfl⟩
 rw [← hwB] at RD GT T2 F3 BL T5 ⊢
 rw [← hp5] at T5 hsz ⊢
 rw [← hlo] at GT hRl hsz
 clear hwB hp5 hlo
 go_wp2_with (fail)
 refine (l20AnyReq RD.out (by omega)).mono ?_
 rintro e wc ⟨rc, rn, ro, rx, ry, rfl, q2, q20, q21, hr, hgr⟩
 have hs2 := hgr.size
 have l5 := T5.out.lt
 have RD := Lib.hid hr
 have BL := Lib.hid (BL.out.grown hgr BL.out.size (fun k hk => by injection hk with hk; omega))
 have T2 := Lib.hid (T2.out.grown hgr (by first | (simp; done) | (simp; omega)))
 have F3 := Lib.hid (F3.out.grown hgr (by first | (simp; done) | (simp; omega)))
 have GT := Lib.hid (GT.out.map (fun _ _ _ h => h.rdr hgr (by omega)))
 have T5 := Lib.hid (T5.out.grown hgr (by first | (simp; done) | (simp; omega)))
 clear hr hgr
 have hba : Below wc.heap.size wc (wc.alloc (.cells #[.int .i64 rc, .int .i64 rn, .int .i64 ro, .int .i64 rx, .int .i64 ry] 39)) := (Below.refl _ _).alloc (Nat.le_refl _) _
 have F6 := Lib.hid (Five.new (u0 := .int .i64 rc) (u1 := .int .i64 rn) (u2 := .int .i64 ro) (u3 := .int .i64 rx) (u4 := .int .i64 ry) (t := 39) wc)
 have RD := Lib.hid (RD.out.below hba)
 have T2 := Lib.hid (Three.below T2.out hba T2.out.lt)
 have F3 := Lib.hid (F3.out.grown (Below.grownBy hba none) (by simp))
 have BL := Lib.hid (Below.and BL.out hba)
 have GT := Lib.hid (GT.out.map (fun _ _ _ h => h.below hba))
 have T5 := Lib.hid (Three.below T5.out hba T5.out.lt)
 clear hba
 unfold req
 go_upto_region 4 with (fail)
 obtain ⟨p6, hp6⟩ : ∃ X, X = wc.heap.size := ⟨_, rfl⟩
 obtain ⟨wC, hwC⟩ : ∃ X, X = wc.alloc (.cells #[.int .i64 rc, .int .i64 rn, .int .i64 ro, .int .i64 rx, .int .i64 ry] 39) := ⟨_, rfl⟩
 rw [← hwC] at RD GT T2 F3 BL T5 F6 ⊢
 rw [← hp6] at F6 hs2 ⊢
 have n56 : p5 < p6 := by omega
 clear hwC hp6 hs2 l5
 go_cut [35] from 13 (fun s35 wc => ∃ bb : Bool, s35 = .bool bb ∧ (bb = true → (1 ≤ rc ∧ rc ≤ 4) ∧ L.length = 4) ∧ Hid (Three wc w.heap.size 30 (.slice none 0 0) (.slice none 0 0) (.slice none 0 0)) ∧ Hid (Five wc (w.heap.size + 1) 39 (.int .i64 0) (.int .i64 0) (.int .i64 0) (.int .i64 0) (.int .i64 0)) ∧ Hid (Three wc p5 30 (.slice A1 E.length a1) (.slice B1 F.length b1) (.slice C1 L.length c1)) ∧ Hid (Five wc p6 39 (.int .i64 rc) (.int .i64 rn) (.int .i64 ro) (.int .i64 rx) (.int .i64 ry)) ∧ Hid (GmT wc lo A1 a1 B1 b1 C1 c1 E F L) ∧ Hid (Below w.heap.size w wc))
 case first =>
  go_wp2_with (fail)
  refine (pickR 4 RD.out (by omega) (by omega) (by omega)).mono ?_
  rintro e wd ⟨d, d0, d1, rfl, q3, q30, q31, hr, hgr⟩
  have RD := Lib.hid hr
  have BL := Lib.hid (BL.out.grown hgr BL.out.size (fun k hk => by injection hk with hk; omega))
  have T2 := Lib.hid (T2.out.grown hgr (by first | (simp; done) | (simp; omega)))
  have F3 := Lib.hid (F3.out.grown hgr (by first | (simp; done) | (simp; omega)))
  have GT := Lib.hid (GT.out.map (fun _ _ _ h => h.rdr hgr (by omega)))
  have T5 := Lib.hid (T5.out.grown hgr (by first | (simp; done) | (simp; omega)))
  have F6 := Lib.hid (F6.out.grown hgr (by first | (simp; done) | (simp; omega)))
  clear hr hgr
  by_cases hd : d = 0
  · subst hd
    go_wp2_with (fail)
    go_meet
    case rel => exact ⟨false, rfl, (fun h => by cases h), T2.out, F3.out, T5.out, F6.out, GT.out, BL.out⟩
  · have e1 : decide (0 < d) = true := by simp; omega
    clear hd
    obtain ⟨x0, x1, x2, x3, x4⟩ := F6.out.cells
    go_wp2_with (fail)
    refine (l1Ok rc rn ro rx ry _).mono ?_
    rintro e we ⟨rfl, hb⟩
    have RD := Lib.hid (RD.out.below hb)
    have T2 := Lib.hid (Three.below T2.out hb T2.out.lt)
    have F3 := Lib.hid (F3.out.grown (Below.grownBy hb none) (by simp))
    have BL := Lib.hid (Below.and BL.out hb)
    have GT := Lib.hid (GT.out.map (fun _ _ _ h => h.below hb))
    have T5 := Lib.hid (Three.below T5.out hb T5.out.lt)
    have F6 := Lib.hid (F6.out.grown (Below.grownBy hb none) (by simp))
    clear hb
    clear x0 x1 x2 x3 x4
    rcases hq : reqB rc rn ro rx ry with _ | _
    · clear hq
      go_wp2_with (fail)
      go_meet
      case rel => exact ⟨false, rfl, (fun h => by cases h), T2.out, F3.out, T5.out, F6.out, GT.out, BL.out⟩
    · have hc4 := reqB_c hq
      clear hq
      obtain ⟨p0, p1, p2⟩ := T5.out.cells
      by_cases h4 : L.length = 4
      · have H4 := Lib.hid h4
        have e4 : ((L.length : Int) == 4) = true := by simp [h4]
        obtain ⟨k, rfl⟩ : ∃ k : Nat, rc = (k : Int) + 1 := ⟨(rc - 1).toNat, by omega⟩
        have hk : k < L.length := by omega
        obtain ⟨gC, oC, rfl, hcC⟩ := GT.out.gl.1.rL k hk
        generalize L[k] = v at hcC
        have i0 : (0 : Int) ≤ (k : Int) := by omega
        have i1 : (k : Int) < (L.length : Int) := by omega
        have ek : IntKind.i64.wrap ((k : Int) + 1 - 1) = k := by rw [show (k : Int) + 1 - 1 = k by omega]; exact IntWalk.i64_in _ (by omega)
        obtain ⟨x0, x1, x2, x3, x4⟩ := F6.out.cells
        clear h4
        go_wp2_with (fail)
        go_meet
        case rel => exact ⟨decide (v < 30), rfl, fun _ => ⟨by omega, H4.out⟩, T2.out, F3.out, T5.out, F6.out, GT.out, BL.out⟩
      · have e4 : ((L.length : Int) == 4) = false := by simp; omega
        clear h4
        go_wp2_with (fail)
        go_meet
        case rel => exact ⟨false, rfl, (fun h => by cases h), T2.out, F3.out, T5.out, F6.out, GT.out, BL.out⟩
 case rest =>
  obtain ⟨bb, rfl, hbb, T2, F3, T5, F6, GT, BL⟩ := hcut
  have HBB := Lib.hid hbb
  clear hbb RD
  rcases bb with _ | _
  · clear HBB
    obtain ⟨z0, z1, z2⟩ := T2.out.cells
    have zf := T2.out.frozen
    obtain ⟨y0, y1, y2, y3, y4⟩ := F3.out.cells
    have yf := F3.out.frozen
    have lz := T2.out.lt
    have ly := F3.out.lt
    have BG := BL
    have GG := GT
    have hz5 : p5 ≠ w.heap.size := by omega
    have hz6 : p6 ≠ w.heap.size := by omega
    have hy5 : p5 ≠ w.heap.size + 1 := by omega
    have hy6 : p6 ≠ w.heap.size + 1 := by omega
    clear T2 F3 BL GT
    go_wp2_with (fail)
    refine wp_region_held_drew (S := fun WS => Hid (Three WS p5 30 (.slice A1 E.length a1) (.slice B1 F.length b1) (.slice C1 L.length c1)) ∧ Hid (Five WS p6 39 (.int .i64 (rc)) (.int .i64 (rn)) (.int .i64 ro) (.int .i64 rx) (.int .i64 ry))) (by kernel_rfl) ⟨T5.out.drew, F6.out.drew⟩ (fun hS0 => ?_)
    refine tkI 0 45 (v := ?_) rfl rfl ?_ ?_
    rotate_left
    · intro wS hSw; obtain ⟨p0, p1, p2⟩ := hSw.1.out.cells; go_simp; (try with_reducible rfl)
    (try simp only [Act.put, pu1, pu2, pu3])
    refine tkI 1 46 (v := ?_) rfl rfl ?_ ?_
    rotate_left
    · intro wS hSw; obtain ⟨x0, x1, x2, x3, x4⟩ := hSw.2.out.cells; go_simp; (try with_reducible rfl)
    (try simp only [Act.put, pu1, pu2, pu3])
    clear hS0
    refine wpAnyH_ready (rs := [2]) (by kernel_rfl) (by simp) ?_
    refine AllReadyH.cons rfl (fun KK hK => ?_) AllReadyH.nil
    go_simp
    refine hK.out _ _ ⟨(((T5.out.far hz5 (j := 0) _).far hz5 (j := 1) _).far hz5 (j := 2) _).drew, (((F6.out.far hz6 (j := 0) _).far hz6 (j := 1) _).far hz6 (j := 2) _).drew⟩ (fun _ => ?_)
    clear hK KK
    (try simp only [Act.put, pu1, pu2, pu3])
    refine wpAnyH_ready (rs := [3]) (by kernel_rfl) (by simp) ?_
    refine AllReadyH.cons rfl (fun KK hK => ?_) AllReadyH.nil
    go_simp
    refine hK.out _ _ ⟨((((((((T5.out.far hz5 (j := 0) _).far hz5 (j := 1) _).far hz5 (j := 2) _).far hy5 (j := 0) _).far hy5 (j := 1) _).far hy5 (j := 2) _).far hy5 (j := 3) _).far hy5 (j := 4) _).drew, ((((((((F6.out.far hz6 (j := 0) _).far hz6 (j := 1) _).far hz6 (j := 2) _).far hy6 (j := 0) _).far hy6 (j := 1) _).far hy6 (j := 2) _).far hy6 (j := 3) _).far hy6 (j := 4) _).drew⟩ (fun _ => ?_)
    clear hK KK
    (try simp only [Act.put, pu1, pu2, pu3])
    refine wpAnyH_done (by kernel_rfl) ?_ _
    go_wp2
    refine bodyPost_ret (v := .tuple #[gameV A1 E.length a1 B1 F.length b1 C1 L.length c1, req (rc) (rn) ro rx ry]) (by simp [results, Try.results16, go_sem, z0, z1, z2, y0, y1, y2, y3, y4]) rfl ⟨A1, a1, B1, b1, C1, c1, E, F, L, ⟨rc, rn, ro, rx, ry⟩, rfl, ?_, LN.out, ?_⟩
    · refine GG.out.map (fun _ _ _ h => ?_)
      exact OwG.below (OwG.base (OwG.put (OwG.put (OwG.put (OwG.put (OwG.put (OwG.put (OwG.put (OwG.put h (q := w.heap.size) (by omega) 0 _) (q := w.heap.size) (by omega) 1 _) (q := w.heap.size) (by omega) 2 _) (q := w.heap.size + 1) (by omega) 0 _) (q := w.heap.size + 1) (by omega) 1 _) (q := w.heap.size + 1) (by omega) 2 _) (q := w.heap.size + 1) (by omega) 3 _) (q := w.heap.size + 1) (by omega) 4 _) (by omega)) (Below.refl _ _).drew
    · refine Below.drew ?_
      iterate 8 (refine Below.setCell ?_ (by first | (simp; done) | (simp; omega)) _)
      exact BG.out
  · obtain ⟨hc4, h4⟩ := HBB.out rfl
    have H4 := Lib.hid h4
    obtain ⟨k, rfl⟩ : ∃ k : Nat, rc = (k : Int) + 1 := ⟨(rc - 1).toNat, by omega⟩
    have hk : k < L.length := by omega
    obtain ⟨gC, oC, rfl, hcC⟩ := GT.out.gl.1.rL k hk
    generalize L[k] = v at hcC
    have i0 : (0 : Int) ≤ (k : Int) := by omega
    have i1 : (k : Int) < (L.length : Int) := by omega
    have ek : IntKind.i64.wrap ((k : Int) + 1 - 1) = k := by rw [show (k : Int) + 1 - 1 = k by omega]; exact IntWalk.i64_in _ (by omega)
    obtain ⟨x0, x1, x2, x3, x4⟩ := F6.out.cells
    have xf := F6.out.frozen
    obtain ⟨p0, p1, p2⟩ := T5.out.cells
    clear h4 HBB
    go_upto_region 6 with (fail)
    obtain ⟨vn, hvn⟩ : ∃ x, x = wrap64 (v + 1) := ⟨_, rfl⟩
    rw [← hvn]
    clear hvn
    have GT := Lib.hid (GT.out.map (fun _ _ _ h => h.far5 F6.out 1 (.int .i64 (vn))))
    have F6 := Lib.hid (F6.out.set1 (.int .i64 (vn)))
    have T5 := Lib.hid (T5.out.far (show p5 ≠ p6 by omega) (j := 1) (.int .i64 (vn)))
    have T2 := Lib.hid (T2.out.far (show w.heap.size ≠ p6 by omega) (j := 1) (.int .i64 (vn)))
    have F3 := Lib.hid (F3.out.far (show w.heap.size + 1 ≠ p6 by omega) (j := 1) (.int .i64 (vn)))
    have BL := Lib.hid (BL.out.setCell (p := ⟨p6, 1, none⟩) (by simp; omega) (.int .i64 (vn)))
    clear x0 x1 x2 x3 x4 xf p0 p1 p2 hcC
    obtain ⟨z0, z1, z2⟩ := T2.out.cells
    have zf := T2.out.frozen
    obtain ⟨y0, y1, y2, y3, y4⟩ := F3.out.cells
    have yf := F3.out.frozen
    have lz := T2.out.lt
    have ly := F3.out.lt
    have BG := BL
    have GG := GT
    have hz5 : p5 ≠ w.heap.size := by omega
    have hz6 : p6 ≠ w.heap.size := by omega
    have hy5 : p5 ≠ w.heap.size + 1 := by omega
    have hy6 : p6 ≠ w.heap.size + 1 := by omega
    clear T2 F3 BL GT
    go_wp2_with (fail)
    refine wp_region_held_drew (S := fun WS => Hid (Three WS p5 30 (.slice A1 E.length a1) (.slice B1 F.length b1) (.slice (some ⟨gC, oC, none⟩) L.length c1)) ∧ Hid (Five WS p6 39 (.int .i64 ((k : Int) + 1)) (.int .i64 (vn)) (.int .i64 ro) (.int .i64 rx) (.int .i64 ry))) (by kernel_rfl) ⟨T5.out.drew, F6.out.drew⟩ (fun hS0 => ?_)
    refine tkI 0 45 (v := ?_) rfl rfl ?_ ?_
    rotate_left
    · intro wS hSw; obtain ⟨p0, p1, p2⟩ := hSw.1.out.cells; go_simp; (try with_reducible rfl)
    (try simp only [Act.put, pu1, pu2, pu3])
    refine tkI 1 46 (v := ?_) rfl rfl ?_ ?_
    rotate_left
    · intro wS hSw; obtain ⟨x0, x1, x2, x3, x4⟩ := hSw.2.out.cells; go_simp; (try with_reducible rfl)
    (try simp only [Act.put, pu1, pu2, pu3])
    clear hS0
    refine wpAnyH_ready (rs := [2]) (by kernel_rfl) (by simp) ?_
    refine AllReadyH.cons rfl (fun KK hK => ?_) AllReadyH.nil
    go_simp
    refine hK.out _ _ ⟨(((T5.out.far hz5 (j := 0) _).far hz5 (j := 1) _).far hz5 (j := 2) _).drew, (((F6.out.far hz6 (j := 0) _).far hz6 (j := 1) _).far hz6 (j := 2) _).drew⟩ (fun _ => ?_)
    clear hK KK
    (try simp only [Act.put, pu1, pu2, pu3])
    refine wpAnyH_ready (rs := [3]) (by kernel_rfl) (by simp) ?_
    refine AllReadyH.cons rfl (fun KK hK => ?_) AllReadyH.nil
    go_simp
    refine hK.out _ _ ⟨((((((((T5.out.far hz5 (j := 0) _).far hz5 (j := 1) _).far hz5 (j := 2) _).far hy5 (j := 0) _).far hy5 (j := 1) _).far hy5 (j := 2) _).far hy5 (j := 3) _).far hy5 (j := 4) _).drew, ((((((((F6.out.far hz6 (j := 0) _).far hz6 (j := 1) _).far hz6 (j := 2) _).far hy6 (j := 0) _).far hy6 (j := 1) _).far hy6 (j := 2) _).far hy6 (j := 3) _).far hy6 (j := 4) _).drew⟩ (fun _ => ?_)
    clear hK KK
    (try simp only [Act.put, pu1, pu2, pu3])
    refine wpAnyH_done (by kernel_rfl) ?_ _
    go_wp2
    refine bodyPost_ret (v := .tuple #[gameV A1 E.length a1 B1 F.length b1 (some ⟨gC, oC, none⟩) L.length c1, req ((k : Int) + 1) (vn) ro rx ry]) (by simp [results, Try.results16, go_sem, z0, z1, z2, y0, y1, y2, y3, y4]) rfl ⟨A1, a1, B1, b1, (some ⟨gC, oC, none⟩), c1, E, F, L, ⟨(k : Int) + 1, vn, ro, rx, ry⟩, rfl, ?_, LN.out, ?_⟩
    · refine GG.out.map (fun _ _ _ h => ?_)
      exact OwG.below (OwG.base (OwG.put (OwG.put (OwG.put (OwG.put (OwG.put (OwG.put (OwG.put (OwG.put h (q := w.heap.size) (by omega) 0 _) (q := w.heap.size) (by omega) 1 _) (q := w.heap.size) (by omega) 2 _) (q := w.heap.size + 1) (by omega) 0 _) (q := w.heap.size + 1) (by omega) 1 _) (q := w.heap.size + 1) (by omega) 2 _) (q := w.heap.size + 1) (by omega) 3 _) (q := w.heap.size + 1) (by omega) 4 _) (by omega)) (Below.refl _ _).drew
    · refine Below.drew ?_
      iterate 8 (refine Below.setCell ?_ (by first | (simp; done) | (simp; omega)) _)
      exact BG.out


end Go.Proofs.Ytkganikclbeplaa

/- A request done twice; what does not go changes nothing but the number. -/
namespace Go.Proofs.Ytkganikclbeplaa
open Go.ChangeShapes Go.WideShapes Go.ChangeAt Go.RowKit
set_option linter.unusedVariables false
set_option linter.unusedSimpArgs false

theorem actG_kind (E : List Fig) (F L : List Int) (k : Nat) (e : Fig) (r : Rq) : (actG E F L k e r).2 ≠ 1 ∧ (actG E F L k e r).2 ≠ 2 ∧ (actG E F L k e r).2 ≠ 3 ∧ ((actG E F L k e r).2 = 0 ∨ ((actG E F L k e r).1.1 = E ∧ (actG E F L k e r).1.2.1 = F)) := by
 unfold actG
 repeat' split
 all_goals simp
/-- What becomes of a game when a request is done: three ways. -/
theorem doG_ways (E : List Fig) (F L : List Int) (r : Rq) :
 (nullB r = true ∧ doG E F L r = ((E, F, L), 2)) ∨ (nullB r = false ∧ r.n ≤ L.getD (r.c - 1).toNat 0 ∧ doG E F L r = ((E, F, L), 3)) ∨
 (nullB r = false ∧ ¬ r.n ≤ L.getD (r.c - 1).toNat 0 ∧ (doG E F L r).1.2.2 = L.set (r.c - 1).toNat r.n ∧ (doG E F L r).2 ≠ 1 ∧ (doG E F L r).2 ≠ 2 ∧ (doG E F L r).2 ≠ 3 ∧ ((doG E F L r).2 = 0 ∨ ((doG E F L r).1.1 = E ∧ (doG E F L r).1.2.1 = F))) := by
 unfold doG
 split
 · rename_i h; exact .inl ⟨h, rfl⟩
 rename_i hn
 have hn : nullB r = false := by simpa using hn
 split
 · rename_i h; exact .inr (.inl ⟨hn, h, rfl⟩)
 rename_i hl
 refine .inr (.inr ⟨hn, hl, ?_⟩)
 simp only
 split
 · split
   · simp
   · simp
 · split
   · simp
   · split
     · simp
     · have h := actG_kind E F (L.set (r.c - 1).toNat r.n)
       exact ⟨actG_L _ _ _ _ _ _, (h _ _ r).1, (h _ _ r).2.1, (h _ _ r).2.2.1, (h _ _ r).2.2.2⟩
theorem okB_c {r : Rq} (h : okB r = true) (hn : nullB r = false) : 1 ≤ r.c ∧ r.c ≤ 4 := by
 have hq : rqB r = true := by simpa [okB, hn] using h
 obtain ⟨rc, rn, ro, rx, ry⟩ := r
 simp only [rqB, reqB, inB, Bool.and_eq_true, decide_eq_true_eq] at hq
 exact hq.1
theorem stepG_ok {E : List Fig} {F L : List Int} {r : Rq} (hg : gokB E F L = true) (hr : okB r = true) : stepG E F L r = doG E F L r := by
 unfold stepG
 rw [if_pos ⟨hg, hr⟩]
/-- A request done again: too old, or none. -/
theorem stepG_again {E E1 : List Fig} {F L F1 L1 : List Int} {c1 : Int} {r : Rq} (hg : gokB E F L = true) (hr : okB r = true) (hX : ((E1, F1, L1), c1) = doG E F L r) :
 gokB E1 F1 L1 = true ∧ stepG E1 F1 L1 r = ((E1, F1, L1), if nullB r = true then 2 else 3) ∧ c1 ≠ 1 ∧ (nullB r = true → E1 = E ∧ F1 = F ∧ L1 = L) := by
 have hok := doG_ok hg r hr
 rw [← hX] at hok
 simp only at hok
 have h4 := ((gok_iff E F L).1 hg).l
 refine ⟨hok, ?_⟩
 rw [stepG_ok hok hr]
 rcases doG_ways E F L r with ⟨hn, h⟩ | ⟨hn, hl, h⟩ | ⟨hn, hl, h1, h2, h3, h5, h6⟩
 · rw [h] at hX
   simp only [Prod.mk.injEq] at hX
   obtain ⟨⟨rfl, rfl, rfl⟩, rfl⟩ := hX
   rw [h, if_pos hn]
   exact ⟨rfl, by decide, fun _ => ⟨rfl, rfl, rfl⟩⟩
 · rw [h] at hX
   simp only [Prod.mk.injEq] at hX
   obtain ⟨⟨rfl, rfl, rfl⟩, rfl⟩ := hX
   rw [h, if_neg (by simp [hn])]
   exact ⟨rfl, by decide, fun e => by rw [hn] at e; cases e⟩
 · have hc := okB_c hr hn
   rw [← hX] at h1 h2
   simp only at h1 h2
   refine ⟨?_, h2, fun e => by rw [hn] at e; cases e⟩
   rw [if_neg (by simp [hn])]
   unfold doG
   rw [if_neg (by simp [hn]), if_pos]
   rw [h1, List.getD_eq_getElem?_getD, List.getElem?_set_self (by omega)]
   simp
/-- The numbers behind a request, and what else turned. -/
theorem doG_code5 {E E1 : List Fig} {F L F1 L1 : List Int} {c1 : Int} {r : Rq} (hg : gokB E F L = true) (hr : okB r = true) (hX : ((E1, F1, L1), c1) = doG E F L r) (h2 : c1 ≠ 2) :
 nullB r = false ∧ (1 ≤ r.c ∧ r.c ≤ 4) ∧ L.length = 4 ∧ L1.length = 4 ∧ L1.getD (r.c - 1).toNat 0 = (if c1 = 3 then L.getD (r.c - 1).toNat 0 else r.n) ∧ (c1 = 0 ∨ (E1 = E ∧ F1 = F)) := by
 have h4 := ((gok_iff E F L).1 hg).l
 have hok := doG_ok hg r hr
 rw [← hX] at hok
 have h41 := ((gok_iff E1 F1 L1).1 hok).l
 rcases doG_ways E F L r with ⟨hn, h⟩ | ⟨hn, hl, h⟩ | ⟨hn, hl, h1, h2', h3, h5, h6⟩
 · rw [h] at hX
   simp only [Prod.mk.injEq] at hX
   exact absurd hX.2 h2
 · rw [h] at hX
   simp only [Prod.mk.injEq] at hX
   obtain ⟨⟨rfl, rfl, rfl⟩, rfl⟩ := hX
   exact ⟨hn, okB_c hr hn, h4, h41, by simp, .inr ⟨rfl, rfl⟩⟩
 · have hc := okB_c hr hn
   rw [← hX] at h1 h5 h6
   simp only at h1 h5 h6
   refine ⟨hn, hc, h4, h41, ?_, h6⟩
   rw [if_neg h5, h1, List.getD_eq_getElem?_getD, List.getElem?_set_self (by omega)]
   rfl

theorem implGameDoT {w : World} {lo : Nat} {A : Option Addr} {a : Nat} {B : Option Addr} {b : Nat} {C : Option Addr} {d : Nat} {E : List Fig} {F L : List Int} {r : Rq} (h : GmT w lo A a B b C d E F L) (hE : E.length ≤ 1048576) (hF : F.length ≤ 1048576) (hL : L.length ≤ 1048576) :
 Calls Try.prog 17 #[gameV A E.length a B F.length b C L.length d, r.val] w (DoI (stepG E F L r) w) := by
 rcases hgb : gokB E F L with _ | _
 · have hA : stepG E F L r = (([], [], []), 1) := by simp [stepG, hgb]
   rw [hA]
   obtain ⟨rc, rn, ro, rx, ry⟩ := r
   exact stepBadI1 A a B b C d E F L rc rn ro rx ry w hE hF hL hgb h.gl.1
 · exact implGameDo A a B b C d E F L r w hE hF hL (h.gl.2 hgb)
theorem specGameDoT {w : World} {lo : Nat} {A : Option Addr} {a : Nat} {B : Option Addr} {b : Nat} {C : Option Addr} {d : Nat} {E : List Fig} {F L : List Int} {r : Rq} (h : GmT w lo A a B b C d E F L) (hE : E.length ≤ 1048576) (hF : F.length ≤ 1048576) (hL : L.length ≤ 1048576) :
 Calls Try.prog 18 #[gameV A E.length a B F.length b C L.length d, r.val] w (DoR (stepG E F L r) w) := by
 rcases hgb : gokB E F L with _ | _
 · have hA : stepG E F L r = (([], [], []), 1) := by simp [stepG, hgb]
   rw [hA]
   obtain ⟨rc, rn, ro, rx, ry⟩ := r
   exact stepBad1 A a B b C d E F L rc rn ro rx ry w hE hF hL hgb h.gl.1
 · exact specGameDo A a B b C d E F L r w hE hF hL (h.gl.2 hgb)

end Go.Proofs.Ytkganikclbeplaa
