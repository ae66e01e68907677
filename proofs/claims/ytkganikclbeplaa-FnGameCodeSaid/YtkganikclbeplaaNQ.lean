/- Qa, Qb -/
import Derived.Test.YtkganikclbeplaaMR
import Derived.Test.YtkganikclbeplaaMU
import Derived.Test.YtkganikclbeplaaNG
/- A game drawn. -/
namespace Go.Proofs.Ytkganikclbeplaa
open Go.ChangeShapes Go.WideShapes Go.ChangeAt Go.RowKit
set_option linter.unusedVariables false
set_option linter.unusedSimpArgs false

theorem oneM {w : World} {R : Nat} {A : Option Addr} {n c : Nat} {p : Int} (g : Nat) (l : List Int) (h : Reader w R A n c p) (hp : p ≤ 100000) (hl : 0 < l.length) (hl1 : l.length ≤ 1000) (hg : g ≠ R)
 (hc : ∀ i (hi : i < l.length), w.cell? ⟨g, i, none⟩ = some (.int .i64 (l[i]'hi))) :
 Calls Try.prog 51 #[.pointer (some ⟨R, 0, none⟩), .slice (some ⟨g, 0, none⟩) l.length l.length] w fun e w' => ∃ v : Int, v ∈ l ∧ e = .returned (.int .i64 v) ∧ Drawn w R A n c p 1 w' := by
 have H := Lib.hid h
 have HC := Lib.hid hc
 clear h hc
 go_enter Try.func51, Try.ntmps51
 go_wp2_with (fail)
 refine (pickR (l.length : Int) H.out hp (by omega) (by omega)).mono ?_
 rintro e w1 ⟨v, v0, v1, rfl, hd⟩
 obtain ⟨j, rfl⟩ := Int.eq_ofNat_of_zero_le v0
 obtain ⟨q, hq0, hq1, hr, hgr⟩ := hd
 have hcell := hgr.cell (HC.out j (by omega)) (by simpa using hg)
 have HD : Hid (Drawn w R A n c p 1 w1) := ⟨q, hq0, hq1, hr, hgr⟩
 have HM := Lib.hid (List.getElem_mem (l := l) (n := j) (by omega))
 clear hr hgr
 generalize l[j] = x at hcell HM
 go_wp2
 go_light
 go_ret
 exact ⟨x, HM.out, rfl, HD.out⟩

theorem back3 {w W : World} {R : Nat} {A : Option Addr} {n c : Nat} {p K q : Int} (u0 u1 u2 : Value) (hq0 : p ≤ q) (hq1 : q ≤ p + K) (hr : Reader W R A n c q) (hg : w.grownBy W (some R)) (hOld : ∀ b off, A = some ⟨b, off, none⟩ → 0 < n → b < w.heap.size) (hR : R < w.heap.size) :
 Drawn w R A n c p K (((W.setCell ⟨w.heap.size, 0, none⟩ u0).setCell ⟨w.heap.size, 1, none⟩ u1).setCell ⟨w.heap.size, 2, none⟩ u2) := by
 refine ⟨q, hq0, hq1, ?_, ?_⟩
 · exact ((hr.set w.heap.size _ 0 u0 hOld hR (Nat.le_refl _)).set w.heap.size _ 1 u1 hOld hR (Nat.le_refl _)).set w.heap.size _ 2 u2 hOld hR (Nat.le_refl _)
 · exact grown_new (grown_new (grown_new hg (grownBy_set _ _ 0 u0) (Nat.le_refl _)) (grownBy_set _ _ 1 u1) (Nat.le_refl _)) (grownBy_set _ _ 2 u2) (Nat.le_refl _)

set_option maxRecDepth 100000 in
set_option maxHeartbeats 8000000 in
theorem l20Game {w : World} {R : Nat} {A : Option Addr} {n c : Nat} {p : Int} (h : Reader w R A n c p) (hp : p ≤ 80000) :
 Calls Try.prog 50 #[.pointer (some ⟨R, 0, none⟩)] w fun e w' => ∃ (A' : Option Addr) (a : Nat) (B : Option Addr) (b : Nat) (C : Option Addr) (d : Nat) (E : List Fig) (F L : List Int), e = .returned (gameV A' E.length a B F.length b C L.length d) ∧ OwG w' w.heap.size A' a B b C d E F L ∧ (E.length ≤ 4 ∧ F.length = 16 ∧ L.length = 4) ∧ Drawn w R A n c p 282 w' := by
 have hOld := Lib.hid h.old
 have hRlt := h.lt
 have hlo := h.lo
 have RD := Lib.hid (h.below (below_alloc2 w (.cells #[.slice none 0 0, .slice none 0 0, .slice none 0 0] 30) (.cells #[.int .i64 0, .int .i64 6, .int .i64 20, .int .i64 40] 3)))
 have GR := Lib.hid (grownBy_trans (World.grownBy_alloc w (.cells #[.slice none 0 0, .slice none 0 0, .slice none 0 0] 30) (some R)) (World.grownBy_alloc _ (.cells #[.int .i64 0, .int .i64 6, .int .i64 20, .int .i64 40] 3) (some R)))
 have T2 := Lib.hid ((Three.new (u0 := .slice none 0 0) (u1 := .slice none 0 0) (u2 := .slice none 0 0) (t := 30) w).alloc (.cells #[.int .i64 0, .int .i64 6, .int .i64 20, .int .i64 40] 3))
 have HC : ∀ i (hi : i < ([0, 6, 20, 40] : List Int).length), ((w.alloc (.cells #[.slice none 0 0, .slice none 0 0, .slice none 0 0] 30)).alloc (.cells #[.int .i64 0, .int .i64 6, .int .i64 20, .int .i64 40] 3)).cell? ⟨w.heap.size + 1, i, none⟩ = some (.int .i64 (([0, 6, 20, 40] : List Int)[i]'hi)) := by
  intro i hi
  have hb : ((w.alloc (.cells #[.slice none 0 0, .slice none 0 0, .slice none 0 0] 30)).alloc (.cells #[.int .i64 0, .int .i64 6, .int .i64 20, .int .i64 40] 3)).heap[w.heap.size + 1]? = some (.cells #[.int .i64 0, .int .i64 6, .int .i64 20, .int .i64 40] 3) := by
   have := heap_alloc_new (w.alloc (.cells #[.slice none 0 0, .slice none 0 0, .slice none 0 0] 30)) (.cells #[.int .i64 0, .int .i64 6, .int .i64 20, .int .i64 40] 3)
   simpa using this
  rw [cell_of_row _ _ i _ 3 (0, 0) hb]
  rcases i with _ | _ | _ | _ | i
  · simp
  · simp
  · simp
  · simp
  · simp only [List.length] at hi
    omega
 have HC := Lib.hid HC
 clear h
 go_enter Try.func50, Try.ntmps50
 go_wp2_with (fail)
 refine (oneM (w.heap.size + 1) [0, 6, 20, 40] RD.out (by omega) (by simp) (by simp) (by omega) HC.out).mono ?_
 rintro e w1 ⟨m, hm, rfl, q1, q10, q11, hr, hgr⟩
 obtain ⟨M, rfl, hM⟩ : ∃ M : Nat, m = (M : Int) ∧ M ≤ 40 := by
  simp only [List.mem_cons, List.not_mem_nil, or_false] at hm
  rcases hm with rfl | rfl | rfl | rfl
  · exact ⟨0, rfl, by omega⟩
  · exact ⟨6, rfl, by omega⟩
  · exact ⟨20, rfl, by omega⟩
  · exact ⟨40, rfl, by omega⟩
 have RD := Lib.hid hr
 have GR := Lib.hid (grownBy_trans GR.out hgr)
 have T2 := Lib.hid (T2.out.grown hgr (by simp; omega))
 have S1 := Lib.hid (show w.heap.size ≤ w1.heap.size by have := T2.out.lt; omega)
 clear hr hgr HC hm
 go_wp2_with (fail)
 refine (l20Reqs RD.out (by omega) M hM).mono ?_
 rintro e w2 ⟨Bq, dq, l, rfl, hl, hok, ho, q2, q20, q21, hr, hgr⟩
 have RD := Lib.hid hr
 have GR := Lib.hid (grownBy_trans GR.out hgr)
 have T2 := Lib.hid (T2.out.grown hgr (by simp; omega))
 have HRd := Lib.hid (Rd.of_own (f := Rq.cells) (k := 5) (fun _ => rfl) ho rfl)
 have HCP := Lib.hid (own_cap ho).1
 have HOK := Lib.hid hok
 have S2 := Lib.hid (show w.heap.size < w2.heap.size from T2.out.lt)
 clear hr hgr ho hok
 go_wp2_with (fail)
 refine (l2Fold Bq dq l w2 (by omega) HCP.out HRd.out HOK.out).mono ?_
 rintro e w3 ⟨A1, a1, B1, b1, C1, c1, rfl, hg, hb⟩
 have RD := Lib.hid (RD.out.below hb)
 have GR := Lib.hid (grownBy_trans GR.out (Below.grownBy hb (some R)))
 have S3 := Lib.hid (show w.heap.size < w3.heap.size by have := hb.size; have := S2.out; omega)
 have T2 := Lib.hid (Three.below T2.out hb T2.out.lt)
 have HOK := Lib.hid (okG_of (foldG_ok l g0 g0_ok HOK.out))
 have HG := Lib.hid hg
 obtain ⟨X, hX⟩ : ∃ X, X = foldG l := ⟨_, rfl⟩
 have HOK := Lib.hid (show OkG X.1 X.2.1 X.2.2 by rw [hX]; exact HOK.out)
 rw [← hX] at HG
 rw [show foldG l = X from hX.symm]
 clear hX hg hb HRd HCP
 go_wp2_with (fail)
 refine (l2Copy A1 a1 B1 b1 C1 c1 X.1 X.2.1 X.2.2 _ HOK.out.e.len (by rw [HOK.out.f]; omega) (by rw [HOK.out.l]; omega) HG.out.rE HG.out.rF HG.out.rL (nil_cap HG.out.nA) (nil_cap HG.out.nB) (nil_cap HG.out.nC)).mono ?_
 rintro e w4 ⟨A2, a2, B2, b2, C2, c2, rfl, oE, oF, oL, d1, d2, d3, h2⟩
 have OG : Hid (OwG w4 w3.heap.size A2 a2 B2 b2 C2 c2 X.1 X.2.1 X.2.2) := ⟨oE, oF, oL, d1, d2, d3⟩
 have RD := Lib.hid (RD.out.below h2)
 have GR := Lib.hid (grownBy_trans GR.out (Below.grownBy h2 (some R)))
 have T2 := Lib.hid (Three.below T2.out h2 T2.out.lt)
 have OG := Lib.hid ((((OG.out.put S3.out 0 (.slice A2 X.1.length a2)).put S3.out 1 (.slice B2 X.2.1.length b2)).put S3.out 2 (.slice C2 X.2.2.length c2)).base (Nat.le_of_lt S3.out))
 have DR := Lib.hid (back3 (w := w) (K := 282) (.slice A2 X.1.length a2) (.slice B2 X.2.1.length b2) (.slice C2 X.2.2.length c2) (p := p) (q := q2) (by omega) (by omega) RD.out GR.out hOld.out hRlt)
 have LN := Lib.hid (show X.1.length ≤ 4 ∧ X.2.1.length = 16 ∧ X.2.2.length = 4 from ⟨HOK.out.e.len, HOK.out.f, HOK.out.l⟩)
 clear h2 oE oF oL d1 d2 d3 HG HOK RD GR
 unfold gameV
 obtain ⟨z0, z1, z2⟩ := T2.out.cells
 have zf := T2.out.frozen
 go_wp2
 refine bodyPost_ret (v := .agg #[.slice A2 X.1.length a2, .slice B2 X.2.1.length b2, .slice C2 X.2.2.length c2]) (by simp [results, Try.results50, go_sem, z0, z1, z2]) rfl ⟨A2, a2, B2, b2, C2, c2, X.1, X.2.1, X.2.2, rfl, OG.out, LN.out, DR.out⟩

end Go.Proofs.Ytkganikclbeplaa

/- Any game drawn. -/
namespace Go.Proofs.Ytkganikclbeplaa
open Go.ChangeShapes Go.WideShapes Go.ChangeAt Go.RowKit
set_option linter.unusedVariables false
set_option linter.unusedSimpArgs false

theorem Bd.rdr {w w' : World} {p lo R : Nat} {A : Option Addr} {a : Nat} {B : Option Addr} {b : Nat} {C : Option Addr} {d : Nat} {E : List Fig} {F L : List Int} (h : Bd w p lo A a B b C d E F L) (hg : w.grownBy w' (some R)) (hR : R < lo) : Bd w' p lo A a B b C d E F L :=
 ⟨h.at_.grown hg (by have := h.lo; simp; omega), h.e.kept hg (.inr (own_ge_ne (w := w) h.e hR)), h.f.kept hg (.inr (own_ge_ne (w := w) h.f hR)), h.l.kept hg (.inr (own_ge_ne (w := w) h.l hR)), h.ef, h.el, h.fl, h.pe, h.pf, h.pl, h.lo⟩
/-- A game of the call's own; its last numbers, perhaps, without the first. -/
def GmT (w : World) (lo : Nat) (A : Option Addr) (a : Nat) (B : Option Addr) (b : Nat) (C : Option Addr) (d : Nat) (E : List Fig) (F L : List Int) : Prop :=
 ∃ C0 d0 L0, OwG w lo A a B b C0 d0 E F L0 ∧ ((C = C0 ∧ d = d0 ∧ L = L0) ∨ (L0.length = 4 ∧ L = L0.tail ∧ ∃ g, C0 = some ⟨g, 0, none⟩ ∧ C = some ⟨g, 1, none⟩))
theorem GmT.map {w w' : World} {lo lo' : Nat} {A : Option Addr} {a : Nat} {B : Option Addr} {b : Nat} {C : Option Addr} {d : Nat} {E : List Fig} {F L : List Int} (h : GmT w lo A a B b C d E F L) (hm : ∀ C0 d0 L0, OwG w lo A a B b C0 d0 E F L0 → OwG w' lo' A a B b C0 d0 E F L0) : GmT w' lo' A a B b C d E F L := by
 obtain ⟨C0, d0, L0, h0, h1⟩ := h
 exact ⟨C0, d0, L0, hm _ _ _ h0, h1⟩
theorem GmT.gl {w : World} {lo : Nat} {A : Option Addr} {a : Nat} {B : Option Addr} {b : Nat} {C : Option Addr} {d : Nat} {E : List Fig} {F L : List Int} (h : GmT w lo A a B b C d E F L) : GmL w A B C E F L ∧ (gokB E F L = true → GmR w A a B b C d E F L) := by
 obtain ⟨C0, d0, L0, h0, h1⟩ := h
 rcases h1 with ⟨rfl, rfl, rfl⟩ | ⟨hl, rfl, g, rfl, rfl⟩
 · exact ⟨h0.gmR.gl, fun _ => h0.gmR⟩
 · have hr := h0.gmR
   refine ⟨⟨hr.rE, hr.rF, fun i hi => ?_, fun e => ?_⟩, fun e => ?_⟩
   · have hi' : i + 1 < L0.length := by simp at hi; omega
     obtain ⟨g', hg, hc⟩ := hr.rL (i + 1) hi'
     cases hg
     exact ⟨g, 1, rfl, by rw [show 1 + i = i + 1 by omega, hc, List.getElem_tail]⟩
   · simp [hl] at e
   · simp [gokB, hl] at e
theorem OwG.rdr {w w' : World} {lo R : Nat} {A : Option Addr} {a : Nat} {B : Option Addr} {b : Nat} {C : Option Addr} {d : Nat} {E : List Fig} {F L : List Int} (h : OwG w lo A a B b C d E F L) (hg : w.grownBy w' (some R)) (hR : R < lo) : OwG w' lo A a B b C d E F L :=
 ⟨h.e.kept hg (.inr (own_ge_ne (w := w) h.e hR)), h.f.kept hg (.inr (own_ge_ne (w := w) h.f hR)), h.l.kept hg (.inr (own_ge_ne (w := w) h.l hR)), h.ef, h.el, h.fl⟩
theorem Bd.own1 {w : World} {p lo : Nat} {A : Option Addr} {a : Nat} {B : Option Addr} {b : Nat} {C : Option Addr} {d : Nat} {E : List Fig} {F L : List Int} (h : Bd w p lo A a B b C d E F L) (u : Value) : OwG (w.setCell ⟨p, 2, none⟩ u) lo A a B b C d E F L := h.own.box h.at_ 2 u
theorem own_full {w : World} {base : Nat} {e : TypeId} {A : Option Addr} {c n : Nat} {xs : List Value} {sz : Nat} (h : w.ownsRow base e sz (.slice A n c) n xs) (hn : 0 < n) : ∃ g, A = some ⟨g, 0, none⟩ := by
 obtain ⟨h1, h2⟩ := own_cap h
 rcases h2 with ⟨_, h3⟩ | h3
 · omega
 · exact h3
theorem four_of {L : List Int} (h : L.length = 4) : ∃ a b c d, L = [a, b, c, d] := by
 rcases L with _ | ⟨a, _ | ⟨b, _ | ⟨c, _ | ⟨d, _ | ⟨e, t⟩⟩⟩⟩⟩
 all_goals simp at h
 exact ⟨a, b, c, d, rfl⟩
theorem lit_cells3 (w : World) (t : TypeId) (x y z : Int) : ∀ i (hi : i < ([x, y, z] : List Int).length), (w.alloc (.cells #[.int .i64 x, .int .i64 y, .int .i64 z] t)).cell? ⟨w.heap.size, i, none⟩ = some (.int .i64 (([x, y, z] : List Int)[i]'hi)) := by
 intro i hi
 rw [cell_of_row _ _ i _ t (0, 0) (heap_alloc_new w (.cells #[.int .i64 x, .int .i64 y, .int .i64 z] t))]
 rcases i with _ | _ | _ | i
 · simp
 · simp
 · simp
 · simp only [List.length] at hi
   omega

set_option maxRecDepth 100000 in
set_option maxHeartbeats 8000000 in
theorem l20AnyGame {w : World} {R : Nat} {A : Option Addr} {n c : Nat} {p : Int} (h : Reader w R A n c p) (hp : p ≤ 70000) :
 Calls Try.prog 31 #[.pointer (some ⟨R, 0, none⟩)] w fun e w' => ∃ (A' : Option Addr) (a : Nat) (B : Option Addr) (b : Nat) (C : Option Addr) (d : Nat) (E : List Fig) (F L : List Int), e = .returned (gameV A' E.length a B F.length b C L.length d) ∧ GmT w' w.heap.size A' a B b C d E F L ∧ (E.length ≤ 4 ∧ F.length = 16 ∧ L.length ≤ 4) ∧ Drawn w R A n c p 290 w' := by
 have hOld := Lib.hid h.old
 have hRlt := h.lt
 have hlo := h.lo
 have RD := Lib.hid (h.below ((Below.refl w.heap.size w).alloc (Nat.le_refl _) (.cells #[.slice none 0 0, .slice none 0 0, .slice none 0 0] 30)))
 have GR := Lib.hid (World.grownBy_alloc w (.cells #[.slice none 0 0, .slice none 0 0, .slice none 0 0] 30) (some R))
 have T2 := Lib.hid (Three.new (u0 := .slice none 0 0) (u1 := .slice none 0 0) (u2 := .slice none 0 0) (t := 30) w)
 clear h
 go_enter Try.func31, Try.ntmps31
 go_wp2_with (fail)
 refine (l20Game RD.out (by omega)).mono ?_
 rintro e wa ⟨A1, a1, B1, b1, C1, c1, E, F, L, rfl, og, hln, q1, q10, q11, hr, hgr⟩
 have og : OwG wa (w.heap.size + 1) A1 a1 B1 b1 C1 c1 E F L := by simpa using og
 have LN := Lib.hid hln
 have RD := Lib.hid hr
 have GR := Lib.hid (grownBy_trans GR.out hgr)
 have T2 := Lib.hid (T2.out.grown hgr (by simp; omega))
 have hl := T2.out.lt
 have BD := Lib.hid (Bd.new og (by omega))
 have hba : Below wa.heap.size wa (wa.alloc (.cells #[.slice A1 E.length a1, .slice B1 F.length b1, .slice C1 L.length c1] 30)) := (Below.refl _ _).alloc (Nat.le_refl _) _
 have RD := Lib.hid (RD.out.below hba)
 have GR := Lib.hid (grownBy_trans GR.out (Below.grownBy hba (some R)))
 have T2 := Lib.hid (Three.below T2.out hba T2.out.lt)
 clear hr hgr hln og hba
 unfold gameV
 go_upto_region 2 with (fail)
 have hp3l : w.heap.size + 1 ≤ wa.heap.size := by omega
 obtain ⟨p3, hp3⟩ : ∃ X, X = wa.heap.size := ⟨_, rfl⟩
 obtain ⟨wE, hwE⟩ : ∃ X, X = wa.alloc (.cells #[.slice A1 E.length a1, .slice B1 F.length b1, .slice C1 L.length c1] 30) := ⟨_, rfl⟩
 rw [← hwE] at RD GR T2 BD ⊢
 rw [← hp3] at BD hl hp3l ⊢
 clear hwE hp3
 go_wp2_with (fail)
 refine (pickR 14 RD.out (by omega) (by omega) (by omega)).mono ?_
 rintro e wd ⟨d, d0, d1, rfl, q2, q20, q21, hr, hgr⟩
 have RD := Lib.hid hr
 have GR := Lib.hid (grownBy_trans GR.out hgr)
 have T2 := Lib.hid (T2.out.grown hgr (by simp; omega))
 have BD := Lib.hid (BD.out.rdr hgr (by omega))
 clear hr hgr
 have lwd : w.heap.size < wd.heap.size := T2.out.lt
 by_cases h0 : d = 0
 · subst h0
   obtain ⟨gB, rfl⟩ := own_full BD.out.f (by have := LN.out.2.1; omega)
   obtain ⟨p0, p1, p2⟩ := BD.out.at_.cells
   have lp := BD.out.at_.lt
   go_wp2_with (fail)
   refine wp_region_held_drew (S := fun WS => WS.cell? ⟨p3, 1, none⟩ = some (.slice (some ⟨gB, 0, none⟩) F.length b1)) (by kernel_rfl) p1 (fun hS0 => ?_)
   refine tkI 0 10 (v := ?_) rfl rfl ?_ ?_
   rotate_left
   · intro wS hSw; go_simp; (try with_reducible rfl)
   (try simp only [Act.put, pu1, pu2, pu3])
   refine tkI 1 11 (v := ?_) rfl rfl ?_ ?_
   rotate_left
   · intro wS hSw; have hcS : wS.cell? ⟨p3, 1, none⟩ = some (.slice (some ⟨gB, 0, none⟩) F.length b1) := hSw; go_simp; (try with_reducible rfl)
   (try simp only [Act.put, pu1, pu2, pu3])
   refine tkI 2 12 (v := ?_) rfl rfl ?_ ?_
   rotate_left
   · intro wS hSw; go_simp; (try with_reducible rfl)
   (try simp only [Act.put, pu1, pu2, pu3])
   refine tkI 4 14 (v := ?_) rfl rfl ?_ ?_
   rotate_left
   · intro wS hSw; go_simp; (try with_reducible rfl)
   (try simp only [Act.put, pu1, pu2, pu3])
   clear p0 p1 p2 lp hS0
   refine wpAnyH_ready (rs := [3, 5]) (by kernel_rfl) (by simp) ?_
   refine AllReadyH.cons rfl (fun KK hK => ?_) (AllReadyH.cons rfl (fun KK hK => ?_) AllReadyH.nil)
   · clear lwd
     have hba : Below wd.heap.size wd wd.drew := (Below.refl _ _).drew
     have RD := Lib.hid (RD.out.below hba)
     have GR := Lib.hid (grownBy_trans GR.out (Below.grownBy hba (some R)))
     have T2 := Lib.hid (Three.below T2.out hba T2.out.lt)
     have BD := Lib.hid (BD.out.below hba)
     clear hba
     go_simp
     refine (pickR 16 RD.out (by omega) (by omega) (by omega)).mono ?_
     rintro e wf ⟨vj, v0, v1, rfl, qf, qf0, qf1, hr, hgr⟩
     have RD := Lib.hid hr
     have GR := Lib.hid (grownBy_trans GR.out hgr)
     have T2 := Lib.hid (T2.out.grown hgr (by simp; omega))
     have BD := Lib.hid (BD.out.rdr hgr (by omega))
     clear hr hgr
     obtain ⟨j, rfl⟩ := Int.eq_ofNat_of_zero_le v0
     have hj : j < 16 := by omega
     refine hK.out _ _ BD.out.at_.cells.2.1 (fun _ => ?_)
     clear hK KK
     (try simp only [Act.put, pu1, pu2, pu3])
     refine wpAnyH_ready (rs := [5]) (by kernel_rfl) (by simp) ?_
     refine AllReadyH.cons rfl (fun KK hK => ?_) AllReadyH.nil
     go_simp
     have lwf : w.heap.size < wf.heap.size := T2.out.lt
     have hba : Below wf.heap.size wf (wf.alloc (.cells #[.int .i64 (-1), .int .i64 3, .int .i64 20] 3)) := (Below.refl _ _).alloc (Nat.le_refl _) _
     have RD := Lib.hid (RD.out.below hba)
     have GR := Lib.hid (grownBy_trans GR.out (Below.grownBy hba (some R)))
     have T2 := Lib.hid (Three.below T2.out hba T2.out.lt)
     have BD := Lib.hid (BD.out.below hba)
     clear hba
     refine hK.out _ _ BD.out.at_.cells.2.1 (fun _ => ?_)
     clear hK KK
     (try simp only [Act.put, pu1, pu2, pu3])
     refine wpAnyH_ready (rs := [6]) (by kernel_rfl) (by simp) ?_
     refine AllReadyH.cons rfl (fun KK hK => ?_) AllReadyH.nil
     go_simp
     refine (oneR wf.heap.size [-1, 3, 20] RD.out (by omega) (by simp) (by simp) (by omega) (lit_cells3 wf _ _ _ _)).mono ?_
     rintro e wq ⟨x, rfl, qe, qe0, qe1, hr, hgr⟩
     have RD := Lib.hid hr
     have GR := Lib.hid (grownBy_trans GR.out hgr)
     have T2 := Lib.hid (T2.out.grown hgr (by simp; omega))
     have BD := Lib.hid (BD.out.rdr hgr (by omega))
     clear hr hgr
     refine hK.out _ _ BD.out.at_.cells.2.1 (fun _ => ?_)
     clear hK KK
     (try simp only [Act.put, pu1, pu2, pu3])
     have i0 : (0 : Int) ≤ (j : Int) := by omega
     have i1 : (j : Int) < (F.length : Int) := by have := LN.out.2.1; omega
     refine tkI 7 17 (v := ?_) rfl rfl ?_ ?_
     rotate_left
     · intro wS hSw; go_simp; (try with_reducible rfl)
     (try simp only [Act.put, pu1, pu2, pu3])
     have hc0 : ∃ u, wq.cell? ⟨gB, j, none⟩ = some u := by
      obtain ⟨g', hg', hc'⟩ := RdI.of_own BD.out.f j (by have := LN.out.2.1; omega)
      cases hg'
      exact ⟨_, hc'⟩
     obtain ⟨u0, hc0⟩ := hc0
     have hfz := BD.out.f.frozenAt j
     refine wpAnyH_ready (rs := [8]) (by kernel_rfl) (by simp) ?_
     refine AllReadyH.cons rfl (fun KK hK => ?_) AllReadyH.nil
     go_simp
     have BE := Lib.hid (BD.out.setF j (by have := LN.out.2.1; omega) x)
     refine hK.out _ _ (by have h := BE.out.at_.cells.2.1; simpa only [List.length_set] using h) (fun _ => ?_)
     clear hK KK
     (try simp only [Act.put, pu1, pu2, pu3])
     refine wpAnyH_done (by kernel_rfl) ?_ _
     have RD := Lib.hid (RD.out.set (w.heap.size + 1) gB j (.int .i64 x) (fun b off hA hn => Nat.lt_succ_of_lt (hOld.out b off hA hn)) (by omega) (own_block_ge BD.out.f gB rfl).1)
     have GR := Lib.hid (grown_new GR.out (grownBy_set wq gB j (.int .i64 x)) (Nat.le_trans (Nat.le_succ _) (own_block_ge BD.out.f gB rfl).1))
     have T2 := Lib.hid (T2.out.far (show w.heap.size ≠ gB by have := (own_block_ge BD.out.f gB rfl).1; omega) (j := j) (.int .i64 x))
     have BD := BE
     clear BE hc0 hfz
     have OG := Lib.hid ((((BD.out.own.put (q := w.heap.size) (by omega) 0 (.slice A1 E.length a1)).put (q := w.heap.size) (by omega) 1 (.slice (some ⟨gB, 0, none⟩) F.length b1)).put (q := w.heap.size) (by omega) 2 (.slice C1 L.length c1)).base (show w.heap.size ≤ w.heap.size + 1 by omega))
     have DR := Lib.hid (back3 (w := w) (K := 290) (.slice A1 E.length a1) (.slice (some ⟨gB, 0, none⟩) F.length b1) (.slice C1 L.length c1) (p := p) (q := qe) (by omega) (by omega) RD.out GR.out hOld.out hRlt)
     obtain ⟨z0, z1, z2⟩ := T2.out.cells
     have zf := T2.out.frozen
     have hcc := BD.out.at_.cells
     simp only [List.length_set] at hcc
     obtain ⟨p0, p1, p2⟩ := hcc
     have lp := BD.out.at_.lt
     clear BD RD GR T2
     go_wp2
     refine bodyPost_ret (v := .agg #[.slice A1 E.length a1, .slice (some ⟨gB, 0, none⟩) F.length b1, .slice C1 L.length c1]) (by simp [results, Try.results31, go_sem, z0, z1, z2]) rfl ⟨A1, a1, (some ⟨gB, 0, none⟩), b1, C1, c1, E, (F.set j x), L, by simp only [List.length_set], ⟨_, _, _, OG.out, .inl ⟨rfl, rfl, rfl⟩⟩, ⟨LN.out.1, by simpa using LN.out.2.1, by rw [LN.out.2.2]; omega⟩, DR.out⟩
   · go_simp
     have hba : Below wd.heap.size wd (wd.alloc (.cells #[.int .i64 (-1), .int .i64 3, .int .i64 20] 3)).drew := ((Below.refl wd.heap.size wd).alloc (Nat.le_refl _) (.cells #[.int .i64 (-1), .int .i64 3, .int .i64 20] 3)).drew
     have RD := Lib.hid (RD.out.below hba)
     have GR := Lib.hid (grownBy_trans GR.out (Below.grownBy hba (some R)))
     have T2 := Lib.hid (Three.below T2.out hba T2.out.lt)
     have BD := Lib.hid (BD.out.below hba)
     clear hba
     have HC := Lib.hid (lit_cells3 wd 3 (-1) 3 20)
     have HC : Hid (∀ i (hi : i < ([-1, 3, 20] : List Int).length), (wd.alloc (.cells #[.int .i64 (-1), .int .i64 3, .int .i64 20] 3)).drew.cell? ⟨wd.heap.size, i, none⟩ = some (.int .i64 (([-1, 3, 20] : List Int)[i]'hi))) := HC.out
     refine hK.out _ _ BD.out.at_.cells.2.1 (fun _ => ?_)
     clear hK KK
     (try simp only [Act.put, pu1, pu2, pu3])
     refine wpAnyH_ready (rs := [3]) (by kernel_rfl) (by simp) ?_
     refine AllReadyH.cons rfl (fun KK hK => ?_) AllReadyH.nil
     go_simp
     refine (pickR 16 RD.out (by omega) (by omega) (by omega)).mono ?_
     rintro e wf ⟨vj, v0, v1, rfl, qf, qf0, qf1, hr, hgr⟩
     have RD := Lib.hid hr
     have GR := Lib.hid (grownBy_trans GR.out hgr)
     have T2 := Lib.hid (T2.out.grown hgr (by simp; omega))
     have BD := Lib.hid (BD.out.rdr hgr (by omega))
     have hgC := hgr
     clear hr hgr
     obtain ⟨j, rfl⟩ := Int.eq_ofNat_of_zero_le v0
     have hj : j < 16 := by omega
     refine hK.out _ _ BD.out.at_.cells.2.1 (fun _ => ?_)
     clear hK KK
     (try simp only [Act.put, pu1, pu2, pu3])
     have HC := Lib.hid (fun i hi => hgC.cell (HC.out i hi) (by simp; omega))
     refine wpAnyH_ready (rs := [6]) (by kernel_rfl) (by simp) ?_
     refine AllReadyH.cons rfl (fun KK hK => ?_) AllReadyH.nil
     go_simp
     refine (oneR wd.heap.size [-1, 3, 20] RD.out (by omega) (by simp) (by simp) (by omega) HC.out).mono ?_
     rintro e wq ⟨x, rfl, qe, qe0, qe1, hr, hgr⟩
     have RD := Lib.hid hr
     have GR := Lib.hid (grownBy_trans GR.out hgr)
     have T2 := Lib.hid (T2.out.grown hgr (by simp; omega))
     have BD := Lib.hid (BD.out.rdr hgr (by omega))
     clear hr hgr
     refine hK.out _ _ BD.out.at_.cells.2.1 (fun _ => ?_)
     clear hK KK
     (try simp only [Act.put, pu1, pu2, pu3])
     have i0 : (0 : Int) ≤ (j : Int) := by omega
     have i1 : (j : Int) < (F.length : Int) := by have := LN.out.2.1; omega
     refine tkI 7 17 (v := ?_) rfl rfl ?_ ?_
     rotate_left
     · intro wS hSw; go_simp; (try with_reducible rfl)
     (try simp only [Act.put, pu1, pu2, pu3])
     have hc0 : ∃ u, wq.cell? ⟨gB, j, none⟩ = some u := by
      obtain ⟨g', hg', hc'⟩ := RdI.of_own BD.out.f j (by have := LN.out.2.1; omega)
      cases hg'
      exact ⟨_, hc'⟩
     obtain ⟨u0, hc0⟩ := hc0
     have hfz := BD.out.f.frozenAt j
     refine wpAnyH_ready (rs := [8]) (by kernel_rfl) (by simp) ?_
     refine AllReadyH.cons rfl (fun KK hK => ?_) AllReadyH.nil
     go_simp
     have BE := Lib.hid (BD.out.setF j (by have := LN.out.2.1; omega) x)
     refine hK.out _ _ (by have h := BE.out.at_.cells.2.1; simpa only [List.length_set] using h) (fun _ => ?_)
     clear hK KK
     (try simp only [Act.put, pu1, pu2, pu3])
     refine wpAnyH_done (by kernel_rfl) ?_ _
     have RD := Lib.hid (RD.out.set (w.heap.size + 1) gB j (.int .i64 x) (fun b off hA hn => Nat.lt_succ_of_lt (hOld.out b off hA hn)) (by omega) (own_block_ge BD.out.f gB rfl).1)
     have GR := Lib.hid (grown_new GR.out (grownBy_set wq gB j (.int .i64 x)) (Nat.le_trans (Nat.le_succ _) (own_block_ge BD.out.f gB rfl).1))
     have T2 := Lib.hid (T2.out.far (show w.heap.size ≠ gB by have := (own_block_ge BD.out.f gB rfl).1; omega) (j := j) (.int .i64 x))
     have BD := BE
     clear BE hc0 hfz
     have OG := Lib.hid ((((BD.out.own.put (q := w.heap.size) (by omega) 0 (.slice A1 E.length a1)).put (q := w.heap.size) (by omega) 1 (.slice (some ⟨gB, 0, none⟩) F.length b1)).put (q := w.heap.size) (by omega) 2 (.slice C1 L.length c1)).base (show w.heap.size ≤ w.heap.size + 1 by omega))
     have DR := Lib.hid (back3 (w := w) (K := 290) (.slice A1 E.length a1) (.slice (some ⟨gB, 0, none⟩) F.length b1) (.slice C1 L.length c1) (p := p) (q := qe) (by omega) (by omega) RD.out GR.out hOld.out hRlt)
     obtain ⟨z0, z1, z2⟩ := T2.out.cells
     have zf := T2.out.frozen
     have hcc := BD.out.at_.cells
     simp only [List.length_set] at hcc
     obtain ⟨p0, p1, p2⟩ := hcc
     have lp := BD.out.at_.lt
     clear BD RD GR T2
     go_wp2
     refine bodyPost_ret (v := .agg #[.slice A1 E.length a1, .slice (some ⟨gB, 0, none⟩) F.length b1, .slice C1 L.length c1]) (by simp [results, Try.results31, go_sem, z0, z1, z2]) rfl ⟨A1, a1, (some ⟨gB, 0, none⟩), b1, C1, c1, E, (F.set j x), L, by simp only [List.length_set], ⟨_, _, _, OG.out, .inl ⟨rfl, rfl, rfl⟩⟩, ⟨LN.out.1, by simpa using LN.out.2.1, by rw [LN.out.2.2]; omega⟩, DR.out⟩
 by_cases h1 : d = 1
 · subst h1
   obtain ⟨gC, rfl⟩ := own_full BD.out.l (by have := LN.out.2.2; omega)
   obtain ⟨l0, l1, l2, l3, rfl⟩ := four_of LN.out.2.2
   obtain ⟨p0, p1, p2⟩ := BD.out.at_.cells
   have pf := BD.out.at_.frozen
   have lp := BD.out.at_.lt
   have hc4 : 4 ≤ c1 := by have := (own_cap BD.out.l).1; simpa using this
   go_upto_region 10 with (fail)
   have BE := Lib.hid (BD.out.at_.set2 (.slice (some ⟨gC, 1, none⟩) 3 (c1 - 1)))
   have OE := Lib.hid (BD.out.own1 (.slice (some ⟨gC, 1, none⟩) 3 (c1 - 1)))
   have RD := Lib.hid (RD.out.set w.heap.size p3 2 (.slice (some ⟨gC, 1, none⟩) 3 (c1 - 1)) hOld.out hRlt (by omega))
   have GR := Lib.hid (grown_new GR.out (grownBy_set wd p3 2 (.slice (some ⟨gC, 1, none⟩) 3 (c1 - 1))) (by omega))
   have T2 := Lib.hid (T2.out.far (show w.heap.size ≠ p3 by omega) (j := 2) (.slice (some ⟨gC, 1, none⟩) 3 (c1 - 1)))
   clear p0 p1 p2 pf lp BD
   have OG := Lib.hid ((((OE.out.put (q := w.heap.size) (by omega) 0 (.slice A1 E.length a1)).put (q := w.heap.size) (by omega) 1 (.slice B1 F.length b1)).put (q := w.heap.size) (by omega) 2 (.slice (some ⟨gC, 1, none⟩) 3 (c1 - 1))).base (show w.heap.size ≤ w.heap.size + 1 by omega))
   have DR := Lib.hid (back3 (w := w) (K := 290) (.slice A1 E.length a1) (.slice B1 F.length b1) (.slice (some ⟨gC, 1, none⟩) 3 (c1 - 1)) (p := p) (q := q2) (by omega) (by omega) RD.out GR.out hOld.out hRlt)
   obtain ⟨z0, z1, z2⟩ := T2.out.cells
   have zf := T2.out.frozen
   obtain ⟨p0, p1, p2⟩ := BE.out.cells
   have lp := BE.out.lt
   clear BE RD GR T2 OE
   go_wp2
   refine bodyPost_ret (v := .agg #[.slice A1 E.length a1, .slice B1 F.length b1, .slice (some ⟨gC, 1, none⟩) 3 (c1 - 1)]) (by simp [results, Try.results31, go_sem, z0, z1, z2]) rfl ⟨A1, a1, B1, b1, some ⟨gC, 1, none⟩, c1 - 1, E, F, [l1, l2, l3], rfl, ⟨_, _, _, OG.out, .inr ⟨rfl, rfl, gC, rfl, rfl⟩⟩, ⟨LN.out.1, LN.out.2.1, by simp⟩, DR.out⟩
 by_cases h2 : d = 2
 · subst h2
   rcases E with _ | ⟨f, E⟩
   · obtain ⟨qe, hqe⟩ : ∃ q, q = q2 := ⟨_, rfl⟩
     rw [← hqe] at RD q20 q21
     clear hqe
     have OG := Lib.hid ((((BD.out.own.put (q := w.heap.size) (by omega) 0 (.slice A1 0 a1)).put (q := w.heap.size) (by omega) 1 (.slice B1 F.length b1)).put (q := w.heap.size) (by omega) 2 (.slice C1 L.length c1)).base (show w.heap.size ≤ w.heap.size + 1 by omega))
     have DR := Lib.hid (back3 (w := w) (K := 290) (.slice A1 0 a1) (.slice B1 F.length b1) (.slice C1 L.length c1) (p := p) (q := qe) (by omega) (by omega) RD.out GR.out hOld.out hRlt)
     obtain ⟨z0, z1, z2⟩ := T2.out.cells
     have zf := T2.out.frozen
     have hcc := BD.out.at_.cells
     skip
     obtain ⟨p0, p1, p2⟩ := hcc
     have lp := BD.out.at_.lt
     clear BD RD GR T2
     go_wp2
     refine bodyPost_ret (v := .agg #[.slice A1 0 a1, .slice B1 F.length b1, .slice C1 L.length c1]) (by simp [results, Try.results31, go_sem, z0, z1, z2]) rfl ⟨A1, a1, B1, b1, C1, c1, [], F, L, rfl, ⟨_, _, _, OG.out, .inl ⟨rfl, rfl, rfl⟩⟩, ⟨LN.out.1, LN.out.2.1, by rw [LN.out.2.2]; omega⟩, DR.out⟩
   · obtain ⟨gA, rfl⟩ := own_full BD.out.e (by simp)
     obtain ⟨n1, hn1⟩ : ∃ n1, n1 = (f :: E).length := ⟨_, rfl⟩
     have HN := Lib.hid hn1
     have e5 : decide ((0 : Int) < (n1 : Int)) = true := by simp [hn1]
     have i1 : (0 : Int) < (n1 : Int) := by simp [hn1]
     have hcc := BD.out.at_.cells
     rw [← hn1] at hcc
     obtain ⟨p0, p1, p2⟩ := hcc
     have lp := BD.out.at_.lt
     have hat := p0
     clear hn1
     go_wp2_with (fail)
     refine wp_region_held_drew (S := fun WS => WS.cell? ⟨p3, 0, none⟩ = some (.slice (some ⟨gA, 0, none⟩) n1 a1)) (by kernel_rfl) p0 (fun hS0 => ?_)
     refine tkI 0 30 (v := ?_) rfl rfl ?_ ?_
     rotate_left
     · intro wS hSw; go_simp; (try with_reducible rfl)
     (try simp only [Act.put, pu1, pu2, pu3])
     refine tkI 1 31 (v := ?_) rfl rfl ?_ ?_
     rotate_left
     · intro wS hSw; have hcS : wS.cell? ⟨p3, 0, none⟩ = some (.slice (some ⟨gA, 0, none⟩) n1 a1) := hSw; go_simp; (try with_reducible rfl)
     (try simp only [Act.put, pu1, pu2, pu3])
     refine tkI 2 32 (v := ?_) rfl rfl ?_ ?_
     rotate_left
     · intro wS hSw; go_simp; (try with_reducible rfl)
     (try simp only [Act.put, pu1, pu2, pu3])
     refine wpAnyH_ready (rs := [3]) (by kernel_rfl) (by simp) ?_
     refine AllReadyH.cons rfl (fun KK hK => ?_) AllReadyH.nil
     clear p0 p1 p2 lp hS0 hat
     go_simp
     have hba : Below wd.heap.size wd (wd.alloc (.cells #[.int .i64 (-1), .int .i64 4, .int .i64 0] 3)).drew := ((Below.refl wd.heap.size wd).alloc (Nat.le_refl _) (.cells #[.int .i64 (-1), .int .i64 4, .int .i64 0] 3)).drew
     have RD := Lib.hid (RD.out.below hba)
     have GR := Lib.hid (grownBy_trans GR.out (Below.grownBy hba (some R)))
     have T2 := Lib.hid (Three.below T2.out hba T2.out.lt)
     have BD := Lib.hid (BD.out.below hba)
     clear hba
     have HC := Lib.hid (lit_cells3 wd 3 (-1) 4 0)
     have HC : Hid (∀ i (hi : i < ([-1, 4, 0] : List Int).length), (wd.alloc (.cells #[.int .i64 (-1), .int .i64 4, .int .i64 0] 3)).drew.cell? ⟨wd.heap.size, i, none⟩ = some (.int .i64 (([-1, 4, 0] : List Int)[i]'hi))) := HC.out
     refine hK.out _ _ (by have h := BD.out.at_.cells.1; rw [← HN.out] at h; exact h) (fun _ => ?_)
     clear hK KK
     (try simp only [Act.put, pu1, pu2, pu3])
     refine wpAnyH_ready (rs := [4]) (by kernel_rfl) (by simp) ?_
     refine AllReadyH.cons rfl (fun KK hK => ?_) AllReadyH.nil
     go_simp
     refine (oneR wd.heap.size [-1, 4, 0] RD.out (by omega) (by simp) (by simp) (by omega) HC.out).mono ?_
     rintro e wq ⟨x, rfl, qe, qe0, qe1, hr, hgr⟩
     have RD := Lib.hid hr
     have GR := Lib.hid (grownBy_trans GR.out hgr)
     have T2 := Lib.hid (T2.out.grown hgr (by simp; omega))
     have BD := Lib.hid (BD.out.rdr hgr (by omega))
     clear hr hgr
     refine hK.out _ _ (by have h := BD.out.at_.cells.1; rw [← HN.out] at h; exact h) (fun _ => ?_)
     clear hK KK
     (try simp only [Act.put, pu1, pu2, pu3])
     refine tkI 5 35 (v := ?_) rfl rfl ?_ ?_
     rotate_left
     · intro wS hSw; go_simp; (try with_reducible rfl)
     (try simp only [Act.put, pu1, pu2, pu3])
     refine tkI 6 36 (v := ?_) rfl rfl ?_ ?_
     rotate_left
     · intro wS hSw; go_simp; (try with_reducible rfl)
     (try simp only [Act.put, pu1, pu2, pu3])
     obtain ⟨g', hg', a0, a1', a2, a3, a4⟩ := RdF.of_own BD.out.e 0 (by simp)
     cases hg'
     simp only [List.getElem_cons_zero, Nat.zero_mul, Nat.zero_add] at a1'
     have hfz := BD.out.e.frozenAt 1
     refine wpAnyH_ready (rs := [7]) (by kernel_rfl) (by simp) ?_
     refine AllReadyH.cons rfl (fun KK hK => ?_) AllReadyH.nil
     go_simp
     have BE := Lib.hid (BD.out.setE 0 1 (by simp) (by decide) (.int .i64 x) ⟨f.c, x, f.y, f.l, f.g⟩ (by simp [Fig.cells]))
     have BE : Hid (Bd (wq.setCell ⟨gA, 1, none⟩ (.int .i64 x)) p3 (w.heap.size + 1) (some ⟨gA, 0, none⟩) a1 B1 b1 C1 c1 (⟨f.c, x, f.y, f.l, f.g⟩ :: E) F L) := by show Bd _ _ _ _ _ _ _ _ _ _ _ _; have h := BE.out; simpa only [Nat.zero_mul, Nat.zero_add, List.set_cons_zero] using h
     refine hK.out _ _ (by have h := BE.out.at_.cells.1; rw [show ((⟨f.c, x, f.y, f.l, f.g⟩ : Fig) :: E).length = n1 from by rw [HN.out]; rfl] at h; exact h) (fun _ => ?_)
     clear hK KK
     (try simp only [Act.put, pu1, pu2, pu3])
     refine wpAnyH_done (by kernel_rfl) ?_ _
     have RD := Lib.hid (RD.out.set (w.heap.size + 1) gA 1 (.int .i64 x) (fun b off hA hn => Nat.lt_succ_of_lt (hOld.out b off hA hn)) (by omega) (own_block_ge BD.out.e gA rfl).1)
     have GR := Lib.hid (grown_new GR.out (grownBy_set wq gA 1 (.int .i64 x)) (Nat.le_trans (Nat.le_succ _) (own_block_ge BD.out.e gA rfl).1))
     have T2 := Lib.hid (T2.out.far (show w.heap.size ≠ gA by have := (own_block_ge BD.out.e gA rfl).1; omega) (j := 1) (.int .i64 x))
     have BD := BE
     have LN := Lib.hid (show ((⟨f.c, x, f.y, f.l, f.g⟩ : Fig) :: E).length ≤ 4 ∧ F.length = 16 ∧ L.length = 4 from LN.out)
     have HN := Lib.hid (show ((⟨f.c, x, f.y, f.l, f.g⟩ : Fig) :: E).length = n1 by rw [HN.out]; rfl)
     clear BE hfz a0 a1' a2 a3 a4 HC
     obtain ⟨E9, hE9⟩ : ∃ E9, E9 = (⟨f.c, x, f.y, f.l, f.g⟩ : Fig) :: E := ⟨_, rfl⟩
     rw [← hE9] at BD LN HN
     clear hE9
     have OG := Lib.hid ((((BD.out.own.put (q := w.heap.size) (by omega) 0 (.slice (some ⟨gA, 0, none⟩) n1 a1)).put (q := w.heap.size) (by omega) 1 (.slice B1 F.length b1)).put (q := w.heap.size) (by omega) 2 (.slice C1 L.length c1)).base (show w.heap.size ≤ w.heap.size + 1 by omega))
     have DR := Lib.hid (back3 (w := w) (K := 290) (.slice (some ⟨gA, 0, none⟩) n1 a1) (.slice B1 F.length b1) (.slice C1 L.length c1) (p := p) (q := qe) (by omega) (by omega) RD.out GR.out hOld.out hRlt)
     obtain ⟨z0, z1, z2⟩ := T2.out.cells
     have zf := T2.out.frozen
     have hcc := BD.out.at_.cells
     skip
     rw [HN.out] at hcc
     obtain ⟨p0, p1, p2⟩ := hcc
     have lp := BD.out.at_.lt
     clear BD RD GR T2
     go_wp2
     refine bodyPost_ret (v := .agg #[.slice (some ⟨gA, 0, none⟩) n1 a1, .slice B1 F.length b1, .slice C1 L.length c1]) (by simp [results, Try.results31, go_sem, z0, z1, z2]) rfl ⟨(some ⟨gA, 0, none⟩), a1, B1, b1, C1, c1, E9, F, L, (by rw [HN.out]), ⟨_, _, _, OG.out, .inl ⟨rfl, rfl, rfl⟩⟩, ⟨LN.out.1, LN.out.2.1, by rw [LN.out.2.2]; omega⟩, DR.out⟩
 · obtain ⟨qe, hqe⟩ : ∃ q, q = q2 := ⟨_, rfl⟩
   rw [← hqe] at RD q20 q21
   clear hqe
   have OG := Lib.hid ((((BD.out.own.put (q := w.heap.size) (by omega) 0 (.slice A1 E.length a1)).put (q := w.heap.size) (by omega) 1 (.slice B1 F.length b1)).put (q := w.heap.size) (by omega) 2 (.slice C1 L.length c1)).base (show w.heap.size ≤ w.heap.size + 1 by omega))
   have DR := Lib.hid (back3 (w := w) (K := 290) (.slice A1 E.length a1) (.slice B1 F.length b1) (.slice C1 L.length c1) (p := p) (q := qe) (by omega) (by omega) RD.out GR.out hOld.out hRlt)
   obtain ⟨z0, z1, z2⟩ := T2.out.cells
   have zf := T2.out.frozen
   have hcc := BD.out.at_.cells
   skip
   obtain ⟨p0, p1, p2⟩ := hcc
   have lp := BD.out.at_.lt
   clear BD RD GR T2
   go_wp2
   refine bodyPost_ret (v := .agg #[.slice A1 E.length a1, .slice B1 F.length b1, .slice C1 L.length c1]) (by simp [results, Try.results31, go_sem, z0, z1, z2]) rfl ⟨A1, a1, B1, b1, C1, c1, E, F, L, rfl, ⟨_, _, _, OG.out, .inl ⟨rfl, rfl, rfl⟩⟩, ⟨LN.out.1, LN.out.2.1, by rw [LN.out.2.2]; omega⟩, DR.out⟩

end Go.Proofs.Ytkganikclbeplaa
