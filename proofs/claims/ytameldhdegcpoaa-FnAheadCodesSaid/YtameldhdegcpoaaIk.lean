import Derived.Test.YtameldhdegcpoaaHb
import Derived.Test.YtameldhdegcpoaaIc
import Derived.Test.YtameldhdegcpoaaMQ
import Derived.Test.YtameldhdegcpoaaMR
import Derived.Test.YtameldhdegcpoaaIj
namespace Go.Proofs.Ytameldhdegcpoaa
open Go.ChangeShapes Go.WideShapes Go.ChangeAt Go.RowKit
set_option linter.unusedVariables false
set_option linter.unusedSimpArgs false
structure GmX (v : Value) (w : World) (A : Option Addr) (a : Nat) (B : Option Addr) (b : Nat) (C : Option Addr) (d : Nat) (E : List Fig) (F L : List Int) : Prop where
 g : GmR w A a B b C d E F L
 q : ∀ x, v.ownBlock = some x → x < w.heap.size
 nA : ∀ x, v.ownBlock = some x → A ≠ some ⟨x, 0, none⟩
 nB : ∀ x, v.ownBlock = some x → B ≠ some ⟨x, 0, none⟩
 nC : ∀ x, v.ownBlock = some x → C ≠ some ⟨x, 0, none⟩
theorem GmX.below {v : Value} {w w' : World} {A : Option Addr} {a : Nat} {B : Option Addr} {b : Nat} {C : Option Addr} {d : Nat} {E : List Fig} {F L : List Int} (h : GmX v w A a B b C d E F L) (hb : Below w.heap.size w w') : GmX v w' A a B b C d E F L := ⟨h.g.below hb, fun x hx => Nat.lt_of_lt_of_le (h.q x hx) hb.size, h.nA, h.nB, h.nC⟩
theorem GmX.box {v : Value} {w : World} {A : Option Addr} {a : Nat} {B : Option Addr} {b : Nat} {C : Option Addr} {d : Nat} {E : List Fig} {F L : List Int} (h : GmX v w A a B b C d E F L) {p : Nat} {A0 : Option Addr} {n0 c0 : Nat} (hp : w.cell? ⟨p, 0, none⟩ = some (.slice A0 n0 c0)) (o : Nat) (u : Value) : GmX v (w.setCell ⟨p, o, none⟩ u) A a B b C d E F L := ⟨h.g.box hp o u, fun x hx => by simpa using h.q x hx, h.nA, h.nB, h.nC⟩
theorem GmR.kept {w w' : World} {A : Option Addr} {a : Nat} {B : Option Addr} {b : Nat} {C : Option Addr} {d : Nat} {E : List Fig} {F L : List Int} (h : GmR w A a B b C d E F L) {row : Option Nat} (hg : w.grownBy w' row) (hA : ∀ x, row = some x → A ≠ some ⟨x, 0, none⟩) (hB : ∀ x, row = some x → B ≠ some ⟨x, 0, none⟩) (hC : ∀ x, row = some x → C ≠ some ⟨x, 0, none⟩) : GmR w' A a B b C d E F L := by
 refine ⟨fun i hi => ?_, fun i hi => ?_, fun i hi => ?_, h.cA, h.cB, h.cC, h.nA, h.nB, h.nC, fun x hx => Nat.lt_of_lt_of_le (h.lA x hx) hg.size, fun x hx => Nat.lt_of_lt_of_le (h.lB x hx) hg.size, fun x hx => Nat.lt_of_lt_of_le (h.lC x hx) hg.size⟩
 · obtain ⟨g, e, a0, a1, a2, a3, a4⟩ := h.rE i hi
   have hn : some g ≠ row := fun e' => hA g e'.symm e
   exact ⟨g, e, hg.cell a0 hn, hg.cell a1 hn, hg.cell a2 hn, hg.cell a3 hn, hg.cell a4 hn⟩
 · obtain ⟨g, e, a0⟩ := h.rF i hi
   exact ⟨g, e, hg.cell a0 (fun e' => hB g e'.symm e)⟩
 · obtain ⟨g, e, a0⟩ := h.rL i hi
   exact ⟨g, e, hg.cell a0 (fun e' => hC g e'.symm e)⟩
theorem GmX.app {v v' : Value} {w w' : World} {A : Option Addr} {a : Nat} {B : Option Addr} {b : Nat} {C : Option Addr} {d : Nat} {E : List Fig} {F L : List Int} (h : GmX v w A a B b C d E F L) (hg : w.grownBy w' v.ownBlock) (hp : v'.ownBlock = v.ownBlock ∨ v'.ownBlock = some w.heap.size) (hq : ∀ x, v'.ownBlock = some x → x < w'.heap.size) : GmX v' w' A a B b C d E F L :=
 ⟨h.g.kept hg h.nA h.nB h.nC, hq,
  fun x hx e => hp.elim (fun hp => h.nA x (by rw [← hp]; exact hx) e) (fun hp => by rw [hp] at hx; injection hx with hx; have := h.g.lA x e; omega),
  fun x hx e => hp.elim (fun hp => h.nB x (by rw [← hp]; exact hx) e) (fun hp => by rw [hp] at hx; injection hx with hx; have := h.g.lB x e; omega),
  fun x hx e => hp.elim (fun hp => h.nC x (by rw [← hp]; exact hx) e) (fun hp => by rw [hp] at hx; injection hx with hx; have := h.g.lC x e; omega)⟩
theorem specDoX {v : Value} {w : World} {A : Option Addr} {a : Nat} {B : Option Addr} {b : Nat} {C : Option Addr} {d : Nat} {E : List Fig} {F L : List Int} {r : Rq} (he : OkG E F L) (hr : okB r = true) (hg : GmX v w A a B b C d E F L) :
 Calls Try.prog 56 #[gameV A E.length a B F.length b C L.length d, r.val] w fun e w' => ∃ A' a' B' b' C' d', e = .returned (.tuple #[gameV A' (doG E F L r).1.1.length a' B' (doG E F L r).1.2.1.length b' C' (doG E F L r).1.2.2.length d', .int .i64 (doG E F L r).2]) ∧ GmX v w' A' a' B' b' C' d' (doG E F L r).1.1 (doG E F L r).1.2.1 (doG E F L r).1.2.2 ∧ Below w.heap.size w w' :=
 (specDoP A a B b C d E F L r w he hr hg.g).mono fun e w' ⟨A', a', B', b', C', d', h1, h2, s1, s2, s3⟩ =>
  ⟨A', a', B', b', C', d', h1, ⟨h2.1, fun x hx => Nat.lt_of_lt_of_le (hg.q x hx) h2.2.size,
   fun x hx e => s1.elim (fun e' => hg.nA x hx (by rw [← e']; exact e)) (fun h => by have := h x e; have := hg.q x hx; omega),
   fun x hx e => s2.elim (fun e' => hg.nB x hx (by rw [← e']; exact e)) (fun h => by have := h x e; have := hg.q x hx; omega),
   fun x hx e => s3.elim (fun e' => hg.nC x hx (by rw [← e']; exact e)) (fun h => by have := h x e; have := hg.q x hx; omega)⟩, h2.2⟩
theorem codes_step {T : List Rq} {g : Gm} {i : Nat} (hi : i < T.length) : codesG g (T.take (i + 1)) = codesG g (T.take i) ++ [(doG ((T.take i).foldl stepF g).1 ((T.take i).foldl stepF g).2.1 ((T.take i).foldl stepF g).2.2 (T[i]'hi)).2] ∧ (T.take (i + 1)).foldl stepF g = (doG ((T.take i).foldl stepF g).1 ((T.take i).foldl stepF g).2.1 ((T.take i).foldl stepF g).2.2 (T[i]'hi)).1 := by
 rw [List.take_succ_eq_append_getElem hi]
 exact ⟨codesG_append _ _ _, by rw [List.foldl_append]; rfl⟩
set_option maxRecDepth 100000 in
set_option maxHeartbeats 16000000 in
theorem specAheadCodes (A : Option Addr) (a : Nat) (B : Option Addr) (b : Nat) (D T : List Rq) (k : Int) (w : World) (hD : D.length ≤ 1048576) (hT : T.length ≤ 1048576) (h : RdAc w A a B b D T) :
 Calls Try.prog 22 #[aheadV A D.length a B T.length b k] w fun e w' => ∃ Q q, e = .returned (.slice Q (acG D T k).length q) ∧ w'.ownsRow w.heap.size 3 1 (.slice Q (acG D T k).length q) (acG D T k).length (ints (acG D T k)) ∧ Below w.heap.size w w' := by
 obtain ⟨J, hi, hz0, hz1, hz2⟩ := parts_of infoInt'
 have J1 := Lib.hid hi
 have J2 := Lib.hid hz0
 have J3 := Lib.hid hz1
 have J4 := Lib.hid hz2
 clear hi hz0 hz1 hz2
 have hbA : Below w.heap.size w (w.alloc (.cells #[.slice A D.length a, .slice B T.length b, .int .i64 k] 33)) := (Below.refl _ _).alloc (Nat.le_refl _) _
 have HR := Lib.hid (h.below hbA)
 have T1 := Lib.hid (Three.new (u0 := .slice A D.length a) (u1 := .slice B T.length b) (u2 := .int .i64 k) (t := 33) w)
 have Z := Lib.hid hbA
 have LA := Lib.hid (show (w.alloc (.cells #[.slice A D.length a, .slice B T.length b, .int .i64 k] 33)).heap.size = w.heap.size + 1 by simp)
 clear h hbA
 go_enter Try.func22, Try.ntmps22
 go_upto_region 1 with (fail)
 obtain ⟨wA, hwA⟩ : ∃ X, X = w.alloc (.cells #[.slice A D.length a, .slice B T.length b, .int .i64 k] 33) := ⟨_, rfl⟩
 rw [← hwA] at HR T1 Z LA ⊢
 clear hwA
 have HB : Hid (Below wA.heap.size wA (wA.alloc (.cells #[] 3))) := (Below.refl _ _).alloc (Nat.le_refl _) _
 have OO : Hid ((wA.alloc (.cells #[] 3)).ownsRow wA.heap.size 3 1 (.slice (some ⟨wA.heap.size, 0, none⟩) 0 0) 0 []) := own_nil_new wA 3 1 rfl
 have LQ := Lib.hid (show wA.heap.size < (wA.alloc (.cells #[] 3)).heap.size by simp)
 go_upto_region 2 with (fail)
 obtain ⟨w1, hw1⟩ : ∃ X, X = wA.alloc (.cells #[] 3) := ⟨_, rfl⟩
 obtain ⟨bq, hbq⟩ : ∃ X, X = wA.heap.size := ⟨_, rfl⟩
 have LBQ := Lib.hid (show wA.heap.size ≤ bq by omega)
 rw [← hw1] at HB OO LQ ⊢
 rw [← hbq] at LQ ⊢
 replace OO : Hid (w1.ownsRow wA.heap.size 3 1 (.slice (some ⟨bq, 0, none⟩) 0 0) 0 []) := by rw [hbq]; exact OO.out
 clear hw1 hbq
 have T1r := Lib.hid (Three.below T1.out HB.out T1.out.lt)
 obtain ⟨p0, p1, p2⟩ := T1r.out.cells
 go_wp2_with (fail)
 refine (l8Ok A a B b D T k w1 hD hT (Rd.below HR.out.r.d HB.out) (Rd.below HR.out.r.t HB.out)).mono ?_
 rintro e w2 ⟨rfl, hb⟩
 have HB := Lib.hid (Below.and HB.out hb)
 have OO := Lib.hid (own_below OO.out hb)
 have LQ := Lib.hid (Nat.lt_of_lt_of_le LQ.out hb.size)
 clear hb p0 p1 p2 T1r
 rcases hok : ahB D T k with _ | _
 · have HX := Lib.hid (show acG D T k = [] by unfold acG; rw [hok]; rfl)
   have hl := Z.out.size
   have BZ := Lib.hid (Z.out.trans (HB.out.mono hl))
   have OZ := Lib.hid (own_base OO.out hl)
   clear hok hl
   go_wp2
   go_light
   go_ret
   refine ⟨some ⟨bq, 0, none⟩, 0, ?_, ?_, BZ.out⟩
   · rw [HX.out]; rfl
   · rw [HX.out]; exact OZ.out
 have HX := Lib.hid (show acG D T k = codesG (foldG D) T by unfold acG; rw [if_pos hok])
 have HOK := Lib.hid hok
 clear hok
 have T1r := Lib.hid (Three.below T1.out HB.out T1.out.lt)
 obtain ⟨p0, p1, p2⟩ := T1r.out.cells
 go_wp2_with (fail)
 refine (l2FoldN A a D w2 hD HR.out.cd (Rd.below HR.out.r.d HB.out) (ahB_all HOK.out).1).mono ?_
 rintro e w3 ⟨A1, a1, B1, b1, C1, c1, rfl, g1, hb⟩
 have lq := LQ.out
 have hbn : Below w3.heap.size w3 (w3.alloc (.cells #[.slice A1 (foldG D).1.length a1, .slice B1 (foldG D).2.1.length b1, .slice C1 (foldG D).2.2.length c1] 29)) := (Below.refl _ _).alloc (Nat.le_refl _) _
 have GX0 : Hid (GmX (.slice (some ⟨bq, 0, none⟩) 0 0) w3 A1 a1 B1 b1 C1 c1 (foldG D).1 (foldG D).2.1 (foldG D).2.2) := ⟨g1.g, (fun x hx => by cases hx; exact Nat.lt_of_lt_of_le lq hb.size), (fun x hx e => by cases hx; exact absurd (g1.nA bq e) (by omega)), (fun x hx e => by cases hx; exact absurd (g1.nB bq e) (by omega)), (fun x hx e => by cases hx; exact absurd (g1.nC bq e) (by omega))⟩
 have GX := Lib.hid (GX0.out.below hbn)
 have T4 := Lib.hid (Three.new (u0 := .slice A1 (foldG D).1.length a1) (u1 := .slice B1 (foldG D).2.1.length b1) (u2 := .slice C1 (foldG D).2.2.length c1) (t := 29) w3)
 have HB := Lib.hid (Below.and (Below.and HB.out hb) hbn)
 have OO := Lib.hid (own_below (own_below OO.out hb) hbn)
 have LP4a := Lib.hid (show wA.heap.size ≤ w3.heap.size by have := hb.size; have := LBQ.out; omega)
 clear hb hbn g1 lq p0 p1 p2 T1r GX0 LQ
 unfold gameV
 go_upto_region 6 with (fail)
 obtain ⟨p4, hp4⟩ : ∃ X, X = w3.heap.size := ⟨_, rfl⟩
 obtain ⟨w4, hw4⟩ : ∃ X, X = w3.alloc (.cells #[.slice A1 (foldG D).1.length a1, .slice B1 (foldG D).2.1.length b1, .slice C1 (foldG D).2.2.length c1] 29) := ⟨_, rfl⟩
 rw [← hw4] at GX T4 HB OO ⊢
 rw [← hp4] at T4 LP4a ⊢
 clear hw4 hp4
 go_loopw [3, 5] (fun o v wr => ∃ (i : Nat) (Q : Option Addr) (q : Nat) (A1 : Option Addr) (a1 : Nat) (B1 : Option Addr) (b1 : Nat) (C1 : Option Addr) (c1 : Nat), i ≤ T.length ∧ v = .int .i64 (i : Int) ∧ o = .slice Q i q ∧ Hid (Three wr p4 29 (.slice A1 ((T.take i).foldl stepF (foldG D)).1.length a1) (.slice B1 ((T.take i).foldl stepF (foldG D)).2.1.length b1) (.slice C1 ((T.take i).foldl stepF (foldG D)).2.2.length c1)) ∧ Hid (GmX (.slice Q i q) wr A1 a1 B1 b1 C1 c1 ((T.take i).foldl stepF (foldG D)).1 ((T.take i).foldl stepF (foldG D)).2.1 ((T.take i).foldl stepF (foldG D)).2.2) ∧ Hid (wr.ownsRow wA.heap.size 3 1 (.slice Q i q) i (ints (codesG (foldG D) (T.take i)))) ∧ Hid (Below wA.heap.size wA wr)) (fun _ v _ => T.length - (intOf v).toNat)
 case atStart => exact ⟨0, some ⟨bq, 0, none⟩, 0, A1, a1, B1, b1, C1, c1, Nat.zero_le _, rfl, rfl, T4.out, GX.out, OO.out, HB.out⟩
 case round =>
  clear T4 GX OO HB
  obtain ⟨i, Q, q, A1, a1, B1, b1, C1, c1, hi, rfl, rfl, T4, GX, OO, HB⟩ := hrel
  have T1r := Lib.hid (Three.below T1.out HB.out T1.out.lt)
  have LS := Lib.hid HB.out.size
  by_cases hlt : i < T.length
  · obtain ⟨g, o, rfl, ca⟩ := Rd.below HR.out.r.t HB.out i hlt
    have hcs := codes_step (g := foldG D) hlt
    have hgk : gokB ((T.take i).foldl stepF (foldG D)).1 ((T.take i).foldl stepF (foldG D)).2.1 ((T.take i).foldl stepF (foldG D)).2.2 = true := foldG_ok _ _ (foldG_ok D g0 g0_ok (ahB_all HOK.out).1) (fun r hr => (ahB_all HOK.out).2 r (List.mem_of_mem_take hr))
    have hro := (ahB_all HOK.out).2 _ (List.getElem_mem hlt)
    generalize T[i] = r at ca hcs hro
    have hcl : (codesG (foldG D) (T.take i)).length = i := by rw [codesG_len, List.length_take]; omega
    obtain ⟨CS, hCS⟩ : ∃ X, X = codesG (foldG D) (T.take i) := ⟨_, rfl⟩
    obtain ⟨X0, hX0⟩ : ∃ X, X = ((T.take i).foldl stepF (foldG D)) := ⟨_, rfl⟩
    rw [← hX0] at T4 GX hcs hgk
    rw [← hCS] at OO hcs
    clear hX0 hCS hcl
    obtain ⟨E, F, L⟩ := X0
    obtain ⟨Y, hY⟩ : ∃ Y, Y = doG E F L r := ⟨_, rfl⟩
    simp only at hcs
    rw [← hY] at hcs
    have HC1 := Lib.hid hcs.1
    have HY1 := Lib.hid hcs.2
    have HDO : Hid (∀ (wx : World) (A' : Option Addr) (a' : Nat) (B' : Option Addr) (b' : Nat) (C' : Option Addr) (d' : Nat), GmX (.slice Q i q) wx A' a' B' b' C' d' E F L → Calls Try.prog 56 #[gameV A' E.length a' B' F.length b' C' L.length d', .agg #[.int .i64 r.c, .int .i64 r.n, .int .i64 r.o, .int .i64 r.x, .int .i64 r.y]] wx
     fun e w' => ∃ A' a' B' b' C' d', e = .returned (.tuple #[gameV A' Y.1.1.length a' B' Y.1.2.1.length b' C' Y.1.2.2.length d', .int .i64 Y.2]) ∧ GmX (.slice Q i q) w' A' a' B' b' C' d' Y.1.1 Y.1.2.1 Y.1.2.2 ∧ Below wx.heap.size wx w') :=
     fun wx A' a' B' b' C' d' hg => by have := specDoX (okG_of hgk) hro hg; rw [← hY] at this; exact this
    clear hcs hgk hro hY
    have xr0 : wr.cell? ⟨g, o + i * 5, none⟩ = some (.int .i64 r.c) := ca 0 _ rfl
    have xr1 : wr.cell? ⟨g, o + i * 5 + 1, none⟩ = some (.int .i64 r.n) := ca 1 _ rfl
    have xr2 : wr.cell? ⟨g, o + i * 5 + 2, none⟩ = some (.int .i64 r.o) := ca 2 _ rfl
    have xr3 : wr.cell? ⟨g, o + i * 5 + 3, none⟩ = some (.int .i64 r.x) := ca 3 _ rfl
    have xr4 : wr.cell? ⟨g, o + i * 5 + 4, none⟩ = some (.int .i64 r.y) := ca 4 _ rfl
    have xrg : g < wr.heap.size := World.block_lt_of_cell? wr _ xr0
    have i0 : (0 : Int) ≤ (i : Int) := by omega
    have i1 : (i : Int) < (T.length : Int) := by omega
    clear ca
    obtain ⟨p0, p1, p2⟩ := T1r.out.cells
    have pl := T1r.out.lt
    obtain ⟨y0, y1, y2⟩ := T4.out.cells
    have yl := T4.out.lt
    have LP4 := Lib.hid yl
    go_upto_region 8 with (fail)
    refine wp_region_held_drew (S := fun WS => Below wr.heap.size wr WS) (by kernel_rfl) ((Below.refl _ _).drew) (fun hS0 => ?_)
    have HS : Hid (Below wr.heap.size wr wr.drew) := (Below.refl _ _).drew
    obtain ⟨s0, hs0⟩ : ∃ X, X = wr.drew := ⟨_, rfl⟩
    rw [← hs0] at hS0 HS ⊢
    clear hs0
    refine tkI 0 24 (v := ?_) rfl rfl ?_ ?_
    rotate_left
    · intro wS hSw; obtain ⟨hcS, hfS⟩ := bcell hSw; go_simp; (try with_reducible rfl)
    (try simp only [Act.put, pu1, pu2, pu3])
    refine tkI 1 25 (v := ?_) rfl rfl ?_ ?_
    rotate_left
    · intro wS hSw; obtain ⟨hcS, hfS⟩ := bcell hSw; go_simp; (try with_reducible rfl)
    (try simp only [Act.put, pu1, pu2, pu3])
    refine tkI 2 26 (v := ?_) rfl rfl ?_ ?_
    rotate_left
    · intro wS hSw; obtain ⟨hcS, hfS⟩ := bcell hSw; go_simp; (try with_reducible rfl)
    (try simp only [Act.put, pu1, pu2, pu3])
    refine tkI 3 27 (v := ?_) rfl rfl ?_ ?_
    rotate_left
    · intro wS hSw; obtain ⟨hcS, hfS⟩ := bcell hSw; go_simp; (try with_reducible rfl)
    (try simp only [Act.put, pu1, pu2, pu3])
    refine tkI 4 28 (v := ?_) rfl rfl ?_ ?_
    rotate_left
    · intro wS hSw; obtain ⟨hcS, hfS⟩ := bcell hSw; go_simp; (try with_reducible rfl)
    (try simp only [Act.put, pu1, pu2, pu3])
    refine tkI 5 29 (v := ?_) rfl rfl ?_ ?_
    rotate_left
    · intro wS hSw; obtain ⟨hcS, hfS⟩ := bcell hSw; go_simp; (try with_reducible rfl)
    (try simp only [Act.put, pu1, pu2, pu3])
    refine wpAnyH_ready (rs := [6, 10]) (by kernel_rfl) (by simp) ?_
    refine AllReadyH.cons rfl (fun KK hK => ?_) (AllReadyH.cons rfl (fun KK hK => ?_) AllReadyH.nil)
    · go_simp
      have hs := HDO.out _ _ _ _ _ _ _ (GX.out.below HS.out)
      refine hs.mono ?_
      clear hs
      rintro e s1 ⟨A9, a9, B9, b9, C9, c9, rfl, g9, hb⟩
      have G9 := Lib.hid g9
      clear g9
      replace HS := Lib.hid (Below.and HS.out hb)
      clear hb
      refine hK.out _ _ HS.out (fun hS1 => ?_)
      clear hK KK
      (try simp only [Act.put, pu1, pu2, pu3])
      refine tkI 7 23 (v := ?_) rfl rfl ?_ ?_
      rotate_left
      · intro wS hSw; obtain ⟨hcS, hfS⟩ := bcell hSw; go_simp; (try with_reducible rfl)
      (try simp only [Act.put, pu1, pu2, pu3])
      refine tkI 8 31 (v := ?_) rfl rfl ?_ ?_
      rotate_left
      · intro wS hSw; obtain ⟨hcS, hfS⟩ := bcell hSw; go_simp; (try with_reducible rfl)
      (try simp only [Act.put, pu1, pu2, pu3])
      refine tkI 9 32 (v := ?_) rfl rfl ?_ ?_
      rotate_left
      · intro wS hSw; obtain ⟨hcS, hfS⟩ := bcell hSw; go_simp; (try with_reducible rfl)
      (try simp only [Act.put, pu1, pu2, pu3])
      refine wpAnyH_ready (rs := [10]) (by kernel_rfl) (by simp) ?_
      refine AllReadyH.cons rfl (fun KK hK => ?_) AllReadyH.nil
      go_simp
      have hb : Below s1.heap.size s1 (s1.alloc (.cells #[.slice none 0 0, .slice none 0 0, .slice none 0 0] 29)) := (Below.refl _ _).alloc (Nat.le_refl _) _
      have TZ := Lib.hid (Three.new (u0 := .slice none 0 0) (u1 := .slice none 0 0) (u2 := .slice none 0 0) (t := 29) s1)
      have LZ : Hid (wr.heap.size ≤ s1.heap.size) := HS.out.size
      obtain ⟨s2, hs2⟩ : ∃ X, X = s1.alloc (.cells #[.slice none 0 0, .slice none 0 0, .slice none 0 0] 29) := ⟨_, rfl⟩
      rw [← hs2] at hb TZ ⊢
      clear hs2
      obtain ⟨p9, hp9⟩ : ∃ X, X = s1.heap.size := ⟨_, rfl⟩
      rw [← hp9] at TZ LZ ⊢
      clear hp9
      replace HS := Lib.hid (Below.and HS.out hb)
      replace G9 := Lib.hid (G9.out.below hb)
      clear hb
      refine hK.out _ _ HS.out (fun hS2 => ?_)
      clear hK KK
      (try simp only [Act.put, pu1, pu2, pu3])
      refine wpAnyH_ready (rs := [11]) (by kernel_rfl) (by simp) ?_
      refine AllReadyH.cons rfl (fun KK hK => ?_) AllReadyH.nil
      obtain ⟨z0, z1, z2⟩ := TZ.out.cells
      have zf := TZ.out.frozen
      unfold gameV
      go_simp
      clear z0 z1 z2 zf
      have l9 := LZ.out
      have hS : Below wr.heap.size wr _ := ((HS.out.setCell (p := ⟨p9, 0, none⟩) l9 (.slice A9 Y.1.1.length a9)).setCell (p := ⟨p9, 1, none⟩) l9 (.slice B9 Y.1.2.1.length b9)).setCell (p := ⟨p9, 2, none⟩) l9 (.slice C9 Y.1.2.2.length c9)
      have T9 := Lib.hid (((TZ.out.set0 (.slice A9 Y.1.1.length a9)).set1 (.slice B9 Y.1.2.1.length b9)).set2 (.slice C9 Y.1.2.2.length c9))
      replace G9 := Lib.hid (((G9.out.box (p := p9) TZ.out.cells.1 0 (.slice A9 Y.1.1.length a9)).box (p := p9) (TZ.out.set0 _).cells.1 1 (.slice B9 Y.1.2.1.length b9)).box (p := p9) ((TZ.out.set0 _).set1 _).cells.1 2 (.slice C9 Y.1.2.2.length c9))
      obtain ⟨s3, hs3⟩ : ∃ X, X = ((((s2).setCell ⟨p9, 0, none⟩ (.slice A9 Y.1.1.length a9)).setCell ⟨p9, 1, none⟩ (.slice B9 Y.1.2.1.length b9)).setCell ⟨p9, 2, none⟩ (.slice C9 Y.1.2.2.length c9)) := ⟨_, rfl⟩
      rw [← hs3] at hS T9 G9 ⊢
      have L9 := Lib.hid l9
      clear hs3 l9 TZ LZ
      replace HS := Lib.hid (hS)
      clear hS
      refine hK.out _ _ HS.out (fun hS3 => ?_)
      clear hK KK
      (try simp only [Act.put, pu1, pu2, pu3])
      refine tkI 12 7 (v := ?_) rfl rfl ?_ ?_
      rotate_left
      · intro wS hSw; obtain ⟨hcS, hfS⟩ := bcell hSw; go_simp; (try with_reducible rfl)
      (try simp only [Act.put, pu1, pu2, pu3])
      refine wpAnyH_done (by kernel_rfl) ?_ _
      clear p0 p1 p2 pl y0 y1 y2 yl xr0 xr1 xr2 xr3 xr4 xrg i0 i1
      have T4 := Lib.hid (Three.below T4.out HS.out T4.out.lt)
      have T1r := Lib.hid (Three.below T1r.out HS.out T1r.out.lt)
      have OO := Lib.hid (own_below OO.out HS.out)
      have HB := Lib.hid (Below.and HB.out HS.out)
      have LR := Lib.hid HS.out.size
      obtain ⟨q1, q2, q3⟩ := T9.out.cells
      obtain ⟨u0, u1, u2⟩ := T4.out.cells
      have uf := T4.out.frozen
      have n94 : p9 ≠ p4 := by have := L9.out; have := LP4.out; omega
      go_upto_region 10 with (fail)
      clear q1 q2 q3 u0 u1 u2 uf n94
      have lp4 := LP4a.out
      replace HB : Hid (Below wA.heap.size wA ((((s3).setCell ⟨p4, 0, none⟩ (.slice A9 Y.1.1.length a9)).setCell ⟨p4, 1, none⟩ (.slice B9 Y.1.2.1.length b9)).setCell ⟨p4, 2, none⟩ (.slice C9 Y.1.2.2.length c9))) := ((HB.out.setCell (p := ⟨p4, 0, none⟩) lp4 (.slice A9 Y.1.1.length a9)).setCell (p := ⟨p4, 1, none⟩) lp4 (.slice B9 Y.1.2.1.length b9)).setCell (p := ⟨p4, 2, none⟩) lp4 (.slice C9 Y.1.2.2.length c9)
      have G4 := Lib.hid (((G9.out.box (p := p4) T4.out.cells.1 0 (.slice A9 Y.1.1.length a9)).box (p := p4) (T4.out.set0 _).cells.1 1 (.slice B9 Y.1.2.1.length b9)).box (p := p4) ((T4.out.set0 _).set1 _).cells.1 2 (.slice C9 Y.1.2.2.length c9))
      have OO := Lib.hid (own_box (own_box (own_box OO.out T4.out (by decide) 0 (.slice A9 Y.1.1.length a9)) (T4.out.set0 _) (by decide) 1 (.slice B9 Y.1.2.1.length b9)) ((T4.out.set0 _).set1 _) (by decide) 2 (.slice C9 Y.1.2.2.length c9))
      have T4 := Lib.hid (((T4.out.set0 (.slice A9 Y.1.1.length a9)).set1 (.slice B9 Y.1.2.1.length b9)).set2 (.slice C9 Y.1.2.2.length c9))
      clear lp4 G9 T9 T1r HS
      obtain ⟨wS, hwS⟩ : ∃ X, X = ((((s3).setCell ⟨p4, 0, none⟩ (.slice A9 Y.1.1.length a9)).setCell ⟨p4, 1, none⟩ (.slice B9 Y.1.2.1.length b9)).setCell ⟨p4, 2, none⟩ (.slice C9 Y.1.2.2.length c9)) := ⟨_, rfl⟩
      rw [← hwS] at HB G4 OO T4 ⊢
      clear hwS
      have hb : Below wS.heap.size wS (wS.alloc (.cells #[.int .i64 Y.2] 3)) := (Below.refl _ _).alloc (Nat.le_refl _) _
      have HRd : Hid (Rd 1 cI (wS.alloc (.cells #[.int .i64 Y.2] 3)) (some ⟨wS.heap.size, 0, none⟩) [Y.2]) := rd_one1 (f := cI) wS 3 Y.2 (.int .i64 Y.2) rfl
      have T4 := Lib.hid (Three.below T4.out hb T4.out.lt)
      have G4 := Lib.hid (G4.out.below hb)
      have OO := Lib.hid (own_below OO.out hb)
      have HB := Lib.hid (Below.and HB.out hb)
      have lo1 : wA.heap.size ≤ (wS.alloc (.cells #[.int .i64 Y.2] 3)).heap.size := HB.out.size
      clear hb
      go_wp2_with (at_builtin; go_loud (refine list_app (f := cI) cI_len rfl _ _ 27 rfl wA.heap.size 3 J (.int .i64 0) 8 Try.underlying27 J1.out J2.out J3.out J4.out rfl (by decide) _ i (ints CS) rfl OO.out _ _ 1 [Y.2] rfl rfl HRd.out (fun h => by cases h) (ints_one [Y.2]) (by unfold maxLen; omega) (by omega) lo1 ?_))
      intro v' wT ho hg hp
      obtain ⟨Q', q', rfl⟩ := own_formH ho
      have ho' : wT.ownsRow wA.heap.size 3 1 (.slice Q' (i + 1) q') (i + 1) (ints (CS ++ [Y.2])) := by
       rw [show ints (CS ++ [Y.2]) = ints CS ++ [Y.2].flatMap cI by simp [ints, cI]]
       exact ho
      have bt := own_block_ge OO.out
      have T4 := Lib.hid (T4.out.grown hg (fun e => own_type OO.out T4.out (by decide) e.symm))
      have G4 := Lib.hid (G4.out.app hg (hp.imp id (fun h => h.trans (by simp))) (fun x hx => (own_block_ge ho' x hx).2))
      have HB := Lib.hid (HB.out.trans (Below.of_grown hg lo1 (fun x hx => (bt x hx).1)))
      have OO := Lib.hid ho'
      clear ho hg hp ho' bt lo1 HRd
      go_wp2
      go_roundw
      case rel => exact ⟨i + 1, Q', q', A9, a9, B9, b9, C9, c9, by omega, by go_num, rfl, by rw [HY1.out]; exact T4.out, by rw [HY1.out]; exact G4.out, by rw [HC1.out]; exact OO.out, HB.out⟩
      case measure => (simp [intOf]; try omega)
    · go_simp
      have hb : Below s0.heap.size s0 (s0.alloc (.cells #[.slice none 0 0, .slice none 0 0, .slice none 0 0] 29)) := (Below.refl _ _).alloc (Nat.le_refl _) _
      have TZ := Lib.hid (Three.new (u0 := .slice none 0 0) (u1 := .slice none 0 0) (u2 := .slice none 0 0) (t := 29) s0)
      have LZ : Hid (wr.heap.size ≤ s0.heap.size) := HS.out.size
      obtain ⟨s1, hs1⟩ : ∃ X, X = s0.alloc (.cells #[.slice none 0 0, .slice none 0 0, .slice none 0 0] 29) := ⟨_, rfl⟩
      rw [← hs1] at hb TZ ⊢
      clear hs1
      obtain ⟨p9, hp9⟩ : ∃ X, X = s0.heap.size := ⟨_, rfl⟩
      rw [← hp9] at TZ LZ ⊢
      clear hp9
      replace HS := Lib.hid (Below.and HS.out hb)
      clear hb
      refine hK.out _ _ HS.out (fun hS1 => ?_)
      clear hK KK
      (try simp only [Act.put, pu1, pu2, pu3])
      refine wpAnyH_ready (rs := [6]) (by kernel_rfl) (by simp) ?_
      refine AllReadyH.cons rfl (fun KK hK => ?_) AllReadyH.nil
      go_simp
      have hs := HDO.out _ _ _ _ _ _ _ (GX.out.below HS.out)
      refine hs.mono ?_
      clear hs
      rintro e s2 ⟨A9, a9, B9, b9, C9, c9, rfl, g9, hb⟩
      have G9 := Lib.hid g9
      clear g9
      replace HS := Lib.hid (Below.and HS.out hb)
      replace TZ := Lib.hid (Three.below TZ.out hb TZ.out.lt)
      clear hb
      refine hK.out _ _ HS.out (fun hS2 => ?_)
      clear hK KK
      (try simp only [Act.put, pu1, pu2, pu3])
      refine tkI 7 23 (v := ?_) rfl rfl ?_ ?_
      rotate_left
      · intro wS hSw; obtain ⟨hcS, hfS⟩ := bcell hSw; go_simp; (try with_reducible rfl)
      (try simp only [Act.put, pu1, pu2, pu3])
      refine tkI 8 31 (v := ?_) rfl rfl ?_ ?_
      rotate_left
      · intro wS hSw; obtain ⟨hcS, hfS⟩ := bcell hSw; go_simp; (try with_reducible rfl)
      (try simp only [Act.put, pu1, pu2, pu3])
      refine tkI 9 32 (v := ?_) rfl rfl ?_ ?_
      rotate_left
      · intro wS hSw; obtain ⟨hcS, hfS⟩ := bcell hSw; go_simp; (try with_reducible rfl)
      (try simp only [Act.put, pu1, pu2, pu3])
      refine wpAnyH_ready (rs := [11]) (by kernel_rfl) (by simp) ?_
      refine AllReadyH.cons rfl (fun KK hK => ?_) AllReadyH.nil
      obtain ⟨z0, z1, z2⟩ := TZ.out.cells
      have zf := TZ.out.frozen
      unfold gameV
      go_simp
      clear z0 z1 z2 zf
      have l9 := LZ.out
      have hS : Below wr.heap.size wr _ := ((HS.out.setCell (p := ⟨p9, 0, none⟩) l9 (.slice A9 Y.1.1.length a9)).setCell (p := ⟨p9, 1, none⟩) l9 (.slice B9 Y.1.2.1.length b9)).setCell (p := ⟨p9, 2, none⟩) l9 (.slice C9 Y.1.2.2.length c9)
      have T9 := Lib.hid (((TZ.out.set0 (.slice A9 Y.1.1.length a9)).set1 (.slice B9 Y.1.2.1.length b9)).set2 (.slice C9 Y.1.2.2.length c9))
      replace G9 := Lib.hid (((G9.out.box (p := p9) TZ.out.cells.1 0 (.slice A9 Y.1.1.length a9)).box (p := p9) (TZ.out.set0 _).cells.1 1 (.slice B9 Y.1.2.1.length b9)).box (p := p9) ((TZ.out.set0 _).set1 _).cells.1 2 (.slice C9 Y.1.2.2.length c9))
      obtain ⟨s3, hs3⟩ : ∃ X, X = ((((s2).setCell ⟨p9, 0, none⟩ (.slice A9 Y.1.1.length a9)).setCell ⟨p9, 1, none⟩ (.slice B9 Y.1.2.1.length b9)).setCell ⟨p9, 2, none⟩ (.slice C9 Y.1.2.2.length c9)) := ⟨_, rfl⟩
      rw [← hs3] at hS T9 G9 ⊢
      have L9 := Lib.hid l9
      clear hs3 l9 TZ LZ
      replace HS := Lib.hid (hS)
      clear hS
      refine hK.out _ _ HS.out (fun hS3 => ?_)
      clear hK KK
      (try simp only [Act.put, pu1, pu2, pu3])
      refine tkI 12 7 (v := ?_) rfl rfl ?_ ?_
      rotate_left
      · intro wS hSw; obtain ⟨hcS, hfS⟩ := bcell hSw; go_simp; (try with_reducible rfl)
      (try simp only [Act.put, pu1, pu2, pu3])
      refine wpAnyH_done (by kernel_rfl) ?_ _
      clear p0 p1 p2 pl y0 y1 y2 yl xr0 xr1 xr2 xr3 xr4 xrg i0 i1
      have T4 := Lib.hid (Three.below T4.out HS.out T4.out.lt)
      have T1r := Lib.hid (Three.below T1r.out HS.out T1r.out.lt)
      have OO := Lib.hid (own_below OO.out HS.out)
      have HB := Lib.hid (Below.and HB.out HS.out)
      have LR := Lib.hid HS.out.size
      obtain ⟨q1, q2, q3⟩ := T9.out.cells
      obtain ⟨u0, u1, u2⟩ := T4.out.cells
      have uf := T4.out.frozen
      have n94 : p9 ≠ p4 := by have := L9.out; have := LP4.out; omega
      go_upto_region 10 with (fail)
      clear q1 q2 q3 u0 u1 u2 uf n94
      have lp4 := LP4a.out
      replace HB : Hid (Below wA.heap.size wA ((((s3).setCell ⟨p4, 0, none⟩ (.slice A9 Y.1.1.length a9)).setCell ⟨p4, 1, none⟩ (.slice B9 Y.1.2.1.length b9)).setCell ⟨p4, 2, none⟩ (.slice C9 Y.1.2.2.length c9))) := ((HB.out.setCell (p := ⟨p4, 0, none⟩) lp4 (.slice A9 Y.1.1.length a9)).setCell (p := ⟨p4, 1, none⟩) lp4 (.slice B9 Y.1.2.1.length b9)).setCell (p := ⟨p4, 2, none⟩) lp4 (.slice C9 Y.1.2.2.length c9)
      have G4 := Lib.hid (((G9.out.box (p := p4) T4.out.cells.1 0 (.slice A9 Y.1.1.length a9)).box (p := p4) (T4.out.set0 _).cells.1 1 (.slice B9 Y.1.2.1.length b9)).box (p := p4) ((T4.out.set0 _).set1 _).cells.1 2 (.slice C9 Y.1.2.2.length c9))
      have OO := Lib.hid (own_box (own_box (own_box OO.out T4.out (by decide) 0 (.slice A9 Y.1.1.length a9)) (T4.out.set0 _) (by decide) 1 (.slice B9 Y.1.2.1.length b9)) ((T4.out.set0 _).set1 _) (by decide) 2 (.slice C9 Y.1.2.2.length c9))
      have T4 := Lib.hid (((T4.out.set0 (.slice A9 Y.1.1.length a9)).set1 (.slice B9 Y.1.2.1.length b9)).set2 (.slice C9 Y.1.2.2.length c9))
      clear lp4 G9 T9 T1r HS
      obtain ⟨wS, hwS⟩ : ∃ X, X = ((((s3).setCell ⟨p4, 0, none⟩ (.slice A9 Y.1.1.length a9)).setCell ⟨p4, 1, none⟩ (.slice B9 Y.1.2.1.length b9)).setCell ⟨p4, 2, none⟩ (.slice C9 Y.1.2.2.length c9)) := ⟨_, rfl⟩
      rw [← hwS] at HB G4 OO T4 ⊢
      clear hwS
      have hb : Below wS.heap.size wS (wS.alloc (.cells #[.int .i64 Y.2] 3)) := (Below.refl _ _).alloc (Nat.le_refl _) _
      have HRd : Hid (Rd 1 cI (wS.alloc (.cells #[.int .i64 Y.2] 3)) (some ⟨wS.heap.size, 0, none⟩) [Y.2]) := rd_one1 (f := cI) wS 3 Y.2 (.int .i64 Y.2) rfl
      have T4 := Lib.hid (Three.below T4.out hb T4.out.lt)
      have G4 := Lib.hid (G4.out.below hb)
      have OO := Lib.hid (own_below OO.out hb)
      have HB := Lib.hid (Below.and HB.out hb)
      have lo1 : wA.heap.size ≤ (wS.alloc (.cells #[.int .i64 Y.2] 3)).heap.size := HB.out.size
      clear hb
      go_wp2_with (at_builtin; go_loud (refine list_app (f := cI) cI_len rfl _ _ 27 rfl wA.heap.size 3 J (.int .i64 0) 8 Try.underlying27 J1.out J2.out J3.out J4.out rfl (by decide) _ i (ints CS) rfl OO.out _ _ 1 [Y.2] rfl rfl HRd.out (fun h => by cases h) (ints_one [Y.2]) (by unfold maxLen; omega) (by omega) lo1 ?_))
      intro v' wT ho hg hp
      obtain ⟨Q', q', rfl⟩ := own_formH ho
      have ho' : wT.ownsRow wA.heap.size 3 1 (.slice Q' (i + 1) q') (i + 1) (ints (CS ++ [Y.2])) := by
       rw [show ints (CS ++ [Y.2]) = ints CS ++ [Y.2].flatMap cI by simp [ints, cI]]
       exact ho
      have bt := own_block_ge OO.out
      have T4 := Lib.hid (T4.out.grown hg (fun e => own_type OO.out T4.out (by decide) e.symm))
      have G4 := Lib.hid (G4.out.app hg (hp.imp id (fun h => h.trans (by simp))) (fun x hx => (own_block_ge ho' x hx).2))
      have HB := Lib.hid (HB.out.trans (Below.of_grown hg lo1 (fun x hx => (bt x hx).1)))
      have OO := Lib.hid ho'
      clear ho hg hp ho' bt lo1 HRd
      go_wp2
      go_roundw
      case rel => exact ⟨i + 1, Q', q', A9, a9, B9, b9, C9, c9, by omega, by go_num, rfl, by rw [HY1.out]; exact T4.out, by rw [HY1.out]; exact G4.out, by rw [HC1.out]; exact OO.out, HB.out⟩
      case measure => (simp [intOf]; try omega)
  · have i1 : ¬ (i : Int) < (T.length : Int) := by omega
    obtain rfl : i = T.length := by omega
    rw [List.take_length] at OO
    have hl := Z.out.size
    have BZ := Lib.hid (Z.out.trans (HB.out.mono hl))
    have OZ := Lib.hid (own_base OO.out hl)
    have HLN := Lib.hid (codesG_len T (foldG D))
    obtain ⟨p0, p1, p2⟩ := T1r.out.cells
    clear hl hlt
    go_wp2
    go_light
    go_ret
    refine ⟨Q, q, ?_, ?_, BZ.out⟩
    · rw [HX.out, HLN.out]; rfl
    · rw [HX.out, HLN.out]; exact OZ.out
end Go.Proofs.Ytameldhdegcpoaa
