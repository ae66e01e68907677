import Derived.Test.YtameldhdegcpoaaMR
import Derived.Test.YtameldhdegcpoaaNQ
import Derived.Test.YtameldhdegcpoaaHf
import Derived.Test.YtameldhdegcpoaaAp
import Derived.Test.YtameldhdegcpoaaMM
namespace Go.Proofs.Ytameldhdegcpoaa
open Go.ChangeShapes Go.WideShapes Go.ChangeAt Go.RowKit
set_option linter.unusedVariables false
set_option linter.unusedSimpArgs false
structure LaI (w : World) (R : Nat) (A : Option Addr) (n c : Nat) (x : Nat) (u0 u1 u2 : Value) (D1 : Option Addr) (d : Nat) (D : List Rq) (T1 : Option Addr) (t : Nat) (T : List Rq) (q : Int) (W : World) : Prop where
 box : Three W x 33 u0 u1 u2
 own : OwA W w.heap.size D1 d T1 t D T
 res : Three W w.heap.size 33 (.slice none 0 0) (.slice none 0 0) (.int .i64 0)
 rd : Reader W R A n c q
 gr : w.grownBy W (some R)
section
variable {w W : World} {R : Nat} {A : Option Addr} {n c x : Nat} {u0 u1 u2 : Value} {D1 : Option Addr} {d : Nat} {D : List Rq} {T1 : Option Addr} {t : Nat} {T : List Rq} {q : Int}
theorem LaI.draw (h : LaI w R A n c x u0 u1 u2 D1 d D T1 t T q W) (hR : R < w.heap.size) (hx : w.heap.size < x) {W1 : World} {q1 : Int} (hr : Reader W1 R A n c q1) (hg : W.grownBy W1 (some R)) : LaI w R A n c x u0 u1 u2 D1 d D T1 t T q1 W1 :=
 ⟨h.box.grown hg (fun e => by injection e with e; omega),
  ⟨own_same h.own.d (fun k hk => hg.block k (own_block_ge h.own.d k hk).2 (fun e => by injection e with e; have := (own_block_ge h.own.d k hk).1; omega)), own_same h.own.t (fun k hk => hg.block k (own_block_ge h.own.t k hk).2 (fun e => by injection e with e; have := (own_block_ge h.own.t k hk).1; omega)), h.own.dt⟩,
  h.res.grown hg (fun e => by injection e with e; omega), hr, grownBy_trans h.gr hg⟩
theorem LaI.below (h : LaI w R A n c x u0 u1 u2 D1 d D T1 t T q W) {W1 : World} (hb : Below W.heap.size W W1) : LaI w R A n c x u0 u1 u2 D1 d D T1 t T q W1 :=
 ⟨Three.below h.box hb h.box.lt, h.own.below hb, Three.below h.res hb h.res.lt, h.rd.below hb, grownBy_trans h.gr (Below.grownBy hb (some R))⟩
theorem LaI.store1 (h : LaI w R A n c x u0 u1 u2 D1 d D T1 t T q W) (hO : ∀ b off, A = some ⟨b, off, none⟩ → 0 < n → b < w.heap.size) (hR : R < w.heap.size) (hx : w.heap.size < x) (v : Value) : LaI w R A n c x u0 v u2 D1 d D T1 t T q (W.setCell ⟨x, 1, none⟩ v) :=
 ⟨h.box.set1 v, h.own.box h.box 1 v, h.res.far (by omega) v, h.rd.set w.heap.size x 1 v hO hR (by omega), grown_new h.gr (grownBy_set W x 1 v) (by omega)⟩
theorem LaI.store2 (h : LaI w R A n c x u0 u1 u2 D1 d D T1 t T q W) (hO : ∀ b off, A = some ⟨b, off, none⟩ → 0 < n → b < w.heap.size) (hR : R < w.heap.size) (hx : w.heap.size < x) (v : Value) : LaI w R A n c x u0 u1 v D1 d D T1 t T q (W.setCell ⟨x, 2, none⟩ v) :=
 ⟨h.box.set2 v, h.own.box h.box 2 v, h.res.far (by omega) v, h.rd.set w.heap.size x 2 v hO hR (by omega), grown_new h.gr (grownBy_set W x 2 v) (by omega)⟩
theorem LaI.app (h : LaI w R A n c x u0 u1 u2 D1 d D T1 t T q W) (hO : ∀ b off, A = some ⟨b, off, none⟩ → 0 < n → b < w.heap.size) (hR : R < w.heap.size) {W1 : World} {v' : Value} {r : Rq} (ho : W1.ownsRow w.heap.size 49 5 v' (T.length + 1) (T.flatMap Rq.cells ++ [r].flatMap Rq.cells)) (hg : W.grownBy W1 (Value.slice T1 T.length t).ownBlock) (hp : v'.ownBlock = (Value.slice T1 T.length t).ownBlock ∨ v'.ownBlock = some W.heap.size) :
 ∃ T2 t2, v' = .slice T2 (T ++ [r]).length t2 ∧ LaI w R A n c x u0 u1 u2 D1 d D T2 t2 (T ++ [r]) q W1 := by
 obtain ⟨B', b', e, ow⟩ := h.own.push ho hg hp
 exact ⟨B', b', e, h.box.grown hg (fun e => own_typeH h.own.t h.box (by decide) e.symm), ow, h.res.grown hg (fun e => own_typeH h.own.t h.res (by decide) e.symm), h.rd.rowG hg hR hO (fun k hk => (own_block_ge h.own.t k hk).1), grown_rowG h.gr hg (fun k hk => (own_block_ge h.own.t k hk).1)⟩
theorem LaI.ret (h : LaI w R A n c x u0 u1 u2 D1 d D T1 t T q W) (y0 y1 y2 : Value) : OwA (((W.setCell ⟨w.heap.size, 0, none⟩ y0).setCell ⟨w.heap.size, 1, none⟩ y1).setCell ⟨w.heap.size, 2, none⟩ y2) w.heap.size D1 d T1 t D T :=
 ((h.own.box h.res 0 y0).box (h.res.set0 y0) 1 y1).box ((h.res.set0 y0).set1 y1) 2 y2
end
theorem lit_cellsL (w : World) (t : TypeId) (l : List Int) : ∀ i (hi : i < l.length), (w.alloc (.cells (l.map (Value.int .i64)).toArray t)).cell? ⟨w.heap.size, i, none⟩ = some (.int .i64 (l[i]'hi)) := by
 intro i hi
 rw [cell_of_row _ _ i _ t (0, 0) (heap_alloc_new w _)]
 simp [hi]
set_option maxRecDepth 100000 in
set_option maxHeartbeats 8000000 in
theorem l20Ahead {w : World} {R : Nat} {A : Option Addr} {n c : Nat} {p : Int} (h : Reader w R A n c p) (hp : p ≤ 80000) :
 Calls Try.prog 57 #[.pointer (some ⟨R, 0, none⟩)] w fun e w' => ∃ (D1 : Option Addr) (d : Nat) (T1 : Option Addr) (t : Nat) (D T : List Rq) (k : Int), e = .returned (aheadV D1 D.length d T1 T.length t k) ∧ D.length ≤ 8 ∧ T.length ≤ 5 ∧ OwA w' w.heap.size D1 d T1 t D T ∧ Drawn w R A n c p 400 w' := by
 obtain ⟨I, hi, hz0, hz1, hz2⟩ := parts_ofH infoReqH
 have I1 := Lib.hid hi
 have I2 := Lib.hid hz0
 have I3 := Lib.hid hz1
 have I4 := Lib.hid hz2
 have hRlt := h.lt
 have hlo := h.lo
 have HOld := Lib.hid h.old
 have hb0 : Below w.heap.size w (w.alloc (.cells #[.slice none 0 0, .slice none 0 0, .int .i64 0] 33)) := (Below.refl _ _).alloc (Nat.le_refl _) _
 have RD := Lib.hid (h.below hb0)
 have GR : Hid (w.grownBy (w.alloc (.cells #[.slice none 0 0, .slice none 0 0, .int .i64 0] 33)) (some R)) := Below.grownBy hb0 (some R)
 have KZ := Lib.hid (Three.new (u0 := .slice none 0 0) (u1 := .slice none 0 0) (u2 := .int .i64 0) (t := 33) w)
 clear h hi hz0 hz1 hz2 hb0
 go_enter Try.func57, Try.ntmps57
 go_wp2_with (fail)
 refine (l20Reqs RD.out (by omega) 8 (by omega)).mono ?_
 rintro e wa ⟨D1, d, D, rfl, hD, _, od, qa, qa0, qa1, hr, hgr⟩
 have RD := Lib.hid hr
 have GR := Lib.hid (grownBy_trans GR.out hgr)
 have KZ := Lib.hid (KZ.out.grown hgr (fun e => by injection e with e; omega))
 have OD := Lib.hid (own_base od (show w.heap.size ≤ (w.alloc (.cells #[.slice none 0 0, .slice none 0 0, .int .i64 0] 33)).heap.size by simp))
 have hs := GR.out.size
 clear hr hgr od
 have hb0 : Below wa.heap.size wa (wa.alloc (.cells #[.int .i64 0, .int .i64 3, .int .i64 99] 3)) := (Below.refl _ _).alloc (Nat.le_refl _) _
 have RD := Lib.hid (RD.out.below hb0)
 have GR := Lib.hid (grownBy_trans GR.out (Below.grownBy hb0 (some R)))
 have KZ := Lib.hid (Three.below KZ.out hb0 KZ.out.lt)
 have OD := Lib.hid (own_below OD.out hb0)
 go_wp2_with (fail)
 refine (oneM wa.heap.size [0, 3, 99] RD.out (by omega) (by simp) (by simp) (by omega) (fun i hi => by
  have hx := (heap_alloc_new wa (.cells #[.int .i64 0, .int .i64 3, .int .i64 99] 3))
  have hx := cell_of_row _ _ i _ 3 (0, 0) hx
  rw [hx]
  match i, hi with
  | 0, _ => rfl
  | 1, _ => rfl
  | 2, _ => rfl)).mono ?_
 rintro e wb ⟨v, hv, rfl, qb, qb0, qb1, hr, hgr⟩
 have RD := Lib.hid hr
 have GR := Lib.hid (grownBy_trans GR.out hgr)
 have KZ := Lib.hid (KZ.out.grown hgr (fun e => by injection e with e; omega))
 have OD := Lib.hid (own_same OD.out (fun k hk => hgr.block k (own_block_ge OD.out k hk).2 (fun e => by injection e with e; have := (own_block_ge OD.out k hk).1; omega)))
 have hs := GR.out.size
 have hrl := RD.out.lt
 clear hr hgr hb0 hv
 have hb0 : Below wb.heap.size wb (wb.alloc (.cells #[.slice D1 D.length d, .slice none 0 0, .int .i64 v] 33)) := (Below.refl _ _).alloc (Nat.le_refl _) _
 have LI : Hid (LaI w R A n c wb.heap.size (.slice D1 D.length d) (.slice none 0 0) (.int .i64 v) D1 d D none 0 [] qb (wb.alloc (.cells #[.slice D1 D.length d, .slice none 0 0, .int .i64 v] 33))) := ⟨Three.new wb, ⟨own_below OD.out hb0, World.ownsRow_nil _ _ _ _, fun x hx e => by cases e⟩, Three.below KZ.out hb0 KZ.out.lt, RD.out.below hb0, grownBy_trans GR.out (Below.grownBy hb0 (some R))⟩
 have HX : w.heap.size < wb.heap.size := KZ.out.lt
 clear RD GR KZ OD hb0 hs
 go_upto_region 2 with (fail)
 obtain ⟨x, hx⟩ : ∃ X, X = wb.heap.size := ⟨_, rfl⟩
 obtain ⟨wc, hwc⟩ : ∃ X, X = wb.alloc (.cells #[.slice D1 D.length d, .slice none 0 0, .int .i64 v] 33) := ⟨_, rfl⟩
 rw [← hwc, ← hx] at LI
 rw [← hwc, ← hx]
 rw [← hx] at HX
 clear hwc hx hrl
 go_wp2_with (fail)
 refine (pickR 5 LI.out.rd (by omega) (by omega) (by omega)).mono ?_
 rintro e wd ⟨m, m0, m1, rfl, qc, qc0, qc1, hr, hgr⟩
 have LI := Lib.hid (LI.out.draw hRlt HX hr hgr)
 clear hr hgr
 obtain ⟨m, rfl⟩ : ∃ M : Nat, m = (M : Int) := ⟨m.toNat, by omega⟩
 go_wp2
 go_loopw [4] (fun i wr => ∃ (k : Nat) (q : Int) (T1 : Option Addr) (t : Nat) (T : List Rq), i = .int .i64 (k : Int) ∧ T.length + k ≤ 4 ∧ p ≤ q ∧ q + 5 * (k : Int) ≤ p + 310 ∧ Hid (LaI w R A n c x (.slice D1 D.length d) (.slice T1 T.length t) (.int .i64 v) D1 d D T1 t T q wr)) (fun i _ => (intOf i).toNat)
 case atStart => exact ⟨m, qc, none, 0, [], rfl, by simp; omega, by omega, by omega, LI.out⟩
 case round =>
  clear LI
  obtain ⟨k0, q, T1, t, T, rfl, hTk, hq0, hq1, LI⟩ := hrel
  rcases k0 with _ | k
  · go_wp2_with (fail)
    refine (pickR 14 LI.out.rd (by omega) (by omega) (by omega)).mono ?_
    rintro e we ⟨g, g0, g1, rfl, qe, qe0, qe1, hr, hgr⟩
    have LI := Lib.hid (LI.out.draw hRlt HX hr hgr)
    clear hr hgr
    by_cases h0 : g = 0
    · subst h0
      have LI := Lib.hid (LI.out.below ((Below.refl we.heap.size we).alloc (Nat.le_refl _) (.cells #[.int .i64 (-1), .int .i64 100] 3)))
      have hle := LI.out.box.lt
      have hwe : R < we.heap.size := Nat.lt_of_lt_of_le hRlt (Nat.le_of_lt (Nat.lt_of_lt_of_le HX (by simp at hle; omega)))
      go_wp2_with (fail)
      refine (oneR we.heap.size [-1, 100] LI.out.rd (by omega) (by simp) (by simp) (by omega) (lit_cellsL we 3 [-1, 100])).mono ?_
      rintro e wf ⟨s, rfl, qf, qf0, qf1, hr, hgr⟩
      have LI := Lib.hid (LI.out.draw hRlt HX hr hgr)
      clear hr hgr hle
      obtain ⟨p0, p1, p2⟩ := LI.out.box.cells
      have pf := LI.out.box.frozen
      go_upto_region 11 with (fail)
      clear p0 p1 p2 pf
      have LI := Lib.hid (LI.out.store2 HOld.out hRlt HX (.int .i64 s))
      obtain ⟨w9, hw9⟩ : ∃ X, X = wf.setCell ⟨x, 2, none⟩ (.int .i64 s) := ⟨_, rfl⟩
      rw [← hw9] at LI ⊢
      clear hw9
      obtain ⟨p0, p1, p2⟩ := LI.out.box.cells
      obtain ⟨z0, z1, z2⟩ := LI.out.res.cells
      have zf := LI.out.res.frozen
      have OG := Lib.hid (LI.out.ret (.slice D1 D.length d) (.slice T1 T.length t) (.int .i64 s))
      have DR := Lib.hid (back3 (K := 400) (p := p) (q := qf) (.slice D1 D.length d) (.slice T1 T.length t) (.int .i64 s) (by omega) (by omega) LI.out.rd LI.out.gr HOld.out hRlt)
      clear LI
      go_wp2
      refine bodyPost_ret (v := aheadV D1 D.length d T1 T.length t s) (by simp [results, Try.results57, go_sem, z0, z1, z2]) rfl ⟨D1, d, T1, t, D, T, s, rfl, hD, by omega, OG.out, DR.out⟩
    have e0 : (g == 0) = false := by simpa using h0
    by_cases h1 : g = 1
    · subst h1
      clear e0 h0
      go_wp2_with (fail)
      refine wp_region_held_drew (S := fun _ => True) (by kernel_rfl) trivial (fun hHeld => ?_)
      have LI := Lib.hid (LI.out.below (Below.refl _ _).drew)
      obtain ⟨w0, hw0⟩ : ∃ X, X = we.drew := ⟨_, rfl⟩
      rw [← hw0] at LI ⊢
      clear hw0
      refine tkI 0 34 (v := ?_) rfl rfl ?_ ?_
      rotate_left
      · intro w1 hSw; go_simp; (try with_reducible rfl)
      (try simp only [Act.put, pu1, pu2, pu3])
      refine tkI 2 36 (v := ?_) rfl rfl ?_ ?_
      rotate_left
      · intro w1 hSw; go_simp; (try with_reducible rfl)
      (try simp only [Act.put, pu1, pu2, pu3])
      refine wpAnyH_ready (rs := [1, 3]) (by kernel_rfl) (by simp) ?_
      refine AllReadyH.cons rfl (fun KK hK => ?_) (AllReadyH.cons rfl (fun KK hK => ?_) AllReadyH.nil)
      · have p1 := LI.out.box.cells.2.1
        go_simp
        refine hK.out _ _ trivial (fun _ => ?_)
        clear hK KK
        (try simp only [Act.put, pu1, pu2, pu3])
        clear p1
        refine wpAnyH_ready (rs := [3]) (by kernel_rfl) (by simp) ?_
        refine AllReadyH.cons rfl (fun KK hK => ?_) AllReadyH.nil
        · go_simp
          refine (l20AnyReq LI.out.rd (by omega)).mono ?_
          rintro e w1 ⟨rc, rn, ro, rx, ry, rfl, qa, qa0, qa1, hr, hgr⟩
          have LI := Lib.hid (LI.out.draw hRlt HX hr hgr)
          clear hr hgr
          refine hK.out _ _ trivial (fun _ => ?_)
          clear hK KK
          (try simp only [Act.put, pu1, pu2, pu3])
          refine wpAnyH_ready (rs := [4]) (by kernel_rfl) (by simp) ?_
          refine AllReadyH.cons rfl (fun KK hK => ?_) AllReadyH.nil
          · go_simp
            have LI := Lib.hid (LI.out.below ((Below.refl w1.heap.size w1).alloc (Nat.le_refl _) (.cells #[.int .i64 rc, .int .i64 rn, .int .i64 ro, .int .i64 rx, .int .i64 ry] 49)))
            refine hK.out _ _ trivial (fun _ => ?_)
            clear hK KK
            (try simp only [Act.put, pu1, pu2, pu3])
            refine wpAnyH_ready (rs := [5]) (by kernel_rfl) (by simp) ?_
            refine AllReadyH.cons rfl (fun KK hK => ?_) AllReadyH.nil
            have hsz := LI.out.gr.size
            refine step_app (k := 5) (f := Rq.cells) (fun _ => rfl) (by rfl) _ _ 31 (by rfl) w.heap.size 49 I (.agg #[.int .i64 0, .int .i64 0, .int .i64 0, .int .i64 0, .int .i64 0]) 40 Try.underlying31 I1.out I2.out I3.out I4.out (by rfl) (by omega) (.slice T1 T.length t) T.length (T.flatMap Rq.cells) (by rfl) LI.out.own.t (some ⟨w1.heap.size, 0, none⟩) 1 1 [⟨rc, rn, ro, rx, ry⟩] rfl (by rfl) (rq_oneH w1 49 ⟨rc, rn, ro, rx, ry⟩) (fun h => by cases h) (reqs_oneH _) (by unfold maxLen; omega) (by omega) hsz ?_
            intro v' w2 ho hg hp
            obtain ⟨T2, t2, rfl, LJ⟩ := LI.out.app HOld.out hRlt ho hg hp
            have LI := Lib.hid LJ
            have HLT := Lib.hid (show (T ++ [(⟨rc, rn, ro, rx, ry⟩ : Rq)]).length = T.length + 1 by simp)
            clear ho hg hp LJ hsz
            obtain ⟨T3, hT3⟩ : ∃ X, X = T ++ [(⟨rc, rn, ro, rx, ry⟩ : Rq)] := ⟨_, rfl⟩
            rw [← hT3] at LI HLT ⊢
            clear hT3
            refine hK.out _ _ trivial (fun _ => ?_)
            clear hK KK
            (try simp only [Act.put, pu1, pu2, pu3])
            refine tkI 6 40 (v := ?_) rfl rfl ?_ ?_
            rotate_left
            · intro w1 hSw; go_simp; (try with_reducible rfl)
            (try simp only [Act.put, pu1, pu2, pu3])
            refine wpAnyH_ready (rs := [7]) (by kernel_rfl) (by simp) ?_
            refine AllReadyH.cons rfl (fun KK hK => ?_) AllReadyH.nil
            have p1 := LI.out.box.cells.2.1
            have pf := LI.out.box.frozen
            go_simp
            refine hK.out _ _ trivial (fun _ => ?_)
            clear hK KK
            (try simp only [Act.put, pu1, pu2, pu3])
            clear p1 pf
            refine wpAnyH_done (by kernel_rfl) ?_ _
            have LI := Lib.hid (LI.out.store1 HOld.out hRlt HX (.slice T2 T3.length t2))
            obtain ⟨w9, hw9⟩ : ∃ X, X = w2.setCell ⟨x, 1, none⟩ (.slice T2 T3.length t2) := ⟨_, rfl⟩
            rw [← hw9] at LI ⊢
            clear hw9
            have hl3 : T3.length ≤ T.length + 1 := by have := HLT.out; omega
            clear HLT
            obtain ⟨p0, p1, p2⟩ := LI.out.box.cells
            obtain ⟨z0, z1, z2⟩ := LI.out.res.cells
            have zf := LI.out.res.frozen
            have OG := Lib.hid (LI.out.ret (.slice D1 D.length d) (.slice T2 T3.length t2) (.int .i64 v))
            have DR := Lib.hid (back3 (K := 400) (p := p) (q := qa) (.slice D1 D.length d) (.slice T2 T3.length t2) (.int .i64 v) (by omega) (by omega) LI.out.rd LI.out.gr HOld.out hRlt)
            clear LI
            go_wp2
            refine bodyPost_ret (v := aheadV D1 D.length d T2 T3.length t2 v) (by simp [results, Try.results57, go_sem, z0, z1, z2]) rfl ⟨D1, d, T2, t2, D, T3, v, rfl, hD, by omega, OG.out, DR.out⟩
      · go_simp
        refine (l20AnyReq LI.out.rd (by omega)).mono ?_
        rintro e w1 ⟨rc, rn, ro, rx, ry, rfl, qa, qa0, qa1, hr, hgr⟩
        have LI := Lib.hid (LI.out.draw hRlt HX hr hgr)
        clear hr hgr
        refine hK.out _ _ trivial (fun _ => ?_)
        clear hK KK
        (try simp only [Act.put, pu1, pu2, pu3])
        refine wpAnyH_ready (rs := [1, 4]) (by kernel_rfl) (by simp) ?_
        refine AllReadyH.cons rfl (fun KK hK => ?_) (AllReadyH.cons rfl (fun KK hK => ?_) AllReadyH.nil)
        · have p1 := LI.out.box.cells.2.1
          go_simp
          refine hK.out _ _ trivial (fun _ => ?_)
          clear hK KK
          (try simp only [Act.put, pu1, pu2, pu3])
          clear p1
          refine wpAnyH_ready (rs := [4]) (by kernel_rfl) (by simp) ?_
          refine AllReadyH.cons rfl (fun KK hK => ?_) AllReadyH.nil
          · go_simp
            have LI := Lib.hid (LI.out.below ((Below.refl w1.heap.size w1).alloc (Nat.le_refl _) (.cells #[.int .i64 rc, .int .i64 rn, .int .i64 ro, .int .i64 rx, .int .i64 ry] 49)))
            refine hK.out _ _ trivial (fun _ => ?_)
            clear hK KK
            (try simp only [Act.put, pu1, pu2, pu3])
            refine wpAnyH_ready (rs := [5]) (by kernel_rfl) (by simp) ?_
            refine AllReadyH.cons rfl (fun KK hK => ?_) AllReadyH.nil
            have hsz := LI.out.gr.size
            refine step_app (k := 5) (f := Rq.cells) (fun _ => rfl) (by rfl) _ _ 31 (by rfl) w.heap.size 49 I (.agg #[.int .i64 0, .int .i64 0, .int .i64 0, .int .i64 0, .int .i64 0]) 40 Try.underlying31 I1.out I2.out I3.out I4.out (by rfl) (by omega) (.slice T1 T.length t) T.length (T.flatMap Rq.cells) (by rfl) LI.out.own.t (some ⟨w1.heap.size, 0, none⟩) 1 1 [⟨rc, rn, ro, rx, ry⟩] rfl (by rfl) (rq_oneH w1 49 ⟨rc, rn, ro, rx, ry⟩) (fun h => by cases h) (reqs_oneH _) (by unfold maxLen; omega) (by omega) hsz ?_
            intro v' w2 ho hg hp
            obtain ⟨T2, t2, rfl, LJ⟩ := LI.out.app HOld.out hRlt ho hg hp
            have LI := Lib.hid LJ
            have HLT := Lib.hid (show (T ++ [(⟨rc, rn, ro, rx, ry⟩ : Rq)]).length = T.length + 1 by simp)
            clear ho hg hp LJ hsz
            obtain ⟨T3, hT3⟩ : ∃ X, X = T ++ [(⟨rc, rn, ro, rx, ry⟩ : Rq)] := ⟨_, rfl⟩
            rw [← hT3] at LI HLT ⊢
            clear hT3
            refine hK.out _ _ trivial (fun _ => ?_)
            clear hK KK
            (try simp only [Act.put, pu1, pu2, pu3])
            refine tkI 6 40 (v := ?_) rfl rfl ?_ ?_
            rotate_left
            · intro w1 hSw; go_simp; (try with_reducible rfl)
            (try simp only [Act.put, pu1, pu2, pu3])
            refine wpAnyH_ready (rs := [7]) (by kernel_rfl) (by simp) ?_
            refine AllReadyH.cons rfl (fun KK hK => ?_) AllReadyH.nil
            have p1 := LI.out.box.cells.2.1
            have pf := LI.out.box.frozen
            go_simp
            refine hK.out _ _ trivial (fun _ => ?_)
            clear hK KK
            (try simp only [Act.put, pu1, pu2, pu3])
            clear p1 pf
            refine wpAnyH_done (by kernel_rfl) ?_ _
            have LI := Lib.hid (LI.out.store1 HOld.out hRlt HX (.slice T2 T3.length t2))
            obtain ⟨w9, hw9⟩ : ∃ X, X = w2.setCell ⟨x, 1, none⟩ (.slice T2 T3.length t2) := ⟨_, rfl⟩
            rw [← hw9] at LI ⊢
            clear hw9
            have hl3 : T3.length ≤ T.length + 1 := by have := HLT.out; omega
            clear HLT
            obtain ⟨p0, p1, p2⟩ := LI.out.box.cells
            obtain ⟨z0, z1, z2⟩ := LI.out.res.cells
            have zf := LI.out.res.frozen
            have OG := Lib.hid (LI.out.ret (.slice D1 D.length d) (.slice T2 T3.length t2) (.int .i64 v))
            have DR := Lib.hid (back3 (K := 400) (p := p) (q := qa) (.slice D1 D.length d) (.slice T2 T3.length t2) (.int .i64 v) (by omega) (by omega) LI.out.rd LI.out.gr HOld.out hRlt)
            clear LI
            go_wp2
            refine bodyPost_ret (v := aheadV D1 D.length d T2 T3.length t2 v) (by simp [results, Try.results57, go_sem, z0, z1, z2]) rfl ⟨D1, d, T2, t2, D, T3, v, rfl, hD, by omega, OG.out, DR.out⟩
        · go_simp
          have LI := Lib.hid (LI.out.below ((Below.refl w1.heap.size w1).alloc (Nat.le_refl _) (.cells #[.int .i64 rc, .int .i64 rn, .int .i64 ro, .int .i64 rx, .int .i64 ry] 49)))
          refine hK.out _ _ trivial (fun _ => ?_)
          clear hK KK
          (try simp only [Act.put, pu1, pu2, pu3])
          refine wpAnyH_ready (rs := [1]) (by kernel_rfl) (by simp) ?_
          refine AllReadyH.cons rfl (fun KK hK => ?_) AllReadyH.nil
          · have p1 := LI.out.box.cells.2.1
            go_simp
            refine hK.out _ _ trivial (fun _ => ?_)
            clear hK KK
            (try simp only [Act.put, pu1, pu2, pu3])
            clear p1
            refine wpAnyH_ready (rs := [5]) (by kernel_rfl) (by simp) ?_
            refine AllReadyH.cons rfl (fun KK hK => ?_) AllReadyH.nil
            have hsz := LI.out.gr.size
            refine step_app (k := 5) (f := Rq.cells) (fun _ => rfl) (by rfl) _ _ 31 (by rfl) w.heap.size 49 I (.agg #[.int .i64 0, .int .i64 0, .int .i64 0, .int .i64 0, .int .i64 0]) 40 Try.underlying31 I1.out I2.out I3.out I4.out (by rfl) (by omega) (.slice T1 T.length t) T.length (T.flatMap Rq.cells) (by rfl) LI.out.own.t (some ⟨w1.heap.size, 0, none⟩) 1 1 [⟨rc, rn, ro, rx, ry⟩] rfl (by rfl) (rq_oneH w1 49 ⟨rc, rn, ro, rx, ry⟩) (fun h => by cases h) (reqs_oneH _) (by unfold maxLen; omega) (by omega) hsz ?_
            intro v' w2 ho hg hp
            obtain ⟨T2, t2, rfl, LJ⟩ := LI.out.app HOld.out hRlt ho hg hp
            have LI := Lib.hid LJ
            have HLT := Lib.hid (show (T ++ [(⟨rc, rn, ro, rx, ry⟩ : Rq)]).length = T.length + 1 by simp)
            clear ho hg hp LJ hsz
            obtain ⟨T3, hT3⟩ : ∃ X, X = T ++ [(⟨rc, rn, ro, rx, ry⟩ : Rq)] := ⟨_, rfl⟩
            rw [← hT3] at LI HLT ⊢
            clear hT3
            refine hK.out _ _ trivial (fun _ => ?_)
            clear hK KK
            (try simp only [Act.put, pu1, pu2, pu3])
            refine tkI 6 40 (v := ?_) rfl rfl ?_ ?_
            rotate_left
            · intro w1 hSw; go_simp; (try with_reducible rfl)
            (try simp only [Act.put, pu1, pu2, pu3])
            refine wpAnyH_ready (rs := [7]) (by kernel_rfl) (by simp) ?_
            refine AllReadyH.cons rfl (fun KK hK => ?_) AllReadyH.nil
            have p1 := LI.out.box.cells.2.1
            have pf := LI.out.box.frozen
            go_simp
            refine hK.out _ _ trivial (fun _ => ?_)
            clear hK KK
            (try simp only [Act.put, pu1, pu2, pu3])
            clear p1 pf
            refine wpAnyH_done (by kernel_rfl) ?_ _
            have LI := Lib.hid (LI.out.store1 HOld.out hRlt HX (.slice T2 T3.length t2))
            obtain ⟨w9, hw9⟩ : ∃ X, X = w2.setCell ⟨x, 1, none⟩ (.slice T2 T3.length t2) := ⟨_, rfl⟩
            rw [← hw9] at LI ⊢
            clear hw9
            have hl3 : T3.length ≤ T.length + 1 := by have := HLT.out; omega
            clear HLT
            obtain ⟨p0, p1, p2⟩ := LI.out.box.cells
            obtain ⟨z0, z1, z2⟩ := LI.out.res.cells
            have zf := LI.out.res.frozen
            have OG := Lib.hid (LI.out.ret (.slice D1 D.length d) (.slice T2 T3.length t2) (.int .i64 v))
            have DR := Lib.hid (back3 (K := 400) (p := p) (q := qa) (.slice D1 D.length d) (.slice T2 T3.length t2) (.int .i64 v) (by omega) (by omega) LI.out.rd LI.out.gr HOld.out hRlt)
            clear LI
            go_wp2
            refine bodyPost_ret (v := aheadV D1 D.length d T2 T3.length t2 v) (by simp [results, Try.results57, go_sem, z0, z1, z2]) rfl ⟨D1, d, T2, t2, D, T3, v, rfl, hD, by omega, OG.out, DR.out⟩
    have e1 : (g == 1) = false := by simpa using h1
    clear h0 h1
    obtain ⟨p0, p1, p2⟩ := LI.out.box.cells
    obtain ⟨z0, z1, z2⟩ := LI.out.res.cells
    have zf := LI.out.res.frozen
    have OG := Lib.hid (LI.out.ret (.slice D1 D.length d) (.slice T1 T.length t) (.int .i64 v))
    have DR := Lib.hid (back3 (K := 400) (p := p) (q := qe) (.slice D1 D.length d) (.slice T1 T.length t) (.int .i64 v) (by omega) (by omega) LI.out.rd LI.out.gr HOld.out hRlt)
    clear LI
    go_wp2
    refine bodyPost_ret (v := aheadV D1 D.length d T1 T.length t v) (by simp [results, Try.results57, go_sem, z0, z1, z2]) rfl ⟨D1, d, T1, t, D, T, v, rfl, hD, by omega, OG.out, DR.out⟩
  · have i0 : decide ((0 : Int) < ((k + 1 : Nat) : Int)) = true := decide_eq_true (by omega)
    go_wp2_with (fail)
    refine wp_region_held_drew (S := fun _ => True) (by kernel_rfl) trivial (fun hHeld => ?_)
    have LI := Lib.hid (LI.out.below (Below.refl _ _).drew)
    obtain ⟨w0, hw0⟩ : ∃ X, X = wr.drew := ⟨_, rfl⟩
    rw [← hw0] at LI ⊢
    clear hw0
    refine tkI 0 17 (v := ?_) rfl rfl ?_ ?_
    rotate_left
    · intro w1 hSw; go_simp; (try with_reducible rfl)
    (try simp only [Act.put, pu1, pu2, pu3])
    refine tkI 2 19 (v := ?_) rfl rfl ?_ ?_
    rotate_left
    · intro w1 hSw; go_simp; (try with_reducible rfl)
    (try simp only [Act.put, pu1, pu2, pu3])
    refine wpAnyH_ready (rs := [1, 3]) (by kernel_rfl) (by simp) ?_
    refine AllReadyH.cons rfl (fun KK hK => ?_) (AllReadyH.cons rfl (fun KK hK => ?_) AllReadyH.nil)
    · have p1 := LI.out.box.cells.2.1
      go_simp
      refine hK.out _ _ trivial (fun _ => ?_)
      clear hK KK
      (try simp only [Act.put, pu1, pu2, pu3])
      clear p1
      refine wpAnyH_ready (rs := [3]) (by kernel_rfl) (by simp) ?_
      refine AllReadyH.cons rfl (fun KK hK => ?_) AllReadyH.nil
      · go_simp
        refine (l20ReqK LI.out.rd (by omega)).mono ?_
        rintro e w1 ⟨rc, rn, ro, rx, ry, rfl, _, qa, qa0, qa1, hr, hgr⟩
        have LI := Lib.hid (LI.out.draw hRlt HX hr hgr)
        clear hr hgr
        refine hK.out _ _ trivial (fun _ => ?_)
        clear hK KK
        (try simp only [Act.put, pu1, pu2, pu3])
        refine wpAnyH_ready (rs := [4]) (by kernel_rfl) (by simp) ?_
        refine AllReadyH.cons rfl (fun KK hK => ?_) AllReadyH.nil
        · go_simp
          have LI := Lib.hid (LI.out.below ((Below.refl w1.heap.size w1).alloc (Nat.le_refl _) (.cells #[.int .i64 rc, .int .i64 rn, .int .i64 ro, .int .i64 rx, .int .i64 ry] 49)))
          refine hK.out _ _ trivial (fun _ => ?_)
          clear hK KK
          (try simp only [Act.put, pu1, pu2, pu3])
          refine wpAnyH_ready (rs := [5]) (by kernel_rfl) (by simp) ?_
          refine AllReadyH.cons rfl (fun KK hK => ?_) AllReadyH.nil
          have hsz := LI.out.gr.size
          refine step_app (k := 5) (f := Rq.cells) (fun _ => rfl) (by rfl) _ _ 31 (by rfl) w.heap.size 49 I (.agg #[.int .i64 0, .int .i64 0, .int .i64 0, .int .i64 0, .int .i64 0]) 40 Try.underlying31 I1.out I2.out I3.out I4.out (by rfl) (by omega) (.slice T1 T.length t) T.length (T.flatMap Rq.cells) (by rfl) LI.out.own.t (some ⟨w1.heap.size, 0, none⟩) 1 1 [⟨rc, rn, ro, rx, ry⟩] rfl (by rfl) (rq_oneH w1 49 ⟨rc, rn, ro, rx, ry⟩) (fun h => by cases h) (reqs_oneH _) (by unfold maxLen; omega) (by omega) hsz ?_
          intro v' w2 ho hg hp
          obtain ⟨T2, t2, rfl, LJ⟩ := LI.out.app HOld.out hRlt ho hg hp
          have LI := Lib.hid LJ
          have HLT := Lib.hid (show (T ++ [(⟨rc, rn, ro, rx, ry⟩ : Rq)]).length = T.length + 1 by simp)
          clear ho hg hp LJ hsz
          obtain ⟨T3, hT3⟩ : ∃ X, X = T ++ [(⟨rc, rn, ro, rx, ry⟩ : Rq)] := ⟨_, rfl⟩
          rw [← hT3] at LI HLT ⊢
          clear hT3
          refine hK.out _ _ trivial (fun _ => ?_)
          clear hK KK
          (try simp only [Act.put, pu1, pu2, pu3])
          refine tkI 6 23 (v := ?_) rfl rfl ?_ ?_
          rotate_left
          · intro w1 hSw; go_simp; (try with_reducible rfl)
          (try simp only [Act.put, pu1, pu2, pu3])
          refine wpAnyH_ready (rs := [7]) (by kernel_rfl) (by simp) ?_
          refine AllReadyH.cons rfl (fun KK hK => ?_) AllReadyH.nil
          have p1 := LI.out.box.cells.2.1
          have pf := LI.out.box.frozen
          go_simp
          refine hK.out _ _ trivial (fun _ => ?_)
          clear hK KK
          (try simp only [Act.put, pu1, pu2, pu3])
          clear p1 pf
          refine wpAnyH_done (by kernel_rfl) ?_ _
          have LI := Lib.hid (LI.out.store1 HOld.out hRlt HX (.slice T2 T3.length t2))
          obtain ⟨w9, hw9⟩ : ∃ X, X = w2.setCell ⟨x, 1, none⟩ (.slice T2 T3.length t2) := ⟨_, rfl⟩
          rw [← hw9] at LI ⊢
          clear hw9
          have hl3 : T3.length ≤ T.length + 1 := by have := HLT.out; omega
          clear HLT i0
          go_wp2
          go_roundw
          case rel => exact ⟨k, qa, T2, t2, T3, rfl, by omega, by omega, by omega, LI.out⟩
          case measure => (simp [intOf]; try omega)
    · go_simp
      refine (l20ReqK LI.out.rd (by omega)).mono ?_
      rintro e w1 ⟨rc, rn, ro, rx, ry, rfl, _, qa, qa0, qa1, hr, hgr⟩
      have LI := Lib.hid (LI.out.draw hRlt HX hr hgr)
      clear hr hgr
      refine hK.out _ _ trivial (fun _ => ?_)
      clear hK KK
      (try simp only [Act.put, pu1, pu2, pu3])
      refine wpAnyH_ready (rs := [1, 4]) (by kernel_rfl) (by simp) ?_
      refine AllReadyH.cons rfl (fun KK hK => ?_) (AllReadyH.cons rfl (fun KK hK => ?_) AllReadyH.nil)
      · have p1 := LI.out.box.cells.2.1
        go_simp
        refine hK.out _ _ trivial (fun _ => ?_)
        clear hK KK
        (try simp only [Act.put, pu1, pu2, pu3])
        clear p1
        refine wpAnyH_ready (rs := [4]) (by kernel_rfl) (by simp) ?_
        refine AllReadyH.cons rfl (fun KK hK => ?_) AllReadyH.nil
        · go_simp
          have LI := Lib.hid (LI.out.below ((Below.refl w1.heap.size w1).alloc (Nat.le_refl _) (.cells #[.int .i64 rc, .int .i64 rn, .int .i64 ro, .int .i64 rx, .int .i64 ry] 49)))
          refine hK.out _ _ trivial (fun _ => ?_)
          clear hK KK
          (try simp only [Act.put, pu1, pu2, pu3])
          refine wpAnyH_ready (rs := [5]) (by kernel_rfl) (by simp) ?_
          refine AllReadyH.cons rfl (fun KK hK => ?_) AllReadyH.nil
          have hsz := LI.out.gr.size
          refine step_app (k := 5) (f := Rq.cells) (fun _ => rfl) (by rfl) _ _ 31 (by rfl) w.heap.size 49 I (.agg #[.int .i64 0, .int .i64 0, .int .i64 0, .int .i64 0, .int .i64 0]) 40 Try.underlying31 I1.out I2.out I3.out I4.out (by rfl) (by omega) (.slice T1 T.length t) T.length (T.flatMap Rq.cells) (by rfl) LI.out.own.t (some ⟨w1.heap.size, 0, none⟩) 1 1 [⟨rc, rn, ro, rx, ry⟩] rfl (by rfl) (rq_oneH w1 49 ⟨rc, rn, ro, rx, ry⟩) (fun h => by cases h) (reqs_oneH _) (by unfold maxLen; omega) (by omega) hsz ?_
          intro v' w2 ho hg hp
          obtain ⟨T2, t2, rfl, LJ⟩ := LI.out.app HOld.out hRlt ho hg hp
          have LI := Lib.hid LJ
          have HLT := Lib.hid (show (T ++ [(⟨rc, rn, ro, rx, ry⟩ : Rq)]).length = T.length + 1 by simp)
          clear ho hg hp LJ hsz
          obtain ⟨T3, hT3⟩ : ∃ X, X = T ++ [(⟨rc, rn, ro, rx, ry⟩ : Rq)] := ⟨_, rfl⟩
          rw [← hT3] at LI HLT ⊢
          clear hT3
          refine hK.out _ _ trivial (fun _ => ?_)
          clear hK KK
          (try simp only [Act.put, pu1, pu2, pu3])
          refine tkI 6 23 (v := ?_) rfl rfl ?_ ?_
          rotate_left
          · intro w1 hSw; go_simp; (try with_reducible rfl)
          (try simp only [Act.put, pu1, pu2, pu3])
          refine wpAnyH_ready (rs := [7]) (by kernel_rfl) (by simp) ?_
          refine AllReadyH.cons rfl (fun KK hK => ?_) AllReadyH.nil
          have p1 := LI.out.box.cells.2.1
          have pf := LI.out.box.frozen
          go_simp
          refine hK.out _ _ trivial (fun _ => ?_)
          clear hK KK
          (try simp only [Act.put, pu1, pu2, pu3])
          clear p1 pf
          refine wpAnyH_done (by kernel_rfl) ?_ _
          have LI := Lib.hid (LI.out.store1 HOld.out hRlt HX (.slice T2 T3.length t2))
          obtain ⟨w9, hw9⟩ : ∃ X, X = w2.setCell ⟨x, 1, none⟩ (.slice T2 T3.length t2) := ⟨_, rfl⟩
          rw [← hw9] at LI ⊢
          clear hw9
          have hl3 : T3.length ≤ T.length + 1 := by have := HLT.out; omega
          clear HLT i0
          go_wp2
          go_roundw
          case rel => exact ⟨k, qa, T2, t2, T3, rfl, by omega, by omega, by omega, LI.out⟩
          case measure => (simp [intOf]; try omega)
      · go_simp
        have LI := Lib.hid (LI.out.below ((Below.refl w1.heap.size w1).alloc (Nat.le_refl _) (.cells #[.int .i64 rc, .int .i64 rn, .int .i64 ro, .int .i64 rx, .int .i64 ry] 49)))
        refine hK.out _ _ trivial (fun _ => ?_)
        clear hK KK
        (try simp only [Act.put, pu1, pu2, pu3])
        refine wpAnyH_ready (rs := [1]) (by kernel_rfl) (by simp) ?_
        refine AllReadyH.cons rfl (fun KK hK => ?_) AllReadyH.nil
        · have p1 := LI.out.box.cells.2.1
          go_simp
          refine hK.out _ _ trivial (fun _ => ?_)
          clear hK KK
          (try simp only [Act.put, pu1, pu2, pu3])
          clear p1
          refine wpAnyH_ready (rs := [5]) (by kernel_rfl) (by simp) ?_
          refine AllReadyH.cons rfl (fun KK hK => ?_) AllReadyH.nil
          have hsz := LI.out.gr.size
          refine step_app (k := 5) (f := Rq.cells) (fun _ => rfl) (by rfl) _ _ 31 (by rfl) w.heap.size 49 I (.agg #[.int .i64 0, .int .i64 0, .int .i64 0, .int .i64 0, .int .i64 0]) 40 Try.underlying31 I1.out I2.out I3.out I4.out (by rfl) (by omega) (.slice T1 T.length t) T.length (T.flatMap Rq.cells) (by rfl) LI.out.own.t (some ⟨w1.heap.size, 0, none⟩) 1 1 [⟨rc, rn, ro, rx, ry⟩] rfl (by rfl) (rq_oneH w1 49 ⟨rc, rn, ro, rx, ry⟩) (fun h => by cases h) (reqs_oneH _) (by unfold maxLen; omega) (by omega) hsz ?_
          intro v' w2 ho hg hp
          obtain ⟨T2, t2, rfl, LJ⟩ := LI.out.app HOld.out hRlt ho hg hp
          have LI := Lib.hid LJ
          have HLT := Lib.hid (show (T ++ [(⟨rc, rn, ro, rx, ry⟩ : Rq)]).length = T.length + 1 by simp)
          clear ho hg hp LJ hsz
          obtain ⟨T3, hT3⟩ : ∃ X, X = T ++ [(⟨rc, rn, ro, rx, ry⟩ : Rq)] := ⟨_, rfl⟩
          rw [← hT3] at LI HLT ⊢
          clear hT3
          refine hK.out _ _ trivial (fun _ => ?_)
          clear hK KK
          (try simp only [Act.put, pu1, pu2, pu3])
          refine tkI 6 23 (v := ?_) rfl rfl ?_ ?_
          rotate_left
          · intro w1 hSw; go_simp; (try with_reducible rfl)
          (try simp only [Act.put, pu1, pu2, pu3])
          refine wpAnyH_ready (rs := [7]) (by kernel_rfl) (by simp) ?_
          refine AllReadyH.cons rfl (fun KK hK => ?_) AllReadyH.nil
          have p1 := LI.out.box.cells.2.1
          have pf := LI.out.box.frozen
          go_simp
          refine hK.out _ _ trivial (fun _ => ?_)
          clear hK KK
          (try simp only [Act.put, pu1, pu2, pu3])
          clear p1 pf
          refine wpAnyH_done (by kernel_rfl) ?_ _
          have LI := Lib.hid (LI.out.store1 HOld.out hRlt HX (.slice T2 T3.length t2))
          obtain ⟨w9, hw9⟩ : ∃ X, X = w2.setCell ⟨x, 1, none⟩ (.slice T2 T3.length t2) := ⟨_, rfl⟩
          rw [← hw9] at LI ⊢
          clear hw9
          have hl3 : T3.length ≤ T.length + 1 := by have := HLT.out; omega
          clear HLT i0
          go_wp2
          go_roundw
          case rel => exact ⟨k, qa, T2, t2, T3, rfl, by omega, by omega, by omega, LI.out⟩
          case measure => (simp [intOf]; try omega)
end Go.Proofs.Ytameldhdegcpoaa
