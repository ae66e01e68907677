import Derived.Test.YtameldhdegcpoaaNF
namespace Go.Proofs.Ytameldhdegcpoaa
open Go.ChangeShapes Go.WideShapes Go.ChangeAt Go.RowKit
set_option linter.unusedVariables false
set_option linter.unusedSimpArgs false
set_option maxRecDepth 100000 in
set_option maxHeartbeats 8000000 in
theorem removeI {w : World} {p lo : Nat} {A : Option Addr} {a : Nat} {B : Option Addr} {b : Nat} {C : Option Addr} {d : Nat} {E : List Fig} {F L : List Int} (h : Bd w p lo A a B b C d E F L) (n : Nat) (hn : n < E.length) (fc fx fy fl fg : Int) (hf : E[n]'hn = ⟨fc, fx, fy, fl, fg⟩) (hE : E.length ≤ 4)
 (b1 : 0 ≤ fx ∧ fx ≤ 3) (b2 : 0 ≤ fy ∧ fy ≤ 3) (b3 : 0 ≤ fg ∧ fg ≤ 20) (hF : F.length = 16) (j : Nat) (v : Int) (hj : (fy * 4 + fx).toNat = j) (hjl : j < F.length) (hv : F[j]'hjl = v) (b4 : 0 ≤ v ∧ v ≤ 20) :
 Calls Try.prog 115 #[.agg #[.pointer (some ⟨p, 0, none⟩), .int .i64 n]] w fun e w' => e = .returned (.tuple #[]) ∧ Bd w' p lo A a B b C d (E.eraseIdx n) (F.set j (v + fg)) L ∧ Below lo w w' := by
 obtain ⟨g, rfl, _, _⟩ := own_some h.e (by omega)
 obtain ⟨q, rfl, _, _⟩ := own_some h.f (by omega)
 have HPL := Lib.hid h.at_.lt
 have HLG := Lib.hid (own_block_ge h.e g rfl)
 have HLQ := Lib.hid (own_block_ge h.f q rfl)
 have BW : Hid (Below w.heap.size w (w.alloc (.cells #[.pointer (some ⟨p, 0, none⟩), .int .i64 n] 111))) := (Below.refl _ _).alloc (Nat.le_refl _) _
 have H := Lib.hid (h.below BW.out)
 have KF : Hid (Bkk (w.alloc (.cells #[.pointer (some ⟨p, 0, none⟩), .int .i64 n] 111)) w.heap.size 111 #[.pointer (some ⟨p, 0, none⟩), .int .i64 n]) := Bkk.new w
 have HFN := Lib.hid hf
 have HV := Lib.hid hv
 have HJ := Lib.hid hj
 have HFL := Lib.hid hF
 have q1 : IntKind.i64.wrap (v + fg) = v + fg := IntWalk.i64_in _ (by omega)
 have GN : Hid (∀ (wz : World) (hz : Bd wz p lo (some ⟨g, 0, none⟩) a (some ⟨q, 0, none⟩) b C d E F L), Calls Try.prog 113 #[.agg #[.pointer (some ⟨p, 0, none⟩), .int .i64 n]] wz fun r w' => r = .returned (.pointer (some ⟨q, j, none⟩)) ∧ Below wz.heap.size wz w') := fun wz hz => by
  obtain ⟨g', hg', a0, a1, a2, a3, a4⟩ := RdF.of_own hz.e n hn
  cases hg'
  rw [HFN.out] at a1 a2
  have := groundAt p n g E.length a q F.length b fx fy wz hz.at_.cells.1 hn hz.at_.cells.2.1 a1 a2 b1 b2 (by have := HFL.out; omega)
  rw [HJ.out] at this
  exact this
 have d1 : ¬ q = w.heap.size := by have := HLQ.out.2; omega
 have d2 : ¬ w.heap.size = q := by omega
 clear h hf hv hj hF
 go_enter Try.func115, Try.ntmps115
 go_wp2_with (fail)
 have SB : Hid (∀ wx : World, Below (w.alloc (.cells #[.pointer (some ⟨p, 0, none⟩), .int .i64 n] 111)).heap.size (w.alloc (.cells #[.pointer (some ⟨p, 0, none⟩), .int .i64 n] 111)) wx → ((fun W => W.cell? ⟨w.heap.size, 0, none⟩ = some (.pointer (some ⟨p, 0, none⟩)) ∧ W.cell? ⟨w.heap.size, 1, none⟩ = some (.int .i64 n))) wx) := fun wx hb => ⟨(KF.out.below hb).cell 0, (KF.out.below hb).cell 1⟩
 have HD : Hid (Below (w.alloc (.cells #[.pointer (some ⟨p, 0, none⟩), .int .i64 n] 111)).heap.size (w.alloc (.cells #[.pointer (some ⟨p, 0, none⟩), .int .i64 n] 111)) (w.alloc (.cells #[.pointer (some ⟨p, 0, none⟩), .int .i64 n] 111)).drew) := (Below.refl _ _).drew
 refine wp_region_held_drew (S := (fun W => W.cell? ⟨w.heap.size, 0, none⟩ = some (.pointer (some ⟨p, 0, none⟩)) ∧ W.cell? ⟨w.heap.size, 1, none⟩ = some (.int .i64 n))) (by kernel_rfl) (SB.out _ HD.out) (fun hS0 => ?_)
 refine tkI 0 2 (v := ?_) rfl rfl ?_ ?_
 rotate_left
 · intro w1 hSw; (try dsimp only at hSw); go_split_ands; go_simp; (try with_reducible rfl)
 (try simp only [Act.put, pu1, pu2, pu3])
 refine tkI 4 6 (v := ?_) rfl rfl ?_ ?_
 rotate_left
 · intro w1 hSw; (try dsimp only at hSw); go_split_ands; go_simp; (try with_reducible rfl)
 (try simp only [Act.put, pu1, pu2, pu3])
 refine wpAnyH_ready (rs := [1]) (by kernel_rfl) (by simp) ?_
 refine (AllReadyH.cons rfl (fun K hK => ?_) AllReadyH.nil)
 go_simp
 refine (GN.out _ (H.out.below HD.out)).mono ?_
 rintro e wa ⟨rfl, hb⟩
 have HA := Lib.hid (Below.and HD.out hb)
 clear hb
 have HH := Lib.hid (H.out.below HA.out)
 obtain ⟨q', hq', xf⟩ := RdI.of_own HH.out.f j hjl
 cases hq'
 rw [HV.out] at xf
 have hS0 := SB.out _ HA.out
 refine hK.out _ _ hS0 (fun hS0 => ?_)
 clear hK K
 (try simp only [Act.put, pu1, pu2, pu3])
 refine tkI 2 4 (v := ?_) rfl rfl ?_ ?_
 rotate_left
 · intro w1 hSw; (try dsimp only at hSw); go_split_ands; go_simp; (try with_reducible rfl)
 (try simp only [Act.put, pu1, pu2, pu3])
 refine wpAnyH_ready (rs := [3, 5]) (by kernel_rfl) (by simp) ?_
 refine (AllReadyH.cons rfl (fun K hK => ?_) (AllReadyH.cons rfl (fun K hK => ?_) AllReadyH.nil))
 · go_simp
   refine hK.out _ _ hS0 (fun hS0 => ?_)
   clear hK K
   (try simp only [Act.put, pu1, pu2, pu3])
   refine wpAnyH_ready (rs := [5]) (by kernel_rfl) (by simp) ?_
   refine (AllReadyH.cons rfl (fun K hK => ?_) AllReadyH.nil)
   go_simp
   refine (entAt p n g E.length a _ HH.out.at_.cells.1 hn).mono ?_
   rintro e wb ⟨rfl, hb⟩
   have HA2 := Lib.hid (Below.and HA.out hb)
   have HH2 := Lib.hid (HH.out.below hb)
   clear hb xf HH
   obtain ⟨q', hq', xf⟩ := RdI.of_own HH2.out.f j hjl
   cases hq'
   rw [HV.out] at xf
   obtain ⟨g', hg', a0, a1, a2, a3, xg⟩ := RdF.of_own HH2.out.e n hn
   cases hg'
   rw [HFN.out] at xg
   simp only at xg
   clear a0 a1 a2 a3
   have lg : g < wb.heap.size := World.block_lt_of_cell? wb _ xg
   have lq : q < wb.heap.size := World.block_lt_of_cell? wb _ xf
   have ff := fun i => HH2.out.f.frozenAt i
   have hS0 := SB.out _ HA2.out
   refine hK.out _ _ hS0 (fun hS0 => ?_)
   clear hK K
   (try simp only [Act.put, pu1, pu2, pu3])
   refine tkI 6 8 (v := ?_) rfl rfl ?_ ?_
   rotate_left
   · intro w1 hSw; (try dsimp only at hSw); go_split_ands; go_simp; (try with_reducible rfl)
   (try simp only [Act.put, pu1, pu2, pu3])
   refine tkI 7 9 (v := ?_) rfl rfl ?_ ?_
   rotate_left
   · intro w1 hSw; (try dsimp only at hSw); go_split_ands; go_simp; (try with_reducible rfl)
   (try simp only [Act.put, pu1, pu2, pu3])
   refine wpAnyH_ready (rs := [8]) (by kernel_rfl) (by simp) ?_
   refine (AllReadyH.cons rfl (fun K hK => ?_) AllReadyH.nil)
   go_simp
   refine hK.out _ _ hS0 (fun hS0 => ?_)
   clear hK K
   (try simp only [Act.put, pu1, pu2, pu3])
   refine tkI 9 11 (v := ?_) rfl rfl ?_ ?_
   rotate_left
   · intro w1 hSw; (try dsimp only at hSw); go_split_ands; go_simp; (try with_reducible rfl)
   (try simp only [Act.put, pu1, pu2, pu3])
   refine tkI 10 12 (v := ?_) rfl rfl ?_ ?_
   rotate_left
   · intro w1 hSw; (try dsimp only at hSw); go_split_ands; go_simp; (try with_reducible rfl)
   (try simp only [Act.put, pu1, pu2, pu3])
   refine wpAnyH_ready (rs := [11]) (by kernel_rfl) (by simp) ?_
   refine (AllReadyH.cons rfl (fun K hK => ?_) AllReadyH.nil)
   go_simp
   refine hK.out _ _ ?st (fun hS1 => ?_)
   case st => exact ⟨by go_simp, by go_simp⟩
   clear hK K
   (try simp only [Act.put, pu1, pu2, pu3])
   refine wpAnyH_done (by kernel_rfl) ?_ _
   have S1 := Lib.hid (HH2.out.setF j hjl (v + fg))
   have LO := Lib.hid (show lo ≤ w.heap.size by have := HLG.out; omega)
   have B1 : Hid (Below lo w (wb.setCell ⟨q, j, none⟩ (.int .i64 (v + fg)))) := Below.setCell ((Below.and BW.out HA2.out).mono LO.out) HLQ.out.1 _
   have K1 := Lib.hid ((KF.out.below HA2.out).far d2 j (.int .i64 (v + fg)))
   obtain ⟨W1, hW⟩ : ∃ X, X = (wb.setCell ⟨q, j, none⟩ (.int .i64 (v + fg))) := ⟨_, rfl⟩
   rw [← hW] at S1 B1 K1 ⊢
   clear hW xf xg lg lq ff hS0 hS1 SB HD HA HA2 HH2 H KF GN
   have x0 : W1.cell? ⟨w.heap.size, 0, none⟩ = some (.pointer (some ⟨p, 0, none⟩)) := K1.out.cell 0
   have x1 : W1.cell? ⟨w.heap.size, 1, none⟩ = some (.int .i64 n) := K1.out.cell 1
   have y0 : W1.cell? ⟨p, 0, none⟩ = some (.slice (some ⟨g, 0, none⟩) E.length a) := S1.out.at_.cells.1
   have hpw : ¬ p = w.heap.size := by have := HPL.out; omega
   have hwp : ¬ w.heap.size = p := by omega
   have q2 : IntKind.i64.wrap ((n : Int) + 1) = (n : Int) + 1 := IntWalk.i64_in _ (by omega)
   go_wp2_with (fail)
   refine wp_region_held_drew (S := (fun W => W.cell? ⟨w.heap.size, 0, none⟩ = some (.pointer (some ⟨p, 0, none⟩)) ∧ W.cell? ⟨w.heap.size, 1, none⟩ = some (.int .i64 n))) (by kernel_rfl) ⟨x0, x1⟩ (fun hS0 => ?_)
   refine tkI 0 13 (v := ?_) rfl rfl ?_ ?_
   rotate_left
   · intro w1 hSw; (try dsimp only at hSw); go_split_ands; go_simp; (try with_reducible rfl)
   (try simp only [Act.put, pu1, pu2, pu3])
   refine tkI 1 14 (v := ?_) rfl rfl ?_ ?_
   rotate_left
   · intro w1 hSw; (try dsimp only at hSw); go_split_ands; go_simp; (try with_reducible rfl)
   (try simp only [Act.put, pu1, pu2, pu3])
   refine tkI 2 15 (v := ?_) rfl rfl ?_ ?_
   rotate_left
   · intro w1 hSw; (try dsimp only at hSw); go_split_ands; go_simp; (try with_reducible rfl)
   (try simp only [Act.put, pu1, pu2, pu3])
   refine tkI 3 16 (v := ?_) rfl rfl ?_ ?_
   rotate_left
   · intro w1 hSw; (try dsimp only at hSw); go_split_ands; go_simp; (try with_reducible rfl)
   (try simp only [Act.put, pu1, pu2, pu3])
   refine tkI 4 17 (v := ?_) rfl rfl ?_ ?_
   rotate_left
   · intro w1 hSw; (try dsimp only at hSw); go_split_ands; go_simp; (try with_reducible rfl)
   (try simp only [Act.put, pu1, pu2, pu3])
   refine tkI 5 18 (v := ?_) rfl rfl ?_ ?_
   rotate_left
   · intro w1 hSw; (try dsimp only at hSw); go_split_ands; go_simp; (try with_reducible rfl)
   (try simp only [Act.put, pu1, pu2, pu3])
   refine tkI 7 20 (v := ?_) rfl rfl ?_ ?_
   rotate_left
   · intro w1 hSw; (try dsimp only at hSw); go_split_ands; go_simp; (try with_reducible rfl)
   (try simp only [Act.put, pu1, pu2, pu3])
   refine tkI 8 21 (v := ?_) rfl rfl ?_ ?_
   rotate_left
   · intro w1 hSw; (try dsimp only at hSw); go_split_ands; go_simp; (try with_reducible rfl)
   (try simp only [Act.put, pu1, pu2, pu3])
   refine tkI 9 22 (v := ?_) rfl rfl ?_ ?_
   rotate_left
   · intro w1 hSw; (try dsimp only at hSw); go_split_ands; go_simp; (try with_reducible rfl)
   (try simp only [Act.put, pu1, pu2, pu3])
   refine tkI 10 23 (v := ?_) rfl rfl ?_ ?_
   rotate_left
   · intro w1 hSw; (try dsimp only at hSw); go_split_ands; go_simp; (try with_reducible rfl)
   (try simp only [Act.put, pu1, pu2, pu3])
   refine tkI 11 24 (v := ?_) rfl rfl ?_ ?_
   rotate_left
   · intro w1 hSw; (try dsimp only at hSw); go_split_ands; go_simp; (try with_reducible rfl)
   (try simp only [Act.put, pu1, pu2, pu3])
   refine wpAnyH_ready (rs := [6]) (by kernel_rfl) (by simp) ?_
   refine (AllReadyH.cons rfl (fun K hK => ?_) AllReadyH.nil)
   go_simp
   refine hK.out _ _ hS0 (fun hS0 => ?_)
   clear hK K
   (try simp only [Act.put, pu1, pu2, pu3])
   refine wpAnyH_ready (rs := [12]) (by kernel_rfl) (by simp) ?_
   refine (AllReadyH.cons rfl (fun K hK => ?_) AllReadyH.nil)
   go_simp
   refine (delEnt n hn hE (show W1.drew.ownsRow _ _ _ _ _ _ from S1.out.e)).mono ?_
   rintro e w2 ⟨rfl, hoe, hgr⟩
   have HOE := Lib.hid hoe
   have HGR := Lib.hid hgr
   have DG := Lib.hid (show ¬ w.heap.size = g by have := HLG.out; omega)
   have K2 : Hid (Bkk w2 w.heap.size 111 #[.pointer (some ⟨p, 0, none⟩), .int .i64 n]) := (hgr.block _ (show w.heap.size < W1.drew.heap.size from K1.out.lt) (fun e => DG.out (Option.some.inj e))).trans K1.out
   have TP := Lib.hid (Three.grown (w := W1.drew) S1.out.at_ hgr (fun e => S1.out.pe (show some g = some p from e.symm)))
   obtain ⟨y5, _, _⟩ := TP.out.cells
   have yf := TP.out.frozen
   clear hoe hgr
   refine hK.out _ _ ⟨K2.out.cell 0, K2.out.cell 1⟩ (fun hS0 => ?_)
   clear hK K
   (try simp only [Act.put, pu1, pu2, pu3])
   refine tkI 13 26 (v := ?_) rfl rfl ?_ ?_
   rotate_left
   · intro w1 hSw; (try dsimp only at hSw); go_split_ands; go_simp; (try with_reducible rfl)
   (try simp only [Act.put, pu1, pu2, pu3])
   refine tkI 14 27 (v := ?_) rfl rfl ?_ ?_
   rotate_left
   · intro w1 hSw; (try dsimp only at hSw); go_split_ands; go_simp; (try with_reducible rfl)
   (try simp only [Act.put, pu1, pu2, pu3])
   refine wpAnyH_ready (rs := [15]) (by kernel_rfl) (by simp) ?_
   refine (AllReadyH.cons rfl (fun K hK => ?_) AllReadyH.nil)
   go_simp
   refine hK.out _ _ ?st (fun hS1 => ?_)
   case st => exact ⟨by go_simp, by go_simp⟩
   clear hK K
   (try simp only [Act.put, pu1, pu2, pu3])
   refine wpAnyH_done (by kernel_rfl) ?_ _
   have HP : ¬ p = g := fun e => S1.out.pe (by rw [e]; rfl)
   have LE : (E.eraseIdx n).length = E.length - 1 := List.length_eraseIdx_of_lt hn
   have TT : Hid (Three (w2.setCell ⟨p, 0, none⟩ (.slice (some ⟨g, 0, none⟩) (E.length - 1) a)) p 29 (.slice (some ⟨g, 0, none⟩) (E.eraseIdx n).length a) (.slice (some ⟨q, 0, none⟩) (F.set j (v + fg)).length b) (.slice C L.length d)) := by
    rw [LE]
    exact (Three.grown (w := W1.drew) S1.out.at_ HGR.out (fun e => HP (Option.some.inj e))).set0 _
   have OE : Hid ((w2.setCell ⟨p, 0, none⟩ (.slice (some ⟨g, 0, none⟩) (E.length - 1) a)).ownsRow lo 72 5 (.slice (some ⟨g, 0, none⟩) (E.eraseIdx n).length a) (E.eraseIdx n).length (figs (E.eraseIdx n))) := by
    rw [LE]
    exact own_other HOE.out (fun e => HP e.symm) 0 _
   have OFl : Hid ((w2.setCell ⟨p, 0, none⟩ (.slice (some ⟨g, 0, none⟩) (E.length - 1) a)).ownsRow lo 3 1 (.slice (some ⟨q, 0, none⟩) (F.set j (v + fg)).length b) (F.set j (v + fg)).length (ints (F.set j (v + fg)))) :=
    World.ownsRow.kept (World.ownsRow.kept (w := W1.drew) S1.out.f HGR.out (.inr (fun e => S1.out.ef g rfl e))) (grownBy_set w2 p 0 (.slice (some ⟨g, 0, none⟩) (E.length - 1) a)) (.inr S1.out.pf)
   have OL : Hid ((w2.setCell ⟨p, 0, none⟩ (.slice (some ⟨g, 0, none⟩) (E.length - 1) a)).ownsRow lo 3 1 (.slice C L.length d) L.length (ints L)) :=
    World.ownsRow.kept (World.ownsRow.kept (w := W1.drew) S1.out.l HGR.out (.inr (fun e => S1.out.el g rfl e))) (grownBy_set w2 p 0 (.slice (some ⟨g, 0, none⟩) (E.length - 1) a)) (.inr S1.out.pl)
   have B2 : Hid (Below lo w (w2.setCell ⟨p, 0, none⟩ (.slice (some ⟨g, 0, none⟩) (E.length - 1) a))) := Below.setCell (Below.trans B1.out.drew (Below.of_grown HGR.out (Nat.le_trans LO.out B1.out.size) (fun x hx => by cases hx; exact HLG.out.1))) S1.out.lo _
   have BB : Hid (Bd (w2.setCell ⟨p, 0, none⟩ (.slice (some ⟨g, 0, none⟩) (E.length - 1) a)) p lo (some ⟨g, 0, none⟩) a (some ⟨q, 0, none⟩) b C d (E.eraseIdx n) (F.set j (v + fg)) L) := ⟨TT.out, OE.out, OFl.out, OL.out, S1.out.ef, S1.out.el, S1.out.fl, S1.out.pe, S1.out.pf, S1.out.pl, S1.out.lo⟩
   clear LE
   go_wp2
   refine bodyPost_end (v := .tuple #[]) (by simp [results, Try.results115, go_sem]) rfl ⟨rfl, BB.out, B2.out⟩
 · go_simp
   refine (entAt p n g E.length a _ HH.out.at_.cells.1 hn).mono ?_
   rintro e wb ⟨rfl, hb⟩
   have HA2 := Lib.hid (Below.and HA.out hb)
   have HH2 := Lib.hid (HH.out.below hb)
   clear hb xf HH
   obtain ⟨q', hq', xf⟩ := RdI.of_own HH2.out.f j hjl
   cases hq'
   rw [HV.out] at xf
   obtain ⟨g', hg', a0, a1, a2, a3, xg⟩ := RdF.of_own HH2.out.e n hn
   cases hg'
   rw [HFN.out] at xg
   simp only at xg
   clear a0 a1 a2 a3
   have lg : g < wb.heap.size := World.block_lt_of_cell? wb _ xg
   have lq : q < wb.heap.size := World.block_lt_of_cell? wb _ xf
   have ff := fun i => HH2.out.f.frozenAt i
   have hS0 := SB.out _ HA2.out
   refine hK.out _ _ hS0 (fun hS0 => ?_)
   clear hK K
   (try simp only [Act.put, pu1, pu2, pu3])
   refine tkI 6 8 (v := ?_) rfl rfl ?_ ?_
   rotate_left
   · intro w1 hSw; (try dsimp only at hSw); go_split_ands; go_simp; (try with_reducible rfl)
   (try simp only [Act.put, pu1, pu2, pu3])
   refine tkI 7 9 (v := ?_) rfl rfl ?_ ?_
   rotate_left
   · intro w1 hSw; (try dsimp only at hSw); go_split_ands; go_simp; (try with_reducible rfl)
   (try simp only [Act.put, pu1, pu2, pu3])
   refine wpAnyH_ready (rs := [3, 8]) (by kernel_rfl) (by simp) ?_
   refine (AllReadyH.cons rfl (fun K hK => ?_) (AllReadyH.cons rfl (fun K hK => ?_) AllReadyH.nil))
   · go_simp
     refine hK.out _ _ hS0 (fun hS0 => ?_)
     clear hK K
     (try simp only [Act.put, pu1, pu2, pu3])
     refine wpAnyH_ready (rs := [8]) (by kernel_rfl) (by simp) ?_
     refine (AllReadyH.cons rfl (fun K hK => ?_) AllReadyH.nil)
     go_simp
     refine hK.out _ _ hS0 (fun hS0 => ?_)
     clear hK K
     (try simp only [Act.put, pu1, pu2, pu3])
     refine tkI 9 11 (v := ?_) rfl rfl ?_ ?_
     rotate_left
     · intro w1 hSw; (try dsimp only at hSw); go_split_ands; go_simp; (try with_reducible rfl)
     (try simp only [Act.put, pu1, pu2, pu3])
     refine tkI 10 12 (v := ?_) rfl rfl ?_ ?_
     rotate_left
     · intro w1 hSw; (try dsimp only at hSw); go_split_ands; go_simp; (try with_reducible rfl)
     (try simp only [Act.put, pu1, pu2, pu3])
     refine wpAnyH_ready (rs := [11]) (by kernel_rfl) (by simp) ?_
     refine (AllReadyH.cons rfl (fun K hK => ?_) AllReadyH.nil)
     go_simp
     refine hK.out _ _ ?st (fun hS1 => ?_)
     case st => exact ⟨by go_simp, by go_simp⟩
     clear hK K
     (try simp only [Act.put, pu1, pu2, pu3])
     refine wpAnyH_done (by kernel_rfl) ?_ _
     have S1 := Lib.hid (HH2.out.setF j hjl (v + fg))
     have LO := Lib.hid (show lo ≤ w.heap.size by have := HLG.out; omega)
     have B1 : Hid (Below lo w (wb.setCell ⟨q, j, none⟩ (.int .i64 (v + fg)))) := Below.setCell ((Below.and BW.out HA2.out).mono LO.out) HLQ.out.1 _
     have K1 := Lib.hid ((KF.out.below HA2.out).far d2 j (.int .i64 (v + fg)))
     obtain ⟨W1, hW⟩ : ∃ X, X = (wb.setCell ⟨q, j, none⟩ (.int .i64 (v + fg))) := ⟨_, rfl⟩
     rw [← hW] at S1 B1 K1 ⊢
     clear hW xf xg lg lq ff hS0 hS1 SB HD HA HA2 HH2 H KF GN
     have x0 : W1.cell? ⟨w.heap.size, 0, none⟩ = some (.pointer (some ⟨p, 0, none⟩)) := K1.out.cell 0
     have x1 : W1.cell? ⟨w.heap.size, 1, none⟩ = some (.int .i64 n) := K1.out.cell 1
     have y0 : W1.cell? ⟨p, 0, none⟩ = some (.slice (some ⟨g, 0, none⟩) E.length a) := S1.out.at_.cells.1
     have hpw : ¬ p = w.heap.size := by have := HPL.out; omega
     have hwp : ¬ w.heap.size = p := by omega
     have q2 : IntKind.i64.wrap ((n : Int) + 1) = (n : Int) + 1 := IntWalk.i64_in _ (by omega)
     go_wp2_with (fail)
     refine wp_region_held_drew (S := (fun W => W.cell? ⟨w.heap.size, 0, none⟩ = some (.pointer (some ⟨p, 0, none⟩)) ∧ W.cell? ⟨w.heap.size, 1, none⟩ = some (.int .i64 n))) (by kernel_rfl) ⟨x0, x1⟩ (fun hS0 => ?_)
     refine tkI 0 13 (v := ?_) rfl rfl ?_ ?_
     rotate_left
     · intro w1 hSw; (try dsimp only at hSw); go_split_ands; go_simp; (try with_reducible rfl)
     (try simp only [Act.put, pu1, pu2, pu3])
     refine tkI 1 14 (v := ?_) rfl rfl ?_ ?_
     rotate_left
     · intro w1 hSw; (try dsimp only at hSw); go_split_ands; go_simp; (try with_reducible rfl)
     (try simp only [Act.put, pu1, pu2, pu3])
     refine tkI 2 15 (v := ?_) rfl rfl ?_ ?_
     rotate_left
     · intro w1 hSw; (try dsimp only at hSw); go_split_ands; go_simp; (try with_reducible rfl)
     (try simp only [Act.put, pu1, pu2, pu3])
     refine tkI 3 16 (v := ?_) rfl rfl ?_ ?_
     rotate_left
     · intro w1 hSw; (try dsimp only at hSw); go_split_ands; go_simp; (try with_reducible rfl)
     (try simp only [Act.put, pu1, pu2, pu3])
     refine tkI 4 17 (v := ?_) rfl rfl ?_ ?_
     rotate_left
     · intro w1 hSw; (try dsimp only at hSw); go_split_ands; go_simp; (try with_reducible rfl)
     (try simp only [Act.put, pu1, pu2, pu3])
     refine tkI 5 18 (v := ?_) rfl rfl ?_ ?_
     rotate_left
     · intro w1 hSw; (try dsimp only at hSw); go_split_ands; go_simp; (try with_reducible rfl)
     (try simp only [Act.put, pu1, pu2, pu3])
     refine tkI 7 20 (v := ?_) rfl rfl ?_ ?_
     rotate_left
     · intro w1 hSw; (try dsimp only at hSw); go_split_ands; go_simp; (try with_reducible rfl)
     (try simp only [Act.put, pu1, pu2, pu3])
     refine tkI 8 21 (v := ?_) rfl rfl ?_ ?_
     rotate_left
     · intro w1 hSw; (try dsimp only at hSw); go_split_ands; go_simp; (try with_reducible rfl)
     (try simp only [Act.put, pu1, pu2, pu3])
     refine tkI 9 22 (v := ?_) rfl rfl ?_ ?_
     rotate_left
     · intro w1 hSw; (try dsimp only at hSw); go_split_ands; go_simp; (try with_reducible rfl)
     (try simp only [Act.put, pu1, pu2, pu3])
     refine tkI 10 23 (v := ?_) rfl rfl ?_ ?_
     rotate_left
     · intro w1 hSw; (try dsimp only at hSw); go_split_ands; go_simp; (try with_reducible rfl)
     (try simp only [Act.put, pu1, pu2, pu3])
     refine tkI 11 24 (v := ?_) rfl rfl ?_ ?_
     rotate_left
     · intro w1 hSw; (try dsimp only at hSw); go_split_ands; go_simp; (try with_reducible rfl)
     (try simp only [Act.put, pu1, pu2, pu3])
     refine wpAnyH_ready (rs := [6]) (by kernel_rfl) (by simp) ?_
     refine (AllReadyH.cons rfl (fun K hK => ?_) AllReadyH.nil)
     go_simp
     refine hK.out _ _ hS0 (fun hS0 => ?_)
     clear hK K
     (try simp only [Act.put, pu1, pu2, pu3])
     refine wpAnyH_ready (rs := [12]) (by kernel_rfl) (by simp) ?_
     refine (AllReadyH.cons rfl (fun K hK => ?_) AllReadyH.nil)
     go_simp
     refine (delEnt n hn hE (show W1.drew.ownsRow _ _ _ _ _ _ from S1.out.e)).mono ?_
     rintro e w2 ⟨rfl, hoe, hgr⟩
     have HOE := Lib.hid hoe
     have HGR := Lib.hid hgr
     have DG := Lib.hid (show ¬ w.heap.size = g by have := HLG.out; omega)
     have K2 : Hid (Bkk w2 w.heap.size 111 #[.pointer (some ⟨p, 0, none⟩), .int .i64 n]) := (hgr.block _ (show w.heap.size < W1.drew.heap.size from K1.out.lt) (fun e => DG.out (Option.some.inj e))).trans K1.out
     have TP := Lib.hid (Three.grown (w := W1.drew) S1.out.at_ hgr (fun e => S1.out.pe (show some g = some p from e.symm)))
     obtain ⟨y5, _, _⟩ := TP.out.cells
     have yf := TP.out.frozen
     clear hoe hgr
     refine hK.out _ _ ⟨K2.out.cell 0, K2.out.cell 1⟩ (fun hS0 => ?_)
     clear hK K
     (try simp only [Act.put, pu1, pu2, pu3])
     refine tkI 13 26 (v := ?_) rfl rfl ?_ ?_
     rotate_left
     · intro w1 hSw; (try dsimp only at hSw); go_split_ands; go_simp; (try with_reducible rfl)
     (try simp only [Act.put, pu1, pu2, pu3])
     refine tkI 14 27 (v := ?_) rfl rfl ?_ ?_
     rotate_left
     · intro w1 hSw; (try dsimp only at hSw); go_split_ands; go_simp; (try with_reducible rfl)
     (try simp only [Act.put, pu1, pu2, pu3])
     refine wpAnyH_ready (rs := [15]) (by kernel_rfl) (by simp) ?_
     refine (AllReadyH.cons rfl (fun K hK => ?_) AllReadyH.nil)
     go_simp
     refine hK.out _ _ ?st (fun hS1 => ?_)
     case st => exact ⟨by go_simp, by go_simp⟩
     clear hK K
     (try simp only [Act.put, pu1, pu2, pu3])
     refine wpAnyH_done (by kernel_rfl) ?_ _
     have HP : ¬ p = g := fun e => S1.out.pe (by rw [e]; rfl)
     have LE : (E.eraseIdx n).length = E.length - 1 := List.length_eraseIdx_of_lt hn
     have TT : Hid (Three (w2.setCell ⟨p, 0, none⟩ (.slice (some ⟨g, 0, none⟩) (E.length - 1) a)) p 29 (.slice (some ⟨g, 0, none⟩) (E.eraseIdx n).length a) (.slice (some ⟨q, 0, none⟩) (F.set j (v + fg)).length b) (.slice C L.length d)) := by
      rw [LE]
      exact (Three.grown (w := W1.drew) S1.out.at_ HGR.out (fun e => HP (Option.some.inj e))).set0 _
     have OE : Hid ((w2.setCell ⟨p, 0, none⟩ (.slice (some ⟨g, 0, none⟩) (E.length - 1) a)).ownsRow lo 72 5 (.slice (some ⟨g, 0, none⟩) (E.eraseIdx n).length a) (E.eraseIdx n).length (figs (E.eraseIdx n))) := by
      rw [LE]
      exact own_other HOE.out (fun e => HP e.symm) 0 _
     have OFl : Hid ((w2.setCell ⟨p, 0, none⟩ (.slice (some ⟨g, 0, none⟩) (E.length - 1) a)).ownsRow lo 3 1 (.slice (some ⟨q, 0, none⟩) (F.set j (v + fg)).length b) (F.set j (v + fg)).length (ints (F.set j (v + fg)))) :=
      World.ownsRow.kept (World.ownsRow.kept (w := W1.drew) S1.out.f HGR.out (.inr (fun e => S1.out.ef g rfl e))) (grownBy_set w2 p 0 (.slice (some ⟨g, 0, none⟩) (E.length - 1) a)) (.inr S1.out.pf)
     have OL : Hid ((w2.setCell ⟨p, 0, none⟩ (.slice (some ⟨g, 0, none⟩) (E.length - 1) a)).ownsRow lo 3 1 (.slice C L.length d) L.length (ints L)) :=
      World.ownsRow.kept (World.ownsRow.kept (w := W1.drew) S1.out.l HGR.out (.inr (fun e => S1.out.el g rfl e))) (grownBy_set w2 p 0 (.slice (some ⟨g, 0, none⟩) (E.length - 1) a)) (.inr S1.out.pl)
     have B2 : Hid (Below lo w (w2.setCell ⟨p, 0, none⟩ (.slice (some ⟨g, 0, none⟩) (E.length - 1) a))) := Below.setCell (Below.trans B1.out.drew (Below.of_grown HGR.out (Nat.le_trans LO.out B1.out.size) (fun x hx => by cases hx; exact HLG.out.1))) S1.out.lo _
     have BB : Hid (Bd (w2.setCell ⟨p, 0, none⟩ (.slice (some ⟨g, 0, none⟩) (E.length - 1) a)) p lo (some ⟨g, 0, none⟩) a (some ⟨q, 0, none⟩) b C d (E.eraseIdx n) (F.set j (v + fg)) L) := ⟨TT.out, OE.out, OFl.out, OL.out, S1.out.ef, S1.out.el, S1.out.fl, S1.out.pe, S1.out.pf, S1.out.pl, S1.out.lo⟩
     clear LE
     go_wp2
     refine bodyPost_end (v := .tuple #[]) (by simp [results, Try.results115, go_sem]) rfl ⟨rfl, BB.out, B2.out⟩
   · go_simp
     refine hK.out _ _ hS0 (fun hS0 => ?_)
     clear hK K
     (try simp only [Act.put, pu1, pu2, pu3])
     refine wpAnyH_ready (rs := [3]) (by kernel_rfl) (by simp) ?_
     refine (AllReadyH.cons rfl (fun K hK => ?_) AllReadyH.nil)
     go_simp
     refine hK.out _ _ hS0 (fun hS0 => ?_)
     clear hK K
     (try simp only [Act.put, pu1, pu2, pu3])
     refine tkI 9 11 (v := ?_) rfl rfl ?_ ?_
     rotate_left
     · intro w1 hSw; (try dsimp only at hSw); go_split_ands; go_simp; (try with_reducible rfl)
     (try simp only [Act.put, pu1, pu2, pu3])
     refine tkI 10 12 (v := ?_) rfl rfl ?_ ?_
     rotate_left
     · intro w1 hSw; (try dsimp only at hSw); go_split_ands; go_simp; (try with_reducible rfl)
     (try simp only [Act.put, pu1, pu2, pu3])
     refine wpAnyH_ready (rs := [11]) (by kernel_rfl) (by simp) ?_
     refine (AllReadyH.cons rfl (fun K hK => ?_) AllReadyH.nil)
     go_simp
     refine hK.out _ _ ?st (fun hS1 => ?_)
     case st => exact ⟨by go_simp, by go_simp⟩
     clear hK K
     (try simp only [Act.put, pu1, pu2, pu3])
     refine wpAnyH_done (by kernel_rfl) ?_ _
     have S1 := Lib.hid (HH2.out.setF j hjl (v + fg))
     have LO := Lib.hid (show lo ≤ w.heap.size by have := HLG.out; omega)
     have B1 : Hid (Below lo w (wb.setCell ⟨q, j, none⟩ (.int .i64 (v + fg)))) := Below.setCell ((Below.and BW.out HA2.out).mono LO.out) HLQ.out.1 _
     have K1 := Lib.hid ((KF.out.below HA2.out).far d2 j (.int .i64 (v + fg)))
     obtain ⟨W1, hW⟩ : ∃ X, X = (wb.setCell ⟨q, j, none⟩ (.int .i64 (v + fg))) := ⟨_, rfl⟩
     rw [← hW] at S1 B1 K1 ⊢
     clear hW xf xg lg lq ff hS0 hS1 SB HD HA HA2 HH2 H KF GN
     have x0 : W1.cell? ⟨w.heap.size, 0, none⟩ = some (.pointer (some ⟨p, 0, none⟩)) := K1.out.cell 0
     have x1 : W1.cell? ⟨w.heap.size, 1, none⟩ = some (.int .i64 n) := K1.out.cell 1
     have y0 : W1.cell? ⟨p, 0, none⟩ = some (.slice (some ⟨g, 0, none⟩) E.length a) := S1.out.at_.cells.1
     have hpw : ¬ p = w.heap.size := by have := HPL.out; omega
     have hwp : ¬ w.heap.size = p := by omega
     have q2 : IntKind.i64.wrap ((n : Int) + 1) = (n : Int) + 1 := IntWalk.i64_in _ (by omega)
     go_wp2_with (fail)
     refine wp_region_held_drew (S := (fun W => W.cell? ⟨w.heap.size, 0, none⟩ = some (.pointer (some ⟨p, 0, none⟩)) ∧ W.cell? ⟨w.heap.size, 1, none⟩ = some (.int .i64 n))) (by kernel_rfl) ⟨x0, x1⟩ (fun hS0 => ?_)
     refine tkI 0 13 (v := ?_) rfl rfl ?_ ?_
     rotate_left
     · intro w1 hSw; (try dsimp only at hSw); go_split_ands; go_simp; (try with_reducible rfl)
     (try simp only [Act.put, pu1, pu2, pu3])
     refine tkI 1 14 (v := ?_) rfl rfl ?_ ?_
     rotate_left
     · intro w1 hSw; (try dsimp only at hSw); go_split_ands; go_simp; (try with_reducible rfl)
     (try simp only [Act.put, pu1, pu2, pu3])
     refine tkI 2 15 (v := ?_) rfl rfl ?_ ?_
     rotate_left
     · intro w1 hSw; (try dsimp only at hSw); go_split_ands; go_simp; (try with_reducible rfl)
     (try simp only [Act.put, pu1, pu2, pu3])
     refine tkI 3 16 (v := ?_) rfl rfl ?_ ?_
     rotate_left
     · intro w1 hSw; (try dsimp only at hSw); go_split_ands; go_simp; (try with_reducible rfl)
     (try simp only [Act.put, pu1, pu2, pu3])
     refine tkI 4 17 (v := ?_) rfl rfl ?_ ?_
     rotate_left
     · intro w1 hSw; (try dsimp only at hSw); go_split_ands; go_simp; (try with_reducible rfl)
     (try simp only [Act.put, pu1, pu2, pu3])
     refine tkI 5 18 (v := ?_) rfl rfl ?_ ?_
     rotate_left
     · intro w1 hSw; (try dsimp only at hSw); go_split_ands; go_simp; (try with_reducible rfl)
     (try simp only [Act.put, pu1, pu2, pu3])
     refine tkI 7 20 (v := ?_) rfl rfl ?_ ?_
     rotate_left
     · intro w1 hSw; (try dsimp only at hSw); go_split_ands; go_simp; (try with_reducible rfl)
     (try simp only [Act.put, pu1, pu2, pu3])
     refine tkI 8 21 (v := ?_) rfl rfl ?_ ?_
     rotate_left
     · intro w1 hSw; (try dsimp only at hSw); go_split_ands; go_simp; (try with_reducible rfl)
     (try simp only [Act.put, pu1, pu2, pu3])
     refine tkI 9 22 (v := ?_) rfl rfl ?_ ?_
     rotate_left
     · intro w1 hSw; (try dsimp only at hSw); go_split_ands; go_simp; (try with_reducible rfl)
     (try simp only [Act.put, pu1, pu2, pu3])
     refine tkI 10 23 (v := ?_) rfl rfl ?_ ?_
     rotate_left
     · intro w1 hSw; (try dsimp only at hSw); go_split_ands; go_simp; (try with_reducible rfl)
     (try simp only [Act.put, pu1, pu2, pu3])
     refine tkI 11 24 (v := ?_) rfl rfl ?_ ?_
     rotate_left
     · intro w1 hSw; (try dsimp only at hSw); go_split_ands; go_simp; (try with_reducible rfl)
     (try simp only [Act.put, pu1, pu2, pu3])
     refine wpAnyH_ready (rs := [6]) (by kernel_rfl) (by simp) ?_
     refine (AllReadyH.cons rfl (fun K hK => ?_) AllReadyH.nil)
     go_simp
     refine hK.out _ _ hS0 (fun hS0 => ?_)
     clear hK K
     (try simp only [Act.put, pu1, pu2, pu3])
     refine wpAnyH_ready (rs := [12]) (by kernel_rfl) (by simp) ?_
     refine (AllReadyH.cons rfl (fun K hK => ?_) AllReadyH.nil)
     go_simp
     refine (delEnt n hn hE (show W1.drew.ownsRow _ _ _ _ _ _ from S1.out.e)).mono ?_
     rintro e w2 ⟨rfl, hoe, hgr⟩
     have HOE := Lib.hid hoe
     have HGR := Lib.hid hgr
     have DG := Lib.hid (show ¬ w.heap.size = g by have := HLG.out; omega)
     have K2 : Hid (Bkk w2 w.heap.size 111 #[.pointer (some ⟨p, 0, none⟩), .int .i64 n]) := (hgr.block _ (show w.heap.size < W1.drew.heap.size from K1.out.lt) (fun e => DG.out (Option.some.inj e))).trans K1.out
     have TP := Lib.hid (Three.grown (w := W1.drew) S1.out.at_ hgr (fun e => S1.out.pe (show some g = some p from e.symm)))
     obtain ⟨y5, _, _⟩ := TP.out.cells
     have yf := TP.out.frozen
     clear hoe hgr
     refine hK.out _ _ ⟨K2.out.cell 0, K2.out.cell 1⟩ (fun hS0 => ?_)
     clear hK K
     (try simp only [Act.put, pu1, pu2, pu3])
     refine tkI 13 26 (v := ?_) rfl rfl ?_ ?_
     rotate_left
     · intro w1 hSw; (try dsimp only at hSw); go_split_ands; go_simp; (try with_reducible rfl)
     (try simp only [Act.put, pu1, pu2, pu3])
     refine tkI 14 27 (v := ?_) rfl rfl ?_ ?_
     rotate_left
     · intro w1 hSw; (try dsimp only at hSw); go_split_ands; go_simp; (try with_reducible rfl)
     (try simp only [Act.put, pu1, pu2, pu3])
     refine wpAnyH_ready (rs := [15]) (by kernel_rfl) (by simp) ?_
     refine (AllReadyH.cons rfl (fun K hK => ?_) AllReadyH.nil)
     go_simp
     refine hK.out _ _ ?st (fun hS1 => ?_)
     case st => exact ⟨by go_simp, by go_simp⟩
     clear hK K
     (try simp only [Act.put, pu1, pu2, pu3])
     refine wpAnyH_done (by kernel_rfl) ?_ _
     have HP : ¬ p = g := fun e => S1.out.pe (by rw [e]; rfl)
     have LE : (E.eraseIdx n).length = E.length - 1 := List.length_eraseIdx_of_lt hn
     have TT : Hid (Three (w2.setCell ⟨p, 0, none⟩ (.slice (some ⟨g, 0, none⟩) (E.length - 1) a)) p 29 (.slice (some ⟨g, 0, none⟩) (E.eraseIdx n).length a) (.slice (some ⟨q, 0, none⟩) (F.set j (v + fg)).length b) (.slice C L.length d)) := by
      rw [LE]
      exact (Three.grown (w := W1.drew) S1.out.at_ HGR.out (fun e => HP (Option.some.inj e))).set0 _
     have OE : Hid ((w2.setCell ⟨p, 0, none⟩ (.slice (some ⟨g, 0, none⟩) (E.length - 1) a)).ownsRow lo 72 5 (.slice (some ⟨g, 0, none⟩) (E.eraseIdx n).length a) (E.eraseIdx n).length (figs (E.eraseIdx n))) := by
      rw [LE]
      exact own_other HOE.out (fun e => HP e.symm) 0 _
     have OFl : Hid ((w2.setCell ⟨p, 0, none⟩ (.slice (some ⟨g, 0, none⟩) (E.length - 1) a)).ownsRow lo 3 1 (.slice (some ⟨q, 0, none⟩) (F.set j (v + fg)).length b) (F.set j (v + fg)).length (ints (F.set j (v + fg)))) :=
      World.ownsRow.kept (World.ownsRow.kept (w := W1.drew) S1.out.f HGR.out (.inr (fun e => S1.out.ef g rfl e))) (grownBy_set w2 p 0 (.slice (some ⟨g, 0, none⟩) (E.length - 1) a)) (.inr S1.out.pf)
     have OL : Hid ((w2.setCell ⟨p, 0, none⟩ (.slice (some ⟨g, 0, none⟩) (E.length - 1) a)).ownsRow lo 3 1 (.slice C L.length d) L.length (ints L)) :=
      World.ownsRow.kept (World.ownsRow.kept (w := W1.drew) S1.out.l HGR.out (.inr (fun e => S1.out.el g rfl e))) (grownBy_set w2 p 0 (.slice (some ⟨g, 0, none⟩) (E.length - 1) a)) (.inr S1.out.pl)
     have B2 : Hid (Below lo w (w2.setCell ⟨p, 0, none⟩ (.slice (some ⟨g, 0, none⟩) (E.length - 1) a))) := Below.setCell (Below.trans B1.out.drew (Below.of_grown HGR.out (Nat.le_trans LO.out B1.out.size) (fun x hx => by cases hx; exact HLG.out.1))) S1.out.lo _
     have BB : Hid (Bd (w2.setCell ⟨p, 0, none⟩ (.slice (some ⟨g, 0, none⟩) (E.length - 1) a)) p lo (some ⟨g, 0, none⟩) a (some ⟨q, 0, none⟩) b C d (E.eraseIdx n) (F.set j (v + fg)) L) := ⟨TT.out, OE.out, OFl.out, OL.out, S1.out.ef, S1.out.el, S1.out.fl, S1.out.pe, S1.out.pf, S1.out.pl, S1.out.lo⟩
     clear LE
     go_wp2
     refine bodyPost_end (v := .tuple #[]) (by simp [results, Try.results115, go_sem]) rfl ⟨rfl, BB.out, B2.out⟩
end Go.Proofs.Ytameldhdegcpoaa
