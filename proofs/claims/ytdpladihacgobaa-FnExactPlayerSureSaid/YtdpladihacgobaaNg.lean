/- The exact law of PlayerSure, walked. -/
import Derived.Test.YtdpladihacgobaaNd
import Derived.Test.YtdpladihacgobaaNf
import Derived.Deep.Cut
namespace Go.Proofs.Ytdpladihacgobaa
open Go.ChangeShapes Go.WideShapes Go.ChangeAt Go.RowKit
set_option linter.unusedVariables false
set_option linter.unusedSimpArgs false

set_option maxRecDepth 100000 in
set_option maxHeartbeats 4000000 in
theorem exactPlayerSure (q : Rq) (A : Option Addr) (a : Nat) (L : List Rp) (w : World) (mL : L.length ≤ maxLen) (rL : Rd 4 Rp.cells w A L) :
    Calls Try.prog 8 #[playerV q A L.length a] w fun e w' => e = .returned (.bool true) ∧ Below w.heap.size w w' := by
  have z0 : Below w.heap.size w (w.alloc (.cells #[.int .i64 q.c, .int .i64 q.n, .int .i64 q.o, .int .i64 q.x, .int .i64 q.y, .slice A L.length a] 46)) := (Below.refl _ _).alloc (Nat.le_refl _) _
  have HL := Lib.hid rL
  have K0 : Hid (Bkk (w.alloc (.cells #[.int .i64 q.c, .int .i64 q.n, .int .i64 q.o, .int .i64 q.x, .int .i64 q.y, .slice A L.length a] 46)) w.heap.size 46 #[.int .i64 q.c, .int .i64 q.n, .int .i64 q.o, .int .i64 q.x, .int .i64 q.y, .slice A L.length a]) := Bkk.new _
  have Z := Lib.hid z0
  clear rL z0
  go_enter Try.func8, Try.ntmps8
  go_wp2_with (fail)
  refine (szPlayer q A L.length a _ mL).mono ?_
  rintro e w1 ⟨rfl, hb⟩
  have K0 := Lib.hid (K0.out.below hb)
  have Z := Lib.hid (Below.and Z.out hb)
  clear hb
  by_cases hs : ¬ L.length ≤ 1048576
  · rw [show szOfP L.length = -1 by unfold szOfP; rw [if_neg hs]]
    go_wp2
    go_light
    go_ret
    exact ⟨rfl, Z.out⟩
  have hL : L.length ≤ 1048576 := by omega
  rw [show szOfP L.length = 1048576 - (L.length : Int) by unfold szOfP; rw [if_pos (by omega)]]
  have e0 : decide ((1048576 : Int) - (L.length : Int) < 0) = false := by simp; omega
  clear mL
  obtain ⟨⟨y, u⟩, hy⟩ : ∃ Y, Y = sureP q L := ⟨_, rfl⟩
  have HY := Lib.hid hy
  clear hy
  have p0 : w1.cell? ⟨w.heap.size, 0, none⟩ = some (.int .i64 q.c) := K0.out.cell 0
  have p1 : w1.cell? ⟨w.heap.size, 1, none⟩ = some (.int .i64 q.n) := K0.out.cell 1
  have p2 : w1.cell? ⟨w.heap.size, 2, none⟩ = some (.int .i64 q.o) := K0.out.cell 2
  have p3 : w1.cell? ⟨w.heap.size, 3, none⟩ = some (.int .i64 q.x) := K0.out.cell 3
  have p4 : w1.cell? ⟨w.heap.size, 4, none⟩ = some (.int .i64 q.y) := K0.out.cell 4
  have p5 : w1.cell? ⟨w.heap.size, 5, none⟩ = some (.slice A L.length a) := K0.out.cell 5
  go_wp2_with (fail)
  refine (toPlayer q A a L _ hL (Rd.below HL.out Z.out)).mono ?_
  rintro e w2 ⟨g1, rfl, oa, hb⟩
  have OA := Lib.hid oa.rd
  have K0 := Lib.hid (K0.out.below hb)
  have Z := Lib.hid (Below.and Z.out hb)
  clear hb oa
  clear p0 p1 p2 p3 p4 p5
  go_wp2_with (fail)
  refine (specPlayerSure q _ _ L _ (by unfold maxLen; omega) OA.out).mono ?_
  rintro e w3 ⟨rfl, hb⟩
  rw [← HY.out]
  have hba : Below w3.heap.size w3 (w3.alloc (.cells #[.int .i64 y.f, .int .i64 y.n, .int .i64 y.c, .int .i64 y.s] 29)) := (Below.refl _ _).alloc (Nat.le_refl _) _
  have S : Hid (Bkk (w3.alloc (.cells #[.int .i64 y.f, .int .i64 y.n, .int .i64 y.c, .int .i64 y.s] 29)) w3.heap.size 29 #[.int .i64 y.f, .int .i64 y.n, .int .i64 y.c, .int .i64 y.s]) := Bkk.new _
  have K0 := Lib.hid (K0.out.below hb)
  have Z := Lib.hid (Below.and Z.out hb)
  have K0 := Lib.hid (K0.out.below hba)
  have Z := Lib.hid (Below.and Z.out hba)
  clear hb hba OA
  go_upto_region 6 with (fail)
  obtain ⟨ps, hps⟩ : ∃ X, X = w3.heap.size := ⟨_, rfl⟩
  obtain ⟨wS, hwS⟩ : ∃ X, X = (w3.alloc (.cells #[.int .i64 y.f, .int .i64 y.n, .int .i64 y.c, .int .i64 y.s] 29)) := ⟨_, rfl⟩
  rw [← hwS] at S K0 Z ⊢
  rw [← hps] at S ⊢
  clear hwS hps
  have p0 : wS.cell? ⟨w.heap.size, 0, none⟩ = some (.int .i64 q.c) := K0.out.cell 0
  have p1 : wS.cell? ⟨w.heap.size, 1, none⟩ = some (.int .i64 q.n) := K0.out.cell 1
  have p2 : wS.cell? ⟨w.heap.size, 2, none⟩ = some (.int .i64 q.o) := K0.out.cell 2
  have p3 : wS.cell? ⟨w.heap.size, 3, none⟩ = some (.int .i64 q.x) := K0.out.cell 3
  have p4 : wS.cell? ⟨w.heap.size, 4, none⟩ = some (.int .i64 q.y) := K0.out.cell 4
  have p5 : wS.cell? ⟨w.heap.size, 5, none⟩ = some (.slice A L.length a) := K0.out.cell 5
  go_wp2_with (fail)
  refine (toPlayer q A a L _ hL (Rd.below HL.out Z.out)).mono ?_
  rintro e w4 ⟨g2, rfl, oa, hb⟩
  have hba : Below w4.heap.size w4 (w4.alloc (.cells #[.int .i64 q.c, .int .i64 q.n, .int .i64 q.o, .int .i64 q.x, .int .i64 q.y, .slice (some ⟨g2, 0, none⟩) L.length L.length] 27)) := (Below.refl _ _).alloc (Nat.le_refl _) _
  have OA2 := Lib.hid (oa.below hba)
  have K5 : Hid (Bkk (w4.alloc (.cells #[.int .i64 q.c, .int .i64 q.n, .int .i64 q.o, .int .i64 q.x, .int .i64 q.y, .slice (some ⟨g2, 0, none⟩) L.length L.length] 27)) w4.heap.size 27 #[.int .i64 q.c, .int .i64 q.n, .int .i64 q.o, .int .i64 q.x, .int .i64 q.y, .slice (some ⟨g2, 0, none⟩) L.length L.length]) := Bkk.new _
  have K0 := Lib.hid (K0.out.below hb)
  have S := Lib.hid (S.out.below hb)
  have Z := Lib.hid (Below.and Z.out hb)
  have K0 := Lib.hid (K0.out.below hba)
  have S := Lib.hid (S.out.below hba)
  have Z := Lib.hid (Below.and Z.out hba)
  clear hb hba oa
  clear p0 p1 p2 p3 p4 p5
  go_upto_region 7 with (fail)
  obtain ⟨p5, hp5⟩ : ∃ X, X = w4.heap.size := ⟨_, rfl⟩
  obtain ⟨wA, hwA⟩ : ∃ X, X = (w4.alloc (.cells #[.int .i64 q.c, .int .i64 q.n, .int .i64 q.o, .int .i64 q.x, .int .i64 q.y, .slice (some ⟨g2, 0, none⟩) L.length L.length] 27)) := ⟨_, rfl⟩
  rw [← hwA] at OA2 K5 K0 S Z ⊢
  rw [← hp5] at K5 ⊢
  clear hwA hp5
  have r0 : wA.cell? ⟨p5, 0, none⟩ = some (.int .i64 q.c) := K5.out.cell 0
  have r1 : wA.cell? ⟨p5, 1, none⟩ = some (.int .i64 q.n) := K5.out.cell 1
  have r2 : wA.cell? ⟨p5, 2, none⟩ = some (.int .i64 q.o) := K5.out.cell 2
  have r3 : wA.cell? ⟨p5, 3, none⟩ = some (.int .i64 q.x) := K5.out.cell 3
  have r4 : wA.cell? ⟨p5, 4, none⟩ = some (.int .i64 q.y) := K5.out.cell 4
  have r5 : wA.cell? ⟨p5, 5, none⟩ = some (.slice (some ⟨g2, 0, none⟩) L.length L.length) := K5.out.cell 5
  go_wp2_with (fail)
  refine (implPlayerSure q _ _ L _ (by unfold maxLen; omega) OA2.out.rd).mono ?_
  rintro e w5 ⟨rfl, hb⟩
  rw [← HY.out]
  have hba : Below w5.heap.size w5 (w5.alloc (.cells #[.int .i64 y.f, .int .i64 y.n, .int .i64 y.c, .int .i64 y.s] 29)) := (Below.refl _ _).alloc (Nat.le_refl _) _
  have T : Hid (Bkk (w5.alloc (.cells #[.int .i64 y.f, .int .i64 y.n, .int .i64 y.c, .int .i64 y.s] 29)) w5.heap.size 29 #[.int .i64 y.f, .int .i64 y.n, .int .i64 y.c, .int .i64 y.s]) := Bkk.new _
  have OA2 := Lib.hid (OA2.out.below hb)
  have K5 := Lib.hid (K5.out.below hb)
  have K0 := Lib.hid (K0.out.below hb)
  have S := Lib.hid (S.out.below hb)
  have Z := Lib.hid (Below.and Z.out hb)
  have OA2 := Lib.hid (OA2.out.below hba)
  have K5 := Lib.hid (K5.out.below hba)
  have K0 := Lib.hid (K0.out.below hba)
  have S := Lib.hid (S.out.below hba)
  have Z := Lib.hid (Below.and Z.out hba)
  clear hb hba r0 r1 r2 r3 r4 r5
  go_upto_region 8 with (fail)
  obtain ⟨pt, hpt⟩ : ∃ X, X = w5.heap.size := ⟨_, rfl⟩
  obtain ⟨w6, hw6⟩ : ∃ X, X = (w5.alloc (.cells #[.int .i64 y.f, .int .i64 y.n, .int .i64 y.c, .int .i64 y.s] 29)) := ⟨_, rfl⟩
  rw [← hw6] at OA2 K5 K0 S T Z ⊢
  rw [← hpt] at T ⊢
  clear hw6 hpt
  have s0 : w6.cell? ⟨ps, 0, none⟩ = some (.int .i64 y.f) := S.out.cell 0
  have s1 : w6.cell? ⟨ps, 1, none⟩ = some (.int .i64 y.n) := S.out.cell 1
  have s2 : w6.cell? ⟨ps, 2, none⟩ = some (.int .i64 y.c) := S.out.cell 2
  have s3 : w6.cell? ⟨ps, 3, none⟩ = some (.int .i64 y.s) := S.out.cell 3
  have t0 : w6.cell? ⟨pt, 0, none⟩ = some (.int .i64 y.f) := T.out.cell 0
  have t1 : w6.cell? ⟨pt, 1, none⟩ = some (.int .i64 y.n) := T.out.cell 1
  have t2 : w6.cell? ⟨pt, 2, none⟩ = some (.int .i64 y.c) := T.out.cell 2
  have t3 : w6.cell? ⟨pt, 3, none⟩ = some (.int .i64 y.s) := T.out.cell 3
  have nu : (u != u) = false := by simp
  go_wp2_with (fail)
  refine (eqReply y y _).mono ?_
  rintro e w7 ⟨rfl, hb⟩
  rw [show decide (y = y) = true from decide_eq_true rfl]
  have OA2 := Lib.hid (OA2.out.below hb)
  have K5 := Lib.hid (K5.out.below hb)
  have K0 := Lib.hid (K0.out.below hb)
  have Z := Lib.hid (Below.and Z.out hb)
  clear hb S T s0 s1 s2 s3 t0 t1 t2 t3
  go_upto_region 10 with (fail)
  have r0 : w7.cell? ⟨p5, 0, none⟩ = some (.int .i64 q.c) := K5.out.cell 0
  have r1 : w7.cell? ⟨p5, 1, none⟩ = some (.int .i64 q.n) := K5.out.cell 1
  have r2 : w7.cell? ⟨p5, 2, none⟩ = some (.int .i64 q.o) := K5.out.cell 2
  have r3 : w7.cell? ⟨p5, 3, none⟩ = some (.int .i64 q.x) := K5.out.cell 3
  have r4 : w7.cell? ⟨p5, 4, none⟩ = some (.int .i64 q.y) := K5.out.cell 4
  have r5 : w7.cell? ⟨p5, 5, none⟩ = some (.slice (some ⟨g2, 0, none⟩) L.length L.length) := K5.out.cell 5
  have p0 : w7.cell? ⟨w.heap.size, 0, none⟩ = some (.int .i64 q.c) := K0.out.cell 0
  have p1 : w7.cell? ⟨w.heap.size, 1, none⟩ = some (.int .i64 q.n) := K0.out.cell 1
  have p2 : w7.cell? ⟨w.heap.size, 2, none⟩ = some (.int .i64 q.o) := K0.out.cell 2
  have p3 : w7.cell? ⟨w.heap.size, 3, none⟩ = some (.int .i64 q.x) := K0.out.cell 3
  have p4 : w7.cell? ⟨w.heap.size, 4, none⟩ = some (.int .i64 q.y) := K0.out.cell 4
  have p5 : w7.cell? ⟨w.heap.size, 5, none⟩ = some (.slice A L.length a) := K0.out.cell 5
  have lq := K5.out.lt
  have lp := K0.out.lt
  refine wp_region_held_drew (S := fun w1 => Below w7.heap.size w7 w1) (by kernel_rfl) ((Below.refl _ _).drew) (fun hq => ?_)
  refine takeD 0 36 (v := ?_) rfl rfl (by kernel_rfl) (by kernel_rfl) (by kernel_rfl) (fun _ _ _ h => h) (Or.inl ⟨by rfl, ?_⟩) (by assumption) ?_
  rotate_left
  · intro w1 hSw; obtain ⟨hcS, hfS⟩ := bcell hSw; go_simp; (try with_reducible rfl)
  (try simp only [Act.put, List.setIfInBounds_toArray, List.set_cons_zero, List.set_cons_succ])
  refine takeD 1 37 (v := ?_) rfl rfl (by kernel_rfl) (by kernel_rfl) (by kernel_rfl) (fun _ _ _ h => h) (Or.inl ⟨by rfl, ?_⟩) (by assumption) ?_
  rotate_left
  · intro w1 hSw; obtain ⟨hcS, hfS⟩ := bcell hSw; go_simp; (try with_reducible rfl)
  (try simp only [Act.put, List.setIfInBounds_toArray, List.set_cons_zero, List.set_cons_succ])
  refine wpAnyH_ready (rs := [2]) (by kernel_rfl) (by simp) ?_
  refine AllReadyH.cons rfl (fun K hK => ?_) AllReadyH.nil
  go_simp
  refine (toPlayer q A a L _ hL (Rd.below HL.out (Below.and Z.out hq))).mono ?_
  rintro e w8 ⟨g3, rfl, oa, hb⟩
  have OA3 := Lib.hid oa.rd
  have OA2x := Lib.hid (Rd.below OA2.out.rd (Below.and hq hb))
  clear oa
  refine hK.out _ _ (Below.and hq hb) (fun hq2 => ?_)
  clear hK K
  (try simp only [Act.put, List.setIfInBounds_toArray, List.set_cons_zero, List.set_cons_succ])
  refine wpAnyH_ready (rs := [3]) (by kernel_rfl) (by simp) ?_
  refine AllReadyH.cons rfl (fun K hK => ?_) AllReadyH.nil
  go_simp
  refine (eqPlayer_rd q _ _ _ _ L _ hL OA2x.out OA3.out).mono ?_
  rintro e w9 ⟨rfl, hb⟩
  refine hK.out _ _ (Below.and hq2 hb) (fun hq3 => ?_)
  clear hK K
  (try simp only [Act.put, List.setIfInBounds_toArray, List.set_cons_zero, List.set_cons_succ])
  refine takeD 4 40 (v := ?_) rfl rfl (by kernel_rfl) (by kernel_rfl) (by kernel_rfl) (fun _ _ _ h => h) (Or.inl ⟨by rfl, ?_⟩) (by assumption) ?_
  rotate_left
  · intro w1 hSw; obtain ⟨hcS, hfS⟩ := bcell hSw; go_simp; (try with_reducible rfl)
  (try simp only [Act.put, List.setIfInBounds_toArray, List.set_cons_zero, List.set_cons_succ])
  refine wpAnyH_done (by kernel_rfl) ?_ _
  have BW := Lib.hid (Below.and Z.out hq3)
  go_wp2
  go_light
  go_ret
  exact ⟨rfl, BW.out⟩

end Go.Proofs.Ytdpladihacgobaa
