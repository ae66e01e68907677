/- The exact law of PlayerAsk, walked. -/
import Derived.Test.YtdpladihacgobaaNk
import Derived.Test.YtdpladihacgobaaNj
import Derived.Deep.Cut
namespace Go.Proofs.Ytdpladihacgobaa
open Go.ChangeShapes Go.WideShapes Go.ChangeAt Go.RowKit
set_option linter.unusedVariables false
set_option linter.unusedSimpArgs false

set_option maxRecDepth 100000 in
set_option maxHeartbeats 8000000 in
theorem exactPlayerAsk (q : Rq) (A : Option Addr) (a : Nat) (L : List Rp) (r : Rq) (w : World) (mL : L.length ≤ maxLen) (rL : Rd 4 Rp.cells w A L) :
    Calls Try.prog 9 #[playerV q A L.length a, r.val] w fun e w' => e = .returned (.bool true) ∧ Below w.heap.size w w' := by
  obtain ⟨⟨⟨q1, L1⟩, x2⟩, hX⟩ : ∃ Y : (Rq × List Rp) × Bool, Y = askP q L r := ⟨_, rfl⟩
  have hlen := askP_len q L r
  rw [← hX] at hlen
  have HLE : Hid (L1.length ≤ L.length + 1) := hlen
  have HR := Lib.hid rL
  have K : Hid (Bkk ((w.alloc (.cells #[.int .i64 q.c, .int .i64 q.n, .int .i64 q.o, .int .i64 q.x, .int .i64 q.y, .slice A L.length a] 46)).alloc (.cells #[.int .i64 r.c, .int .i64 r.n, .int .i64 r.o, .int .i64 r.x, .int .i64 r.y] 43)) w.heap.size 46 #[.int .i64 q.c, .int .i64 q.n, .int .i64 q.o, .int .i64 q.x, .int .i64 q.y, .slice A L.length a]) := (Bkk.new (cs := #[.int .i64 q.c, .int .i64 q.n, .int .i64 q.o, .int .i64 q.x, .int .i64 q.y, .slice A L.length a]) (t := 46) w).alloc _
  have R : Hid (Bkk ((w.alloc (.cells #[.int .i64 q.c, .int .i64 q.n, .int .i64 q.o, .int .i64 q.x, .int .i64 q.y, .slice A L.length a] 46)).alloc (.cells #[.int .i64 r.c, .int .i64 r.n, .int .i64 r.o, .int .i64 r.x, .int .i64 r.y] 43)) (w.heap.size + 1) 43 #[.int .i64 r.c, .int .i64 r.n, .int .i64 r.o, .int .i64 r.x, .int .i64 r.y]) := by have := Bkk.new (cs := #[.int .i64 r.c, .int .i64 r.n, .int .i64 r.o, .int .i64 r.x, .int .i64 r.y]) (t := 43) (w.alloc (.cells #[.int .i64 q.c, .int .i64 q.n, .int .i64 q.o, .int .i64 q.x, .int .i64 q.y, .slice A L.length a] 46)); simpa [Hid] using this
  have Z : Hid (Below w.heap.size w ((w.alloc (.cells #[.int .i64 q.c, .int .i64 q.n, .int .i64 q.o, .int .i64 q.x, .int .i64 q.y, .slice A L.length a] 46)).alloc (.cells #[.int .i64 r.c, .int .i64 r.n, .int .i64 r.o, .int .i64 r.x, .int .i64 r.y] 43))) := below_alloc2 w _ _
  have HX := Lib.hid hX
  clear rL hX hlen
  go_enter Try.func9, Try.ntmps9
  go_upto_region 2 with (fail)
  obtain ⟨w0, hw0⟩ : ∃ X, X = ((w.alloc (.cells #[.int .i64 q.c, .int .i64 q.n, .int .i64 q.o, .int .i64 q.x, .int .i64 q.y, .slice A L.length a] 46)).alloc (.cells #[.int .i64 r.c, .int .i64 r.n, .int .i64 r.o, .int .i64 r.x, .int .i64 r.y] 43)) := ⟨_, rfl⟩
  rw [← hw0] at K R Z ⊢
  clear hw0
  have p0 : w0.cell? ⟨w.heap.size, 0, none⟩ = some (.int .i64 q.c) := K.out.cell 0
  have p1 : w0.cell? ⟨w.heap.size, 1, none⟩ = some (.int .i64 q.n) := K.out.cell 1
  have p2 : w0.cell? ⟨w.heap.size, 2, none⟩ = some (.int .i64 q.o) := K.out.cell 2
  have p3 : w0.cell? ⟨w.heap.size, 3, none⟩ = some (.int .i64 q.x) := K.out.cell 3
  have p4 : w0.cell? ⟨w.heap.size, 4, none⟩ = some (.int .i64 q.y) := K.out.cell 4
  have p5 : w0.cell? ⟨w.heap.size, 5, none⟩ = some (.slice A L.length a) := K.out.cell 5
  go_wp2_with (fail)
  refine (szPlayer q A L.length a _ mL).mono ?_
  rintro e wA ⟨rfl, hb⟩
  have K := Lib.hid (K.out.below hb)
  have R := Lib.hid (R.out.below hb)
  have Z := Lib.hid (Below.and Z.out hb)
  clear hb p0 p1 p2 p3 p4 p5
  by_cases hs : ¬ L.length ≤ 1048576
  · rw [show szOfP L.length = -1 by unfold szOfP; rw [if_neg hs]]
    go_wp2
    go_light
    go_ret
    exact ⟨rfl, Z.out⟩
  have hL : L.length ≤ 1048576 := by omega
  have HLN : Hid (L1.length ≤ 2097152) := by have := HLE.out; show _ ≤ _; omega
  rw [show szOfP L.length = 1048576 - (L.length : Int) by unfold szOfP; rw [if_pos (by omega)]]
  have e0 : decide ((1048576 : Int) - (L.length : Int) < 0) = false := by simp; omega
  clear mL hs
  have HS : Hid (∀ (wx : World) (A' : Option Addr) (a' : Nat), RdP wx A' a' L → Calls Try.prog 21 #[playerV q A' L.length a', r.val] wx (DoPl ((q1, L1), x2) wx)) := fun wx A' a' h => by rw [HX.out]; exact specPlayerAsk q A' a' L r wx (by omega) h
  have HI : Hid (∀ (wx : World) (A' : Option Addr) (a' : Nat), RdP wx A' a' L → Calls Try.prog 20 #[playerV q A' L.length a', r.val] wx (DoPl ((q1, L1), x2) wx)) := fun wx A' a' h => by rw [HX.out]; exact implPlayerAsk q A' a' L r wx (by omega) h
  have nx : (x2 != x2) = false := by simp
  clear HX HLE
  go_upto_region 5 with (fail)
  go_cut [6, 7] from 16 (fun s6 s7 wc => ∃ p9 A9 a9 lo9 hi9, s6 = .pointer (some ⟨p9, 0, none⟩) ∧ s7 = .bool x2 ∧ Hid (Bkk wc p9 27 #[.int .i64 q1.c, .int .i64 q1.n, .int .i64 q1.o, .int .i64 q1.x, .int .i64 q1.y, .slice A9 L1.length a9]) ∧ Hid (OwQ wc lo9 hi9 A9 a9 L1) ∧ Hid (wA.heap.size ≤ lo9) ∧ Hid (wA.heap.size ≤ p9) ∧ Hid (hi9 ≤ wc.heap.size) ∧ Hid (Below wA.heap.size wA wc))
  case first =>
    have p0 : wA.cell? ⟨w.heap.size, 0, none⟩ = some (.int .i64 q.c) := K.out.cell 0
    have p1 : wA.cell? ⟨w.heap.size, 1, none⟩ = some (.int .i64 q.n) := K.out.cell 1
    have p2 : wA.cell? ⟨w.heap.size, 2, none⟩ = some (.int .i64 q.o) := K.out.cell 2
    have p3 : wA.cell? ⟨w.heap.size, 3, none⟩ = some (.int .i64 q.x) := K.out.cell 3
    have p4 : wA.cell? ⟨w.heap.size, 4, none⟩ = some (.int .i64 q.y) := K.out.cell 4
    have p5 : wA.cell? ⟨w.heap.size, 5, none⟩ = some (.slice A L.length a) := K.out.cell 5
    have y0 : wA.cell? ⟨w.heap.size + 1, 0, none⟩ = some (.int .i64 r.c) := R.out.cell 0
    have y1 : wA.cell? ⟨w.heap.size + 1, 1, none⟩ = some (.int .i64 r.n) := R.out.cell 1
    have y2 : wA.cell? ⟨w.heap.size + 1, 2, none⟩ = some (.int .i64 r.o) := R.out.cell 2
    have y3 : wA.cell? ⟨w.heap.size + 1, 3, none⟩ = some (.int .i64 r.x) := R.out.cell 3
    have y4 : wA.cell? ⟨w.heap.size + 1, 4, none⟩ = some (.int .i64 r.y) := R.out.cell 4
    have lk := K.out.lt
    have lr := R.out.lt
    refine wp_region_held_drew (S := fun WS => Below wA.heap.size wA WS) (by kernel_rfl) ((Below.refl _ _).drew) (fun hS0 => ?_)
    refine takeD 0 22 (v := ?_) rfl rfl (by kernel_rfl) (by kernel_rfl) (by kernel_rfl) (fun _ _ _ h => h) (Or.inl ⟨by rfl, ?_⟩) (by assumption) ?_
    rotate_left
    · intro wS hSw; obtain ⟨hcS, hfS⟩ := bcell hSw; go_simp; (try with_reducible rfl)
    (try simp only [Act.put, List.setIfInBounds_toArray, List.set_cons_zero, List.set_cons_succ])
    refine takeD 2 24 (v := ?_) rfl rfl (by kernel_rfl) (by kernel_rfl) (by kernel_rfl) (fun _ _ _ h => h) (Or.inl ⟨by rfl, ?_⟩) (by assumption) ?_
    rotate_left
    · intro wS hSw; obtain ⟨hcS, hfS⟩ := bcell hSw; go_simp; (try with_reducible rfl)
    (try simp only [Act.put, List.setIfInBounds_toArray, List.set_cons_zero, List.set_cons_succ])
    have HB : Hid (Below wA.heap.size wA wA.drew) := (Below.refl _ _).drew
    refine wpAnyH_ready (rs := [1, 8]) (by kernel_rfl) (by simp) ?_
    refine AllReadyH.cons rfl (fun KK hK => ?_) (AllReadyH.cons rfl (fun KK hK => ?_) AllReadyH.nil)
    · go_simp
      refine (toPlayer q A a L _ hL (Rd.below HR.out (Below.and Z.out HB.out))).mono ?_
      rintro e wx91 ⟨gX, rfl, oa, hb⟩
      have HB := Lib.hid (Below.and HB.out hb)
      have OX := Lib.hid oa.bd
      clear oa hb
      refine hK.out _ _ HB.out (fun hSx92 => ?_)
      clear hK KK
      (try simp only [Act.put, List.setIfInBounds_toArray, List.set_cons_zero, List.set_cons_succ])
      refine wpAnyH_ready (rs := [3, 8]) (by kernel_rfl) (by simp) ?_
      refine AllReadyH.cons rfl (fun KK hK => ?_) (AllReadyH.cons rfl (fun KK hK => ?_) AllReadyH.nil)
      · go_simp
        refine (toRq r _).mono ?_
        rintro e wx93 ⟨rfl, hb⟩
        have OX := Lib.hid (OX.out.below hb)
        have HB := Lib.hid (Below.and HB.out hb)
        clear hb
        refine hK.out _ _ HB.out (fun hSx94 => ?_)
        clear hK KK
        (try simp only [Act.put, List.setIfInBounds_toArray, List.set_cons_zero, List.set_cons_succ])
        refine wpAnyH_ready (rs := [4, 8]) (by kernel_rfl) (by simp) ?_
        refine AllReadyH.cons rfl (fun KK hK => ?_) (AllReadyH.cons rfl (fun KK hK => ?_) AllReadyH.nil)
        · go_simp
          have LO := Lib.hid (show wA.heap.size ≤ wx93.heap.size from HB.out.size)
          refine (HS.out _ _ _ OX.out.own.rdP).mono ?_
          rintro e wx95 ⟨AS, aS, rfl, oa, hb⟩
          have OX := Lib.hid (OX.out.below hb)
          have HB := Lib.hid (Below.and HB.out hb)
          have OS := Lib.hid oa.bd
          have HZ := Lib.hid (Nat.le_refl wx95.heap.size)
          clear oa hb
          refine hK.out _ _ HB.out (fun hSx96 => ?_)
          clear hK KK
          (try simp only [Act.put, List.setIfInBounds_toArray, List.set_cons_zero, List.set_cons_succ])
          refine takeD 5 21 (v := ?_) rfl rfl (by kernel_rfl) (by kernel_rfl) (by kernel_rfl) (fun _ _ _ h => h) (Or.inl ⟨by rfl, ?_⟩) (by assumption) ?_
          rotate_left
          · intro wS hSw; obtain ⟨hcS, hfS⟩ := bcell hSw; go_simp; (try with_reducible rfl)
          (try simp only [Act.put, List.setIfInBounds_toArray, List.set_cons_zero, List.set_cons_succ])
          refine takeD 6 27 (v := ?_) rfl rfl (by kernel_rfl) (by kernel_rfl) (by kernel_rfl) (fun _ _ _ h => h) (Or.inl ⟨by rfl, ?_⟩) (by assumption) ?_
          rotate_left
          · intro wS hSw; obtain ⟨hcS, hfS⟩ := bcell hSw; go_simp; (try with_reducible rfl)
          (try simp only [Act.put, List.setIfInBounds_toArray, List.set_cons_zero, List.set_cons_succ])
          refine takeD 7 28 (v := ?_) rfl rfl (by kernel_rfl) (by kernel_rfl) (by kernel_rfl) (fun _ _ _ h => h) (Or.inl ⟨by rfl, ?_⟩) (by assumption) ?_
          rotate_left
          · intro wS hSw; obtain ⟨hcS, hfS⟩ := bcell hSw; go_simp; (try with_reducible rfl)
          (try simp only [Act.put, List.setIfInBounds_toArray, List.set_cons_zero, List.set_cons_succ])
          refine wpAnyH_ready (rs := [8]) (by kernel_rfl) (by simp) ?_
          refine AllReadyH.cons rfl (fun KK hK => ?_) AllReadyH.nil
          go_simp
          have hba : Below wx95.heap.size wx95 (wx95.alloc (.cells #[.int .i64 0, .int .i64 0, .int .i64 0, .int .i64 0, .int .i64 0, .slice none 0 0] 27)) := (Below.refl _ _).alloc (Nat.le_refl _) _
          refine hK.out _ _ (Below.and HB.out hba) (fun hSx99 => ?_)
          clear hK KK
          (try simp only [Act.put, List.setIfInBounds_toArray, List.set_cons_zero, List.set_cons_succ])
          have PB := Lib.hid (show wA.heap.size ≤ wx95.heap.size from HB.out.size)
          have OX := Lib.hid (OX.out.below hba)
          have OS := Lib.hid (OS.out.below hba)
          have HB := Lib.hid (Below.and HB.out hba)
          have TB : Hid (Bkk (wx95.alloc (.cells #[.int .i64 0, .int .i64 0, .int .i64 0, .int .i64 0, .int .i64 0, .slice none 0 0] 27)) wx95.heap.size 27 #[.int .i64 0, .int .i64 0, .int .i64 0, .int .i64 0, .int .i64 0, .slice none 0 0]) := Bkk.new wx95
          clear hba
          have HZ : Hid (wx95.heap.size ≤ (wx95.alloc (.cells #[.int .i64 0, .int .i64 0, .int .i64 0, .int .i64 0, .int .i64 0, .slice none 0 0] 27)).heap.size) := by show _ ≤ _; simp
          obtain ⟨HIz, hhi⟩ : ∃ X, X = wx95.heap.size := ⟨_, rfl⟩
          rw [← hhi] at HZ OS
          obtain ⟨px98, hp⟩ : ∃ X, X = wx95.heap.size := ⟨_, rfl⟩
          rw [← hp] at TB PB ⊢
          obtain ⟨wx97, hw⟩ : ∃ X, X = (wx95.alloc (.cells #[.int .i64 0, .int .i64 0, .int .i64 0, .int .i64 0, .int .i64 0, .slice none 0 0] 27)) := ⟨_, rfl⟩
          rw [← hw] at TB HB OX OS HZ ⊢
          clear hw hp hhi
          refine wpAnyH_ready (rs := [9]) (by kernel_rfl) (by simp) ?_
          refine AllReadyH.cons rfl (fun KK hK => ?_) AllReadyH.nil
          have zb0 : wx97.cell? ⟨px98, 0, none⟩ = some (.int .i64 0) := TB.out.cell 0
          have zb1 : wx97.cell? ⟨px98, 1, none⟩ = some (.int .i64 0) := TB.out.cell 1
          have zb2 : wx97.cell? ⟨px98, 2, none⟩ = some (.int .i64 0) := TB.out.cell 2
          have zb3 : wx97.cell? ⟨px98, 3, none⟩ = some (.int .i64 0) := TB.out.cell 3
          have zb4 : wx97.cell? ⟨px98, 4, none⟩ = some (.int .i64 0) := TB.out.cell 4
          have zb5 : wx97.cell? ⟨px98, 5, none⟩ = some (.slice none 0 0) := TB.out.cell 5
          have zbf := TB.out.frozen
          go_simp
          have HF : Hid (Below wA.heap.size wA ((((((wx97.setCell ⟨px98, 0, none⟩ (.int .i64 q1.c)).setCell ⟨px98, 1, none⟩ (.int .i64 q1.n)).setCell ⟨px98, 2, none⟩ (.int .i64 q1.o)).setCell ⟨px98, 3, none⟩ (.int .i64 q1.x)).setCell ⟨px98, 4, none⟩ (.int .i64 q1.y)).setCell ⟨px98, 5, none⟩ (.slice AS L1.length aS))) := (Below.setCell (Below.setCell (Below.setCell (Below.setCell (Below.setCell (Below.setCell HB.out (p := ⟨px98, 0, none⟩) PB.out (.int .i64 q1.c)) (p := ⟨px98, 1, none⟩) PB.out (.int .i64 q1.n)) (p := ⟨px98, 2, none⟩) PB.out (.int .i64 q1.o)) (p := ⟨px98, 3, none⟩) PB.out (.int .i64 q1.x)) (p := ⟨px98, 4, none⟩) PB.out (.int .i64 q1.y)) (p := ⟨px98, 5, none⟩) PB.out (.slice AS L1.length aS))
          have OF := Lib.hid ((((((OS.out.box TB.out (by decide) 0 (.int .i64 q1.c)).box (TB.out.set 0 (.int .i64 q1.c)) (by decide) 1 (.int .i64 q1.n)).box ((TB.out.set 0 (.int .i64 q1.c)).set 1 (.int .i64 q1.n)) (by decide) 2 (.int .i64 q1.o)).box (((TB.out.set 0 (.int .i64 q1.c)).set 1 (.int .i64 q1.n)).set 2 (.int .i64 q1.o)) (by decide) 3 (.int .i64 q1.x)).box ((((TB.out.set 0 (.int .i64 q1.c)).set 1 (.int .i64 q1.n)).set 2 (.int .i64 q1.o)).set 3 (.int .i64 q1.x)) (by decide) 4 (.int .i64 q1.y)).box (((((TB.out.set 0 (.int .i64 q1.c)).set 1 (.int .i64 q1.n)).set 2 (.int .i64 q1.o)).set 3 (.int .i64 q1.x)).set 4 (.int .i64 q1.y)) (by decide) 5 (.slice AS L1.length aS))
          have TF : Hid (Bkk ((((((wx97.setCell ⟨px98, 0, none⟩ (.int .i64 q1.c)).setCell ⟨px98, 1, none⟩ (.int .i64 q1.n)).setCell ⟨px98, 2, none⟩ (.int .i64 q1.o)).setCell ⟨px98, 3, none⟩ (.int .i64 q1.x)).setCell ⟨px98, 4, none⟩ (.int .i64 q1.y)).setCell ⟨px98, 5, none⟩ (.slice AS L1.length aS)) px98 27 #[.int .i64 q1.c, .int .i64 q1.n, .int .i64 q1.o, .int .i64 q1.x, .int .i64 q1.y, .slice AS L1.length aS]) := ((((((TB.out.set 0 (.int .i64 q1.c)).set 1 (.int .i64 q1.n)).set 2 (.int .i64 q1.o)).set 3 (.int .i64 q1.x)).set 4 (.int .i64 q1.y)).set 5 (.slice AS L1.length aS))
          have ZF := Lib.hid (Nat.le_trans HZ.out (Nat.le_of_eq (show wx97.heap.size = ((((((wx97.setCell ⟨px98, 0, none⟩ (.int .i64 q1.c)).setCell ⟨px98, 1, none⟩ (.int .i64 q1.n)).setCell ⟨px98, 2, none⟩ (.int .i64 q1.o)).setCell ⟨px98, 3, none⟩ (.int .i64 q1.x)).setCell ⟨px98, 4, none⟩ (.int .i64 q1.y)).setCell ⟨px98, 5, none⟩ (.slice AS L1.length aS)).heap.size by simp)))
          refine hK.out _ _ HF.out (fun hSx100 => ?_)
          clear hK KK
          (try simp only [Act.put, List.setIfInBounds_toArray, List.set_cons_zero, List.set_cons_succ])
          refine takeD 10 7 (v := ?_) rfl rfl (by kernel_rfl) (by kernel_rfl) (by kernel_rfl) (fun _ _ _ h => h) (Or.inl ⟨by rfl, ?_⟩) (by assumption) ?_
          rotate_left
          · intro wS hSw; obtain ⟨hcS, hfS⟩ := bcell hSw; go_simp; (try with_reducible rfl)
          (try simp only [Act.put, List.setIfInBounds_toArray, List.set_cons_zero, List.set_cons_succ])
          refine wpAnyH_done (by kernel_rfl) ?_ _
          go_wp2_with (fail)
          go_meet
          case rel => exact ⟨px98, AS, aS, _, _, rfl, rfl, TF, OF, LO, PB, ZF, HF⟩
        · go_simp
          have hba : Below wx93.heap.size wx93 (wx93.alloc (.cells #[.int .i64 0, .int .i64 0, .int .i64 0, .int .i64 0, .int .i64 0, .slice none 0 0] 27)) := (Below.refl _ _).alloc (Nat.le_refl _) _
          refine hK.out _ _ (Below.and HB.out hba) (fun hSx103 => ?_)
          clear hK KK
          (try simp only [Act.put, List.setIfInBounds_toArray, List.set_cons_zero, List.set_cons_succ])
          have PB := Lib.hid (show wA.heap.size ≤ wx93.heap.size from HB.out.size)
          have OX := Lib.hid (OX.out.below hba)
          have HB := Lib.hid (Below.and HB.out hba)
          have TB : Hid (Bkk (wx93.alloc (.cells #[.int .i64 0, .int .i64 0, .int .i64 0, .int .i64 0, .int .i64 0, .slice none 0 0] 27)) wx93.heap.size 27 #[.int .i64 0, .int .i64 0, .int .i64 0, .int .i64 0, .int .i64 0, .slice none 0 0]) := Bkk.new wx93
          clear hba
          obtain ⟨px102, hp⟩ : ∃ X, X = wx93.heap.size := ⟨_, rfl⟩
          rw [← hp] at TB PB ⊢
          obtain ⟨wx101, hw⟩ : ∃ X, X = (wx93.alloc (.cells #[.int .i64 0, .int .i64 0, .int .i64 0, .int .i64 0, .int .i64 0, .slice none 0 0] 27)) := ⟨_, rfl⟩
          rw [← hw] at TB HB OX ⊢
          clear hw hp
          refine wpAnyH_ready (rs := [4]) (by kernel_rfl) (by simp) ?_
          refine AllReadyH.cons rfl (fun KK hK => ?_) AllReadyH.nil
          go_simp
          have LO := Lib.hid (show wA.heap.size ≤ wx101.heap.size from HB.out.size)
          refine (HS.out _ _ _ OX.out.own.rdP).mono ?_
          rintro e wx104 ⟨AS, aS, rfl, oa, hb⟩
          have OX := Lib.hid (OX.out.below hb)
          have TB := Lib.hid (TB.out.below hb)
          have HB := Lib.hid (Below.and HB.out hb)
          have OS := Lib.hid oa.bd
          have HZ := Lib.hid (Nat.le_refl wx104.heap.size)
          clear oa hb
          refine hK.out _ _ HB.out (fun hSx105 => ?_)
          clear hK KK
          (try simp only [Act.put, List.setIfInBounds_toArray, List.set_cons_zero, List.set_cons_succ])
          refine takeD 5 21 (v := ?_) rfl rfl (by kernel_rfl) (by kernel_rfl) (by kernel_rfl) (fun _ _ _ h => h) (Or.inl ⟨by rfl, ?_⟩) (by assumption) ?_
          rotate_left
          · intro wS hSw; obtain ⟨hcS, hfS⟩ := bcell hSw; go_simp; (try with_reducible rfl)
          (try simp only [Act.put, List.setIfInBounds_toArray, List.set_cons_zero, List.set_cons_succ])
          refine takeD 6 27 (v := ?_) rfl rfl (by kernel_rfl) (by kernel_rfl) (by kernel_rfl) (fun _ _ _ h => h) (Or.inl ⟨by rfl, ?_⟩) (by assumption) ?_
          rotate_left
          · intro wS hSw; obtain ⟨hcS, hfS⟩ := bcell hSw; go_simp; (try with_reducible rfl)
          (try simp only [Act.put, List.setIfInBounds_toArray, List.set_cons_zero, List.set_cons_succ])
          refine takeD 7 28 (v := ?_) rfl rfl (by kernel_rfl) (by kernel_rfl) (by kernel_rfl) (fun _ _ _ h => h) (Or.inl ⟨by rfl, ?_⟩) (by assumption) ?_
          rotate_left
          · intro wS hSw; obtain ⟨hcS, hfS⟩ := bcell hSw; go_simp; (try with_reducible rfl)
          (try simp only [Act.put, List.setIfInBounds_toArray, List.set_cons_zero, List.set_cons_succ])
          refine wpAnyH_ready (rs := [9]) (by kernel_rfl) (by simp) ?_
          refine AllReadyH.cons rfl (fun KK hK => ?_) AllReadyH.nil
          have zb0 : wx104.cell? ⟨px102, 0, none⟩ = some (.int .i64 0) := TB.out.cell 0
          have zb1 : wx104.cell? ⟨px102, 1, none⟩ = some (.int .i64 0) := TB.out.cell 1
          have zb2 : wx104.cell? ⟨px102, 2, none⟩ = some (.int .i64 0) := TB.out.cell 2
          have zb3 : wx104.cell? ⟨px102, 3, none⟩ = some (.int .i64 0) := TB.out.cell 3
          have zb4 : wx104.cell? ⟨px102, 4, none⟩ = some (.int .i64 0) := TB.out.cell 4
          have zb5 : wx104.cell? ⟨px102, 5, none⟩ = some (.slice none 0 0) := TB.out.cell 5
          have zbf := TB.out.frozen
          go_simp
          have HF : Hid (Below wA.heap.size wA ((((((wx104.setCell ⟨px102, 0, none⟩ (.int .i64 q1.c)).setCell ⟨px102, 1, none⟩ (.int .i64 q1.n)).setCell ⟨px102, 2, none⟩ (.int .i64 q1.o)).setCell ⟨px102, 3, none⟩ (.int .i64 q1.x)).setCell ⟨px102, 4, none⟩ (.int .i64 q1.y)).setCell ⟨px102, 5, none⟩ (.slice AS L1.length aS))) := (Below.setCell (Below.setCell (Below.setCell (Below.setCell (Below.setCell (Below.setCell HB.out (p := ⟨px102, 0, none⟩) PB.out (.int .i64 q1.c)) (p := ⟨px102, 1, none⟩) PB.out (.int .i64 q1.n)) (p := ⟨px102, 2, none⟩) PB.out (.int .i64 q1.o)) (p := ⟨px102, 3, none⟩) PB.out (.int .i64 q1.x)) (p := ⟨px102, 4, none⟩) PB.out (.int .i64 q1.y)) (p := ⟨px102, 5, none⟩) PB.out (.slice AS L1.length aS))
          have OF := Lib.hid ((((((OS.out.box TB.out (by decide) 0 (.int .i64 q1.c)).box (TB.out.set 0 (.int .i64 q1.c)) (by decide) 1 (.int .i64 q1.n)).box ((TB.out.set 0 (.int .i64 q1.c)).set 1 (.int .i64 q1.n)) (by decide) 2 (.int .i64 q1.o)).box (((TB.out.set 0 (.int .i64 q1.c)).set 1 (.int .i64 q1.n)).set 2 (.int .i64 q1.o)) (by decide) 3 (.int .i64 q1.x)).box ((((TB.out.set 0 (.int .i64 q1.c)).set 1 (.int .i64 q1.n)).set 2 (.int .i64 q1.o)).set 3 (.int .i64 q1.x)) (by decide) 4 (.int .i64 q1.y)).box (((((TB.out.set 0 (.int .i64 q1.c)).set 1 (.int .i64 q1.n)).set 2 (.int .i64 q1.o)).set 3 (.int .i64 q1.x)).set 4 (.int .i64 q1.y)) (by decide) 5 (.slice AS L1.length aS))
          have TF : Hid (Bkk ((((((wx104.setCell ⟨px102, 0, none⟩ (.int .i64 q1.c)).setCell ⟨px102, 1, none⟩ (.int .i64 q1.n)).setCell ⟨px102, 2, none⟩ (.int .i64 q1.o)).setCell ⟨px102, 3, none⟩ (.int .i64 q1.x)).setCell ⟨px102, 4, none⟩ (.int .i64 q1.y)).setCell ⟨px102, 5, none⟩ (.slice AS L1.length aS)) px102 27 #[.int .i64 q1.c, .int .i64 q1.n, .int .i64 q1.o, .int .i64 q1.x, .int .i64 q1.y, .slice AS L1.length aS]) := ((((((TB.out.set 0 (.int .i64 q1.c)).set 1 (.int .i64 q1.n)).set 2 (.int .i64 q1.o)).set 3 (.int .i64 q1.x)).set 4 (.int .i64 q1.y)).set 5 (.slice AS L1.length aS))
          have ZF := Lib.hid (Nat.le_trans HZ.out (Nat.le_of_eq (show wx104.heap.size = ((((((wx104.setCell ⟨px102, 0, none⟩ (.int .i64 q1.c)).setCell ⟨px102, 1, none⟩ (.int .i64 q1.n)).setCell ⟨px102, 2, none⟩ (.int .i64 q1.o)).setCell ⟨px102, 3, none⟩ (.int .i64 q1.x)).setCell ⟨px102, 4, none⟩ (.int .i64 q1.y)).setCell ⟨px102, 5, none⟩ (.slice AS L1.length aS)).heap.size by simp)))
          refine hK.out _ _ HF.out (fun hSx106 => ?_)
          clear hK KK
          (try simp only [Act.put, List.setIfInBounds_toArray, List.set_cons_zero, List.set_cons_succ])
          refine takeD 10 7 (v := ?_) rfl rfl (by kernel_rfl) (by kernel_rfl) (by kernel_rfl) (fun _ _ _ h => h) (Or.inl ⟨by rfl, ?_⟩) (by assumption) ?_
          rotate_left
          · intro wS hSw; obtain ⟨hcS, hfS⟩ := bcell hSw; go_simp; (try with_reducible rfl)
          (try simp only [Act.put, List.setIfInBounds_toArray, List.set_cons_zero, List.set_cons_succ])
          refine wpAnyH_done (by kernel_rfl) ?_ _
          go_wp2_with (fail)
          go_meet
          case rel => exact ⟨px102, AS, aS, _, _, rfl, rfl, TF, OF, LO, PB, ZF, HF⟩
      · go_simp
        have hba : Below wx91.heap.size wx91 (wx91.alloc (.cells #[.int .i64 0, .int .i64 0, .int .i64 0, .int .i64 0, .int .i64 0, .slice none 0 0] 27)) := (Below.refl _ _).alloc (Nat.le_refl _) _
        refine hK.out _ _ (Below.and HB.out hba) (fun hSx109 => ?_)
        clear hK KK
        (try simp only [Act.put, List.setIfInBounds_toArray, List.set_cons_zero, List.set_cons_succ])
        have PB := Lib.hid (show wA.heap.size ≤ wx91.heap.size from HB.out.size)
        have OX := Lib.hid (OX.out.below hba)
        have HB := Lib.hid (Below.and HB.out hba)
        have TB : Hid (Bkk (wx91.alloc (.cells #[.int .i64 0, .int .i64 0, .int .i64 0, .int .i64 0, .int .i64 0, .slice none 0 0] 27)) wx91.heap.size 27 #[.int .i64 0, .int .i64 0, .int .i64 0, .int .i64 0, .int .i64 0, .slice none 0 0]) := Bkk.new wx91
        clear hba
        obtain ⟨px108, hp⟩ : ∃ X, X = wx91.heap.size := ⟨_, rfl⟩
        rw [← hp] at TB PB ⊢
        obtain ⟨wx107, hw⟩ : ∃ X, X = (wx91.alloc (.cells #[.int .i64 0, .int .i64 0, .int .i64 0, .int .i64 0, .int .i64 0, .slice none 0 0] 27)) := ⟨_, rfl⟩
        rw [← hw] at TB HB OX ⊢
        clear hw hp
        refine wpAnyH_ready (rs := [3]) (by kernel_rfl) (by simp) ?_
        refine AllReadyH.cons rfl (fun KK hK => ?_) AllReadyH.nil
        go_simp
        refine (toRq r _).mono ?_
        rintro e wx110 ⟨rfl, hb⟩
        have OX := Lib.hid (OX.out.below hb)
        have TB := Lib.hid (TB.out.below hb)
        have HB := Lib.hid (Below.and HB.out hb)
        clear hb
        refine hK.out _ _ HB.out (fun hSx111 => ?_)
        clear hK KK
        (try simp only [Act.put, List.setIfInBounds_toArray, List.set_cons_zero, List.set_cons_succ])
        refine wpAnyH_ready (rs := [4]) (by kernel_rfl) (by simp) ?_
        refine AllReadyH.cons rfl (fun KK hK => ?_) AllReadyH.nil
        go_simp
        have LO := Lib.hid (show wA.heap.size ≤ wx110.heap.size from HB.out.size)
        refine (HS.out _ _ _ OX.out.own.rdP).mono ?_
        rintro e wx112 ⟨AS, aS, rfl, oa, hb⟩
        have OX := Lib.hid (OX.out.below hb)
        have TB := Lib.hid (TB.out.below hb)
        have HB := Lib.hid (Below.and HB.out hb)
        have OS := Lib.hid oa.bd
        have HZ := Lib.hid (Nat.le_refl wx112.heap.size)
        clear oa hb
        refine hK.out _ _ HB.out (fun hSx113 => ?_)
        clear hK KK
        (try simp only [Act.put, List.setIfInBounds_toArray, List.set_cons_zero, List.set_cons_succ])
        refine takeD 5 21 (v := ?_) rfl rfl (by kernel_rfl) (by kernel_rfl) (by kernel_rfl) (fun _ _ _ h => h) (Or.inl ⟨by rfl, ?_⟩) (by assumption) ?_
        rotate_left
        · intro wS hSw; obtain ⟨hcS, hfS⟩ := bcell hSw; go_simp; (try with_reducible rfl)
        (try simp only [Act.put, List.setIfInBounds_toArray, List.set_cons_zero, List.set_cons_succ])
        refine takeD 6 27 (v := ?_) rfl rfl (by kernel_rfl) (by kernel_rfl) (by kernel_rfl) (fun _ _ _ h => h) (Or.inl ⟨by rfl, ?_⟩) (by assumption) ?_
        rotate_left
        · intro wS hSw; obtain ⟨hcS, hfS⟩ := bcell hSw; go_simp; (try with_reducible rfl)
        (try simp only [Act.put, List.setIfInBounds_toArray, List.set_cons_zero, List.set_cons_succ])
        refine takeD 7 28 (v := ?_) rfl rfl (by kernel_rfl) (by kernel_rfl) (by kernel_rfl) (fun _ _ _ h => h) (Or.inl ⟨by rfl, ?_⟩) (by assumption) ?_
        rotate_left
        · intro wS hSw; obtain ⟨hcS, hfS⟩ := bcell hSw; go_simp; (try with_reducible rfl)
        (try simp only [Act.put, List.setIfInBounds_toArray, List.set_cons_zero, List.set_cons_succ])
        refine wpAnyH_ready (rs := [9]) (by kernel_rfl) (by simp) ?_
        refine AllReadyH.cons rfl (fun KK hK => ?_) AllReadyH.nil
        have zb0 : wx112.cell? ⟨px108, 0, none⟩ = some (.int .i64 0) := TB.out.cell 0
        have zb1 : wx112.cell? ⟨px108, 1, none⟩ = some (.int .i64 0) := TB.out.cell 1
        have zb2 : wx112.cell? ⟨px108, 2, none⟩ = some (.int .i64 0) := TB.out.cell 2
        have zb3 : wx112.cell? ⟨px108, 3, none⟩ = some (.int .i64 0) := TB.out.cell 3
        have zb4 : wx112.cell? ⟨px108, 4, none⟩ = some (.int .i64 0) := TB.out.cell 4
        have zb5 : wx112.cell? ⟨px108, 5, none⟩ = some (.slice none 0 0) := TB.out.cell 5
        have zbf := TB.out.frozen
        go_simp
        have HF : Hid (Below wA.heap.size wA ((((((wx112.setCell ⟨px108, 0, none⟩ (.int .i64 q1.c)).setCell ⟨px108, 1, none⟩ (.int .i64 q1.n)).setCell ⟨px108, 2, none⟩ (.int .i64 q1.o)).setCell ⟨px108, 3, none⟩ (.int .i64 q1.x)).setCell ⟨px108, 4, none⟩ (.int .i64 q1.y)).setCell ⟨px108, 5, none⟩ (.slice AS L1.length aS))) := (Below.setCell (Below.setCell (Below.setCell (Below.setCell (Below.setCell (Below.setCell HB.out (p := ⟨px108, 0, none⟩) PB.out (.int .i64 q1.c)) (p := ⟨px108, 1, none⟩) PB.out (.int .i64 q1.n)) (p := ⟨px108, 2, none⟩) PB.out (.int .i64 q1.o)) (p := ⟨px108, 3, none⟩) PB.out (.int .i64 q1.x)) (p := ⟨px108, 4, none⟩) PB.out (.int .i64 q1.y)) (p := ⟨px108, 5, none⟩) PB.out (.slice AS L1.length aS))
        have OF := Lib.hid ((((((OS.out.box TB.out (by decide) 0 (.int .i64 q1.c)).box (TB.out.set 0 (.int .i64 q1.c)) (by decide) 1 (.int .i64 q1.n)).box ((TB.out.set 0 (.int .i64 q1.c)).set 1 (.int .i64 q1.n)) (by decide) 2 (.int .i64 q1.o)).box (((TB.out.set 0 (.int .i64 q1.c)).set 1 (.int .i64 q1.n)).set 2 (.int .i64 q1.o)) (by decide) 3 (.int .i64 q1.x)).box ((((TB.out.set 0 (.int .i64 q1.c)).set 1 (.int .i64 q1.n)).set 2 (.int .i64 q1.o)).set 3 (.int .i64 q1.x)) (by decide) 4 (.int .i64 q1.y)).box (((((TB.out.set 0 (.int .i64 q1.c)).set 1 (.int .i64 q1.n)).set 2 (.int .i64 q1.o)).set 3 (.int .i64 q1.x)).set 4 (.int .i64 q1.y)) (by decide) 5 (.slice AS L1.length aS))
        have TF : Hid (Bkk ((((((wx112.setCell ⟨px108, 0, none⟩ (.int .i64 q1.c)).setCell ⟨px108, 1, none⟩ (.int .i64 q1.n)).setCell ⟨px108, 2, none⟩ (.int .i64 q1.o)).setCell ⟨px108, 3, none⟩ (.int .i64 q1.x)).setCell ⟨px108, 4, none⟩ (.int .i64 q1.y)).setCell ⟨px108, 5, none⟩ (.slice AS L1.length aS)) px108 27 #[.int .i64 q1.c, .int .i64 q1.n, .int .i64 q1.o, .int .i64 q1.x, .int .i64 q1.y, .slice AS L1.length aS]) := ((((((TB.out.set 0 (.int .i64 q1.c)).set 1 (.int .i64 q1.n)).set 2 (.int .i64 q1.o)).set 3 (.int .i64 q1.x)).set 4 (.int .i64 q1.y)).set 5 (.slice AS L1.length aS))
        have ZF := Lib.hid (Nat.le_trans HZ.out (Nat.le_of_eq (show wx112.heap.size = ((((((wx112.setCell ⟨px108, 0, none⟩ (.int .i64 q1.c)).setCell ⟨px108, 1, none⟩ (.int .i64 q1.n)).setCell ⟨px108, 2, none⟩ (.int .i64 q1.o)).setCell ⟨px108, 3, none⟩ (.int .i64 q1.x)).setCell ⟨px108, 4, none⟩ (.int .i64 q1.y)).setCell ⟨px108, 5, none⟩ (.slice AS L1.length aS)).heap.size by simp)))
        refine hK.out _ _ HF.out (fun hSx114 => ?_)
        clear hK KK
        (try simp only [Act.put, List.setIfInBounds_toArray, List.set_cons_zero, List.set_cons_succ])
        refine takeD 10 7 (v := ?_) rfl rfl (by kernel_rfl) (by kernel_rfl) (by kernel_rfl) (fun _ _ _ h => h) (Or.inl ⟨by rfl, ?_⟩) (by assumption) ?_
        rotate_left
        · intro wS hSw; obtain ⟨hcS, hfS⟩ := bcell hSw; go_simp; (try with_reducible rfl)
        (try simp only [Act.put, List.setIfInBounds_toArray, List.set_cons_zero, List.set_cons_succ])
        refine wpAnyH_done (by kernel_rfl) ?_ _
        go_wp2_with (fail)
        go_meet
        case rel => exact ⟨px108, AS, aS, _, _, rfl, rfl, TF, OF, LO, PB, ZF, HF⟩
    · go_simp
      have hba : Below wA.drew.heap.size wA.drew (wA.alloc (.cells #[.int .i64 0, .int .i64 0, .int .i64 0, .int .i64 0, .int .i64 0, .slice none 0 0] 27)).drew := (Below.refl _ _).alloc (Nat.le_refl _) _
      refine hK.out _ _ (Below.and HB.out hba) (fun hSx117 => ?_)
      clear hK KK
      (try simp only [Act.put, List.setIfInBounds_toArray, List.set_cons_zero, List.set_cons_succ])
      have PB := Lib.hid (show wA.heap.size ≤ wA.heap.size from HB.out.size)
      have HB := Lib.hid (Below.and HB.out hba)
      have TB : Hid (Bkk (wA.alloc (.cells #[.int .i64 0, .int .i64 0, .int .i64 0, .int .i64 0, .int .i64 0, .slice none 0 0] 27)).drew wA.heap.size 27 #[.int .i64 0, .int .i64 0, .int .i64 0, .int .i64 0, .int .i64 0, .slice none 0 0]) := Bkk.new wA
      clear hba
      obtain ⟨wx115, hw⟩ : ∃ X, X = (wA.alloc (.cells #[.int .i64 0, .int .i64 0, .int .i64 0, .int .i64 0, .int .i64 0, .slice none 0 0] 27)).drew := ⟨_, rfl⟩
      rw [← hw] at TB HB ⊢
      clear hw
      refine wpAnyH_ready (rs := [1]) (by kernel_rfl) (by simp) ?_
      refine AllReadyH.cons rfl (fun KK hK => ?_) AllReadyH.nil
      go_simp
      refine (toPlayer q A a L _ hL (Rd.below HR.out (Below.and Z.out HB.out))).mono ?_
      rintro e wx118 ⟨gX, rfl, oa, hb⟩
      have TB := Lib.hid (TB.out.below hb)
      have HB := Lib.hid (Below.and HB.out hb)
      have OX := Lib.hid oa.bd
      clear oa hb
      refine hK.out _ _ HB.out (fun hSx119 => ?_)
      clear hK KK
      (try simp only [Act.put, List.setIfInBounds_toArray, List.set_cons_zero, List.set_cons_succ])
      refine wpAnyH_ready (rs := [3]) (by kernel_rfl) (by simp) ?_
      refine AllReadyH.cons rfl (fun KK hK => ?_) AllReadyH.nil
      go_simp
      refine (toRq r _).mono ?_
      rintro e wx120 ⟨rfl, hb⟩
      have OX := Lib.hid (OX.out.below hb)
      have TB := Lib.hid (TB.out.below hb)
      have HB := Lib.hid (Below.and HB.out hb)
      clear hb
      refine hK.out _ _ HB.out (fun hSx121 => ?_)
      clear hK KK
      (try simp only [Act.put, List.setIfInBounds_toArray, List.set_cons_zero, List.set_cons_succ])
      refine wpAnyH_ready (rs := [4]) (by kernel_rfl) (by simp) ?_
      refine AllReadyH.cons rfl (fun KK hK => ?_) AllReadyH.nil
      go_simp
      have LO := Lib.hid (show wA.heap.size ≤ wx120.heap.size from HB.out.size)
      refine (HS.out _ _ _ OX.out.own.rdP).mono ?_
      rintro e wx122 ⟨AS, aS, rfl, oa, hb⟩
      have OX := Lib.hid (OX.out.below hb)
      have TB := Lib.hid (TB.out.below hb)
      have HB := Lib.hid (Below.and HB.out hb)
      have OS := Lib.hid oa.bd
      have HZ := Lib.hid (Nat.le_refl wx122.heap.size)
      clear oa hb
      refine hK.out _ _ HB.out (fun hSx123 => ?_)
      clear hK KK
      (try simp only [Act.put, List.setIfInBounds_toArray, List.set_cons_zero, List.set_cons_succ])
      refine takeD 5 21 (v := ?_) rfl rfl (by kernel_rfl) (by kernel_rfl) (by kernel_rfl) (fun _ _ _ h => h) (Or.inl ⟨by rfl, ?_⟩) (by assumption) ?_
      rotate_left
      · intro wS hSw; obtain ⟨hcS, hfS⟩ := bcell hSw; go_simp; (try with_reducible rfl)
      (try simp only [Act.put, List.setIfInBounds_toArray, List.set_cons_zero, List.set_cons_succ])
      refine takeD 6 27 (v := ?_) rfl rfl (by kernel_rfl) (by kernel_rfl) (by kernel_rfl) (fun _ _ _ h => h) (Or.inl ⟨by rfl, ?_⟩) (by assumption) ?_
      rotate_left
      · intro wS hSw; obtain ⟨hcS, hfS⟩ := bcell hSw; go_simp; (try with_reducible rfl)
      (try simp only [Act.put, List.setIfInBounds_toArray, List.set_cons_zero, List.set_cons_succ])
      refine takeD 7 28 (v := ?_) rfl rfl (by kernel_rfl) (by kernel_rfl) (by kernel_rfl) (fun _ _ _ h => h) (Or.inl ⟨by rfl, ?_⟩) (by assumption) ?_
      rotate_left
      · intro wS hSw; obtain ⟨hcS, hfS⟩ := bcell hSw; go_simp; (try with_reducible rfl)
      (try simp only [Act.put, List.setIfInBounds_toArray, List.set_cons_zero, List.set_cons_succ])
      refine wpAnyH_ready (rs := [9]) (by kernel_rfl) (by simp) ?_
      refine AllReadyH.cons rfl (fun KK hK => ?_) AllReadyH.nil
      have zb0 : wx122.cell? ⟨wA.heap.size, 0, none⟩ = some (.int .i64 0) := TB.out.cell 0
      have zb1 : wx122.cell? ⟨wA.heap.size, 1, none⟩ = some (.int .i64 0) := TB.out.cell 1
      have zb2 : wx122.cell? ⟨wA.heap.size, 2, none⟩ = some (.int .i64 0) := TB.out.cell 2
      have zb3 : wx122.cell? ⟨wA.heap.size, 3, none⟩ = some (.int .i64 0) := TB.out.cell 3
      have zb4 : wx122.cell? ⟨wA.heap.size, 4, none⟩ = some (.int .i64 0) := TB.out.cell 4
      have zb5 : wx122.cell? ⟨wA.heap.size, 5, none⟩ = some (.slice none 0 0) := TB.out.cell 5
      have zbf := TB.out.frozen
      go_simp
      have HF : Hid (Below wA.heap.size wA ((((((wx122.setCell ⟨wA.heap.size, 0, none⟩ (.int .i64 q1.c)).setCell ⟨wA.heap.size, 1, none⟩ (.int .i64 q1.n)).setCell ⟨wA.heap.size, 2, none⟩ (.int .i64 q1.o)).setCell ⟨wA.heap.size, 3, none⟩ (.int .i64 q1.x)).setCell ⟨wA.heap.size, 4, none⟩ (.int .i64 q1.y)).setCell ⟨wA.heap.size, 5, none⟩ (.slice AS L1.length aS))) := (Below.setCell (Below.setCell (Below.setCell (Below.setCell (Below.setCell (Below.setCell HB.out (p := ⟨wA.heap.size, 0, none⟩) PB.out (.int .i64 q1.c)) (p := ⟨wA.heap.size, 1, none⟩) PB.out (.int .i64 q1.n)) (p := ⟨wA.heap.size, 2, none⟩) PB.out (.int .i64 q1.o)) (p := ⟨wA.heap.size, 3, none⟩) PB.out (.int .i64 q1.x)) (p := ⟨wA.heap.size, 4, none⟩) PB.out (.int .i64 q1.y)) (p := ⟨wA.heap.size, 5, none⟩) PB.out (.slice AS L1.length aS))
      have OF := Lib.hid ((((((OS.out.box TB.out (by decide) 0 (.int .i64 q1.c)).box (TB.out.set 0 (.int .i64 q1.c)) (by decide) 1 (.int .i64 q1.n)).box ((TB.out.set 0 (.int .i64 q1.c)).set 1 (.int .i64 q1.n)) (by decide) 2 (.int .i64 q1.o)).box (((TB.out.set 0 (.int .i64 q1.c)).set 1 (.int .i64 q1.n)).set 2 (.int .i64 q1.o)) (by decide) 3 (.int .i64 q1.x)).box ((((TB.out.set 0 (.int .i64 q1.c)).set 1 (.int .i64 q1.n)).set 2 (.int .i64 q1.o)).set 3 (.int .i64 q1.x)) (by decide) 4 (.int .i64 q1.y)).box (((((TB.out.set 0 (.int .i64 q1.c)).set 1 (.int .i64 q1.n)).set 2 (.int .i64 q1.o)).set 3 (.int .i64 q1.x)).set 4 (.int .i64 q1.y)) (by decide) 5 (.slice AS L1.length aS))
      have TF : Hid (Bkk ((((((wx122.setCell ⟨wA.heap.size, 0, none⟩ (.int .i64 q1.c)).setCell ⟨wA.heap.size, 1, none⟩ (.int .i64 q1.n)).setCell ⟨wA.heap.size, 2, none⟩ (.int .i64 q1.o)).setCell ⟨wA.heap.size, 3, none⟩ (.int .i64 q1.x)).setCell ⟨wA.heap.size, 4, none⟩ (.int .i64 q1.y)).setCell ⟨wA.heap.size, 5, none⟩ (.slice AS L1.length aS)) wA.heap.size 27 #[.int .i64 q1.c, .int .i64 q1.n, .int .i64 q1.o, .int .i64 q1.x, .int .i64 q1.y, .slice AS L1.length aS]) := ((((((TB.out.set 0 (.int .i64 q1.c)).set 1 (.int .i64 q1.n)).set 2 (.int .i64 q1.o)).set 3 (.int .i64 q1.x)).set 4 (.int .i64 q1.y)).set 5 (.slice AS L1.length aS))
      have ZF := Lib.hid (Nat.le_trans HZ.out (Nat.le_of_eq (show wx122.heap.size = ((((((wx122.setCell ⟨wA.heap.size, 0, none⟩ (.int .i64 q1.c)).setCell ⟨wA.heap.size, 1, none⟩ (.int .i64 q1.n)).setCell ⟨wA.heap.size, 2, none⟩ (.int .i64 q1.o)).setCell ⟨wA.heap.size, 3, none⟩ (.int .i64 q1.x)).setCell ⟨wA.heap.size, 4, none⟩ (.int .i64 q1.y)).setCell ⟨wA.heap.size, 5, none⟩ (.slice AS L1.length aS)).heap.size by simp)))
      refine hK.out _ _ HF.out (fun hSx124 => ?_)
      clear hK KK
      (try simp only [Act.put, List.setIfInBounds_toArray, List.set_cons_zero, List.set_cons_succ])
      refine takeD 10 7 (v := ?_) rfl rfl (by kernel_rfl) (by kernel_rfl) (by kernel_rfl) (fun _ _ _ h => h) (Or.inl ⟨by rfl, ?_⟩) (by assumption) ?_
      rotate_left
      · intro wS hSw; obtain ⟨hcS, hfS⟩ := bcell hSw; go_simp; (try with_reducible rfl)
      (try simp only [Act.put, List.setIfInBounds_toArray, List.set_cons_zero, List.set_cons_succ])
      refine wpAnyH_done (by kernel_rfl) ?_ _
      go_wp2_with (fail)
      go_meet
      case rel => exact ⟨wA.heap.size, AS, aS, _, _, rfl, rfl, TF, OF, LO, PB, ZF, HF⟩
  case rest =>
    obtain ⟨p6, A6, a6, lo6, hi6, rfl, rfl, T6, O6, N6, _, U6, HB⟩ := hcut
    have K := Lib.hid (K.out.below HB.out)
    have R := Lib.hid (R.out.below HB.out)
    have Z := Lib.hid (Below.and Z.out HB.out)
    clear HB e0 HS N6
    have k0 : wc.cell? ⟨w.heap.size, 0, none⟩ = some (.int .i64 q.c) := K.out.cell 0
    have k1 : wc.cell? ⟨w.heap.size, 1, none⟩ = some (.int .i64 q.n) := K.out.cell 1
    have k2 : wc.cell? ⟨w.heap.size, 2, none⟩ = some (.int .i64 q.o) := K.out.cell 2
    have k3 : wc.cell? ⟨w.heap.size, 3, none⟩ = some (.int .i64 q.x) := K.out.cell 3
    have k4 : wc.cell? ⟨w.heap.size, 4, none⟩ = some (.int .i64 q.y) := K.out.cell 4
    have k5 : wc.cell? ⟨w.heap.size, 5, none⟩ = some (.slice A L.length a) := K.out.cell 5
    go_wp2_with (fail)
    refine (toPlayer q A a L _ hL (Rd.below HR.out Z.out)).mono ?_
    rintro e wd ⟨g8, rfl, oa, hb⟩
    obtain ⟨A8, hA8⟩ : ∃ X : Option Addr, X = some ⟨g8, 0, none⟩ := ⟨_, rfl⟩
    obtain ⟨a8, ha8⟩ : ∃ X, X = L.length := ⟨_, rfl⟩
    have oa : OwL wd wc.heap.size A8 a8 L := by rw [hA8, ha8]; exact oa
    have N8 := Lib.hid (show hi6 ≤ wc.heap.size from U6.out)
    have NZ := Lib.hid (show w.heap.size ≤ wc.heap.size from Z.out.size)
    have L88 := Lib.hid (show wc.heap.size ≤ wd.heap.size from hb.size)
    rw [show playerV q (some ⟨g8, 0, none⟩) L.length L.length = .agg #[.int .i64 q.c, .int .i64 q.n, .int .i64 q.o, .int .i64 q.x, .int .i64 q.y, .slice A8 L.length a8] by rw [hA8, ha8]]
    clear hA8 ha8 k0 k1 k2 k3 k4 k5
    have hba : Below wd.heap.size wd (wd.alloc (.cells #[.int .i64 q.c, .int .i64 q.n, .int .i64 q.o, .int .i64 q.x, .int .i64 q.y, .slice A8 L.length a8] 27)) := (Below.refl _ _).alloc (Nat.le_refl _) _
    have O8 := Lib.hid (oa.bd.below hba)
    have T8 : Hid (Bkk (wd.alloc (.cells #[.int .i64 q.c, .int .i64 q.n, .int .i64 q.o, .int .i64 q.x, .int .i64 q.y, .slice A8 L.length a8] 27)) wd.heap.size 27 #[.int .i64 q.c, .int .i64 q.n, .int .i64 q.o, .int .i64 q.x, .int .i64 q.y, .slice A8 L.length a8]) := Bkk.new _
    have K := Lib.hid (K.out.below hb)
    have R := Lib.hid (R.out.below hb)
    have Z := Lib.hid (Below.and Z.out hb)
    have T6 := Lib.hid (T6.out.below hb)
    have O6 := Lib.hid (O6.out.below hb)
    have K := Lib.hid (K.out.below hba)
    have R := Lib.hid (R.out.below hba)
    have Z := Lib.hid (Below.and Z.out hba)
    have T6 := Lib.hid (T6.out.below hba)
    have O6 := Lib.hid (O6.out.below hba)
    clear hb oa
    go_upto_region 7 with (fail)
    have U8 : Hid (wd.heap.size ≤ (wd.alloc (.cells #[.int .i64 q.c, .int .i64 q.n, .int .i64 q.o, .int .i64 q.x, .int .i64 q.y, .slice A8 L.length a8] 27)).heap.size) := hba.size
    clear hba
    obtain ⟨lo8, hlo8⟩ : ∃ X, X = wc.heap.size := ⟨_, rfl⟩
    obtain ⟨hi8, hhi8⟩ : ∃ X, X = wd.heap.size := ⟨_, rfl⟩
    obtain ⟨p8, hp8⟩ : ∃ X, X = wd.heap.size := ⟨_, rfl⟩
    obtain ⟨we, hwe⟩ : ∃ X, X = (wd.alloc (.cells #[.int .i64 q.c, .int .i64 q.n, .int .i64 q.o, .int .i64 q.x, .int .i64 q.y, .slice A8 L.length a8] 27)) := ⟨_, rfl⟩
    rw [← hwe] at K R Z T6 O6 O8 T8 U8 ⊢
    rw [← hlo8] at O8 N8 NZ L88
    rw [← hhi8] at O8 U8 L88
    rw [← hp8] at T8 ⊢
    clear hwe hlo8 hhi8 hp8 U6
    go_cut [9, 10] from 16 (fun s9 s10 wf => ∃ p9 A9 a9 lo9 hi9, s9 = .pointer (some ⟨p9, 0, none⟩) ∧ s10 = .bool x2 ∧ Hid (Bkk wf p9 27 #[.int .i64 q1.c, .int .i64 q1.n, .int .i64 q1.o, .int .i64 q1.x, .int .i64 q1.y, .slice A9 L1.length a9]) ∧ Hid (OwQ wf lo9 hi9 A9 a9 L1) ∧ Hid (we.heap.size ≤ lo9) ∧ Hid (we.heap.size ≤ p9) ∧ Hid (hi9 ≤ wf.heap.size) ∧ Hid (Below we.heap.size we wf))
    case first =>
      have p0 : we.cell? ⟨w.heap.size, 0, none⟩ = some (.int .i64 q.c) := K.out.cell 0
      have p1 : we.cell? ⟨w.heap.size, 1, none⟩ = some (.int .i64 q.n) := K.out.cell 1
      have p2 : we.cell? ⟨w.heap.size, 2, none⟩ = some (.int .i64 q.o) := K.out.cell 2
      have p3 : we.cell? ⟨w.heap.size, 3, none⟩ = some (.int .i64 q.x) := K.out.cell 3
      have p4 : we.cell? ⟨w.heap.size, 4, none⟩ = some (.int .i64 q.y) := K.out.cell 4
      have p5 : we.cell? ⟨w.heap.size, 5, none⟩ = some (.slice A L.length a) := K.out.cell 5
      have y0 : we.cell? ⟨w.heap.size + 1, 0, none⟩ = some (.int .i64 r.c) := R.out.cell 0
      have y1 : we.cell? ⟨w.heap.size + 1, 1, none⟩ = some (.int .i64 r.n) := R.out.cell 1
      have y2 : we.cell? ⟨w.heap.size + 1, 2, none⟩ = some (.int .i64 r.o) := R.out.cell 2
      have y3 : we.cell? ⟨w.heap.size + 1, 3, none⟩ = some (.int .i64 r.x) := R.out.cell 3
      have y4 : we.cell? ⟨w.heap.size + 1, 4, none⟩ = some (.int .i64 r.y) := R.out.cell 4
      have lk := K.out.lt
      have lr := R.out.lt
      have x0 : we.cell? ⟨p8, 0, none⟩ = some (.int .i64 q.c) := T8.out.cell 0
      have x1 : we.cell? ⟨p8, 1, none⟩ = some (.int .i64 q.n) := T8.out.cell 1
      have x2 : we.cell? ⟨p8, 2, none⟩ = some (.int .i64 q.o) := T8.out.cell 2
      have x3 : we.cell? ⟨p8, 3, none⟩ = some (.int .i64 q.x) := T8.out.cell 3
      have x4 : we.cell? ⟨p8, 4, none⟩ = some (.int .i64 q.y) := T8.out.cell 4
      have x5 : we.cell? ⟨p8, 5, none⟩ = some (.slice A8 L.length a8) := T8.out.cell 5
      have l8 := T8.out.lt
      refine wp_region_held_drew (S := fun WS => Below we.heap.size we WS) (by kernel_rfl) ((Below.refl _ _).drew) (fun hS0 => ?_)
      refine takeD 0 32 (v := ?_) rfl rfl (by kernel_rfl) (by kernel_rfl) (by kernel_rfl) (fun _ _ _ h => h) (Or.inl ⟨by rfl, ?_⟩) (by assumption) ?_
      rotate_left
      · intro wS hSw; obtain ⟨hcS, hfS⟩ := bcell hSw; go_simp; (try with_reducible rfl)
      (try simp only [Act.put, List.setIfInBounds_toArray, List.set_cons_zero, List.set_cons_succ])
      refine takeD 1 33 (v := ?_) rfl rfl (by kernel_rfl) (by kernel_rfl) (by kernel_rfl) (fun _ _ _ h => h) (Or.inl ⟨by rfl, ?_⟩) (by assumption) ?_
      rotate_left
      · intro wS hSw; obtain ⟨hcS, hfS⟩ := bcell hSw; go_simp; (try with_reducible rfl)
      (try simp only [Act.put, List.setIfInBounds_toArray, List.set_cons_zero, List.set_cons_succ])
      have HB : Hid (Below we.heap.size we we.drew) := (Below.refl _ _).drew
      have OX := Lib.hid (O8.out.below HB.out)
      refine wpAnyH_ready (rs := [2, 7]) (by kernel_rfl) (by simp) ?_
      refine AllReadyH.cons rfl (fun KK hK => ?_) (AllReadyH.cons rfl (fun KK hK => ?_) AllReadyH.nil)
      · go_simp
        refine (toRq r _).mono ?_
        rintro e wx125 ⟨rfl, hb⟩
        have OX := Lib.hid (OX.out.below hb)
        have HB := Lib.hid (Below.and HB.out hb)
        clear hb
        refine hK.out _ _ HB.out (fun hSx126 => ?_)
        clear hK KK
        (try simp only [Act.put, List.setIfInBounds_toArray, List.set_cons_zero, List.set_cons_succ])
        refine wpAnyH_ready (rs := [3, 7]) (by kernel_rfl) (by simp) ?_
        refine AllReadyH.cons rfl (fun KK hK => ?_) (AllReadyH.cons rfl (fun KK hK => ?_) AllReadyH.nil)
        · go_simp
          have LO := Lib.hid (show we.heap.size ≤ wx125.heap.size from HB.out.size)
          refine (HI.out _ _ _ OX.out.own.rdP).mono ?_
          rintro e wx127 ⟨AS, aS, rfl, oa, hb⟩
          have OX := Lib.hid (OX.out.below hb)
          have HB := Lib.hid (Below.and HB.out hb)
          have OS := Lib.hid oa.bd
          have HZ := Lib.hid (Nat.le_refl wx127.heap.size)
          clear oa hb
          refine hK.out _ _ HB.out (fun hSx128 => ?_)
          clear hK KK
          (try simp only [Act.put, List.setIfInBounds_toArray, List.set_cons_zero, List.set_cons_succ])
          refine takeD 4 31 (v := ?_) rfl rfl (by kernel_rfl) (by kernel_rfl) (by kernel_rfl) (fun _ _ _ h => h) (Or.inl ⟨by rfl, ?_⟩) (by assumption) ?_
          rotate_left
          · intro wS hSw; obtain ⟨hcS, hfS⟩ := bcell hSw; go_simp; (try with_reducible rfl)
          (try simp only [Act.put, List.setIfInBounds_toArray, List.set_cons_zero, List.set_cons_succ])
          refine takeD 5 36 (v := ?_) rfl rfl (by kernel_rfl) (by kernel_rfl) (by kernel_rfl) (fun _ _ _ h => h) (Or.inl ⟨by rfl, ?_⟩) (by assumption) ?_
          rotate_left
          · intro wS hSw; obtain ⟨hcS, hfS⟩ := bcell hSw; go_simp; (try with_reducible rfl)
          (try simp only [Act.put, List.setIfInBounds_toArray, List.set_cons_zero, List.set_cons_succ])
          refine takeD 6 37 (v := ?_) rfl rfl (by kernel_rfl) (by kernel_rfl) (by kernel_rfl) (fun _ _ _ h => h) (Or.inl ⟨by rfl, ?_⟩) (by assumption) ?_
          rotate_left
          · intro wS hSw; obtain ⟨hcS, hfS⟩ := bcell hSw; go_simp; (try with_reducible rfl)
          (try simp only [Act.put, List.setIfInBounds_toArray, List.set_cons_zero, List.set_cons_succ])
          refine wpAnyH_ready (rs := [7]) (by kernel_rfl) (by simp) ?_
          refine AllReadyH.cons rfl (fun KK hK => ?_) AllReadyH.nil
          go_simp
          have hba : Below wx127.heap.size wx127 (wx127.alloc (.cells #[.int .i64 0, .int .i64 0, .int .i64 0, .int .i64 0, .int .i64 0, .slice none 0 0] 27)) := (Below.refl _ _).alloc (Nat.le_refl _) _
          refine hK.out _ _ (Below.and HB.out hba) (fun hSx131 => ?_)
          clear hK KK
          (try simp only [Act.put, List.setIfInBounds_toArray, List.set_cons_zero, List.set_cons_succ])
          have PB := Lib.hid (show we.heap.size ≤ wx127.heap.size from HB.out.size)
          have OX := Lib.hid (OX.out.below hba)
          have OS := Lib.hid (OS.out.below hba)
          have HB := Lib.hid (Below.and HB.out hba)
          have TB : Hid (Bkk (wx127.alloc (.cells #[.int .i64 0, .int .i64 0, .int .i64 0, .int .i64 0, .int .i64 0, .slice none 0 0] 27)) wx127.heap.size 27 #[.int .i64 0, .int .i64 0, .int .i64 0, .int .i64 0, .int .i64 0, .slice none 0 0]) := Bkk.new wx127
          clear hba
          have HZ : Hid (wx127.heap.size ≤ (wx127.alloc (.cells #[.int .i64 0, .int .i64 0, .int .i64 0, .int .i64 0, .int .i64 0, .slice none 0 0] 27)).heap.size) := by show _ ≤ _; simp
          obtain ⟨HIz, hhi⟩ : ∃ X, X = wx127.heap.size := ⟨_, rfl⟩
          rw [← hhi] at HZ OS
          obtain ⟨px130, hp⟩ : ∃ X, X = wx127.heap.size := ⟨_, rfl⟩
          rw [← hp] at TB PB ⊢
          obtain ⟨wx129, hw⟩ : ∃ X, X = (wx127.alloc (.cells #[.int .i64 0, .int .i64 0, .int .i64 0, .int .i64 0, .int .i64 0, .slice none 0 0] 27)) := ⟨_, rfl⟩
          rw [← hw] at TB HB OX OS HZ ⊢
          clear hw hp hhi
          refine wpAnyH_ready (rs := [8]) (by kernel_rfl) (by simp) ?_
          refine AllReadyH.cons rfl (fun KK hK => ?_) AllReadyH.nil
          have zb0 : wx129.cell? ⟨px130, 0, none⟩ = some (.int .i64 0) := TB.out.cell 0
          have zb1 : wx129.cell? ⟨px130, 1, none⟩ = some (.int .i64 0) := TB.out.cell 1
          have zb2 : wx129.cell? ⟨px130, 2, none⟩ = some (.int .i64 0) := TB.out.cell 2
          have zb3 : wx129.cell? ⟨px130, 3, none⟩ = some (.int .i64 0) := TB.out.cell 3
          have zb4 : wx129.cell? ⟨px130, 4, none⟩ = some (.int .i64 0) := TB.out.cell 4
          have zb5 : wx129.cell? ⟨px130, 5, none⟩ = some (.slice none 0 0) := TB.out.cell 5
          have zbf := TB.out.frozen
          go_simp
          have HF : Hid (Below we.heap.size we ((((((wx129.setCell ⟨px130, 0, none⟩ (.int .i64 q1.c)).setCell ⟨px130, 1, none⟩ (.int .i64 q1.n)).setCell ⟨px130, 2, none⟩ (.int .i64 q1.o)).setCell ⟨px130, 3, none⟩ (.int .i64 q1.x)).setCell ⟨px130, 4, none⟩ (.int .i64 q1.y)).setCell ⟨px130, 5, none⟩ (.slice AS L1.length aS))) := (Below.setCell (Below.setCell (Below.setCell (Below.setCell (Below.setCell (Below.setCell HB.out (p := ⟨px130, 0, none⟩) PB.out (.int .i64 q1.c)) (p := ⟨px130, 1, none⟩) PB.out (.int .i64 q1.n)) (p := ⟨px130, 2, none⟩) PB.out (.int .i64 q1.o)) (p := ⟨px130, 3, none⟩) PB.out (.int .i64 q1.x)) (p := ⟨px130, 4, none⟩) PB.out (.int .i64 q1.y)) (p := ⟨px130, 5, none⟩) PB.out (.slice AS L1.length aS))
          have OF := Lib.hid ((((((OS.out.box TB.out (by decide) 0 (.int .i64 q1.c)).box (TB.out.set 0 (.int .i64 q1.c)) (by decide) 1 (.int .i64 q1.n)).box ((TB.out.set 0 (.int .i64 q1.c)).set 1 (.int .i64 q1.n)) (by decide) 2 (.int .i64 q1.o)).box (((TB.out.set 0 (.int .i64 q1.c)).set 1 (.int .i64 q1.n)).set 2 (.int .i64 q1.o)) (by decide) 3 (.int .i64 q1.x)).box ((((TB.out.set 0 (.int .i64 q1.c)).set 1 (.int .i64 q1.n)).set 2 (.int .i64 q1.o)).set 3 (.int .i64 q1.x)) (by decide) 4 (.int .i64 q1.y)).box (((((TB.out.set 0 (.int .i64 q1.c)).set 1 (.int .i64 q1.n)).set 2 (.int .i64 q1.o)).set 3 (.int .i64 q1.x)).set 4 (.int .i64 q1.y)) (by decide) 5 (.slice AS L1.length aS))
          have TF : Hid (Bkk ((((((wx129.setCell ⟨px130, 0, none⟩ (.int .i64 q1.c)).setCell ⟨px130, 1, none⟩ (.int .i64 q1.n)).setCell ⟨px130, 2, none⟩ (.int .i64 q1.o)).setCell ⟨px130, 3, none⟩ (.int .i64 q1.x)).setCell ⟨px130, 4, none⟩ (.int .i64 q1.y)).setCell ⟨px130, 5, none⟩ (.slice AS L1.length aS)) px130 27 #[.int .i64 q1.c, .int .i64 q1.n, .int .i64 q1.o, .int .i64 q1.x, .int .i64 q1.y, .slice AS L1.length aS]) := ((((((TB.out.set 0 (.int .i64 q1.c)).set 1 (.int .i64 q1.n)).set 2 (.int .i64 q1.o)).set 3 (.int .i64 q1.x)).set 4 (.int .i64 q1.y)).set 5 (.slice AS L1.length aS))
          have ZF := Lib.hid (Nat.le_trans HZ.out (Nat.le_of_eq (show wx129.heap.size = ((((((wx129.setCell ⟨px130, 0, none⟩ (.int .i64 q1.c)).setCell ⟨px130, 1, none⟩ (.int .i64 q1.n)).setCell ⟨px130, 2, none⟩ (.int .i64 q1.o)).setCell ⟨px130, 3, none⟩ (.int .i64 q1.x)).setCell ⟨px130, 4, none⟩ (.int .i64 q1.y)).setCell ⟨px130, 5, none⟩ (.slice AS L1.length aS)).heap.size by simp)))
          refine hK.out _ _ HF.out (fun hSx132 => ?_)
          clear hK KK
          (try simp only [Act.put, List.setIfInBounds_toArray, List.set_cons_zero, List.set_cons_succ])
          refine takeD 9 10 (v := ?_) rfl rfl (by kernel_rfl) (by kernel_rfl) (by kernel_rfl) (fun _ _ _ h => h) (Or.inl ⟨by rfl, ?_⟩) (by assumption) ?_
          rotate_left
          · intro wS hSw; obtain ⟨hcS, hfS⟩ := bcell hSw; go_simp; (try with_reducible rfl)
          (try simp only [Act.put, List.setIfInBounds_toArray, List.set_cons_zero, List.set_cons_succ])
          refine wpAnyH_done (by kernel_rfl) ?_ _
          go_wp2_with (fail)
          go_meet
          case rel => exact ⟨px130, AS, aS, _, _, rfl, rfl, TF, OF, LO, PB, ZF, HF⟩
        · go_simp
          have hba : Below wx125.heap.size wx125 (wx125.alloc (.cells #[.int .i64 0, .int .i64 0, .int .i64 0, .int .i64 0, .int .i64 0, .slice none 0 0] 27)) := (Below.refl _ _).alloc (Nat.le_refl _) _
          refine hK.out _ _ (Below.and HB.out hba) (fun hSx135 => ?_)
          clear hK KK
          (try simp only [Act.put, List.setIfInBounds_toArray, List.set_cons_zero, List.set_cons_succ])
          have PB := Lib.hid (show we.heap.size ≤ wx125.heap.size from HB.out.size)
          have OX := Lib.hid (OX.out.below hba)
          have HB := Lib.hid (Below.and HB.out hba)
          have TB : Hid (Bkk (wx125.alloc (.cells #[.int .i64 0, .int .i64 0, .int .i64 0, .int .i64 0, .int .i64 0, .slice none 0 0] 27)) wx125.heap.size 27 #[.int .i64 0, .int .i64 0, .int .i64 0, .int .i64 0, .int .i64 0, .slice none 0 0]) := Bkk.new wx125
          clear hba
          obtain ⟨px134, hp⟩ : ∃ X, X = wx125.heap.size := ⟨_, rfl⟩
          rw [← hp] at TB PB ⊢
          obtain ⟨wx133, hw⟩ : ∃ X, X = (wx125.alloc (.cells #[.int .i64 0, .int .i64 0, .int .i64 0, .int .i64 0, .int .i64 0, .slice none 0 0] 27)) := ⟨_, rfl⟩
          rw [← hw] at TB HB OX ⊢
          clear hw hp
          refine wpAnyH_ready (rs := [3]) (by kernel_rfl) (by simp) ?_
          refine AllReadyH.cons rfl (fun KK hK => ?_) AllReadyH.nil
          go_simp
          have LO := Lib.hid (show we.heap.size ≤ wx133.heap.size from HB.out.size)
          refine (HI.out _ _ _ OX.out.own.rdP).mono ?_
          rintro e wx136 ⟨AS, aS, rfl, oa, hb⟩
          have OX := Lib.hid (OX.out.below hb)
          have TB := Lib.hid (TB.out.below hb)
          have HB := Lib.hid (Below.and HB.out hb)
          have OS := Lib.hid oa.bd
          have HZ := Lib.hid (Nat.le_refl wx136.heap.size)
          clear oa hb
          refine hK.out _ _ HB.out (fun hSx137 => ?_)
          clear hK KK
          (try simp only [Act.put, List.setIfInBounds_toArray, List.set_cons_zero, List.set_cons_succ])
          refine takeD 4 31 (v := ?_) rfl rfl (by kernel_rfl) (by kernel_rfl) (by kernel_rfl) (fun _ _ _ h => h) (Or.inl ⟨by rfl, ?_⟩) (by assumption) ?_
          rotate_left
          · intro wS hSw; obtain ⟨hcS, hfS⟩ := bcell hSw; go_simp; (try with_reducible rfl)
          (try simp only [Act.put, List.setIfInBounds_toArray, List.set_cons_zero, List.set_cons_succ])
          refine takeD 5 36 (v := ?_) rfl rfl (by kernel_rfl) (by kernel_rfl) (by kernel_rfl) (fun _ _ _ h => h) (Or.inl ⟨by rfl, ?_⟩) (by assumption) ?_
          rotate_left
          · intro wS hSw; obtain ⟨hcS, hfS⟩ := bcell hSw; go_simp; (try with_reducible rfl)
          (try simp only [Act.put, List.setIfInBounds_toArray, List.set_cons_zero, List.set_cons_succ])
          refine takeD 6 37 (v := ?_) rfl rfl (by kernel_rfl) (by kernel_rfl) (by kernel_rfl) (fun _ _ _ h => h) (Or.inl ⟨by rfl, ?_⟩) (by assumption) ?_
          rotate_left
          · intro wS hSw; obtain ⟨hcS, hfS⟩ := bcell hSw; go_simp; (try with_reducible rfl)
          (try simp only [Act.put, List.setIfInBounds_toArray, List.set_cons_zero, List.set_cons_succ])
          refine wpAnyH_ready (rs := [8]) (by kernel_rfl) (by simp) ?_
          refine AllReadyH.cons rfl (fun KK hK => ?_) AllReadyH.nil
          have zb0 : wx136.cell? ⟨px134, 0, none⟩ = some (.int .i64 0) := TB.out.cell 0
          have zb1 : wx136.cell? ⟨px134, 1, none⟩ = some (.int .i64 0) := TB.out.cell 1
          have zb2 : wx136.cell? ⟨px134, 2, none⟩ = some (.int .i64 0) := TB.out.cell 2
          have zb3 : wx136.cell? ⟨px134, 3, none⟩ = some (.int .i64 0) := TB.out.cell 3
          have zb4 : wx136.cell? ⟨px134, 4, none⟩ = some (.int .i64 0) := TB.out.cell 4
          have zb5 : wx136.cell? ⟨px134, 5, none⟩ = some (.slice none 0 0) := TB.out.cell 5
          have zbf := TB.out.frozen
          go_simp
          have HF : Hid (Below we.heap.size we ((((((wx136.setCell ⟨px134, 0, none⟩ (.int .i64 q1.c)).setCell ⟨px134, 1, none⟩ (.int .i64 q1.n)).setCell ⟨px134, 2, none⟩ (.int .i64 q1.o)).setCell ⟨px134, 3, none⟩ (.int .i64 q1.x)).setCell ⟨px134, 4, none⟩ (.int .i64 q1.y)).setCell ⟨px134, 5, none⟩ (.slice AS L1.length aS))) := (Below.setCell (Below.setCell (Below.setCell (Below.setCell (Below.setCell (Below.setCell HB.out (p := ⟨px134, 0, none⟩) PB.out (.int .i64 q1.c)) (p := ⟨px134, 1, none⟩) PB.out (.int .i64 q1.n)) (p := ⟨px134, 2, none⟩) PB.out (.int .i64 q1.o)) (p := ⟨px134, 3, none⟩) PB.out (.int .i64 q1.x)) (p := ⟨px134, 4, none⟩) PB.out (.int .i64 q1.y)) (p := ⟨px134, 5, none⟩) PB.out (.slice AS L1.length aS))
          have OF := Lib.hid ((((((OS.out.box TB.out (by decide) 0 (.int .i64 q1.c)).box (TB.out.set 0 (.int .i64 q1.c)) (by decide) 1 (.int .i64 q1.n)).box ((TB.out.set 0 (.int .i64 q1.c)).set 1 (.int .i64 q1.n)) (by decide) 2 (.int .i64 q1.o)).box (((TB.out.set 0 (.int .i64 q1.c)).set 1 (.int .i64 q1.n)).set 2 (.int .i64 q1.o)) (by decide) 3 (.int .i64 q1.x)).box ((((TB.out.set 0 (.int .i64 q1.c)).set 1 (.int .i64 q1.n)).set 2 (.int .i64 q1.o)).set 3 (.int .i64 q1.x)) (by decide) 4 (.int .i64 q1.y)).box (((((TB.out.set 0 (.int .i64 q1.c)).set 1 (.int .i64 q1.n)).set 2 (.int .i64 q1.o)).set 3 (.int .i64 q1.x)).set 4 (.int .i64 q1.y)) (by decide) 5 (.slice AS L1.length aS))
          have TF : Hid (Bkk ((((((wx136.setCell ⟨px134, 0, none⟩ (.int .i64 q1.c)).setCell ⟨px134, 1, none⟩ (.int .i64 q1.n)).setCell ⟨px134, 2, none⟩ (.int .i64 q1.o)).setCell ⟨px134, 3, none⟩ (.int .i64 q1.x)).setCell ⟨px134, 4, none⟩ (.int .i64 q1.y)).setCell ⟨px134, 5, none⟩ (.slice AS L1.length aS)) px134 27 #[.int .i64 q1.c, .int .i64 q1.n, .int .i64 q1.o, .int .i64 q1.x, .int .i64 q1.y, .slice AS L1.length aS]) := ((((((TB.out.set 0 (.int .i64 q1.c)).set 1 (.int .i64 q1.n)).set 2 (.int .i64 q1.o)).set 3 (.int .i64 q1.x)).set 4 (.int .i64 q1.y)).set 5 (.slice AS L1.length aS))
          have ZF := Lib.hid (Nat.le_trans HZ.out (Nat.le_of_eq (show wx136.heap.size = ((((((wx136.setCell ⟨px134, 0, none⟩ (.int .i64 q1.c)).setCell ⟨px134, 1, none⟩ (.int .i64 q1.n)).setCell ⟨px134, 2, none⟩ (.int .i64 q1.o)).setCell ⟨px134, 3, none⟩ (.int .i64 q1.x)).setCell ⟨px134, 4, none⟩ (.int .i64 q1.y)).setCell ⟨px134, 5, none⟩ (.slice AS L1.length aS)).heap.size by simp)))
          refine hK.out _ _ HF.out (fun hSx138 => ?_)
          clear hK KK
          (try simp only [Act.put, List.setIfInBounds_toArray, List.set_cons_zero, List.set_cons_succ])
          refine takeD 9 10 (v := ?_) rfl rfl (by kernel_rfl) (by kernel_rfl) (by kernel_rfl) (fun _ _ _ h => h) (Or.inl ⟨by rfl, ?_⟩) (by assumption) ?_
          rotate_left
          · intro wS hSw; obtain ⟨hcS, hfS⟩ := bcell hSw; go_simp; (try with_reducible rfl)
          (try simp only [Act.put, List.setIfInBounds_toArray, List.set_cons_zero, List.set_cons_succ])
          refine wpAnyH_done (by kernel_rfl) ?_ _
          go_wp2_with (fail)
          go_meet
          case rel => exact ⟨px134, AS, aS, _, _, rfl, rfl, TF, OF, LO, PB, ZF, HF⟩
      · go_simp
        have hba : Below we.drew.heap.size we.drew (we.alloc (.cells #[.int .i64 0, .int .i64 0, .int .i64 0, .int .i64 0, .int .i64 0, .slice none 0 0] 27)).drew := (Below.refl _ _).alloc (Nat.le_refl _) _
        refine hK.out _ _ (Below.and HB.out hba) (fun hSx141 => ?_)
        clear hK KK
        (try simp only [Act.put, List.setIfInBounds_toArray, List.set_cons_zero, List.set_cons_succ])
        have PB := Lib.hid (show we.heap.size ≤ we.heap.size from HB.out.size)
        have OX := Lib.hid (OX.out.below hba)
        have HB := Lib.hid (Below.and HB.out hba)
        have TB : Hid (Bkk (we.alloc (.cells #[.int .i64 0, .int .i64 0, .int .i64 0, .int .i64 0, .int .i64 0, .slice none 0 0] 27)).drew we.heap.size 27 #[.int .i64 0, .int .i64 0, .int .i64 0, .int .i64 0, .int .i64 0, .slice none 0 0]) := Bkk.new we
        clear hba
        obtain ⟨wx139, hw⟩ : ∃ X, X = (we.alloc (.cells #[.int .i64 0, .int .i64 0, .int .i64 0, .int .i64 0, .int .i64 0, .slice none 0 0] 27)).drew := ⟨_, rfl⟩
        rw [← hw] at TB HB OX ⊢
        clear hw
        refine wpAnyH_ready (rs := [2]) (by kernel_rfl) (by simp) ?_
        refine AllReadyH.cons rfl (fun KK hK => ?_) AllReadyH.nil
        go_simp
        refine (toRq r _).mono ?_
        rintro e wx142 ⟨rfl, hb⟩
        have OX := Lib.hid (OX.out.below hb)
        have TB := Lib.hid (TB.out.below hb)
        have HB := Lib.hid (Below.and HB.out hb)
        clear hb
        refine hK.out _ _ HB.out (fun hSx143 => ?_)
        clear hK KK
        (try simp only [Act.put, List.setIfInBounds_toArray, List.set_cons_zero, List.set_cons_succ])
        refine wpAnyH_ready (rs := [3]) (by kernel_rfl) (by simp) ?_
        refine AllReadyH.cons rfl (fun KK hK => ?_) AllReadyH.nil
        go_simp
        have LO := Lib.hid (show we.heap.size ≤ wx142.heap.size from HB.out.size)
        refine (HI.out _ _ _ OX.out.own.rdP).mono ?_
        rintro e wx144 ⟨AS, aS, rfl, oa, hb⟩
        have OX := Lib.hid (OX.out.below hb)
        have TB := Lib.hid (TB.out.below hb)
        have HB := Lib.hid (Below.and HB.out hb)
        have OS := Lib.hid oa.bd
        have HZ := Lib.hid (Nat.le_refl wx144.heap.size)
        clear oa hb
        refine hK.out _ _ HB.out (fun hSx145 => ?_)
        clear hK KK
        (try simp only [Act.put, List.setIfInBounds_toArray, List.set_cons_zero, List.set_cons_succ])
        refine takeD 4 31 (v := ?_) rfl rfl (by kernel_rfl) (by kernel_rfl) (by kernel_rfl) (fun _ _ _ h => h) (Or.inl ⟨by rfl, ?_⟩) (by assumption) ?_
        rotate_left
        · intro wS hSw; obtain ⟨hcS, hfS⟩ := bcell hSw; go_simp; (try with_reducible rfl)
        (try simp only [Act.put, List.setIfInBounds_toArray, List.set_cons_zero, List.set_cons_succ])
        refine takeD 5 36 (v := ?_) rfl rfl (by kernel_rfl) (by kernel_rfl) (by kernel_rfl) (fun _ _ _ h => h) (Or.inl ⟨by rfl, ?_⟩) (by assumption) ?_
        rotate_left
        · intro wS hSw; obtain ⟨hcS, hfS⟩ := bcell hSw; go_simp; (try with_reducible rfl)
        (try simp only [Act.put, List.setIfInBounds_toArray, List.set_cons_zero, List.set_cons_succ])
        refine takeD 6 37 (v := ?_) rfl rfl (by kernel_rfl) (by kernel_rfl) (by kernel_rfl) (fun _ _ _ h => h) (Or.inl ⟨by rfl, ?_⟩) (by assumption) ?_
        rotate_left
        · intro wS hSw; obtain ⟨hcS, hfS⟩ := bcell hSw; go_simp; (try with_reducible rfl)
        (try simp only [Act.put, List.setIfInBounds_toArray, List.set_cons_zero, List.set_cons_succ])
        refine wpAnyH_ready (rs := [8]) (by kernel_rfl) (by simp) ?_
        refine AllReadyH.cons rfl (fun KK hK => ?_) AllReadyH.nil
        have zb0 : wx144.cell? ⟨we.heap.size, 0, none⟩ = some (.int .i64 0) := TB.out.cell 0
        have zb1 : wx144.cell? ⟨we.heap.size, 1, none⟩ = some (.int .i64 0) := TB.out.cell 1
        have zb2 : wx144.cell? ⟨we.heap.size, 2, none⟩ = some (.int .i64 0) := TB.out.cell 2
        have zb3 : wx144.cell? ⟨we.heap.size, 3, none⟩ = some (.int .i64 0) := TB.out.cell 3
        have zb4 : wx144.cell? ⟨we.heap.size, 4, none⟩ = some (.int .i64 0) := TB.out.cell 4
        have zb5 : wx144.cell? ⟨we.heap.size, 5, none⟩ = some (.slice none 0 0) := TB.out.cell 5
        have zbf := TB.out.frozen
        go_simp
        have HF : Hid (Below we.heap.size we ((((((wx144.setCell ⟨we.heap.size, 0, none⟩ (.int .i64 q1.c)).setCell ⟨we.heap.size, 1, none⟩ (.int .i64 q1.n)).setCell ⟨we.heap.size, 2, none⟩ (.int .i64 q1.o)).setCell ⟨we.heap.size, 3, none⟩ (.int .i64 q1.x)).setCell ⟨we.heap.size, 4, none⟩ (.int .i64 q1.y)).setCell ⟨we.heap.size, 5, none⟩ (.slice AS L1.length aS))) := (Below.setCell (Below.setCell (Below.setCell (Below.setCell (Below.setCell (Below.setCell HB.out (p := ⟨we.heap.size, 0, none⟩) PB.out (.int .i64 q1.c)) (p := ⟨we.heap.size, 1, none⟩) PB.out (.int .i64 q1.n)) (p := ⟨we.heap.size, 2, none⟩) PB.out (.int .i64 q1.o)) (p := ⟨we.heap.size, 3, none⟩) PB.out (.int .i64 q1.x)) (p := ⟨we.heap.size, 4, none⟩) PB.out (.int .i64 q1.y)) (p := ⟨we.heap.size, 5, none⟩) PB.out (.slice AS L1.length aS))
        have OF := Lib.hid ((((((OS.out.box TB.out (by decide) 0 (.int .i64 q1.c)).box (TB.out.set 0 (.int .i64 q1.c)) (by decide) 1 (.int .i64 q1.n)).box ((TB.out.set 0 (.int .i64 q1.c)).set 1 (.int .i64 q1.n)) (by decide) 2 (.int .i64 q1.o)).box (((TB.out.set 0 (.int .i64 q1.c)).set 1 (.int .i64 q1.n)).set 2 (.int .i64 q1.o)) (by decide) 3 (.int .i64 q1.x)).box ((((TB.out.set 0 (.int .i64 q1.c)).set 1 (.int .i64 q1.n)).set 2 (.int .i64 q1.o)).set 3 (.int .i64 q1.x)) (by decide) 4 (.int .i64 q1.y)).box (((((TB.out.set 0 (.int .i64 q1.c)).set 1 (.int .i64 q1.n)).set 2 (.int .i64 q1.o)).set 3 (.int .i64 q1.x)).set 4 (.int .i64 q1.y)) (by decide) 5 (.slice AS L1.length aS))
        have TF : Hid (Bkk ((((((wx144.setCell ⟨we.heap.size, 0, none⟩ (.int .i64 q1.c)).setCell ⟨we.heap.size, 1, none⟩ (.int .i64 q1.n)).setCell ⟨we.heap.size, 2, none⟩ (.int .i64 q1.o)).setCell ⟨we.heap.size, 3, none⟩ (.int .i64 q1.x)).setCell ⟨we.heap.size, 4, none⟩ (.int .i64 q1.y)).setCell ⟨we.heap.size, 5, none⟩ (.slice AS L1.length aS)) we.heap.size 27 #[.int .i64 q1.c, .int .i64 q1.n, .int .i64 q1.o, .int .i64 q1.x, .int .i64 q1.y, .slice AS L1.length aS]) := ((((((TB.out.set 0 (.int .i64 q1.c)).set 1 (.int .i64 q1.n)).set 2 (.int .i64 q1.o)).set 3 (.int .i64 q1.x)).set 4 (.int .i64 q1.y)).set 5 (.slice AS L1.length aS))
        have ZF := Lib.hid (Nat.le_trans HZ.out (Nat.le_of_eq (show wx144.heap.size = ((((((wx144.setCell ⟨we.heap.size, 0, none⟩ (.int .i64 q1.c)).setCell ⟨we.heap.size, 1, none⟩ (.int .i64 q1.n)).setCell ⟨we.heap.size, 2, none⟩ (.int .i64 q1.o)).setCell ⟨we.heap.size, 3, none⟩ (.int .i64 q1.x)).setCell ⟨we.heap.size, 4, none⟩ (.int .i64 q1.y)).setCell ⟨we.heap.size, 5, none⟩ (.slice AS L1.length aS)).heap.size by simp)))
        refine hK.out _ _ HF.out (fun hSx146 => ?_)
        clear hK KK
        (try simp only [Act.put, List.setIfInBounds_toArray, List.set_cons_zero, List.set_cons_succ])
        refine takeD 9 10 (v := ?_) rfl rfl (by kernel_rfl) (by kernel_rfl) (by kernel_rfl) (fun _ _ _ h => h) (Or.inl ⟨by rfl, ?_⟩) (by assumption) ?_
        rotate_left
        · intro wS hSw; obtain ⟨hcS, hfS⟩ := bcell hSw; go_simp; (try with_reducible rfl)
        (try simp only [Act.put, List.setIfInBounds_toArray, List.set_cons_zero, List.set_cons_succ])
        refine wpAnyH_done (by kernel_rfl) ?_ _
        go_wp2_with (fail)
        go_meet
        case rel => exact ⟨we.heap.size, AS, aS, _, _, rfl, rfl, TF, OF, LO, PB, ZF, HF⟩
    case rest =>
      obtain ⟨p9, A9, a9, lo9, hi9, rfl, rfl, T9, O9, N9, _, U9, HB⟩ := hcut
      have N9 := Lib.hid (Nat.le_trans U8.out N9.out)
      have N69 := Lib.hid (show hi6 ≤ lo9 by have := N8.out; have := L88.out; have := N9.out; omega)
      have NZ9 := Lib.hid (show w.heap.size ≤ lo9 by have := NZ.out; have := L88.out; have := N9.out; omega)
      have K := Lib.hid (K.out.below HB.out)
      have R := Lib.hid (R.out.below HB.out)
      have Z := Lib.hid (Below.and Z.out HB.out)
      have T6 := Lib.hid (T6.out.below HB.out)
      have O6 := Lib.hid (O6.out.below HB.out)
      have T8 := Lib.hid (T8.out.below HB.out)
      have O8 := Lib.hid (O8.out.below HB.out)
      clear HB U8 U9 L88
      have u0 : wc.cell? ⟨p9, 0, none⟩ = some (.int .i64 q1.c) := T9.out.cell 0
      have u1 : wc.cell? ⟨p9, 1, none⟩ = some (.int .i64 q1.n) := T9.out.cell 1
      have u2 : wc.cell? ⟨p9, 2, none⟩ = some (.int .i64 q1.o) := T9.out.cell 2
      have u3 : wc.cell? ⟨p9, 3, none⟩ = some (.int .i64 q1.x) := T9.out.cell 3
      have u4 : wc.cell? ⟨p9, 4, none⟩ = some (.int .i64 q1.y) := T9.out.cell 4
      have u5 : wc.cell? ⟨p9, 5, none⟩ = some (.slice A9 L1.length a9) := T9.out.cell 5
      have lu := T9.out.lt
      have v0 : wc.cell? ⟨p6, 0, none⟩ = some (.int .i64 q1.c) := T6.out.cell 0
      have v1 : wc.cell? ⟨p6, 1, none⟩ = some (.int .i64 q1.n) := T6.out.cell 1
      have v2 : wc.cell? ⟨p6, 2, none⟩ = some (.int .i64 q1.o) := T6.out.cell 2
      have v3 : wc.cell? ⟨p6, 3, none⟩ = some (.int .i64 q1.x) := T6.out.cell 3
      have v4 : wc.cell? ⟨p6, 4, none⟩ = some (.int .i64 q1.y) := T6.out.cell 4
      have v5 : wc.cell? ⟨p6, 5, none⟩ = some (.slice A6 L1.length a6) := T6.out.cell 5
      have lv := T6.out.lt
      go_wp2_with (fail)
      refine (eqPlayer_rd q1 _ _ _ _ L1 _ HLN.out O9.out.own.rd O6.out.own.rd).mono ?_
      rintro e wg ⟨rfl, hb⟩
      have K := Lib.hid (K.out.below hb)
      have R := Lib.hid (R.out.below hb)
      have Z := Lib.hid (Below.and Z.out hb)
      have T6 := Lib.hid (T6.out.below hb)
      have O6 := Lib.hid (O6.out.below hb)
      have T8 := Lib.hid (T8.out.below hb)
      have O8 := Lib.hid (O8.out.below hb)
      have T9 := Lib.hid (T9.out.below hb)
      have O9 := Lib.hid (O9.out.below hb)
      clear hb u0 u1 u2 u3 u4 u5 lu v0 v1 v2 v3 v4 v5 lv
      have u0 : wg.cell? ⟨p8, 0, none⟩ = some (.int .i64 q.c) := T8.out.cell 0
      have u1 : wg.cell? ⟨p8, 1, none⟩ = some (.int .i64 q.n) := T8.out.cell 1
      have u2 : wg.cell? ⟨p8, 2, none⟩ = some (.int .i64 q.o) := T8.out.cell 2
      have u3 : wg.cell? ⟨p8, 3, none⟩ = some (.int .i64 q.x) := T8.out.cell 3
      have u4 : wg.cell? ⟨p8, 4, none⟩ = some (.int .i64 q.y) := T8.out.cell 4
      have u5 : wg.cell? ⟨p8, 5, none⟩ = some (.slice A8 L.length a8) := T8.out.cell 5
      have lu := T8.out.lt
      have p0 : wg.cell? ⟨w.heap.size, 0, none⟩ = some (.int .i64 q.c) := K.out.cell 0
      have p1 : wg.cell? ⟨w.heap.size, 1, none⟩ = some (.int .i64 q.n) := K.out.cell 1
      have p2 : wg.cell? ⟨w.heap.size, 2, none⟩ = some (.int .i64 q.o) := K.out.cell 2
      have p3 : wg.cell? ⟨w.heap.size, 3, none⟩ = some (.int .i64 q.x) := K.out.cell 3
      have p4 : wg.cell? ⟨w.heap.size, 4, none⟩ = some (.int .i64 q.y) := K.out.cell 4
      have p5 : wg.cell? ⟨w.heap.size, 5, none⟩ = some (.slice A L.length a) := K.out.cell 5
      have lk := K.out.lt
      go_wp2_with (fail)
      refine wp_region_held_drew (S := fun w1 => Below wg.heap.size wg w1) (by kernel_rfl) ((Below.refl _ _).drew) (fun hq => ?_)
      refine takeD 0 47 (v := ?_) rfl rfl (by kernel_rfl) (by kernel_rfl) (by kernel_rfl) (fun _ _ _ h => h) (Or.inl ⟨by rfl, ?_⟩) (by assumption) ?_
      rotate_left
      · intro w1 hSw; obtain ⟨hcS, hfS⟩ := bcell hSw; go_simp; (try with_reducible rfl)
      (try simp only [Act.put, List.setIfInBounds_toArray, List.set_cons_zero, List.set_cons_succ])
      refine takeD 1 48 (v := ?_) rfl rfl (by kernel_rfl) (by kernel_rfl) (by kernel_rfl) (fun _ _ _ h => h) (Or.inl ⟨by rfl, ?_⟩) (by assumption) ?_
      rotate_left
      · intro w1 hSw; obtain ⟨hcS, hfS⟩ := bcell hSw; go_simp; (try with_reducible rfl)
      (try simp only [Act.put, List.setIfInBounds_toArray, List.set_cons_zero, List.set_cons_succ])
      refine wpAnyH_ready (rs := [2]) (by kernel_rfl) (by simp) ?_
      refine AllReadyH.cons rfl (fun K hK => ?_) AllReadyH.nil
      go_simp
      refine (toPlayer q A a L _ hL (Rd.below HR.out (Below.and Z.out hq))).mono ?_
      rintro e wJ ⟨g3, rfl, oa, hb⟩
      have OQ := Lib.hid oa.rd
      have OY := Lib.hid (O8.out.below (Below.and hq hb))
      clear oa
      refine hK.out _ _ (Below.and hq hb) (fun hq2 => ?_)
      clear hK K
      (try simp only [Act.put, List.setIfInBounds_toArray, List.set_cons_zero, List.set_cons_succ])
      refine wpAnyH_ready (rs := [3]) (by kernel_rfl) (by simp) ?_
      refine AllReadyH.cons rfl (fun K hK => ?_) AllReadyH.nil
      go_simp
      refine (eqPlayer_rd q _ _ _ _ L _ (by omega) OY.out.own.rd OQ.out).mono ?_
      rintro e wK ⟨rfl, hb⟩
      refine hK.out _ _ (Below.and hq2 hb) (fun hq3 => ?_)
      clear hK K
      (try simp only [Act.put, List.setIfInBounds_toArray, List.set_cons_zero, List.set_cons_succ])
      refine takeD 4 51 (v := ?_) rfl rfl (by kernel_rfl) (by kernel_rfl) (by kernel_rfl) (fun _ _ _ h => h) (Or.inl ⟨by rfl, ?_⟩) (by assumption) ?_
      rotate_left
      · intro w1 hSw; obtain ⟨hcS, hfS⟩ := bcell hSw; go_simp; (try with_reducible rfl)
      (try simp only [Act.put, List.setIfInBounds_toArray, List.set_cons_zero, List.set_cons_succ])
      refine wpAnyH_done (by kernel_rfl) ?_ _
      have hb := hq3
      have K := Lib.hid (K.out.below hb)
      have R := Lib.hid (R.out.below hb)
      have Z := Lib.hid (Below.and Z.out hb)
      have T6 := Lib.hid (T6.out.below hb)
      have O6 := Lib.hid (O6.out.below hb)
      have T8 := Lib.hid (T8.out.below hb)
      have O8 := Lib.hid (O8.out.below hb)
      have T9 := Lib.hid (T9.out.below hb)
      have O9 := Lib.hid (O9.out.below hb)
      clear hb hq u0 u1 u2 u3 u4 u5 lu p0 p1 p2 p3 p4 p5 lk
      obtain ⟨wh, hwh⟩ : ∃ X, X = wK := ⟨_, rfl⟩
      rw [← hwh] at K R Z T6 O6 T8 O8 T9 O9 ⊢
      clear hwh
      have u0 : wh.cell? ⟨p8, 0, none⟩ = some (.int .i64 q.c) := T8.out.cell 0
      have u1 : wh.cell? ⟨p8, 1, none⟩ = some (.int .i64 q.n) := T8.out.cell 1
      have u2 : wh.cell? ⟨p8, 2, none⟩ = some (.int .i64 q.o) := T8.out.cell 2
      have u3 : wh.cell? ⟨p8, 3, none⟩ = some (.int .i64 q.x) := T8.out.cell 3
      have u4 : wh.cell? ⟨p8, 4, none⟩ = some (.int .i64 q.y) := T8.out.cell 4
      have u5 : wh.cell? ⟨p8, 5, none⟩ = some (.slice A8 L.length a8) := T8.out.cell 5
      have lu := T8.out.lt
      go_wp2_with (fail)
      obtain ⟨v8, hv8⟩ : ∃ v : Int, v = 1 + 4 * (L.length : Int) := ⟨_, rfl⟩
      have v80 : decide (v8 < 0) = false := by simp; omega
      refine (markPlayer q O8.out.own (by omega)).mono ?_
      rintro e wm ⟨rfl, _, hm⟩
      rw [← hv8]
      clear hv8
      have T6 := Lib.hid (O8.out.block hm T6.out (by decide))
      have T9 := Lib.hid (O8.out.block hm T9.out (by decide))
      have K := Lib.hid (O8.out.block hm K.out (by decide))
      have R := Lib.hid (O8.out.block hm R.out (by decide))
      have O6 := Lib.hid (O6.out.mrkd O8.out hm (.inl N8.out))
      have O9 := Lib.hid (O9.out.mrkd O8.out hm (.inr N9.out))
      have Z := Lib.hid (O8.out.under hm Z.out NZ.out)
      clear hm u0 u1 u2 u3 u4 u5 lu T8 O8
      have u0 : wm.cell? ⟨p9, 0, none⟩ = some (.int .i64 q1.c) := T9.out.cell 0
      have u1 : wm.cell? ⟨p9, 1, none⟩ = some (.int .i64 q1.n) := T9.out.cell 1
      have u2 : wm.cell? ⟨p9, 2, none⟩ = some (.int .i64 q1.o) := T9.out.cell 2
      have u3 : wm.cell? ⟨p9, 3, none⟩ = some (.int .i64 q1.x) := T9.out.cell 3
      have u4 : wm.cell? ⟨p9, 4, none⟩ = some (.int .i64 q1.y) := T9.out.cell 4
      have u5 : wm.cell? ⟨p9, 5, none⟩ = some (.slice A9 L1.length a9) := T9.out.cell 5
      have lu := T9.out.lt
      have v0 : wm.cell? ⟨p6, 0, none⟩ = some (.int .i64 q1.c) := T6.out.cell 0
      have v1 : wm.cell? ⟨p6, 1, none⟩ = some (.int .i64 q1.n) := T6.out.cell 1
      have v2 : wm.cell? ⟨p6, 2, none⟩ = some (.int .i64 q1.o) := T6.out.cell 2
      have v3 : wm.cell? ⟨p6, 3, none⟩ = some (.int .i64 q1.x) := T6.out.cell 3
      have v4 : wm.cell? ⟨p6, 4, none⟩ = some (.int .i64 q1.y) := T6.out.cell 4
      have v5 : wm.cell? ⟨p6, 5, none⟩ = some (.slice A6 L1.length a6) := T6.out.cell 5
      have lv := T6.out.lt
      go_wp2_with (fail)
      refine (eqPlayer_rd q1 _ _ _ _ L1 _ HLN.out O9.out.own.rd O6.out.own.rd).mono ?_
      rintro e wn ⟨rfl, hb⟩
      have K := Lib.hid (K.out.below hb)
      have R := Lib.hid (R.out.below hb)
      have Z := Lib.hid (Below.and Z.out hb)
      have T6 := Lib.hid (T6.out.below hb)
      have O6 := Lib.hid (O6.out.below hb)
      have T9 := Lib.hid (T9.out.below hb)
      have O9 := Lib.hid (O9.out.below hb)
      clear hb u0 u1 u2 u3 u4 u5 lu v0 v1 v2 v3 v4 v5 lv
      have u0 : wn.cell? ⟨p9, 0, none⟩ = some (.int .i64 q1.c) := T9.out.cell 0
      have u1 : wn.cell? ⟨p9, 1, none⟩ = some (.int .i64 q1.n) := T9.out.cell 1
      have u2 : wn.cell? ⟨p9, 2, none⟩ = some (.int .i64 q1.o) := T9.out.cell 2
      have u3 : wn.cell? ⟨p9, 3, none⟩ = some (.int .i64 q1.x) := T9.out.cell 3
      have u4 : wn.cell? ⟨p9, 4, none⟩ = some (.int .i64 q1.y) := T9.out.cell 4
      have u5 : wn.cell? ⟨p9, 5, none⟩ = some (.slice A9 L1.length a9) := T9.out.cell 5
      have lu := T9.out.lt
      go_wp2_with (fail)
      obtain ⟨v9, hv9⟩ : ∃ v : Int, v = 1 + 4 * (L1.length : Int) := ⟨_, rfl⟩
      have v90 : decide (v9 < 0) = false := by simp; omega
      have v99 : (v9 != v9) = false := by simp
      have HV := Lib.hid hv9
      refine (markPlayer q1 O9.out.own HLN.out).mono ?_
      rintro e wo ⟨rfl, ma, hm⟩
      rw [← hv9]
      clear hv9
      have M9 := Lib.hid ma
      have T6 := Lib.hid (O9.out.block hm T6.out (by decide))
      have T9 := Lib.hid (O9.out.block hm T9.out (by decide))
      have K := Lib.hid (O9.out.block hm K.out (by decide))
      have R := Lib.hid (O9.out.block hm R.out (by decide))
      have O6 := Lib.hid (O6.out.mrkd O9.out hm (.inl N69.out))
      have Z := Lib.hid (O9.out.under hm Z.out NZ9.out)
      clear hm ma u0 u1 u2 u3 u4 u5 lu O9
      have u0 : wo.cell? ⟨p9, 0, none⟩ = some (.int .i64 q1.c) := T9.out.cell 0
      have u1 : wo.cell? ⟨p9, 1, none⟩ = some (.int .i64 q1.n) := T9.out.cell 1
      have u2 : wo.cell? ⟨p9, 2, none⟩ = some (.int .i64 q1.o) := T9.out.cell 2
      have u3 : wo.cell? ⟨p9, 3, none⟩ = some (.int .i64 q1.x) := T9.out.cell 3
      have u4 : wo.cell? ⟨p9, 4, none⟩ = some (.int .i64 q1.y) := T9.out.cell 4
      have u5 : wo.cell? ⟨p9, 5, none⟩ = some (.slice A9 L1.length a9) := T9.out.cell 5
      have lu := T9.out.lt
      go_wp2_with (fail)
      refine (heldPlayer q1 a9 M9.out HLN.out).mono ?_
      rintro e wp ⟨rfl, hb⟩
      rw [← HV.out]
      have K := Lib.hid (K.out.below hb)
      have R := Lib.hid (R.out.below hb)
      have Z := Lib.hid (Below.and Z.out hb)
      have T6 := Lib.hid (T6.out.below hb)
      have O6 := Lib.hid (O6.out.below hb)
      have T9 := Lib.hid (T9.out.below hb)
      have M9 := Lib.hid (M9.out.below hb)
      clear hb u0 u1 u2 u3 u4 u5 lu
      go_upto_region 24 with (fail)
      go_cut [14, 15] from 16 (fun s14 s15 wq => ∃ p9 A9 a9 lo9 hi9, s14 = .pointer (some ⟨p9, 0, none⟩) ∧ s15 = .bool x2 ∧ Hid (Bkk wq p9 27 #[.int .i64 q1.c, .int .i64 q1.n, .int .i64 q1.o, .int .i64 q1.x, .int .i64 q1.y, .slice A9 L1.length a9]) ∧ Hid (OwQ wq lo9 hi9 A9 a9 L1) ∧ Hid (wp.heap.size ≤ lo9) ∧ Hid (wp.heap.size ≤ p9) ∧ Hid (hi9 ≤ wq.heap.size) ∧ Hid (Below wp.heap.size wp wq))
      case first =>
        have p0 : wp.cell? ⟨w.heap.size, 0, none⟩ = some (.int .i64 q.c) := K.out.cell 0
        have p1 : wp.cell? ⟨w.heap.size, 1, none⟩ = some (.int .i64 q.n) := K.out.cell 1
        have p2 : wp.cell? ⟨w.heap.size, 2, none⟩ = some (.int .i64 q.o) := K.out.cell 2
        have p3 : wp.cell? ⟨w.heap.size, 3, none⟩ = some (.int .i64 q.x) := K.out.cell 3
        have p4 : wp.cell? ⟨w.heap.size, 4, none⟩ = some (.int .i64 q.y) := K.out.cell 4
        have p5 : wp.cell? ⟨w.heap.size, 5, none⟩ = some (.slice A L.length a) := K.out.cell 5
        have y0 : wp.cell? ⟨w.heap.size + 1, 0, none⟩ = some (.int .i64 r.c) := R.out.cell 0
        have y1 : wp.cell? ⟨w.heap.size + 1, 1, none⟩ = some (.int .i64 r.n) := R.out.cell 1
        have y2 : wp.cell? ⟨w.heap.size + 1, 2, none⟩ = some (.int .i64 r.o) := R.out.cell 2
        have y3 : wp.cell? ⟨w.heap.size + 1, 3, none⟩ = some (.int .i64 r.x) := R.out.cell 3
        have y4 : wp.cell? ⟨w.heap.size + 1, 4, none⟩ = some (.int .i64 r.y) := R.out.cell 4
        have lk := K.out.lt
        have lr := R.out.lt
        refine wp_region_held_drew (S := fun WS => Below wp.heap.size wp WS) (by kernel_rfl) ((Below.refl _ _).drew) (fun hS0 => ?_)
        refine takeD 0 80 (v := ?_) rfl rfl (by kernel_rfl) (by kernel_rfl) (by kernel_rfl) (fun _ _ _ h => h) (Or.inl ⟨by rfl, ?_⟩) (by assumption) ?_
        rotate_left
        · intro wS hSw; obtain ⟨hcS, hfS⟩ := bcell hSw; go_simp; (try with_reducible rfl)
        (try simp only [Act.put, List.setIfInBounds_toArray, List.set_cons_zero, List.set_cons_succ])
        refine takeD 2 82 (v := ?_) rfl rfl (by kernel_rfl) (by kernel_rfl) (by kernel_rfl) (fun _ _ _ h => h) (Or.inl ⟨by rfl, ?_⟩) (by assumption) ?_
        rotate_left
        · intro wS hSw; obtain ⟨hcS, hfS⟩ := bcell hSw; go_simp; (try with_reducible rfl)
        (try simp only [Act.put, List.setIfInBounds_toArray, List.set_cons_zero, List.set_cons_succ])
        have HB : Hid (Below wp.heap.size wp wp.drew) := (Below.refl _ _).drew
        refine wpAnyH_ready (rs := [1, 8]) (by kernel_rfl) (by simp) ?_
        refine AllReadyH.cons rfl (fun KK hK => ?_) (AllReadyH.cons rfl (fun KK hK => ?_) AllReadyH.nil)
        · go_simp
          refine (toPlayer q A a L _ hL (Rd.below HR.out (Below.and Z.out HB.out))).mono ?_
          rintro e wx147 ⟨gX, rfl, oa, hb⟩
          have HB := Lib.hid (Below.and HB.out hb)
          have OX := Lib.hid oa.bd
          clear oa hb
          refine hK.out _ _ HB.out (fun hSx148 => ?_)
          clear hK KK
          (try simp only [Act.put, List.setIfInBounds_toArray, List.set_cons_zero, List.set_cons_succ])
          refine wpAnyH_ready (rs := [3, 8]) (by kernel_rfl) (by simp) ?_
          refine AllReadyH.cons rfl (fun KK hK => ?_) (AllReadyH.cons rfl (fun KK hK => ?_) AllReadyH.nil)
          · go_simp
            refine (toRq r _).mono ?_
            rintro e wx149 ⟨rfl, hb⟩
            have OX := Lib.hid (OX.out.below hb)
            have HB := Lib.hid (Below.and HB.out hb)
            clear hb
            refine hK.out _ _ HB.out (fun hSx150 => ?_)
            clear hK KK
            (try simp only [Act.put, List.setIfInBounds_toArray, List.set_cons_zero, List.set_cons_succ])
            refine wpAnyH_ready (rs := [4, 8]) (by kernel_rfl) (by simp) ?_
            refine AllReadyH.cons rfl (fun KK hK => ?_) (AllReadyH.cons rfl (fun KK hK => ?_) AllReadyH.nil)
            · go_simp
              have LO := Lib.hid (show wp.heap.size ≤ wx149.heap.size from HB.out.size)
              refine (HI.out _ _ _ OX.out.own.rdP).mono ?_
              rintro e wx151 ⟨AS, aS, rfl, oa, hb⟩
              have OX := Lib.hid (OX.out.below hb)
              have HB := Lib.hid (Below.and HB.out hb)
              have OS := Lib.hid oa.bd
              have HZ := Lib.hid (Nat.le_refl wx151.heap.size)
              clear oa hb
              refine hK.out _ _ HB.out (fun hSx152 => ?_)
              clear hK KK
              (try simp only [Act.put, List.setIfInBounds_toArray, List.set_cons_zero, List.set_cons_succ])
              refine takeD 5 79 (v := ?_) rfl rfl (by kernel_rfl) (by kernel_rfl) (by kernel_rfl) (fun _ _ _ h => h) (Or.inl ⟨by rfl, ?_⟩) (by assumption) ?_
              rotate_left
              · intro wS hSw; obtain ⟨hcS, hfS⟩ := bcell hSw; go_simp; (try with_reducible rfl)
              (try simp only [Act.put, List.setIfInBounds_toArray, List.set_cons_zero, List.set_cons_succ])
              refine takeD 6 85 (v := ?_) rfl rfl (by kernel_rfl) (by kernel_rfl) (by kernel_rfl) (fun _ _ _ h => h) (Or.inl ⟨by rfl, ?_⟩) (by assumption) ?_
              rotate_left
              · intro wS hSw; obtain ⟨hcS, hfS⟩ := bcell hSw; go_simp; (try with_reducible rfl)
              (try simp only [Act.put, List.setIfInBounds_toArray, List.set_cons_zero, List.set_cons_succ])
              refine takeD 7 86 (v := ?_) rfl rfl (by kernel_rfl) (by kernel_rfl) (by kernel_rfl) (fun _ _ _ h => h) (Or.inl ⟨by rfl, ?_⟩) (by assumption) ?_
              rotate_left
              · intro wS hSw; obtain ⟨hcS, hfS⟩ := bcell hSw; go_simp; (try with_reducible rfl)
              (try simp only [Act.put, List.setIfInBounds_toArray, List.set_cons_zero, List.set_cons_succ])
              refine wpAnyH_ready (rs := [8]) (by kernel_rfl) (by simp) ?_
              refine AllReadyH.cons rfl (fun KK hK => ?_) AllReadyH.nil
              go_simp
              have hba : Below wx151.heap.size wx151 (wx151.alloc (.cells #[.int .i64 0, .int .i64 0, .int .i64 0, .int .i64 0, .int .i64 0, .slice none 0 0] 27)) := (Below.refl _ _).alloc (Nat.le_refl _) _
              refine hK.out _ _ (Below.and HB.out hba) (fun hSx155 => ?_)
              clear hK KK
              (try simp only [Act.put, List.setIfInBounds_toArray, List.set_cons_zero, List.set_cons_succ])
              have PB := Lib.hid (show wp.heap.size ≤ wx151.heap.size from HB.out.size)
              have OX := Lib.hid (OX.out.below hba)
              have OS := Lib.hid (OS.out.below hba)
              have HB := Lib.hid (Below.and HB.out hba)
              have TB : Hid (Bkk (wx151.alloc (.cells #[.int .i64 0, .int .i64 0, .int .i64 0, .int .i64 0, .int .i64 0, .slice none 0 0] 27)) wx151.heap.size 27 #[.int .i64 0, .int .i64 0, .int .i64 0, .int .i64 0, .int .i64 0, .slice none 0 0]) := Bkk.new wx151
              clear hba
              have HZ : Hid (wx151.heap.size ≤ (wx151.alloc (.cells #[.int .i64 0, .int .i64 0, .int .i64 0, .int .i64 0, .int .i64 0, .slice none 0 0] 27)).heap.size) := by show _ ≤ _; simp
              obtain ⟨HIz, hhi⟩ : ∃ X, X = wx151.heap.size := ⟨_, rfl⟩
              rw [← hhi] at HZ OS
              obtain ⟨px154, hp⟩ : ∃ X, X = wx151.heap.size := ⟨_, rfl⟩
              rw [← hp] at TB PB ⊢
              obtain ⟨wx153, hw⟩ : ∃ X, X = (wx151.alloc (.cells #[.int .i64 0, .int .i64 0, .int .i64 0, .int .i64 0, .int .i64 0, .slice none 0 0] 27)) := ⟨_, rfl⟩
              rw [← hw] at TB HB OX OS HZ ⊢
              clear hw hp hhi
              refine wpAnyH_ready (rs := [9]) (by kernel_rfl) (by simp) ?_
              refine AllReadyH.cons rfl (fun KK hK => ?_) AllReadyH.nil
              have zb0 : wx153.cell? ⟨px154, 0, none⟩ = some (.int .i64 0) := TB.out.cell 0
              have zb1 : wx153.cell? ⟨px154, 1, none⟩ = some (.int .i64 0) := TB.out.cell 1
              have zb2 : wx153.cell? ⟨px154, 2, none⟩ = some (.int .i64 0) := TB.out.cell 2
              have zb3 : wx153.cell? ⟨px154, 3, none⟩ = some (.int .i64 0) := TB.out.cell 3
              have zb4 : wx153.cell? ⟨px154, 4, none⟩ = some (.int .i64 0) := TB.out.cell 4
              have zb5 : wx153.cell? ⟨px154, 5, none⟩ = some (.slice none 0 0) := TB.out.cell 5
              have zbf := TB.out.frozen
              go_simp
              have HF : Hid (Below wp.heap.size wp ((((((wx153.setCell ⟨px154, 0, none⟩ (.int .i64 q1.c)).setCell ⟨px154, 1, none⟩ (.int .i64 q1.n)).setCell ⟨px154, 2, none⟩ (.int .i64 q1.o)).setCell ⟨px154, 3, none⟩ (.int .i64 q1.x)).setCell ⟨px154, 4, none⟩ (.int .i64 q1.y)).setCell ⟨px154, 5, none⟩ (.slice AS L1.length aS))) := (Below.setCell (Below.setCell (Below.setCell (Below.setCell (Below.setCell (Below.setCell HB.out (p := ⟨px154, 0, none⟩) PB.out (.int .i64 q1.c)) (p := ⟨px154, 1, none⟩) PB.out (.int .i64 q1.n)) (p := ⟨px154, 2, none⟩) PB.out (.int .i64 q1.o)) (p := ⟨px154, 3, none⟩) PB.out (.int .i64 q1.x)) (p := ⟨px154, 4, none⟩) PB.out (.int .i64 q1.y)) (p := ⟨px154, 5, none⟩) PB.out (.slice AS L1.length aS))
              have OF := Lib.hid ((((((OS.out.box TB.out (by decide) 0 (.int .i64 q1.c)).box (TB.out.set 0 (.int .i64 q1.c)) (by decide) 1 (.int .i64 q1.n)).box ((TB.out.set 0 (.int .i64 q1.c)).set 1 (.int .i64 q1.n)) (by decide) 2 (.int .i64 q1.o)).box (((TB.out.set 0 (.int .i64 q1.c)).set 1 (.int .i64 q1.n)).set 2 (.int .i64 q1.o)) (by decide) 3 (.int .i64 q1.x)).box ((((TB.out.set 0 (.int .i64 q1.c)).set 1 (.int .i64 q1.n)).set 2 (.int .i64 q1.o)).set 3 (.int .i64 q1.x)) (by decide) 4 (.int .i64 q1.y)).box (((((TB.out.set 0 (.int .i64 q1.c)).set 1 (.int .i64 q1.n)).set 2 (.int .i64 q1.o)).set 3 (.int .i64 q1.x)).set 4 (.int .i64 q1.y)) (by decide) 5 (.slice AS L1.length aS))
              have TF : Hid (Bkk ((((((wx153.setCell ⟨px154, 0, none⟩ (.int .i64 q1.c)).setCell ⟨px154, 1, none⟩ (.int .i64 q1.n)).setCell ⟨px154, 2, none⟩ (.int .i64 q1.o)).setCell ⟨px154, 3, none⟩ (.int .i64 q1.x)).setCell ⟨px154, 4, none⟩ (.int .i64 q1.y)).setCell ⟨px154, 5, none⟩ (.slice AS L1.length aS)) px154 27 #[.int .i64 q1.c, .int .i64 q1.n, .int .i64 q1.o, .int .i64 q1.x, .int .i64 q1.y, .slice AS L1.length aS]) := ((((((TB.out.set 0 (.int .i64 q1.c)).set 1 (.int .i64 q1.n)).set 2 (.int .i64 q1.o)).set 3 (.int .i64 q1.x)).set 4 (.int .i64 q1.y)).set 5 (.slice AS L1.length aS))
              have ZF := Lib.hid (Nat.le_trans HZ.out (Nat.le_of_eq (show wx153.heap.size = ((((((wx153.setCell ⟨px154, 0, none⟩ (.int .i64 q1.c)).setCell ⟨px154, 1, none⟩ (.int .i64 q1.n)).setCell ⟨px154, 2, none⟩ (.int .i64 q1.o)).setCell ⟨px154, 3, none⟩ (.int .i64 q1.x)).setCell ⟨px154, 4, none⟩ (.int .i64 q1.y)).setCell ⟨px154, 5, none⟩ (.slice AS L1.length aS)).heap.size by simp)))
              refine hK.out _ _ HF.out (fun hSx156 => ?_)
              clear hK KK
              (try simp only [Act.put, List.setIfInBounds_toArray, List.set_cons_zero, List.set_cons_succ])
              refine takeD 10 15 (v := ?_) rfl rfl (by kernel_rfl) (by kernel_rfl) (by kernel_rfl) (fun _ _ _ h => h) (Or.inl ⟨by rfl, ?_⟩) (by assumption) ?_
              rotate_left
              · intro wS hSw; obtain ⟨hcS, hfS⟩ := bcell hSw; go_simp; (try with_reducible rfl)
              (try simp only [Act.put, List.setIfInBounds_toArray, List.set_cons_zero, List.set_cons_succ])
              refine wpAnyH_done (by kernel_rfl) ?_ _
              go_wp2_with (fail)
              go_meet
              case rel => exact ⟨px154, AS, aS, _, _, rfl, rfl, TF, OF, LO, PB, ZF, HF⟩
            · go_simp
              have hba : Below wx149.heap.size wx149 (wx149.alloc (.cells #[.int .i64 0, .int .i64 0, .int .i64 0, .int .i64 0, .int .i64 0, .slice none 0 0] 27)) := (Below.refl _ _).alloc (Nat.le_refl _) _
              refine hK.out _ _ (Below.and HB.out hba) (fun hSx159 => ?_)
              clear hK KK
              (try simp only [Act.put, List.setIfInBounds_toArray, List.set_cons_zero, List.set_cons_succ])
              have PB := Lib.hid (show wp.heap.size ≤ wx149.heap.size from HB.out.size)
              have OX := Lib.hid (OX.out.below hba)
              have HB := Lib.hid (Below.and HB.out hba)
              have TB : Hid (Bkk (wx149.alloc (.cells #[.int .i64 0, .int .i64 0, .int .i64 0, .int .i64 0, .int .i64 0, .slice none 0 0] 27)) wx149.heap.size 27 #[.int .i64 0, .int .i64 0, .int .i64 0, .int .i64 0, .int .i64 0, .slice none 0 0]) := Bkk.new wx149
              clear hba
              obtain ⟨px158, hp⟩ : ∃ X, X = wx149.heap.size := ⟨_, rfl⟩
              rw [← hp] at TB PB ⊢
              obtain ⟨wx157, hw⟩ : ∃ X, X = (wx149.alloc (.cells #[.int .i64 0, .int .i64 0, .int .i64 0, .int .i64 0, .int .i64 0, .slice none 0 0] 27)) := ⟨_, rfl⟩
              rw [← hw] at TB HB OX ⊢
              clear hw hp
              refine wpAnyH_ready (rs := [4]) (by kernel_rfl) (by simp) ?_
              refine AllReadyH.cons rfl (fun KK hK => ?_) AllReadyH.nil
              go_simp
              have LO := Lib.hid (show wp.heap.size ≤ wx157.heap.size from HB.out.size)
              refine (HI.out _ _ _ OX.out.own.rdP).mono ?_
              rintro e wx160 ⟨AS, aS, rfl, oa, hb⟩
              have OX := Lib.hid (OX.out.below hb)
              have TB := Lib.hid (TB.out.below hb)
              have HB := Lib.hid (Below.and HB.out hb)
              have OS := Lib.hid oa.bd
              have HZ := Lib.hid (Nat.le_refl wx160.heap.size)
              clear oa hb
              refine hK.out _ _ HB.out (fun hSx161 => ?_)
              clear hK KK
              (try simp only [Act.put, List.setIfInBounds_toArray, List.set_cons_zero, List.set_cons_succ])
              refine takeD 5 79 (v := ?_) rfl rfl (by kernel_rfl) (by kernel_rfl) (by kernel_rfl) (fun _ _ _ h => h) (Or.inl ⟨by rfl, ?_⟩) (by assumption) ?_
              rotate_left
              · intro wS hSw; obtain ⟨hcS, hfS⟩ := bcell hSw; go_simp; (try with_reducible rfl)
              (try simp only [Act.put, List.setIfInBounds_toArray, List.set_cons_zero, List.set_cons_succ])
              refine takeD 6 85 (v := ?_) rfl rfl (by kernel_rfl) (by kernel_rfl) (by kernel_rfl) (fun _ _ _ h => h) (Or.inl ⟨by rfl, ?_⟩) (by assumption) ?_
              rotate_left
              · intro wS hSw; obtain ⟨hcS, hfS⟩ := bcell hSw; go_simp; (try with_reducible rfl)
              (try simp only [Act.put, List.setIfInBounds_toArray, List.set_cons_zero, List.set_cons_succ])
              refine takeD 7 86 (v := ?_) rfl rfl (by kernel_rfl) (by kernel_rfl) (by kernel_rfl) (fun _ _ _ h => h) (Or.inl ⟨by rfl, ?_⟩) (by assumption) ?_
              rotate_left
              · intro wS hSw; obtain ⟨hcS, hfS⟩ := bcell hSw; go_simp; (try with_reducible rfl)
              (try simp only [Act.put, List.setIfInBounds_toArray, List.set_cons_zero, List.set_cons_succ])
              refine wpAnyH_ready (rs := [9]) (by kernel_rfl) (by simp) ?_
              refine AllReadyH.cons rfl (fun KK hK => ?_) AllReadyH.nil
              have zb0 : wx160.cell? ⟨px158, 0, none⟩ = some (.int .i64 0) := TB.out.cell 0
              have zb1 : wx160.cell? ⟨px158, 1, none⟩ = some (.int .i64 0) := TB.out.cell 1
              have zb2 : wx160.cell? ⟨px158, 2, none⟩ = some (.int .i64 0) := TB.out.cell 2
              have zb3 : wx160.cell? ⟨px158, 3, none⟩ = some (.int .i64 0) := TB.out.cell 3
              have zb4 : wx160.cell? ⟨px158, 4, none⟩ = some (.int .i64 0) := TB.out.cell 4
              have zb5 : wx160.cell? ⟨px158, 5, none⟩ = some (.slice none 0 0) := TB.out.cell 5
              have zbf := TB.out.frozen
              go_simp
              have HF : Hid (Below wp.heap.size wp ((((((wx160.setCell ⟨px158, 0, none⟩ (.int .i64 q1.c)).setCell ⟨px158, 1, none⟩ (.int .i64 q1.n)).setCell ⟨px158, 2, none⟩ (.int .i64 q1.o)).setCell ⟨px158, 3, none⟩ (.int .i64 q1.x)).setCell ⟨px158, 4, none⟩ (.int .i64 q1.y)).setCell ⟨px158, 5, none⟩ (.slice AS L1.length aS))) := (Below.setCell (Below.setCell (Below.setCell (Below.setCell (Below.setCell (Below.setCell HB.out (p := ⟨px158, 0, none⟩) PB.out (.int .i64 q1.c)) (p := ⟨px158, 1, none⟩) PB.out (.int .i64 q1.n)) (p := ⟨px158, 2, none⟩) PB.out (.int .i64 q1.o)) (p := ⟨px158, 3, none⟩) PB.out (.int .i64 q1.x)) (p := ⟨px158, 4, none⟩) PB.out (.int .i64 q1.y)) (p := ⟨px158, 5, none⟩) PB.out (.slice AS L1.length aS))
              have OF := Lib.hid ((((((OS.out.box TB.out (by decide) 0 (.int .i64 q1.c)).box (TB.out.set 0 (.int .i64 q1.c)) (by decide) 1 (.int .i64 q1.n)).box ((TB.out.set 0 (.int .i64 q1.c)).set 1 (.int .i64 q1.n)) (by decide) 2 (.int .i64 q1.o)).box (((TB.out.set 0 (.int .i64 q1.c)).set 1 (.int .i64 q1.n)).set 2 (.int .i64 q1.o)) (by decide) 3 (.int .i64 q1.x)).box ((((TB.out.set 0 (.int .i64 q1.c)).set 1 (.int .i64 q1.n)).set 2 (.int .i64 q1.o)).set 3 (.int .i64 q1.x)) (by decide) 4 (.int .i64 q1.y)).box (((((TB.out.set 0 (.int .i64 q1.c)).set 1 (.int .i64 q1.n)).set 2 (.int .i64 q1.o)).set 3 (.int .i64 q1.x)).set 4 (.int .i64 q1.y)) (by decide) 5 (.slice AS L1.length aS))
              have TF : Hid (Bkk ((((((wx160.setCell ⟨px158, 0, none⟩ (.int .i64 q1.c)).setCell ⟨px158, 1, none⟩ (.int .i64 q1.n)).setCell ⟨px158, 2, none⟩ (.int .i64 q1.o)).setCell ⟨px158, 3, none⟩ (.int .i64 q1.x)).setCell ⟨px158, 4, none⟩ (.int .i64 q1.y)).setCell ⟨px158, 5, none⟩ (.slice AS L1.length aS)) px158 27 #[.int .i64 q1.c, .int .i64 q1.n, .int .i64 q1.o, .int .i64 q1.x, .int .i64 q1.y, .slice AS L1.length aS]) := ((((((TB.out.set 0 (.int .i64 q1.c)).set 1 (.int .i64 q1.n)).set 2 (.int .i64 q1.o)).set 3 (.int .i64 q1.x)).set 4 (.int .i64 q1.y)).set 5 (.slice AS L1.length aS))
              have ZF := Lib.hid (Nat.le_trans HZ.out (Nat.le_of_eq (show wx160.heap.size = ((((((wx160.setCell ⟨px158, 0, none⟩ (.int .i64 q1.c)).setCell ⟨px158, 1, none⟩ (.int .i64 q1.n)).setCell ⟨px158, 2, none⟩ (.int .i64 q1.o)).setCell ⟨px158, 3, none⟩ (.int .i64 q1.x)).setCell ⟨px158, 4, none⟩ (.int .i64 q1.y)).setCell ⟨px158, 5, none⟩ (.slice AS L1.length aS)).heap.size by simp)))
              refine hK.out _ _ HF.out (fun hSx162 => ?_)
              clear hK KK
              (try simp only [Act.put, List.setIfInBounds_toArray, List.set_cons_zero, List.set_cons_succ])
              refine takeD 10 15 (v := ?_) rfl rfl (by kernel_rfl) (by kernel_rfl) (by kernel_rfl) (fun _ _ _ h => h) (Or.inl ⟨by rfl, ?_⟩) (by assumption) ?_
              rotate_left
              · intro wS hSw; obtain ⟨hcS, hfS⟩ := bcell hSw; go_simp; (try with_reducible rfl)
              (try simp only [Act.put, List.setIfInBounds_toArray, List.set_cons_zero, List.set_cons_succ])
              refine wpAnyH_done (by kernel_rfl) ?_ _
              go_wp2_with (fail)
              go_meet
              case rel => exact ⟨px158, AS, aS, _, _, rfl, rfl, TF, OF, LO, PB, ZF, HF⟩
          · go_simp
            have hba : Below wx147.heap.size wx147 (wx147.alloc (.cells #[.int .i64 0, .int .i64 0, .int .i64 0, .int .i64 0, .int .i64 0, .slice none 0 0] 27)) := (Below.refl _ _).alloc (Nat.le_refl _) _
            refine hK.out _ _ (Below.and HB.out hba) (fun hSx165 => ?_)
            clear hK KK
            (try simp only [Act.put, List.setIfInBounds_toArray, List.set_cons_zero, List.set_cons_succ])
            have PB := Lib.hid (show wp.heap.size ≤ wx147.heap.size from HB.out.size)
            have OX := Lib.hid (OX.out.below hba)
            have HB := Lib.hid (Below.and HB.out hba)
            have TB : Hid (Bkk (wx147.alloc (.cells #[.int .i64 0, .int .i64 0, .int .i64 0, .int .i64 0, .int .i64 0, .slice none 0 0] 27)) wx147.heap.size 27 #[.int .i64 0, .int .i64 0, .int .i64 0, .int .i64 0, .int .i64 0, .slice none 0 0]) := Bkk.new wx147
            clear hba
            obtain ⟨px164, hp⟩ : ∃ X, X = wx147.heap.size := ⟨_, rfl⟩
            rw [← hp] at TB PB ⊢
            obtain ⟨wx163, hw⟩ : ∃ X, X = (wx147.alloc (.cells #[.int .i64 0, .int .i64 0, .int .i64 0, .int .i64 0, .int .i64 0, .slice none 0 0] 27)) := ⟨_, rfl⟩
            rw [← hw] at TB HB OX ⊢
            clear hw hp
            refine wpAnyH_ready (rs := [3]) (by kernel_rfl) (by simp) ?_
            refine AllReadyH.cons rfl (fun KK hK => ?_) AllReadyH.nil
            go_simp
            refine (toRq r _).mono ?_
            rintro e wx166 ⟨rfl, hb⟩
            have OX := Lib.hid (OX.out.below hb)
            have TB := Lib.hid (TB.out.below hb)
            have HB := Lib.hid (Below.and HB.out hb)
            clear hb
            refine hK.out _ _ HB.out (fun hSx167 => ?_)
            clear hK KK
            (try simp only [Act.put, List.setIfInBounds_toArray, List.set_cons_zero, List.set_cons_succ])
            refine wpAnyH_ready (rs := [4]) (by kernel_rfl) (by simp) ?_
            refine AllReadyH.cons rfl (fun KK hK => ?_) AllReadyH.nil
            go_simp
            have LO := Lib.hid (show wp.heap.size ≤ wx166.heap.size from HB.out.size)
            refine (HI.out _ _ _ OX.out.own.rdP).mono ?_
            rintro e wx168 ⟨AS, aS, rfl, oa, hb⟩
            have OX := Lib.hid (OX.out.below hb)
            have TB := Lib.hid (TB.out.below hb)
            have HB := Lib.hid (Below.and HB.out hb)
            have OS := Lib.hid oa.bd
            have HZ := Lib.hid (Nat.le_refl wx168.heap.size)
            clear oa hb
            refine hK.out _ _ HB.out (fun hSx169 => ?_)
            clear hK KK
            (try simp only [Act.put, List.setIfInBounds_toArray, List.set_cons_zero, List.set_cons_succ])
            refine takeD 5 79 (v := ?_) rfl rfl (by kernel_rfl) (by kernel_rfl) (by kernel_rfl) (fun _ _ _ h => h) (Or.inl ⟨by rfl, ?_⟩) (by assumption) ?_
            rotate_left
            · intro wS hSw; obtain ⟨hcS, hfS⟩ := bcell hSw; go_simp; (try with_reducible rfl)
            (try simp only [Act.put, List.setIfInBounds_toArray, List.set_cons_zero, List.set_cons_succ])
            refine takeD 6 85 (v := ?_) rfl rfl (by kernel_rfl) (by kernel_rfl) (by kernel_rfl) (fun _ _ _ h => h) (Or.inl ⟨by rfl, ?_⟩) (by assumption) ?_
            rotate_left
            · intro wS hSw; obtain ⟨hcS, hfS⟩ := bcell hSw; go_simp; (try with_reducible rfl)
            (try simp only [Act.put, List.setIfInBounds_toArray, List.set_cons_zero, List.set_cons_succ])
            refine takeD 7 86 (v := ?_) rfl rfl (by kernel_rfl) (by kernel_rfl) (by kernel_rfl) (fun _ _ _ h => h) (Or.inl ⟨by rfl, ?_⟩) (by assumption) ?_
            rotate_left
            · intro wS hSw; obtain ⟨hcS, hfS⟩ := bcell hSw; go_simp; (try with_reducible rfl)
            (try simp only [Act.put, List.setIfInBounds_toArray, List.set_cons_zero, List.set_cons_succ])
            refine wpAnyH_ready (rs := [9]) (by kernel_rfl) (by simp) ?_
            refine AllReadyH.cons rfl (fun KK hK => ?_) AllReadyH.nil
            have zb0 : wx168.cell? ⟨px164, 0, none⟩ = some (.int .i64 0) := TB.out.cell 0
            have zb1 : wx168.cell? ⟨px164, 1, none⟩ = some (.int .i64 0) := TB.out.cell 1
            have zb2 : wx168.cell? ⟨px164, 2, none⟩ = some (.int .i64 0) := TB.out.cell 2
            have zb3 : wx168.cell? ⟨px164, 3, none⟩ = some (.int .i64 0) := TB.out.cell 3
            have zb4 : wx168.cell? ⟨px164, 4, none⟩ = some (.int .i64 0) := TB.out.cell 4
            have zb5 : wx168.cell? ⟨px164, 5, none⟩ = some (.slice none 0 0) := TB.out.cell 5
            have zbf := TB.out.frozen
            go_simp
            have HF : Hid (Below wp.heap.size wp ((((((wx168.setCell ⟨px164, 0, none⟩ (.int .i64 q1.c)).setCell ⟨px164, 1, none⟩ (.int .i64 q1.n)).setCell ⟨px164, 2, none⟩ (.int .i64 q1.o)).setCell ⟨px164, 3, none⟩ (.int .i64 q1.x)).setCell ⟨px164, 4, none⟩ (.int .i64 q1.y)).setCell ⟨px164, 5, none⟩ (.slice AS L1.length aS))) := (Below.setCell (Below.setCell (Below.setCell (Below.setCell (Below.setCell (Below.setCell HB.out (p := ⟨px164, 0, none⟩) PB.out (.int .i64 q1.c)) (p := ⟨px164, 1, none⟩) PB.out (.int .i64 q1.n)) (p := ⟨px164, 2, none⟩) PB.out (.int .i64 q1.o)) (p := ⟨px164, 3, none⟩) PB.out (.int .i64 q1.x)) (p := ⟨px164, 4, none⟩) PB.out (.int .i64 q1.y)) (p := ⟨px164, 5, none⟩) PB.out (.slice AS L1.length aS))
            have OF := Lib.hid ((((((OS.out.box TB.out (by decide) 0 (.int .i64 q1.c)).box (TB.out.set 0 (.int .i64 q1.c)) (by decide) 1 (.int .i64 q1.n)).box ((TB.out.set 0 (.int .i64 q1.c)).set 1 (.int .i64 q1.n)) (by decide) 2 (.int .i64 q1.o)).box (((TB.out.set 0 (.int .i64 q1.c)).set 1 (.int .i64 q1.n)).set 2 (.int .i64 q1.o)) (by decide) 3 (.int .i64 q1.x)).box ((((TB.out.set 0 (.int .i64 q1.c)).set 1 (.int .i64 q1.n)).set 2 (.int .i64 q1.o)).set 3 (.int .i64 q1.x)) (by decide) 4 (.int .i64 q1.y)).box (((((TB.out.set 0 (.int .i64 q1.c)).set 1 (.int .i64 q1.n)).set 2 (.int .i64 q1.o)).set 3 (.int .i64 q1.x)).set 4 (.int .i64 q1.y)) (by decide) 5 (.slice AS L1.length aS))
            have TF : Hid (Bkk ((((((wx168.setCell ⟨px164, 0, none⟩ (.int .i64 q1.c)).setCell ⟨px164, 1, none⟩ (.int .i64 q1.n)).setCell ⟨px164, 2, none⟩ (.int .i64 q1.o)).setCell ⟨px164, 3, none⟩ (.int .i64 q1.x)).setCell ⟨px164, 4, none⟩ (.int .i64 q1.y)).setCell ⟨px164, 5, none⟩ (.slice AS L1.length aS)) px164 27 #[.int .i64 q1.c, .int .i64 q1.n, .int .i64 q1.o, .int .i64 q1.x, .int .i64 q1.y, .slice AS L1.length aS]) := ((((((TB.out.set 0 (.int .i64 q1.c)).set 1 (.int .i64 q1.n)).set 2 (.int .i64 q1.o)).set 3 (.int .i64 q1.x)).set 4 (.int .i64 q1.y)).set 5 (.slice AS L1.length aS))
            have ZF := Lib.hid (Nat.le_trans HZ.out (Nat.le_of_eq (show wx168.heap.size = ((((((wx168.setCell ⟨px164, 0, none⟩ (.int .i64 q1.c)).setCell ⟨px164, 1, none⟩ (.int .i64 q1.n)).setCell ⟨px164, 2, none⟩ (.int .i64 q1.o)).setCell ⟨px164, 3, none⟩ (.int .i64 q1.x)).setCell ⟨px164, 4, none⟩ (.int .i64 q1.y)).setCell ⟨px164, 5, none⟩ (.slice AS L1.length aS)).heap.size by simp)))
            refine hK.out _ _ HF.out (fun hSx170 => ?_)
            clear hK KK
            (try simp only [Act.put, List.setIfInBounds_toArray, List.set_cons_zero, List.set_cons_succ])
            refine takeD 10 15 (v := ?_) rfl rfl (by kernel_rfl) (by kernel_rfl) (by kernel_rfl) (fun _ _ _ h => h) (Or.inl ⟨by rfl, ?_⟩) (by assumption) ?_
            rotate_left
            · intro wS hSw; obtain ⟨hcS, hfS⟩ := bcell hSw; go_simp; (try with_reducible rfl)
            (try simp only [Act.put, List.setIfInBounds_toArray, List.set_cons_zero, List.set_cons_succ])
            refine wpAnyH_done (by kernel_rfl) ?_ _
            go_wp2_with (fail)
            go_meet
            case rel => exact ⟨px164, AS, aS, _, _, rfl, rfl, TF, OF, LO, PB, ZF, HF⟩
        · go_simp
          have hba : Below wp.drew.heap.size wp.drew (wp.alloc (.cells #[.int .i64 0, .int .i64 0, .int .i64 0, .int .i64 0, .int .i64 0, .slice none 0 0] 27)).drew := (Below.refl _ _).alloc (Nat.le_refl _) _
          refine hK.out _ _ (Below.and HB.out hba) (fun hSx173 => ?_)
          clear hK KK
          (try simp only [Act.put, List.setIfInBounds_toArray, List.set_cons_zero, List.set_cons_succ])
          have PB := Lib.hid (show wp.heap.size ≤ wp.heap.size from HB.out.size)
          have HB := Lib.hid (Below.and HB.out hba)
          have TB : Hid (Bkk (wp.alloc (.cells #[.int .i64 0, .int .i64 0, .int .i64 0, .int .i64 0, .int .i64 0, .slice none 0 0] 27)).drew wp.heap.size 27 #[.int .i64 0, .int .i64 0, .int .i64 0, .int .i64 0, .int .i64 0, .slice none 0 0]) := Bkk.new wp
          clear hba
          obtain ⟨wx171, hw⟩ : ∃ X, X = (wp.alloc (.cells #[.int .i64 0, .int .i64 0, .int .i64 0, .int .i64 0, .int .i64 0, .slice none 0 0] 27)).drew := ⟨_, rfl⟩
          rw [← hw] at TB HB ⊢
          clear hw
          refine wpAnyH_ready (rs := [1]) (by kernel_rfl) (by simp) ?_
          refine AllReadyH.cons rfl (fun KK hK => ?_) AllReadyH.nil
          go_simp
          refine (toPlayer q A a L _ hL (Rd.below HR.out (Below.and Z.out HB.out))).mono ?_
          rintro e wx174 ⟨gX, rfl, oa, hb⟩
          have TB := Lib.hid (TB.out.below hb)
          have HB := Lib.hid (Below.and HB.out hb)
          have OX := Lib.hid oa.bd
          clear oa hb
          refine hK.out _ _ HB.out (fun hSx175 => ?_)
          clear hK KK
          (try simp only [Act.put, List.setIfInBounds_toArray, List.set_cons_zero, List.set_cons_succ])
          refine wpAnyH_ready (rs := [3]) (by kernel_rfl) (by simp) ?_
          refine AllReadyH.cons rfl (fun KK hK => ?_) AllReadyH.nil
          go_simp
          refine (toRq r _).mono ?_
          rintro e wx176 ⟨rfl, hb⟩
          have OX := Lib.hid (OX.out.below hb)
          have TB := Lib.hid (TB.out.below hb)
          have HB := Lib.hid (Below.and HB.out hb)
          clear hb
          refine hK.out _ _ HB.out (fun hSx177 => ?_)
          clear hK KK
          (try simp only [Act.put, List.setIfInBounds_toArray, List.set_cons_zero, List.set_cons_succ])
          refine wpAnyH_ready (rs := [4]) (by kernel_rfl) (by simp) ?_
          refine AllReadyH.cons rfl (fun KK hK => ?_) AllReadyH.nil
          go_simp
          have LO := Lib.hid (show wp.heap.size ≤ wx176.heap.size from HB.out.size)
          refine (HI.out _ _ _ OX.out.own.rdP).mono ?_
          rintro e wx178 ⟨AS, aS, rfl, oa, hb⟩
          have OX := Lib.hid (OX.out.below hb)
          have TB := Lib.hid (TB.out.below hb)
          have HB := Lib.hid (Below.and HB.out hb)
          have OS := Lib.hid oa.bd
          have HZ := Lib.hid (Nat.le_refl wx178.heap.size)
          clear oa hb
          refine hK.out _ _ HB.out (fun hSx179 => ?_)
          clear hK KK
          (try simp only [Act.put, List.setIfInBounds_toArray, List.set_cons_zero, List.set_cons_succ])
          refine takeD 5 79 (v := ?_) rfl rfl (by kernel_rfl) (by kernel_rfl) (by kernel_rfl) (fun _ _ _ h => h) (Or.inl ⟨by rfl, ?_⟩) (by assumption) ?_
          rotate_left
          · intro wS hSw; obtain ⟨hcS, hfS⟩ := bcell hSw; go_simp; (try with_reducible rfl)
          (try simp only [Act.put, List.setIfInBounds_toArray, List.set_cons_zero, List.set_cons_succ])
          refine takeD 6 85 (v := ?_) rfl rfl (by kernel_rfl) (by kernel_rfl) (by kernel_rfl) (fun _ _ _ h => h) (Or.inl ⟨by rfl, ?_⟩) (by assumption) ?_
          rotate_left
          · intro wS hSw; obtain ⟨hcS, hfS⟩ := bcell hSw; go_simp; (try with_reducible rfl)
          (try simp only [Act.put, List.setIfInBounds_toArray, List.set_cons_zero, List.set_cons_succ])
          refine takeD 7 86 (v := ?_) rfl rfl (by kernel_rfl) (by kernel_rfl) (by kernel_rfl) (fun _ _ _ h => h) (Or.inl ⟨by rfl, ?_⟩) (by assumption) ?_
          rotate_left
          · intro wS hSw; obtain ⟨hcS, hfS⟩ := bcell hSw; go_simp; (try with_reducible rfl)
          (try simp only [Act.put, List.setIfInBounds_toArray, List.set_cons_zero, List.set_cons_succ])
          refine wpAnyH_ready (rs := [9]) (by kernel_rfl) (by simp) ?_
          refine AllReadyH.cons rfl (fun KK hK => ?_) AllReadyH.nil
          have zb0 : wx178.cell? ⟨wp.heap.size, 0, none⟩ = some (.int .i64 0) := TB.out.cell 0
          have zb1 : wx178.cell? ⟨wp.heap.size, 1, none⟩ = some (.int .i64 0) := TB.out.cell 1
          have zb2 : wx178.cell? ⟨wp.heap.size, 2, none⟩ = some (.int .i64 0) := TB.out.cell 2
          have zb3 : wx178.cell? ⟨wp.heap.size, 3, none⟩ = some (.int .i64 0) := TB.out.cell 3
          have zb4 : wx178.cell? ⟨wp.heap.size, 4, none⟩ = some (.int .i64 0) := TB.out.cell 4
          have zb5 : wx178.cell? ⟨wp.heap.size, 5, none⟩ = some (.slice none 0 0) := TB.out.cell 5
          have zbf := TB.out.frozen
          go_simp
          have HF : Hid (Below wp.heap.size wp ((((((wx178.setCell ⟨wp.heap.size, 0, none⟩ (.int .i64 q1.c)).setCell ⟨wp.heap.size, 1, none⟩ (.int .i64 q1.n)).setCell ⟨wp.heap.size, 2, none⟩ (.int .i64 q1.o)).setCell ⟨wp.heap.size, 3, none⟩ (.int .i64 q1.x)).setCell ⟨wp.heap.size, 4, none⟩ (.int .i64 q1.y)).setCell ⟨wp.heap.size, 5, none⟩ (.slice AS L1.length aS))) := (Below.setCell (Below.setCell (Below.setCell (Below.setCell (Below.setCell (Below.setCell HB.out (p := ⟨wp.heap.size, 0, none⟩) PB.out (.int .i64 q1.c)) (p := ⟨wp.heap.size, 1, none⟩) PB.out (.int .i64 q1.n)) (p := ⟨wp.heap.size, 2, none⟩) PB.out (.int .i64 q1.o)) (p := ⟨wp.heap.size, 3, none⟩) PB.out (.int .i64 q1.x)) (p := ⟨wp.heap.size, 4, none⟩) PB.out (.int .i64 q1.y)) (p := ⟨wp.heap.size, 5, none⟩) PB.out (.slice AS L1.length aS))
          have OF := Lib.hid ((((((OS.out.box TB.out (by decide) 0 (.int .i64 q1.c)).box (TB.out.set 0 (.int .i64 q1.c)) (by decide) 1 (.int .i64 q1.n)).box ((TB.out.set 0 (.int .i64 q1.c)).set 1 (.int .i64 q1.n)) (by decide) 2 (.int .i64 q1.o)).box (((TB.out.set 0 (.int .i64 q1.c)).set 1 (.int .i64 q1.n)).set 2 (.int .i64 q1.o)) (by decide) 3 (.int .i64 q1.x)).box ((((TB.out.set 0 (.int .i64 q1.c)).set 1 (.int .i64 q1.n)).set 2 (.int .i64 q1.o)).set 3 (.int .i64 q1.x)) (by decide) 4 (.int .i64 q1.y)).box (((((TB.out.set 0 (.int .i64 q1.c)).set 1 (.int .i64 q1.n)).set 2 (.int .i64 q1.o)).set 3 (.int .i64 q1.x)).set 4 (.int .i64 q1.y)) (by decide) 5 (.slice AS L1.length aS))
          have TF : Hid (Bkk ((((((wx178.setCell ⟨wp.heap.size, 0, none⟩ (.int .i64 q1.c)).setCell ⟨wp.heap.size, 1, none⟩ (.int .i64 q1.n)).setCell ⟨wp.heap.size, 2, none⟩ (.int .i64 q1.o)).setCell ⟨wp.heap.size, 3, none⟩ (.int .i64 q1.x)).setCell ⟨wp.heap.size, 4, none⟩ (.int .i64 q1.y)).setCell ⟨wp.heap.size, 5, none⟩ (.slice AS L1.length aS)) wp.heap.size 27 #[.int .i64 q1.c, .int .i64 q1.n, .int .i64 q1.o, .int .i64 q1.x, .int .i64 q1.y, .slice AS L1.length aS]) := ((((((TB.out.set 0 (.int .i64 q1.c)).set 1 (.int .i64 q1.n)).set 2 (.int .i64 q1.o)).set 3 (.int .i64 q1.x)).set 4 (.int .i64 q1.y)).set 5 (.slice AS L1.length aS))
          have ZF := Lib.hid (Nat.le_trans HZ.out (Nat.le_of_eq (show wx178.heap.size = ((((((wx178.setCell ⟨wp.heap.size, 0, none⟩ (.int .i64 q1.c)).setCell ⟨wp.heap.size, 1, none⟩ (.int .i64 q1.n)).setCell ⟨wp.heap.size, 2, none⟩ (.int .i64 q1.o)).setCell ⟨wp.heap.size, 3, none⟩ (.int .i64 q1.x)).setCell ⟨wp.heap.size, 4, none⟩ (.int .i64 q1.y)).setCell ⟨wp.heap.size, 5, none⟩ (.slice AS L1.length aS)).heap.size by simp)))
          refine hK.out _ _ HF.out (fun hSx180 => ?_)
          clear hK KK
          (try simp only [Act.put, List.setIfInBounds_toArray, List.set_cons_zero, List.set_cons_succ])
          refine takeD 10 15 (v := ?_) rfl rfl (by kernel_rfl) (by kernel_rfl) (by kernel_rfl) (fun _ _ _ h => h) (Or.inl ⟨by rfl, ?_⟩) (by assumption) ?_
          rotate_left
          · intro wS hSw; obtain ⟨hcS, hfS⟩ := bcell hSw; go_simp; (try with_reducible rfl)
          (try simp only [Act.put, List.setIfInBounds_toArray, List.set_cons_zero, List.set_cons_succ])
          refine wpAnyH_done (by kernel_rfl) ?_ _
          go_wp2_with (fail)
          go_meet
          case rel => exact ⟨wp.heap.size, AS, aS, _, _, rfl, rfl, TF, OF, LO, PB, ZF, HF⟩
      case rest =>
        obtain ⟨p7, A7, a7, lo7, hi7, rfl, rfl, T7, O7, _, _, _, HB⟩ := hcut
        have Z := Lib.hid (Below.and Z.out HB.out)
        have T6 := Lib.hid (T6.out.below HB.out)
        have O6 := Lib.hid (O6.out.below HB.out)
        have T9 := Lib.hid (T9.out.below HB.out)
        have M9 := Lib.hid (M9.out.below HB.out)
        clear HB K R
        have u0 : wc.cell? ⟨p7, 0, none⟩ = some (.int .i64 q1.c) := T7.out.cell 0
        have u1 : wc.cell? ⟨p7, 1, none⟩ = some (.int .i64 q1.n) := T7.out.cell 1
        have u2 : wc.cell? ⟨p7, 2, none⟩ = some (.int .i64 q1.o) := T7.out.cell 2
        have u3 : wc.cell? ⟨p7, 3, none⟩ = some (.int .i64 q1.x) := T7.out.cell 3
        have u4 : wc.cell? ⟨p7, 4, none⟩ = some (.int .i64 q1.y) := T7.out.cell 4
        have u5 : wc.cell? ⟨p7, 5, none⟩ = some (.slice A7 L1.length a7) := T7.out.cell 5
        have lu := T7.out.lt
        have v0 : wc.cell? ⟨p6, 0, none⟩ = some (.int .i64 q1.c) := T6.out.cell 0
        have v1 : wc.cell? ⟨p6, 1, none⟩ = some (.int .i64 q1.n) := T6.out.cell 1
        have v2 : wc.cell? ⟨p6, 2, none⟩ = some (.int .i64 q1.o) := T6.out.cell 2
        have v3 : wc.cell? ⟨p6, 3, none⟩ = some (.int .i64 q1.x) := T6.out.cell 3
        have v4 : wc.cell? ⟨p6, 4, none⟩ = some (.int .i64 q1.y) := T6.out.cell 4
        have v5 : wc.cell? ⟨p6, 5, none⟩ = some (.slice A6 L1.length a6) := T6.out.cell 5
        have lv := T6.out.lt
        go_wp2_with (fail)
        refine (eqPlayer_rd q1 _ _ _ _ L1 _ HLN.out O7.out.own.rd O6.out.own.rd).mono ?_
        rintro e wr ⟨rfl, hb⟩
        have Z := Lib.hid (Below.and Z.out hb)
        have T9 := Lib.hid (T9.out.below hb)
        have M9 := Lib.hid (M9.out.below hb)
        clear hb u0 u1 u2 u3 u4 u5 lu v0 v1 v2 v3 v4 v5 lv T6 T7 O6 O7
        have u0 : wr.cell? ⟨p9, 0, none⟩ = some (.int .i64 q1.c) := T9.out.cell 0
        have u1 : wr.cell? ⟨p9, 1, none⟩ = some (.int .i64 q1.n) := T9.out.cell 1
        have u2 : wr.cell? ⟨p9, 2, none⟩ = some (.int .i64 q1.o) := T9.out.cell 2
        have u3 : wr.cell? ⟨p9, 3, none⟩ = some (.int .i64 q1.x) := T9.out.cell 3
        have u4 : wr.cell? ⟨p9, 4, none⟩ = some (.int .i64 q1.y) := T9.out.cell 4
        have u5 : wr.cell? ⟨p9, 5, none⟩ = some (.slice A9 L1.length a9) := T9.out.cell 5
        have lu := T9.out.lt
        go_wp2_with (fail)
        refine (heldPlayer q1 a9 M9.out HLN.out).mono ?_
        rintro e wt ⟨rfl, hb⟩
        rw [← HV.out]
        have Z := Lib.hid (Below.and Z.out hb)
        clear hb u0 u1 u2 u3 u4 u5 lu T9 M9 HV
        go_wp2
        go_light
        go_ret
        exact ⟨rfl, Z.out⟩

end Go.Proofs.Ytdpladihacgobaa
