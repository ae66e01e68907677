/- A message as its kind reads it. -/
import Derived.Test.YtfelhnchnaggmaaMI
import Derived.Test.YtfelhnchnaggmaaUi
import Derived.Deep.RegionWith
namespace Go.Proofs.Ytfelhnchnaggmaa
open Go.ChangeShapes Go.WideShapes Go.ChangeAt Go.RowKit
set_option linter.unusedVariables false

set_option maxRecDepth 100000 in
set_option maxHeartbeats 2000000 in
theorem letterOf5 (p : MgP) (w : World) (hk : p.k = 5) :
    Calls Try.prog 80 #[p.val] w fun e w' => e = .returned (.tuple #[.iface 131 (.agg #[.int .i64 p.f, .int .i64 p.v, .slice p.A p.cl.length p.a]), .bool true]) ∧ Below w.heap.size w w' := by
  have BW : Hid (Below w.heap.size w (w.alloc (.cells #[.int .i64 p.k, .int .i64 p.f, .int .i64 p.v, .int .i64 p.s, .int .i64 p.r.c, .int .i64 p.r.n, .int .i64 p.r.o, .int .i64 p.r.x, .int .i64 p.r.y, .slice p.A p.cl.length p.a, .slice p.B p.vt.length p.b] 72))) := (Below.refl _ _).alloc (Nat.le_refl _) _
  have K : Hid (Blk (w.alloc (.cells #[.int .i64 p.k, .int .i64 p.f, .int .i64 p.v, .int .i64 p.s, .int .i64 p.r.c, .int .i64 p.r.n, .int .i64 p.r.o, .int .i64 p.r.x, .int .i64 p.r.y, .slice p.A p.cl.length p.a, .slice p.B p.vt.length p.b] 72)) w.heap.size 72 #[.int .i64 p.k, .int .i64 p.f, .int .i64 p.v, .int .i64 p.s, .int .i64 p.r.c, .int .i64 p.r.n, .int .i64 p.r.o, .int .i64 p.r.x, .int .i64 p.r.y, .slice p.A p.cl.length p.a, .slice p.B p.vt.length p.b]) := Blk.new w
  have K3 : Blk ((w.alloc (.cells #[.int .i64 p.k, .int .i64 p.f, .int .i64 p.v, .int .i64 p.s, .int .i64 p.r.c, .int .i64 p.r.n, .int .i64 p.r.o, .int .i64 p.r.x, .int .i64 p.r.y, .slice p.A p.cl.length p.a, .slice p.B p.vt.length p.b] 72)).alloc (.cells #[.int .i64 0, .int .i64 0, .int .i64 0, .int .i64 0, .int .i64 0, .int .i64 0, .int .i64 0, .int .i64 0] 125)) (w.heap.size + 1) 125 #[.int .i64 0, .int .i64 0, .int .i64 0, .int .i64 0, .int .i64 0, .int .i64 0, .int .i64 0, .int .i64 0] := by have := Blk.new (t := 125) (cs := #[.int .i64 0, .int .i64 0, .int .i64 0, .int .i64 0, .int .i64 0, .int .i64 0, .int .i64 0, .int .i64 0]) (w.alloc (.cells #[.int .i64 p.k, .int .i64 p.f, .int .i64 p.v, .int .i64 p.s, .int .i64 p.r.c, .int .i64 p.r.n, .int .i64 p.r.o, .int .i64 p.r.x, .int .i64 p.r.y, .slice p.A p.cl.length p.a, .slice p.B p.vt.length p.b] 72)); simpa using this
  have K3 : Hid (Blk ((w.alloc (.cells #[.int .i64 p.k, .int .i64 p.f, .int .i64 p.v, .int .i64 p.s, .int .i64 p.r.c, .int .i64 p.r.n, .int .i64 p.r.o, .int .i64 p.r.x, .int .i64 p.r.y, .slice p.A p.cl.length p.a, .slice p.B p.vt.length p.b] 72)).alloc (.cells #[.int .i64 0, .int .i64 0, .int .i64 0, .int .i64 0, .int .i64 0, .int .i64 0, .int .i64 0, .int .i64 0] 125)).drew (w.heap.size + 1) 125 #[.int .i64 0, .int .i64 0, .int .i64 0, .int .i64 0, .int .i64 0, .int .i64 0, .int .i64 0, .int .i64 0]) := K3
  have hk1 : (p.k == 1) = false := by simp; omega
  have hk2 : (p.k == 2) = false := by simp; omega
  have hk3 : (p.k == 3) = false := by simp; omega
  have hk4 : (p.k == 4) = false := by simp; omega
  have hk5 : (p.k == 5) = true := by simp; omega
  have hk6 : (p.k == 6) = false := by simp; omega
  clear hk
  go_enter Try.func80, Try.ntmps80
  go_wp2_with (fail)
  refine wp_region_held_drew (S := fun w1 => Below (w.alloc (.cells #[.int .i64 p.k, .int .i64 p.f, .int .i64 p.v, .int .i64 p.s, .int .i64 p.r.c, .int .i64 p.r.n, .int .i64 p.r.o, .int .i64 p.r.x, .int .i64 p.r.y, .slice p.A p.cl.length p.a, .slice p.B p.vt.length p.b] 72)).heap.size (w.alloc (.cells #[.int .i64 p.k, .int .i64 p.f, .int .i64 p.v, .int .i64 p.s, .int .i64 p.r.c, .int .i64 p.r.n, .int .i64 p.r.o, .int .i64 p.r.x, .int .i64 p.r.y, .slice p.A p.cl.length p.a, .slice p.B p.vt.length p.b] 72)) w1) (by kernel_rfl) ((Below.refl _ _).drew) (fun hHeld => ?_)
  refine takeD 0 5 (v := ?_) rfl rfl (by kernel_rfl) (by kernel_rfl) (by kernel_rfl) (fun _ _ _ h => h) (Or.inl ⟨by rfl, ?_⟩) (by assumption) ?_
  rotate_left
  · intro w1 hSw; obtain ⟨hcS, hfS⟩ := bcell hSw; go_simp; (try with_reducible rfl)
  (try simp only [Act.put, List.setIfInBounds_toArray, List.set_cons_zero, List.set_cons_succ])
  refine takeD 1 6 (v := ?_) rfl rfl (by kernel_rfl) (by kernel_rfl) (by kernel_rfl) (fun _ _ _ h => h) (Or.inl ⟨by rfl, ?_⟩) (by assumption) ?_
  rotate_left
  · intro w1 hSw; obtain ⟨hcS, hfS⟩ := bcell hSw; go_simp; (try with_reducible rfl)
  (try simp only [Act.put, List.setIfInBounds_toArray, List.set_cons_zero, List.set_cons_succ])
  refine takeD 2 7 (v := ?_) rfl rfl (by kernel_rfl) (by kernel_rfl) (by kernel_rfl) (fun _ _ _ h => h) (Or.inl ⟨by rfl, ?_⟩) (by assumption) ?_
  rotate_left
  · intro w1 hSw; obtain ⟨hcS, hfS⟩ := bcell hSw; go_simp; (try with_reducible rfl)
  (try simp only [Act.put, List.setIfInBounds_toArray, List.set_cons_zero, List.set_cons_succ])
  refine wpAnyH_ready (rs := [3, 5]) (by kernel_rfl) (by simp) ?_
  refine AllReadyH.cons rfl (fun K0 hK => ?_) (AllReadyH.cons rfl (fun K0 hK => ?_) AllReadyH.nil)
  · go_simp
    refine (claimOf p _).mono ?_
    rintro e w1 ⟨rfl, hb⟩
    refine hK.out _ _ (Below.and hHeld hb) (fun hHeld2 => ?_)
    clear hK K0
    (try simp only [Act.put, List.setIfInBounds_toArray, List.set_cons_zero, List.set_cons_succ])
    refine takeD 4 9 (v := ?_) rfl rfl (by kernel_rfl) (by kernel_rfl) (by kernel_rfl) (fun _ _ _ h => h) (Or.inl ⟨by rfl, ?_⟩) (by assumption) ?_
    rotate_left
    · intro w1 hSw; obtain ⟨hcS, hfS⟩ := bcell hSw; go_simp; (try with_reducible rfl)
    (try simp only [Act.put, List.setIfInBounds_toArray, List.set_cons_zero, List.set_cons_succ])
    refine wpAnyH_ready (rs := [5]) (by kernel_rfl) (by simp) ?_
    refine AllReadyH.cons rfl (fun K0 hK => ?_) AllReadyH.nil
    go_simp
    refine hK.out _ _ (hHeld2.alloc hHeld2.size _) (fun hHeld3 => ?_)
    clear hK K0
    (try simp only [Act.put, List.setIfInBounds_toArray, List.set_cons_zero, List.set_cons_succ])
    refine wpAnyH_ready (rs := [6]) (by kernel_rfl) (by simp) ?_
    refine AllReadyH.cons rfl (fun K0 hK => ?_) AllReadyH.nil
    go_simp
    refine hK.out _ _ (hHeld2.alloc hHeld2.size _) (fun hHeld4 => ?_)
    clear hK K0
    (try simp only [Act.put, List.setIfInBounds_toArray, List.set_cons_zero, List.set_cons_succ])
    refine wpAnyH_done (by kernel_rfl) ?_ _
    have KK := Lib.hid (K.out.below hHeld4)
    have BB := Lib.hid (Below.and BW.out hHeld4)
    have x0 := (KK.out.cell 0).trans (show _ = some (.int .i64 p.k) from rfl)
    have x1 := (KK.out.cell 1).trans (show _ = some (.int .i64 p.f) from rfl)
    have x2 := (KK.out.cell 2).trans (show _ = some (.int .i64 p.v) from rfl)
    have x3 := (KK.out.cell 3).trans (show _ = some (.int .i64 p.s) from rfl)
    have x4 := (KK.out.cell 4).trans (show _ = some (.int .i64 p.r.c) from rfl)
    have x5 := (KK.out.cell 5).trans (show _ = some (.int .i64 p.r.n) from rfl)
    have x6 := (KK.out.cell 6).trans (show _ = some (.int .i64 p.r.o) from rfl)
    have x7 := (KK.out.cell 7).trans (show _ = some (.int .i64 p.r.x) from rfl)
    have x8 := (KK.out.cell 8).trans (show _ = some (.int .i64 p.r.y) from rfl)
    have x9 := (KK.out.cell 9).trans (show _ = some (.slice p.A p.cl.length p.a) from rfl)
    have x10 := (KK.out.cell 10).trans (show _ = some (.slice p.B p.vt.length p.b) from rfl)
    clear hb hHeld hHeld2 hHeld3 hHeld4
    go_wp2
    go_light
    go_ret2
    exact ⟨rfl, BB.out⟩
  · go_simp
    refine hK.out _ _ (((Below.refl _ _).alloc (Nat.le_refl _) _).drew) (fun hHeld2 => ?_)
    clear hK K0
    (try simp only [Act.put, List.setIfInBounds_toArray, List.set_cons_zero, List.set_cons_succ])
    refine wpAnyH_ready (rs := [3]) (by kernel_rfl) (by simp) ?_
    refine AllReadyH.cons rfl (fun K0 hK => ?_) AllReadyH.nil
    go_simp
    refine (claimOf p _).mono ?_
    rintro e w1 ⟨rfl, hb⟩
    have K4 := Lib.hid (Blk.below K3.out hb)
    have hz := K4.out.lt
    refine hK.out _ _ (Below.and hHeld2 hb) (fun hHeld3 => ?_)
    clear hK K0
    (try simp only [Act.put, List.setIfInBounds_toArray, List.set_cons_zero, List.set_cons_succ])
    refine takeD 4 9 (v := ?_) rfl rfl (by kernel_rfl) (by kernel_rfl) (by kernel_rfl) (fun _ _ _ h => h) (Or.inl ⟨by rfl, ?_⟩) (by assumption) ?_
    rotate_left
    · intro w1 hSw; obtain ⟨hcS, hfS⟩ := bcell hSw; go_simp; (try with_reducible rfl)
    (try simp only [Act.put, List.setIfInBounds_toArray, List.set_cons_zero, List.set_cons_succ])
    have y0 : w1.cell? ⟨w.heap.size + 1, 0, none⟩ = some (.int .i64 0) := K4.out.cell 0
    have y1 : w1.cell? ⟨w.heap.size + 1, 1, none⟩ = some (.int .i64 0) := K4.out.cell 1
    have y2 : w1.cell? ⟨w.heap.size + 1, 2, none⟩ = some (.int .i64 0) := K4.out.cell 2
    have y3 : w1.cell? ⟨w.heap.size + 1, 3, none⟩ = some (.int .i64 0) := K4.out.cell 3
    have y4 : w1.cell? ⟨w.heap.size + 1, 4, none⟩ = some (.int .i64 0) := K4.out.cell 4
    have y5 : w1.cell? ⟨w.heap.size + 1, 5, none⟩ = some (.int .i64 0) := K4.out.cell 5
    have y6 : w1.cell? ⟨w.heap.size + 1, 6, none⟩ = some (.int .i64 0) := K4.out.cell 6
    have y7 : w1.cell? ⟨w.heap.size + 1, 7, none⟩ = some (.int .i64 0) := K4.out.cell 7
    have yf := K4.out.frozen
    refine wpAnyH_ready (rs := [6]) (by kernel_rfl) (by simp) ?_
    refine AllReadyH.cons rfl (fun K0 hK => ?_) AllReadyH.nil
    go_simp
    refine hK.out _ _ (by iterate 8 (refine Below.setCell ?_ (by first | (simp; done) | (simp; omega)) _)
                          exact hHeld3) (fun hHeld4 => ?_)
    clear hK K0
    (try simp only [Act.put, List.setIfInBounds_toArray, List.set_cons_zero, List.set_cons_succ])
    refine wpAnyH_done (by kernel_rfl) ?_ _
    have KK := Lib.hid (K.out.below hHeld4)
    have BB := Lib.hid (Below.and BW.out hHeld4)
    have x0 := (KK.out.cell 0).trans (show _ = some (.int .i64 p.k) from rfl)
    have x1 := (KK.out.cell 1).trans (show _ = some (.int .i64 p.f) from rfl)
    have x2 := (KK.out.cell 2).trans (show _ = some (.int .i64 p.v) from rfl)
    have x3 := (KK.out.cell 3).trans (show _ = some (.int .i64 p.s) from rfl)
    have x4 := (KK.out.cell 4).trans (show _ = some (.int .i64 p.r.c) from rfl)
    have x5 := (KK.out.cell 5).trans (show _ = some (.int .i64 p.r.n) from rfl)
    have x6 := (KK.out.cell 6).trans (show _ = some (.int .i64 p.r.o) from rfl)
    have x7 := (KK.out.cell 7).trans (show _ = some (.int .i64 p.r.x) from rfl)
    have x8 := (KK.out.cell 8).trans (show _ = some (.int .i64 p.r.y) from rfl)
    have x9 := (KK.out.cell 9).trans (show _ = some (.slice p.A p.cl.length p.a) from rfl)
    have x10 := (KK.out.cell 10).trans (show _ = some (.slice p.B p.vt.length p.b) from rfl)
    clear hb hHeld hHeld2 hHeld3 hHeld4
    go_wp2
    go_light
    go_ret2
    exact ⟨rfl, BB.out⟩

set_option maxRecDepth 100000 in
set_option maxHeartbeats 2000000 in
theorem letterOf6 (p : MgP) (w : World) (hk : p.k = 6) :
    Calls Try.prog 80 #[p.val] w fun e w' => e = .returned (.tuple #[.iface 133 (.agg #[.int .i64 p.f, .int .i64 p.v, .slice p.B p.vt.length p.b]), .bool true]) ∧ Below w.heap.size w w' := by
  have BW : Hid (Below w.heap.size w (w.alloc (.cells #[.int .i64 p.k, .int .i64 p.f, .int .i64 p.v, .int .i64 p.s, .int .i64 p.r.c, .int .i64 p.r.n, .int .i64 p.r.o, .int .i64 p.r.x, .int .i64 p.r.y, .slice p.A p.cl.length p.a, .slice p.B p.vt.length p.b] 72))) := (Below.refl _ _).alloc (Nat.le_refl _) _
  have K : Hid (Blk (w.alloc (.cells #[.int .i64 p.k, .int .i64 p.f, .int .i64 p.v, .int .i64 p.s, .int .i64 p.r.c, .int .i64 p.r.n, .int .i64 p.r.o, .int .i64 p.r.x, .int .i64 p.r.y, .slice p.A p.cl.length p.a, .slice p.B p.vt.length p.b] 72)) w.heap.size 72 #[.int .i64 p.k, .int .i64 p.f, .int .i64 p.v, .int .i64 p.s, .int .i64 p.r.c, .int .i64 p.r.n, .int .i64 p.r.o, .int .i64 p.r.x, .int .i64 p.r.y, .slice p.A p.cl.length p.a, .slice p.B p.vt.length p.b]) := Blk.new w
  have K3 : Blk ((w.alloc (.cells #[.int .i64 p.k, .int .i64 p.f, .int .i64 p.v, .int .i64 p.s, .int .i64 p.r.c, .int .i64 p.r.n, .int .i64 p.r.o, .int .i64 p.r.x, .int .i64 p.r.y, .slice p.A p.cl.length p.a, .slice p.B p.vt.length p.b] 72)).alloc (.cells #[.int .i64 0, .int .i64 0, .int .i64 0, .int .i64 0, .int .i64 0, .int .i64 0, .int .i64 0, .int .i64 0] 125)) (w.heap.size + 1) 125 #[.int .i64 0, .int .i64 0, .int .i64 0, .int .i64 0, .int .i64 0, .int .i64 0, .int .i64 0, .int .i64 0] := by have := Blk.new (t := 125) (cs := #[.int .i64 0, .int .i64 0, .int .i64 0, .int .i64 0, .int .i64 0, .int .i64 0, .int .i64 0, .int .i64 0]) (w.alloc (.cells #[.int .i64 p.k, .int .i64 p.f, .int .i64 p.v, .int .i64 p.s, .int .i64 p.r.c, .int .i64 p.r.n, .int .i64 p.r.o, .int .i64 p.r.x, .int .i64 p.r.y, .slice p.A p.cl.length p.a, .slice p.B p.vt.length p.b] 72)); simpa using this
  have K3 : Hid (Blk ((w.alloc (.cells #[.int .i64 p.k, .int .i64 p.f, .int .i64 p.v, .int .i64 p.s, .int .i64 p.r.c, .int .i64 p.r.n, .int .i64 p.r.o, .int .i64 p.r.x, .int .i64 p.r.y, .slice p.A p.cl.length p.a, .slice p.B p.vt.length p.b] 72)).alloc (.cells #[.int .i64 0, .int .i64 0, .int .i64 0, .int .i64 0, .int .i64 0, .int .i64 0, .int .i64 0, .int .i64 0] 125)).drew (w.heap.size + 1) 125 #[.int .i64 0, .int .i64 0, .int .i64 0, .int .i64 0, .int .i64 0, .int .i64 0, .int .i64 0, .int .i64 0]) := K3
  have hk1 : (p.k == 1) = false := by simp; omega
  have hk2 : (p.k == 2) = false := by simp; omega
  have hk3 : (p.k == 3) = false := by simp; omega
  have hk4 : (p.k == 4) = false := by simp; omega
  have hk5 : (p.k == 5) = false := by simp; omega
  have hk6 : (p.k == 6) = true := by simp; omega
  clear hk
  go_enter Try.func80, Try.ntmps80
  go_wp2_with (fail)
  refine wp_region_held_drew (S := fun w1 => Below (w.alloc (.cells #[.int .i64 p.k, .int .i64 p.f, .int .i64 p.v, .int .i64 p.s, .int .i64 p.r.c, .int .i64 p.r.n, .int .i64 p.r.o, .int .i64 p.r.x, .int .i64 p.r.y, .slice p.A p.cl.length p.a, .slice p.B p.vt.length p.b] 72)).heap.size (w.alloc (.cells #[.int .i64 p.k, .int .i64 p.f, .int .i64 p.v, .int .i64 p.s, .int .i64 p.r.c, .int .i64 p.r.n, .int .i64 p.r.o, .int .i64 p.r.x, .int .i64 p.r.y, .slice p.A p.cl.length p.a, .slice p.B p.vt.length p.b] 72)) w1) (by kernel_rfl) ((Below.refl _ _).drew) (fun hHeld => ?_)
  refine takeD 0 5 (v := ?_) rfl rfl (by kernel_rfl) (by kernel_rfl) (by kernel_rfl) (fun _ _ _ h => h) (Or.inl ⟨by rfl, ?_⟩) (by assumption) ?_
  rotate_left
  · intro w1 hSw; obtain ⟨hcS, hfS⟩ := bcell hSw; go_simp; (try with_reducible rfl)
  (try simp only [Act.put, List.setIfInBounds_toArray, List.set_cons_zero, List.set_cons_succ])
  refine takeD 1 6 (v := ?_) rfl rfl (by kernel_rfl) (by kernel_rfl) (by kernel_rfl) (fun _ _ _ h => h) (Or.inl ⟨by rfl, ?_⟩) (by assumption) ?_
  rotate_left
  · intro w1 hSw; obtain ⟨hcS, hfS⟩ := bcell hSw; go_simp; (try with_reducible rfl)
  (try simp only [Act.put, List.setIfInBounds_toArray, List.set_cons_zero, List.set_cons_succ])
  refine takeD 2 7 (v := ?_) rfl rfl (by kernel_rfl) (by kernel_rfl) (by kernel_rfl) (fun _ _ _ h => h) (Or.inl ⟨by rfl, ?_⟩) (by assumption) ?_
  rotate_left
  · intro w1 hSw; obtain ⟨hcS, hfS⟩ := bcell hSw; go_simp; (try with_reducible rfl)
  (try simp only [Act.put, List.setIfInBounds_toArray, List.set_cons_zero, List.set_cons_succ])
  refine wpAnyH_ready (rs := [3, 5]) (by kernel_rfl) (by simp) ?_
  refine AllReadyH.cons rfl (fun K0 hK => ?_) (AllReadyH.cons rfl (fun K0 hK => ?_) AllReadyH.nil)
  · go_simp
    refine (claimOf p _).mono ?_
    rintro e w1 ⟨rfl, hb⟩
    refine hK.out _ _ (Below.and hHeld hb) (fun hHeld2 => ?_)
    clear hK K0
    (try simp only [Act.put, List.setIfInBounds_toArray, List.set_cons_zero, List.set_cons_succ])
    refine takeD 4 9 (v := ?_) rfl rfl (by kernel_rfl) (by kernel_rfl) (by kernel_rfl) (fun _ _ _ h => h) (Or.inl ⟨by rfl, ?_⟩) (by assumption) ?_
    rotate_left
    · intro w1 hSw; obtain ⟨hcS, hfS⟩ := bcell hSw; go_simp; (try with_reducible rfl)
    (try simp only [Act.put, List.setIfInBounds_toArray, List.set_cons_zero, List.set_cons_succ])
    refine wpAnyH_ready (rs := [5]) (by kernel_rfl) (by simp) ?_
    refine AllReadyH.cons rfl (fun K0 hK => ?_) AllReadyH.nil
    go_simp
    refine hK.out _ _ (hHeld2.alloc hHeld2.size _) (fun hHeld3 => ?_)
    clear hK K0
    (try simp only [Act.put, List.setIfInBounds_toArray, List.set_cons_zero, List.set_cons_succ])
    refine wpAnyH_ready (rs := [6]) (by kernel_rfl) (by simp) ?_
    refine AllReadyH.cons rfl (fun K0 hK => ?_) AllReadyH.nil
    go_simp
    refine hK.out _ _ (hHeld2.alloc hHeld2.size _) (fun hHeld4 => ?_)
    clear hK K0
    (try simp only [Act.put, List.setIfInBounds_toArray, List.set_cons_zero, List.set_cons_succ])
    refine wpAnyH_done (by kernel_rfl) ?_ _
    have KK := Lib.hid (K.out.below hHeld4)
    have BB := Lib.hid (Below.and BW.out hHeld4)
    have x0 := (KK.out.cell 0).trans (show _ = some (.int .i64 p.k) from rfl)
    have x1 := (KK.out.cell 1).trans (show _ = some (.int .i64 p.f) from rfl)
    have x2 := (KK.out.cell 2).trans (show _ = some (.int .i64 p.v) from rfl)
    have x3 := (KK.out.cell 3).trans (show _ = some (.int .i64 p.s) from rfl)
    have x4 := (KK.out.cell 4).trans (show _ = some (.int .i64 p.r.c) from rfl)
    have x5 := (KK.out.cell 5).trans (show _ = some (.int .i64 p.r.n) from rfl)
    have x6 := (KK.out.cell 6).trans (show _ = some (.int .i64 p.r.o) from rfl)
    have x7 := (KK.out.cell 7).trans (show _ = some (.int .i64 p.r.x) from rfl)
    have x8 := (KK.out.cell 8).trans (show _ = some (.int .i64 p.r.y) from rfl)
    have x9 := (KK.out.cell 9).trans (show _ = some (.slice p.A p.cl.length p.a) from rfl)
    have x10 := (KK.out.cell 10).trans (show _ = some (.slice p.B p.vt.length p.b) from rfl)
    clear hb hHeld hHeld2 hHeld3 hHeld4
    go_wp2
    go_light
    go_ret2
    exact ⟨rfl, BB.out⟩
  · go_simp
    refine hK.out _ _ (((Below.refl _ _).alloc (Nat.le_refl _) _).drew) (fun hHeld2 => ?_)
    clear hK K0
    (try simp only [Act.put, List.setIfInBounds_toArray, List.set_cons_zero, List.set_cons_succ])
    refine wpAnyH_ready (rs := [3]) (by kernel_rfl) (by simp) ?_
    refine AllReadyH.cons rfl (fun K0 hK => ?_) AllReadyH.nil
    go_simp
    refine (claimOf p _).mono ?_
    rintro e w1 ⟨rfl, hb⟩
    have K4 := Lib.hid (Blk.below K3.out hb)
    have hz := K4.out.lt
    refine hK.out _ _ (Below.and hHeld2 hb) (fun hHeld3 => ?_)
    clear hK K0
    (try simp only [Act.put, List.setIfInBounds_toArray, List.set_cons_zero, List.set_cons_succ])
    refine takeD 4 9 (v := ?_) rfl rfl (by kernel_rfl) (by kernel_rfl) (by kernel_rfl) (fun _ _ _ h => h) (Or.inl ⟨by rfl, ?_⟩) (by assumption) ?_
    rotate_left
    · intro w1 hSw; obtain ⟨hcS, hfS⟩ := bcell hSw; go_simp; (try with_reducible rfl)
    (try simp only [Act.put, List.setIfInBounds_toArray, List.set_cons_zero, List.set_cons_succ])
    have y0 : w1.cell? ⟨w.heap.size + 1, 0, none⟩ = some (.int .i64 0) := K4.out.cell 0
    have y1 : w1.cell? ⟨w.heap.size + 1, 1, none⟩ = some (.int .i64 0) := K4.out.cell 1
    have y2 : w1.cell? ⟨w.heap.size + 1, 2, none⟩ = some (.int .i64 0) := K4.out.cell 2
    have y3 : w1.cell? ⟨w.heap.size + 1, 3, none⟩ = some (.int .i64 0) := K4.out.cell 3
    have y4 : w1.cell? ⟨w.heap.size + 1, 4, none⟩ = some (.int .i64 0) := K4.out.cell 4
    have y5 : w1.cell? ⟨w.heap.size + 1, 5, none⟩ = some (.int .i64 0) := K4.out.cell 5
    have y6 : w1.cell? ⟨w.heap.size + 1, 6, none⟩ = some (.int .i64 0) := K4.out.cell 6
    have y7 : w1.cell? ⟨w.heap.size + 1, 7, none⟩ = some (.int .i64 0) := K4.out.cell 7
    have yf := K4.out.frozen
    refine wpAnyH_ready (rs := [6]) (by kernel_rfl) (by simp) ?_
    refine AllReadyH.cons rfl (fun K0 hK => ?_) AllReadyH.nil
    go_simp
    refine hK.out _ _ (by iterate 8 (refine Below.setCell ?_ (by first | (simp; done) | (simp; omega)) _)
                          exact hHeld3) (fun hHeld4 => ?_)
    clear hK K0
    (try simp only [Act.put, List.setIfInBounds_toArray, List.set_cons_zero, List.set_cons_succ])
    refine wpAnyH_done (by kernel_rfl) ?_ _
    have KK := Lib.hid (K.out.below hHeld4)
    have BB := Lib.hid (Below.and BW.out hHeld4)
    have x0 := (KK.out.cell 0).trans (show _ = some (.int .i64 p.k) from rfl)
    have x1 := (KK.out.cell 1).trans (show _ = some (.int .i64 p.f) from rfl)
    have x2 := (KK.out.cell 2).trans (show _ = some (.int .i64 p.v) from rfl)
    have x3 := (KK.out.cell 3).trans (show _ = some (.int .i64 p.s) from rfl)
    have x4 := (KK.out.cell 4).trans (show _ = some (.int .i64 p.r.c) from rfl)
    have x5 := (KK.out.cell 5).trans (show _ = some (.int .i64 p.r.n) from rfl)
    have x6 := (KK.out.cell 6).trans (show _ = some (.int .i64 p.r.o) from rfl)
    have x7 := (KK.out.cell 7).trans (show _ = some (.int .i64 p.r.x) from rfl)
    have x8 := (KK.out.cell 8).trans (show _ = some (.int .i64 p.r.y) from rfl)
    have x9 := (KK.out.cell 9).trans (show _ = some (.slice p.A p.cl.length p.a) from rfl)
    have x10 := (KK.out.cell 10).trans (show _ = some (.slice p.B p.vt.length p.b) from rfl)
    clear hb hHeld hHeld2 hHeld3 hHeld4
    go_wp2
    go_light
    go_ret2
    exact ⟨rfl, BB.out⟩

set_option maxRecDepth 100000 in
set_option maxHeartbeats 2000000 in
theorem letterOf0 (p : MgP) (w : World) (hk : p.k ≠ 1 ∧ p.k ≠ 2 ∧ p.k ≠ 3 ∧ p.k ≠ 4 ∧ p.k ≠ 5 ∧ p.k ≠ 6) :
    Calls Try.prog 80 #[p.val] w fun e w' => e = .returned (.tuple #[.nilIface, .bool false]) ∧ Below w.heap.size w w' := by
  have BW : Hid (Below w.heap.size w (w.alloc (.cells #[.int .i64 p.k, .int .i64 p.f, .int .i64 p.v, .int .i64 p.s, .int .i64 p.r.c, .int .i64 p.r.n, .int .i64 p.r.o, .int .i64 p.r.x, .int .i64 p.r.y, .slice p.A p.cl.length p.a, .slice p.B p.vt.length p.b] 72))) := (Below.refl _ _).alloc (Nat.le_refl _) _
  have K : Hid (Blk (w.alloc (.cells #[.int .i64 p.k, .int .i64 p.f, .int .i64 p.v, .int .i64 p.s, .int .i64 p.r.c, .int .i64 p.r.n, .int .i64 p.r.o, .int .i64 p.r.x, .int .i64 p.r.y, .slice p.A p.cl.length p.a, .slice p.B p.vt.length p.b] 72)) w.heap.size 72 #[.int .i64 p.k, .int .i64 p.f, .int .i64 p.v, .int .i64 p.s, .int .i64 p.r.c, .int .i64 p.r.n, .int .i64 p.r.o, .int .i64 p.r.x, .int .i64 p.r.y, .slice p.A p.cl.length p.a, .slice p.B p.vt.length p.b]) := Blk.new w
  have K3 : Blk ((w.alloc (.cells #[.int .i64 p.k, .int .i64 p.f, .int .i64 p.v, .int .i64 p.s, .int .i64 p.r.c, .int .i64 p.r.n, .int .i64 p.r.o, .int .i64 p.r.x, .int .i64 p.r.y, .slice p.A p.cl.length p.a, .slice p.B p.vt.length p.b] 72)).alloc (.cells #[.int .i64 0, .int .i64 0, .int .i64 0, .int .i64 0, .int .i64 0, .int .i64 0, .int .i64 0, .int .i64 0] 125)) (w.heap.size + 1) 125 #[.int .i64 0, .int .i64 0, .int .i64 0, .int .i64 0, .int .i64 0, .int .i64 0, .int .i64 0, .int .i64 0] := by have := Blk.new (t := 125) (cs := #[.int .i64 0, .int .i64 0, .int .i64 0, .int .i64 0, .int .i64 0, .int .i64 0, .int .i64 0, .int .i64 0]) (w.alloc (.cells #[.int .i64 p.k, .int .i64 p.f, .int .i64 p.v, .int .i64 p.s, .int .i64 p.r.c, .int .i64 p.r.n, .int .i64 p.r.o, .int .i64 p.r.x, .int .i64 p.r.y, .slice p.A p.cl.length p.a, .slice p.B p.vt.length p.b] 72)); simpa using this
  have K3 : Hid (Blk ((w.alloc (.cells #[.int .i64 p.k, .int .i64 p.f, .int .i64 p.v, .int .i64 p.s, .int .i64 p.r.c, .int .i64 p.r.n, .int .i64 p.r.o, .int .i64 p.r.x, .int .i64 p.r.y, .slice p.A p.cl.length p.a, .slice p.B p.vt.length p.b] 72)).alloc (.cells #[.int .i64 0, .int .i64 0, .int .i64 0, .int .i64 0, .int .i64 0, .int .i64 0, .int .i64 0, .int .i64 0] 125)).drew (w.heap.size + 1) 125 #[.int .i64 0, .int .i64 0, .int .i64 0, .int .i64 0, .int .i64 0, .int .i64 0, .int .i64 0, .int .i64 0]) := K3
  have hk1 : (p.k == 1) = false := by simp; omega
  have hk2 : (p.k == 2) = false := by simp; omega
  have hk3 : (p.k == 3) = false := by simp; omega
  have hk4 : (p.k == 4) = false := by simp; omega
  have hk5 : (p.k == 5) = false := by simp; omega
  have hk6 : (p.k == 6) = false := by simp; omega
  clear hk
  go_enter Try.func80, Try.ntmps80
  go_wp2_with (fail)
  refine wp_region_held_drew (S := fun w1 => Below (w.alloc (.cells #[.int .i64 p.k, .int .i64 p.f, .int .i64 p.v, .int .i64 p.s, .int .i64 p.r.c, .int .i64 p.r.n, .int .i64 p.r.o, .int .i64 p.r.x, .int .i64 p.r.y, .slice p.A p.cl.length p.a, .slice p.B p.vt.length p.b] 72)).heap.size (w.alloc (.cells #[.int .i64 p.k, .int .i64 p.f, .int .i64 p.v, .int .i64 p.s, .int .i64 p.r.c, .int .i64 p.r.n, .int .i64 p.r.o, .int .i64 p.r.x, .int .i64 p.r.y, .slice p.A p.cl.length p.a, .slice p.B p.vt.length p.b] 72)) w1) (by kernel_rfl) ((Below.refl _ _).drew) (fun hHeld => ?_)
  refine takeD 0 5 (v := ?_) rfl rfl (by kernel_rfl) (by kernel_rfl) (by kernel_rfl) (fun _ _ _ h => h) (Or.inl ⟨by rfl, ?_⟩) (by assumption) ?_
  rotate_left
  · intro w1 hSw; obtain ⟨hcS, hfS⟩ := bcell hSw; go_simp; (try with_reducible rfl)
  (try simp only [Act.put, List.setIfInBounds_toArray, List.set_cons_zero, List.set_cons_succ])
  refine takeD 1 6 (v := ?_) rfl rfl (by kernel_rfl) (by kernel_rfl) (by kernel_rfl) (fun _ _ _ h => h) (Or.inl ⟨by rfl, ?_⟩) (by assumption) ?_
  rotate_left
  · intro w1 hSw; obtain ⟨hcS, hfS⟩ := bcell hSw; go_simp; (try with_reducible rfl)
  (try simp only [Act.put, List.setIfInBounds_toArray, List.set_cons_zero, List.set_cons_succ])
  refine takeD 2 7 (v := ?_) rfl rfl (by kernel_rfl) (by kernel_rfl) (by kernel_rfl) (fun _ _ _ h => h) (Or.inl ⟨by rfl, ?_⟩) (by assumption) ?_
  rotate_left
  · intro w1 hSw; obtain ⟨hcS, hfS⟩ := bcell hSw; go_simp; (try with_reducible rfl)
  (try simp only [Act.put, List.setIfInBounds_toArray, List.set_cons_zero, List.set_cons_succ])
  refine wpAnyH_ready (rs := [3, 5]) (by kernel_rfl) (by simp) ?_
  refine AllReadyH.cons rfl (fun K0 hK => ?_) (AllReadyH.cons rfl (fun K0 hK => ?_) AllReadyH.nil)
  · go_simp
    refine (claimOf p _).mono ?_
    rintro e w1 ⟨rfl, hb⟩
    refine hK.out _ _ (Below.and hHeld hb) (fun hHeld2 => ?_)
    clear hK K0
    (try simp only [Act.put, List.setIfInBounds_toArray, List.set_cons_zero, List.set_cons_succ])
    refine takeD 4 9 (v := ?_) rfl rfl (by kernel_rfl) (by kernel_rfl) (by kernel_rfl) (fun _ _ _ h => h) (Or.inl ⟨by rfl, ?_⟩) (by assumption) ?_
    rotate_left
    · intro w1 hSw; obtain ⟨hcS, hfS⟩ := bcell hSw; go_simp; (try with_reducible rfl)
    (try simp only [Act.put, List.setIfInBounds_toArray, List.set_cons_zero, List.set_cons_succ])
    refine wpAnyH_ready (rs := [5]) (by kernel_rfl) (by simp) ?_
    refine AllReadyH.cons rfl (fun K0 hK => ?_) AllReadyH.nil
    go_simp
    refine hK.out _ _ (hHeld2.alloc hHeld2.size _) (fun hHeld3 => ?_)
    clear hK K0
    (try simp only [Act.put, List.setIfInBounds_toArray, List.set_cons_zero, List.set_cons_succ])
    refine wpAnyH_ready (rs := [6]) (by kernel_rfl) (by simp) ?_
    refine AllReadyH.cons rfl (fun K0 hK => ?_) AllReadyH.nil
    go_simp
    refine hK.out _ _ (hHeld2.alloc hHeld2.size _) (fun hHeld4 => ?_)
    clear hK K0
    (try simp only [Act.put, List.setIfInBounds_toArray, List.set_cons_zero, List.set_cons_succ])
    refine wpAnyH_done (by kernel_rfl) ?_ _
    have KK := Lib.hid (K.out.below hHeld4)
    have BB := Lib.hid (Below.and BW.out hHeld4)
    have x0 := (KK.out.cell 0).trans (show _ = some (.int .i64 p.k) from rfl)
    have x1 := (KK.out.cell 1).trans (show _ = some (.int .i64 p.f) from rfl)
    have x2 := (KK.out.cell 2).trans (show _ = some (.int .i64 p.v) from rfl)
    have x3 := (KK.out.cell 3).trans (show _ = some (.int .i64 p.s) from rfl)
    have x4 := (KK.out.cell 4).trans (show _ = some (.int .i64 p.r.c) from rfl)
    have x5 := (KK.out.cell 5).trans (show _ = some (.int .i64 p.r.n) from rfl)
    have x6 := (KK.out.cell 6).trans (show _ = some (.int .i64 p.r.o) from rfl)
    have x7 := (KK.out.cell 7).trans (show _ = some (.int .i64 p.r.x) from rfl)
    have x8 := (KK.out.cell 8).trans (show _ = some (.int .i64 p.r.y) from rfl)
    have x9 := (KK.out.cell 9).trans (show _ = some (.slice p.A p.cl.length p.a) from rfl)
    have x10 := (KK.out.cell 10).trans (show _ = some (.slice p.B p.vt.length p.b) from rfl)
    clear hb hHeld hHeld2 hHeld3 hHeld4
    go_wp2
    go_light
    go_ret2
    exact ⟨rfl, BB.out⟩
  · go_simp
    refine hK.out _ _ (((Below.refl _ _).alloc (Nat.le_refl _) _).drew) (fun hHeld2 => ?_)
    clear hK K0
    (try simp only [Act.put, List.setIfInBounds_toArray, List.set_cons_zero, List.set_cons_succ])
    refine wpAnyH_ready (rs := [3]) (by kernel_rfl) (by simp) ?_
    refine AllReadyH.cons rfl (fun K0 hK => ?_) AllReadyH.nil
    go_simp
    refine (claimOf p _).mono ?_
    rintro e w1 ⟨rfl, hb⟩
    have K4 := Lib.hid (Blk.below K3.out hb)
    have hz := K4.out.lt
    refine hK.out _ _ (Below.and hHeld2 hb) (fun hHeld3 => ?_)
    clear hK K0
    (try simp only [Act.put, List.setIfInBounds_toArray, List.set_cons_zero, List.set_cons_succ])
    refine takeD 4 9 (v := ?_) rfl rfl (by kernel_rfl) (by kernel_rfl) (by kernel_rfl) (fun _ _ _ h => h) (Or.inl ⟨by rfl, ?_⟩) (by assumption) ?_
    rotate_left
    · intro w1 hSw; obtain ⟨hcS, hfS⟩ := bcell hSw; go_simp; (try with_reducible rfl)
    (try simp only [Act.put, List.setIfInBounds_toArray, List.set_cons_zero, List.set_cons_succ])
    have y0 : w1.cell? ⟨w.heap.size + 1, 0, none⟩ = some (.int .i64 0) := K4.out.cell 0
    have y1 : w1.cell? ⟨w.heap.size + 1, 1, none⟩ = some (.int .i64 0) := K4.out.cell 1
    have y2 : w1.cell? ⟨w.heap.size + 1, 2, none⟩ = some (.int .i64 0) := K4.out.cell 2
    have y3 : w1.cell? ⟨w.heap.size + 1, 3, none⟩ = some (.int .i64 0) := K4.out.cell 3
    have y4 : w1.cell? ⟨w.heap.size + 1, 4, none⟩ = some (.int .i64 0) := K4.out.cell 4
    have y5 : w1.cell? ⟨w.heap.size + 1, 5, none⟩ = some (.int .i64 0) := K4.out.cell 5
    have y6 : w1.cell? ⟨w.heap.size + 1, 6, none⟩ = some (.int .i64 0) := K4.out.cell 6
    have y7 : w1.cell? ⟨w.heap.size + 1, 7, none⟩ = some (.int .i64 0) := K4.out.cell 7
    have yf := K4.out.frozen
    refine wpAnyH_ready (rs := [6]) (by kernel_rfl) (by simp) ?_
    refine AllReadyH.cons rfl (fun K0 hK => ?_) AllReadyH.nil
    go_simp
    refine hK.out _ _ (by iterate 8 (refine Below.setCell ?_ (by first | (simp; done) | (simp; omega)) _)
                          exact hHeld3) (fun hHeld4 => ?_)
    clear hK K0
    (try simp only [Act.put, List.setIfInBounds_toArray, List.set_cons_zero, List.set_cons_succ])
    refine wpAnyH_done (by kernel_rfl) ?_ _
    have KK := Lib.hid (K.out.below hHeld4)
    have BB := Lib.hid (Below.and BW.out hHeld4)
    have x0 := (KK.out.cell 0).trans (show _ = some (.int .i64 p.k) from rfl)
    have x1 := (KK.out.cell 1).trans (show _ = some (.int .i64 p.f) from rfl)
    have x2 := (KK.out.cell 2).trans (show _ = some (.int .i64 p.v) from rfl)
    have x3 := (KK.out.cell 3).trans (show _ = some (.int .i64 p.s) from rfl)
    have x4 := (KK.out.cell 4).trans (show _ = some (.int .i64 p.r.c) from rfl)
    have x5 := (KK.out.cell 5).trans (show _ = some (.int .i64 p.r.n) from rfl)
    have x6 := (KK.out.cell 6).trans (show _ = some (.int .i64 p.r.o) from rfl)
    have x7 := (KK.out.cell 7).trans (show _ = some (.int .i64 p.r.x) from rfl)
    have x8 := (KK.out.cell 8).trans (show _ = some (.int .i64 p.r.y) from rfl)
    have x9 := (KK.out.cell 9).trans (show _ = some (.slice p.A p.cl.length p.a) from rfl)
    have x10 := (KK.out.cell 10).trans (show _ = some (.slice p.B p.vt.length p.b) from rfl)
    clear hb hHeld hHeld2 hHeld3 hHeld4
    go_wp2
    go_light
    go_ret2
    exact ⟨rfl, BB.out⟩

end Go.Proofs.Ytfelhnchnaggmaa
