/- Whether keepers agree: the program's way, whole. -/
import Derived.Test.YtfelhnchnaggmaaWh
import Derived.Test.YtfelhnchnaggmaaRf
namespace Go.Proofs.Ytfelhnchnaggmaa
open Go.ChangeShapes Go.WideShapes Go.ChangeAt Go.RowKit
set_option linter.unusedVariables false
set_option linter.unusedSimpArgs false

abbrev askM (r : Rq) : MgP := ⟨1, 0, 0, 0, r, none, 0, [], none, 0, []⟩
theorem askM_rd (r : Rq) (w : World) : (askM r).rd w := ⟨by simp, by simp, rd_none _ _ _ _, rd_none _ _ _ _, fun p hp => by cases hp⟩
def askB (P : List MgP) (r : Rq) : Bool := hasB P (askM r)
def unB (P : List MgP) (l : List Cl) : Bool := l.any fun c => !nullB c.r && !askB P c.r
theorem unB_step {P : List MgP} {l : List Cl} {k : Nat} (h : k < l.length) : unB P (l.drop k) = ((!nullB l[k].r && !askB P l[k].r) || unB P (l.drop (k + 1))) := by
  unfold unB
  rw [List.drop_eq_getElem_cons h, List.any_cons]
theorem say1B (r : Rq) (w : World) :
    Calls Try.prog 56 #[.agg #[.int .i64 r.c, .int .i64 r.n, .int .i64 r.o, .int .i64 r.x, .int .i64 r.y]] w fun e w' => e = .returned (.agg #[.int .i64 1, .int .i64 0, .int .i64 0, .int .i64 0, .int .i64 r.c, .int .i64 r.n, .int .i64 r.o, .int .i64 r.x, .int .i64 r.y, .slice none 0 0, .slice none 0 0]) ∧ Below w.heap.size w w' :=
  say1 (askM r) w
theorem saidAsk (A : Option Addr) (a : Nat) (P : List MgP) (r : Rq) (w : World) (hn : P.length ≤ maxLen) (hr : RdMs w A P) :
    Calls Try.prog 55 #[.slice A P.length a, .agg #[.int .i64 1, .int .i64 0, .int .i64 0, .int .i64 0, .int .i64 r.c, .int .i64 r.n, .int .i64 r.o, .int .i64 r.x, .int .i64 r.y, .slice none 0 0, .slice none 0 0]] w fun e w' => e = .returned (.bool (askB P r)) ∧ Below w.heap.size w w' :=
  implSaidHas A a P (askM r) w hn hr (askM_rd r w)

set_option maxRecDepth 100000 in
set_option maxHeartbeats 2000000 in
theorem askedNull (A : Option Addr) (a : Nat) (P : List MgP) (c : Cl) (g : Nat) (w : World) (hn : P.length ≤ maxLen) (hr : RdMs w A P) (hg : Blk w g 25 #[.slice A P.length a]) (hnu : nullB c.r = true) :
    Calls Try.prog 53 #[c.val, .pointer (some ⟨g, 0, none⟩)] w fun e w' => e = .returned (.bool false) ∧ Below w.heap.size w w' := by
  have BW : Hid (Below w.heap.size w (w.alloc (.cells #[.int .i64 c.s, .int .i64 c.v, .int .i64 c.r.c, .int .i64 c.r.n, .int .i64 c.r.o, .int .i64 c.r.x, .int .i64 c.r.y] 77))) := (Below.refl _ _).alloc (Nat.le_refl _) _
  have HR := Lib.hid (RdMs.below hr BW.out)
  have K0 : Hid (Blk (w.alloc (.cells #[.int .i64 c.s, .int .i64 c.v, .int .i64 c.r.c, .int .i64 c.r.n, .int .i64 c.r.o, .int .i64 c.r.x, .int .i64 c.r.y] 77)) w.heap.size 77 #[.int .i64 c.s, .int .i64 c.v, .int .i64 c.r.c, .int .i64 c.r.n, .int .i64 c.r.o, .int .i64 c.r.x, .int .i64 c.r.y]) := Blk.new w
  have KG : Hid (Blk (w.alloc (.cells #[.int .i64 c.s, .int .i64 c.v, .int .i64 c.r.c, .int .i64 c.r.n, .int .i64 c.r.o, .int .i64 c.r.x, .int .i64 c.r.y] 77)) g 25 #[.slice A P.length a]) := hg.alloc _
  have lg : g < w.heap.size + 1 := by have := hg.lt; omega
  have lk := K0.out.lt
  have x0 : (w.alloc (.cells #[.int .i64 c.s, .int .i64 c.v, .int .i64 c.r.c, .int .i64 c.r.n, .int .i64 c.r.o, .int .i64 c.r.x, .int .i64 c.r.y] 77)).cell? ⟨w.heap.size, 0, none⟩ = some (.int .i64 c.s) := K0.out.cell 0
  have x1 : (w.alloc (.cells #[.int .i64 c.s, .int .i64 c.v, .int .i64 c.r.c, .int .i64 c.r.n, .int .i64 c.r.o, .int .i64 c.r.x, .int .i64 c.r.y] 77)).cell? ⟨w.heap.size, 1, none⟩ = some (.int .i64 c.v) := K0.out.cell 1
  have x2 : (w.alloc (.cells #[.int .i64 c.s, .int .i64 c.v, .int .i64 c.r.c, .int .i64 c.r.n, .int .i64 c.r.o, .int .i64 c.r.x, .int .i64 c.r.y] 77)).cell? ⟨w.heap.size, 2, none⟩ = some (.int .i64 c.r.c) := K0.out.cell 2
  have x3 : (w.alloc (.cells #[.int .i64 c.s, .int .i64 c.v, .int .i64 c.r.c, .int .i64 c.r.n, .int .i64 c.r.o, .int .i64 c.r.x, .int .i64 c.r.y] 77)).cell? ⟨w.heap.size, 3, none⟩ = some (.int .i64 c.r.n) := K0.out.cell 3
  have x4 : (w.alloc (.cells #[.int .i64 c.s, .int .i64 c.v, .int .i64 c.r.c, .int .i64 c.r.n, .int .i64 c.r.o, .int .i64 c.r.x, .int .i64 c.r.y] 77)).cell? ⟨w.heap.size, 4, none⟩ = some (.int .i64 c.r.o) := K0.out.cell 4
  have x5 : (w.alloc (.cells #[.int .i64 c.s, .int .i64 c.v, .int .i64 c.r.c, .int .i64 c.r.n, .int .i64 c.r.o, .int .i64 c.r.x, .int .i64 c.r.y] 77)).cell? ⟨w.heap.size, 5, none⟩ = some (.int .i64 c.r.x) := K0.out.cell 5
  have x6 : (w.alloc (.cells #[.int .i64 c.s, .int .i64 c.v, .int .i64 c.r.c, .int .i64 c.r.n, .int .i64 c.r.o, .int .i64 c.r.x, .int .i64 c.r.y] 77)).cell? ⟨w.heap.size, 6, none⟩ = some (.int .i64 c.r.y) := K0.out.cell 6
  have g0 : (w.alloc (.cells #[.int .i64 c.s, .int .i64 c.v, .int .i64 c.r.c, .int .i64 c.r.n, .int .i64 c.r.o, .int .i64 c.r.x, .int .i64 c.r.y] 77)).cell? ⟨g, 0, none⟩ = some (.slice A P.length a) := KG.out.cell 0
  clear hr hg
  go_enter Try.func53, Try.ntmps53
  go_wp2_with (fail)
  refine wp_region_held_drew (S := fun w1 => Below (w.alloc (.cells #[.int .i64 c.s, .int .i64 c.v, .int .i64 c.r.c, .int .i64 c.r.n, .int .i64 c.r.o, .int .i64 c.r.x, .int .i64 c.r.y] 77)).heap.size (w.alloc (.cells #[.int .i64 c.s, .int .i64 c.v, .int .i64 c.r.c, .int .i64 c.r.n, .int .i64 c.r.o, .int .i64 c.r.x, .int .i64 c.r.y] 77)) w1) (by kernel_rfl) ((Below.refl _ _).drew) (fun hq => ?_)
  refine takeD 0 4 (v := ?_) rfl rfl (by kernel_rfl) (by kernel_rfl) (by kernel_rfl) (fun _ _ _ h => h) (Or.inl ⟨by rfl, ?_⟩) (by assumption) ?_
  rotate_left
  · intro w1 hSw; obtain ⟨hcS, hfS⟩ := bcell hSw; go_simp; (try with_reducible rfl)
  (try simp only [Act.put, List.setIfInBounds_toArray, List.set_cons_zero, List.set_cons_succ])
  refine takeD 1 5 (v := ?_) rfl rfl (by kernel_rfl) (by kernel_rfl) (by kernel_rfl) (fun _ _ _ h => h) (Or.inl ⟨by rfl, ?_⟩) (by assumption) ?_
  rotate_left
  · intro w1 hSw; obtain ⟨hcS, hfS⟩ := bcell hSw; go_simp; (try with_reducible rfl)
  (try simp only [Act.put, List.setIfInBounds_toArray, List.set_cons_zero, List.set_cons_succ])
  refine wpAnyH_ready (rs := [2]) (by kernel_rfl) (by simp) ?_
  refine AllReadyH.cons rfl (fun K hK => ?_) AllReadyH.nil
  go_simp
  refine (isNull c.r _).mono ?_
  rintro e w1 ⟨rfl, hb⟩
  rw [hnu]
  refine hK.out _ _ (Below.and hq hb) (fun hq2 => ?_)
  clear hK K
  (try simp only [Act.put, List.setIfInBounds_toArray, List.set_cons_zero, List.set_cons_succ])
  refine takeD 3 7 (v := ?_) rfl rfl (by kernel_rfl) (by kernel_rfl) (by kernel_rfl) (fun _ _ _ h => h) (Or.inl ⟨by rfl, ?_⟩) (by assumption) ?_
  rotate_left
  · intro w1 hSw; obtain ⟨hcS, hfS⟩ := bcell hSw; go_simp; (try with_reducible rfl)
  (try simp only [Act.put, List.setIfInBounds_toArray, List.set_cons_zero, List.set_cons_succ])
  refine takeD 4 8 (v := ?_) rfl rfl (by kernel_rfl) (by kernel_rfl) (by kernel_rfl) (fun _ _ _ h => h) (Or.inl ⟨by rfl, ?_⟩) (by assumption) ?_
  rotate_left
  · intro w1 hSw; obtain ⟨hcS, hfS⟩ := bcell hSw; go_simp; (try with_reducible rfl)
  (try simp only [Act.put, List.setIfInBounds_toArray, List.set_cons_zero, List.set_cons_succ])
  refine takeD 5 9 (v := undef) rfl rfl (by kernel_rfl) (by kernel_rfl) (by kernel_rfl) (fun _ _ _ h => h) (Or.inr ⟨by rfl, rfl⟩) (by assumption) ?_
  (try simp only [Act.put, List.setIfInBounds_toArray, List.set_cons_zero, List.set_cons_succ])
  refine takeD 6 10 (v := undef) rfl rfl (by kernel_rfl) (by kernel_rfl) (by kernel_rfl) (fun _ _ _ h => h) (Or.inr ⟨by rfl, rfl⟩) (by assumption) ?_
  (try simp only [Act.put, List.setIfInBounds_toArray, List.set_cons_zero, List.set_cons_succ])
  refine takeD 7 11 (v := undef) rfl rfl (by kernel_rfl) (by kernel_rfl) (by kernel_rfl) (fun _ _ _ h => h) (Or.inr ⟨by rfl, rfl⟩) (by assumption) ?_
  (try simp only [Act.put, List.setIfInBounds_toArray, List.set_cons_zero, List.set_cons_succ])
  refine takeD 8 12 (v := undef) rfl rfl (by kernel_rfl) (by kernel_rfl) (by kernel_rfl) (fun _ _ _ h => h) (Or.inr ⟨by rfl, rfl⟩) (by assumption) ?_
  (try simp only [Act.put, List.setIfInBounds_toArray, List.set_cons_zero, List.set_cons_succ])
  refine takeD 9 13 (v := undef) rfl rfl (by kernel_rfl) (by kernel_rfl) (by kernel_rfl) (fun _ _ _ h => h) (Or.inr ⟨by rfl, rfl⟩) (by assumption) ?_
  (try simp only [Act.put, List.setIfInBounds_toArray, List.set_cons_zero, List.set_cons_succ])
  refine takeD 10 14 (v := undef) rfl rfl (by kernel_rfl) (by kernel_rfl) (by kernel_rfl) (fun _ _ _ h => h) (Or.inr ⟨by rfl, rfl⟩) (by assumption) ?_
  (try simp only [Act.put, List.setIfInBounds_toArray, List.set_cons_zero, List.set_cons_succ])
  refine takeD 11 15 (v := undef) rfl rfl (by kernel_rfl) (by kernel_rfl) (by kernel_rfl) (fun _ _ _ h => h) (Or.inr ⟨by rfl, rfl⟩) (by assumption) ?_
  (try simp only [Act.put, List.setIfInBounds_toArray, List.set_cons_zero, List.set_cons_succ])
  refine takeD 12 16 (v := ?_) rfl rfl (by kernel_rfl) (by kernel_rfl) (by kernel_rfl) (fun _ _ _ h => h) (Or.inl ⟨by rfl, ?_⟩) (by assumption) ?_
  rotate_left
  · intro w1 hSw; obtain ⟨hcS, hfS⟩ := bcell hSw; go_simp; (try with_reducible rfl)
  (try simp only [Act.put, List.setIfInBounds_toArray, List.set_cons_zero, List.set_cons_succ])
  refine takeD 13 3 (v := ?_) rfl rfl (by kernel_rfl) (by kernel_rfl) (by kernel_rfl) (fun _ _ _ h => h) (Or.inl ⟨by rfl, ?_⟩) (by assumption) ?_
  rotate_left
  · intro w1 hSw; obtain ⟨hcS, hfS⟩ := bcell hSw; go_simp; (try with_reducible rfl)
  (try simp only [Act.put, List.setIfInBounds_toArray, List.set_cons_zero, List.set_cons_succ])
  refine wpAnyH_done (by kernel_rfl) ?_ _
  have BB := Lib.hid (Below.and BW.out hq2)
  go_wp2
  go_light
  go_ret
  exact ⟨ret_bool (by simp), BB.out⟩

set_option maxRecDepth 100000 in
set_option maxHeartbeats 2000000 in
theorem askedOther (A : Option Addr) (a : Nat) (P : List MgP) (c : Cl) (g : Nat) (w : World) (hn : P.length ≤ maxLen) (hr : RdMs w A P) (hg : Blk w g 25 #[.slice A P.length a]) (hnu : nullB c.r = false) :
    Calls Try.prog 53 #[c.val, .pointer (some ⟨g, 0, none⟩)] w fun e w' => e = .returned (.bool (!askB P c.r)) ∧ Below w.heap.size w w' := by
  have BW : Hid (Below w.heap.size w (w.alloc (.cells #[.int .i64 c.s, .int .i64 c.v, .int .i64 c.r.c, .int .i64 c.r.n, .int .i64 c.r.o, .int .i64 c.r.x, .int .i64 c.r.y] 77))) := (Below.refl _ _).alloc (Nat.le_refl _) _
  have HR := Lib.hid (RdMs.below hr BW.out)
  have K0 : Hid (Blk (w.alloc (.cells #[.int .i64 c.s, .int .i64 c.v, .int .i64 c.r.c, .int .i64 c.r.n, .int .i64 c.r.o, .int .i64 c.r.x, .int .i64 c.r.y] 77)) w.heap.size 77 #[.int .i64 c.s, .int .i64 c.v, .int .i64 c.r.c, .int .i64 c.r.n, .int .i64 c.r.o, .int .i64 c.r.x, .int .i64 c.r.y]) := Blk.new w
  have KG : Hid (Blk (w.alloc (.cells #[.int .i64 c.s, .int .i64 c.v, .int .i64 c.r.c, .int .i64 c.r.n, .int .i64 c.r.o, .int .i64 c.r.x, .int .i64 c.r.y] 77)) g 25 #[.slice A P.length a]) := hg.alloc _
  have lg : g < w.heap.size + 1 := by have := hg.lt; omega
  have lk := K0.out.lt
  have x0 : (w.alloc (.cells #[.int .i64 c.s, .int .i64 c.v, .int .i64 c.r.c, .int .i64 c.r.n, .int .i64 c.r.o, .int .i64 c.r.x, .int .i64 c.r.y] 77)).cell? ⟨w.heap.size, 0, none⟩ = some (.int .i64 c.s) := K0.out.cell 0
  have x1 : (w.alloc (.cells #[.int .i64 c.s, .int .i64 c.v, .int .i64 c.r.c, .int .i64 c.r.n, .int .i64 c.r.o, .int .i64 c.r.x, .int .i64 c.r.y] 77)).cell? ⟨w.heap.size, 1, none⟩ = some (.int .i64 c.v) := K0.out.cell 1
  have x2 : (w.alloc (.cells #[.int .i64 c.s, .int .i64 c.v, .int .i64 c.r.c, .int .i64 c.r.n, .int .i64 c.r.o, .int .i64 c.r.x, .int .i64 c.r.y] 77)).cell? ⟨w.heap.size, 2, none⟩ = some (.int .i64 c.r.c) := K0.out.cell 2
  have x3 : (w.alloc (.cells #[.int .i64 c.s, .int .i64 c.v, .int .i64 c.r.c, .int .i64 c.r.n, .int .i64 c.r.o, .int .i64 c.r.x, .int .i64 c.r.y] 77)).cell? ⟨w.heap.size, 3, none⟩ = some (.int .i64 c.r.n) := K0.out.cell 3
  have x4 : (w.alloc (.cells #[.int .i64 c.s, .int .i64 c.v, .int .i64 c.r.c, .int .i64 c.r.n, .int .i64 c.r.o, .int .i64 c.r.x, .int .i64 c.r.y] 77)).cell? ⟨w.heap.size, 4, none⟩ = some (.int .i64 c.r.o) := K0.out.cell 4
  have x5 : (w.alloc (.cells #[.int .i64 c.s, .int .i64 c.v, .int .i64 c.r.c, .int .i64 c.r.n, .int .i64 c.r.o, .int .i64 c.r.x, .int .i64 c.r.y] 77)).cell? ⟨w.heap.size, 5, none⟩ = some (.int .i64 c.r.x) := K0.out.cell 5
  have x6 : (w.alloc (.cells #[.int .i64 c.s, .int .i64 c.v, .int .i64 c.r.c, .int .i64 c.r.n, .int .i64 c.r.o, .int .i64 c.r.x, .int .i64 c.r.y] 77)).cell? ⟨w.heap.size, 6, none⟩ = some (.int .i64 c.r.y) := K0.out.cell 6
  have g0 : (w.alloc (.cells #[.int .i64 c.s, .int .i64 c.v, .int .i64 c.r.c, .int .i64 c.r.n, .int .i64 c.r.o, .int .i64 c.r.x, .int .i64 c.r.y] 77)).cell? ⟨g, 0, none⟩ = some (.slice A P.length a) := KG.out.cell 0
  clear hr hg
  go_enter Try.func53, Try.ntmps53
  go_wp2_with (fail)
  refine wp_region_held_drew (S := fun w1 => Below (w.alloc (.cells #[.int .i64 c.s, .int .i64 c.v, .int .i64 c.r.c, .int .i64 c.r.n, .int .i64 c.r.o, .int .i64 c.r.x, .int .i64 c.r.y] 77)).heap.size (w.alloc (.cells #[.int .i64 c.s, .int .i64 c.v, .int .i64 c.r.c, .int .i64 c.r.n, .int .i64 c.r.o, .int .i64 c.r.x, .int .i64 c.r.y] 77)) w1) (by kernel_rfl) ((Below.refl _ _).drew) (fun hq => ?_)
  refine takeD 0 4 (v := ?_) rfl rfl (by kernel_rfl) (by kernel_rfl) (by kernel_rfl) (fun _ _ _ h => h) (Or.inl ⟨by rfl, ?_⟩) (by assumption) ?_
  rotate_left
  · intro w1 hSw; obtain ⟨hcS, hfS⟩ := bcell hSw; go_simp; (try with_reducible rfl)
  (try simp only [Act.put, List.setIfInBounds_toArray, List.set_cons_zero, List.set_cons_succ])
  refine takeD 1 5 (v := ?_) rfl rfl (by kernel_rfl) (by kernel_rfl) (by kernel_rfl) (fun _ _ _ h => h) (Or.inl ⟨by rfl, ?_⟩) (by assumption) ?_
  rotate_left
  · intro w1 hSw; obtain ⟨hcS, hfS⟩ := bcell hSw; go_simp; (try with_reducible rfl)
  (try simp only [Act.put, List.setIfInBounds_toArray, List.set_cons_zero, List.set_cons_succ])
  refine wpAnyH_ready (rs := [2]) (by kernel_rfl) (by simp) ?_
  refine AllReadyH.cons rfl (fun K hK => ?_) AllReadyH.nil
  go_simp
  refine (isNull c.r _).mono ?_
  rintro e w1 ⟨rfl, hb⟩
  rw [hnu]
  refine hK.out _ _ (Below.and hq hb) (fun hq2 => ?_)
  clear hK K
  (try simp only [Act.put, List.setIfInBounds_toArray, List.set_cons_zero, List.set_cons_succ])
  refine takeD 3 7 (v := ?_) rfl rfl (by kernel_rfl) (by kernel_rfl) (by kernel_rfl) (fun _ _ _ h => h) (Or.inl ⟨by rfl, ?_⟩) (by assumption) ?_
  rotate_left
  · intro w1 hSw; obtain ⟨hcS, hfS⟩ := bcell hSw; go_simp; (try with_reducible rfl)
  (try simp only [Act.put, List.setIfInBounds_toArray, List.set_cons_zero, List.set_cons_succ])
  refine takeD 4 8 (v := ?_) rfl rfl (by kernel_rfl) (by kernel_rfl) (by kernel_rfl) (fun _ _ _ h => h) (Or.inl ⟨by rfl, ?_⟩) (by assumption) ?_
  rotate_left
  · intro w1 hSw; obtain ⟨hcS, hfS⟩ := bcell hSw; go_simp; (try with_reducible rfl)
  (try simp only [Act.put, List.setIfInBounds_toArray, List.set_cons_zero, List.set_cons_succ])
  refine takeD 5 9 (v := ?_) rfl rfl (by kernel_rfl) (by kernel_rfl) (by kernel_rfl) (fun _ _ _ h => h) (Or.inl ⟨by rfl, ?_⟩) (by assumption) ?_
  rotate_left
  · intro w1 hSw; obtain ⟨hcS, hfS⟩ := bcell hSw; go_simp; (try with_reducible rfl)
  (try simp only [Act.put, List.setIfInBounds_toArray, List.set_cons_zero, List.set_cons_succ])
  refine takeD 6 10 (v := ?_) rfl rfl (by kernel_rfl) (by kernel_rfl) (by kernel_rfl) (fun _ _ _ h => h) (Or.inl ⟨by rfl, ?_⟩) (by assumption) ?_
  rotate_left
  · intro w1 hSw; obtain ⟨hcS, hfS⟩ := bcell hSw; go_simp; (try with_reducible rfl)
  (try simp only [Act.put, List.setIfInBounds_toArray, List.set_cons_zero, List.set_cons_succ])
  refine takeD 7 11 (v := ?_) rfl rfl (by kernel_rfl) (by kernel_rfl) (by kernel_rfl) (fun _ _ _ h => h) (Or.inl ⟨by rfl, ?_⟩) (by assumption) ?_
  rotate_left
  · intro w1 hSw; obtain ⟨hcS, hfS⟩ := bcell hSw; go_simp; (try with_reducible rfl)
  (try simp only [Act.put, List.setIfInBounds_toArray, List.set_cons_zero, List.set_cons_succ])
  refine takeD 8 12 (v := ?_) rfl rfl (by kernel_rfl) (by kernel_rfl) (by kernel_rfl) (fun _ _ _ h => h) (Or.inl ⟨by rfl, ?_⟩) (by assumption) ?_
  rotate_left
  · intro w1 hSw; obtain ⟨hcS, hfS⟩ := bcell hSw; go_simp; (try with_reducible rfl)
  (try simp only [Act.put, List.setIfInBounds_toArray, List.set_cons_zero, List.set_cons_succ])
  refine wpAnyH_ready (rs := [9]) (by kernel_rfl) (by simp) ?_
  refine AllReadyH.cons rfl (fun K hK => ?_) AllReadyH.nil
  go_simp
  refine (say1B c.r _).mono ?_
  rintro e w2 ⟨rfl, hb⟩
  refine hK.out _ _ (Below.and hq2 hb) (fun hq3 => ?_)
  clear hK K
  (try simp only [Act.put, List.setIfInBounds_toArray, List.set_cons_zero, List.set_cons_succ])
  refine wpAnyH_ready (rs := [10]) (by kernel_rfl) (by simp) ?_
  refine AllReadyH.cons rfl (fun K hK => ?_) AllReadyH.nil
  go_simp
  refine (saidAsk A a P c.r _ hn (HR.out.below hq3)).mono ?_
  rintro e w3 ⟨rfl, hb⟩
  refine hK.out _ _ (Below.and hq3 hb) (fun hq4 => ?_)
  clear hK K
  (try simp only [Act.put, List.setIfInBounds_toArray, List.set_cons_zero, List.set_cons_succ])
  refine takeD 11 15 (v := ?_) rfl rfl (by kernel_rfl) (by kernel_rfl) (by kernel_rfl) (fun _ _ _ h => h) (Or.inl ⟨by rfl, ?_⟩) (by assumption) ?_
  rotate_left
  · intro w1 hSw; obtain ⟨hcS, hfS⟩ := bcell hSw; go_simp; (try with_reducible rfl)
  (try simp only [Act.put, List.setIfInBounds_toArray, List.set_cons_zero, List.set_cons_succ])
  refine takeD 12 16 (v := ?_) rfl rfl (by kernel_rfl) (by kernel_rfl) (by kernel_rfl) (fun _ _ _ h => h) (Or.inl ⟨by rfl, ?_⟩) (by assumption) ?_
  rotate_left
  · intro w1 hSw; obtain ⟨hcS, hfS⟩ := bcell hSw; go_simp; (try with_reducible rfl)
  (try simp only [Act.put, List.setIfInBounds_toArray, List.set_cons_zero, List.set_cons_succ])
  refine takeD 13 3 (v := ?_) rfl rfl (by kernel_rfl) (by kernel_rfl) (by kernel_rfl) (fun _ _ _ h => h) (Or.inl ⟨by rfl, ?_⟩) (by assumption) ?_
  rotate_left
  · intro w1 hSw; obtain ⟨hcS, hfS⟩ := bcell hSw; go_simp; (try with_reducible rfl)
  (try simp only [Act.put, List.setIfInBounds_toArray, List.set_cons_zero, List.set_cons_succ])
  refine wpAnyH_done (by kernel_rfl) ?_ _
  have BB := Lib.hid (Below.and BW.out hq4)
  go_wp2
  go_light
  go_ret
  exact ⟨ret_bool (by simp), BB.out⟩

theorem askedOne (A : Option Addr) (a : Nat) (P : List MgP) (c : Cl) (g : Nat) (w : World) (hn : P.length ≤ maxLen) (hr : RdMs w A P) (hg : Blk w g 25 #[.slice A P.length a]) :
    Calls Try.prog 53 #[c.val, .pointer (some ⟨g, 0, none⟩)] w fun e w' => e = .returned (.bool (!nullB c.r && !askB P c.r)) ∧ Below w.heap.size w w' := by
  rcases h : nullB c.r with _ | _
  · exact (askedOther A a P c g w hn hr hg h).mono fun _ _ h => ⟨h.1.trans (ret_bool (by simp)), h.2⟩
  · exact (askedNull A a P c g w hn hr hg h).mono fun _ _ h => ⟨h.1.trans (ret_bool (by simp)), h.2⟩

set_option maxRecDepth 100000 in
set_option maxHeartbeats 1000000 in
theorem slIndexAsked (B : Option Addr) (b : Nat) (l : List Cl) (A : Option Addr) (a : Nat) (P : List MgP) (q : Nat) (w : World) (hl : l.length ≤ maxLen) (hrl : RdC w B l) (hn : P.length ≤ maxLen) (hr : RdMs w A P) (hk : Blk w q 25 #[.slice A P.length a]) :
    Calls Try.prog 82 #[.slice B l.length b, .func (.func 53) #[] #[.pointer (some ⟨q, 0, none⟩)]] w fun e w' => ∃ r : Int, e = .returned (.int .i64 r) ∧ decide (0 ≤ r) = unB P l ∧ Below w.heap.size w w' := by
  unfold maxLen at hl
  have HK := Lib.hid hk
  have HR := Lib.hid hr
  have HL := Lib.hid hrl
  have HN := Lib.hid hn
  clear hr hrl hk hn
  go_enter Try.func82, Try.ntmps82
  go_wp2
  go_loopw [8] (fun i wr => ∃ k : Nat, k ≤ l.length ∧ i = .int .i64 k ∧ Hid (unB P l = unB P (l.drop k)) ∧ Hid (Below w.heap.size w wr)) (fun i _ => l.length - (intOf i).toNat)
  case atStart => exact ⟨0, Nat.zero_le _, rfl, by simp [Hid], Below.refl _ _⟩
  case round =>
    obtain ⟨k, hk, rfl, ht, hb⟩ := hrel
    by_cases hlt : k < l.length
    · obtain ⟨g, o, rfl, ca⟩ := Rd.below HL.out hb.out k hlt
      have HD := Lib.hid (unB_step (P := P) hlt)
      generalize l[k] = x at ca HD
      have a0 : wr.cell? ⟨g, o + k * 7, none⟩ = some (.int .i64 x.s) := ca 0 _ rfl
      have a1 : wr.cell? ⟨g, o + k * 7 + 1, none⟩ = some (.int .i64 x.v) := ca 1 _ rfl
      have a2 : wr.cell? ⟨g, o + k * 7 + 2, none⟩ = some (.int .i64 x.r.c) := ca 2 _ rfl
      have a3 : wr.cell? ⟨g, o + k * 7 + 3, none⟩ = some (.int .i64 x.r.n) := ca 3 _ rfl
      have a4 : wr.cell? ⟨g, o + k * 7 + 4, none⟩ = some (.int .i64 x.r.o) := ca 4 _ rfl
      have a5 : wr.cell? ⟨g, o + k * 7 + 5, none⟩ = some (.int .i64 x.r.x) := ca 5 _ rfl
      have a6 : wr.cell? ⟨g, o + k * 7 + 6, none⟩ = some (.int .i64 x.r.y) := ca 6 _ rfl
      clear ca
      have i0 : (0 : Int) ≤ (k : Int) := by omega
      have i1 : (k : Int) < (l.length : Int) := by omega
      go_wp2_with (fail)
      refine (askedOne A a P x q _ HN.out (HR.out.below hb.out) (HK.out.below hb.out)).mono ?_
      rintro e w1 ⟨rfl, h1⟩
      have BB := Lib.hid (Below.and hb.out h1)
      rcases hc : (!nullB x.r && !askB P x.r) with _ | _
      · have HN := Lib.hid (show unB P (l.drop k) = unB P (l.drop (k + 1)) by rw [HD.out, hc]; rfl)
        clear hc h1
        go_wp2
        go_roundw
        case rel => exact ⟨k + 1, by omega, by go_num, ht.out.trans HN.out, BB.out⟩
        case measure => simp [intOf]; omega
      · have HN := Lib.hid (show unB P (l.drop k) = true by rw [HD.out, hc]; rfl)
        clear hc h1
        go_wp2
        go_light
        go_ret
        exact ⟨k, rfl, by rw [ht.out, HN.out]; simp, BB.out⟩
    · have HZ := Lib.hid (show unB P l = false by rw [ht.out, List.drop_of_length_le (by omega)]; rfl)
      go_wp2
      go_light
      go_ret
      exact ⟨-1, rfl, by rw [HZ.out]; rfl, hb.out⟩

set_option maxRecDepth 100000 in
set_option maxHeartbeats 1000000 in
theorem allAsked (A : Option Addr) (a : Nat) (P : List MgP) (B : Option Addr) (b : Nat) (l : List Cl) (w : World) (hl : l.length ≤ maxLen) (hrl : RdC w B l) (hn : P.length ≤ maxLen) (hr : RdMs w A P) :
    Calls Try.prog 31 #[.slice A P.length a, .slice B l.length b] w fun e w' => e = .returned (.bool (!unB P l)) ∧ Below w.heap.size w w' := by
  have Z0 : Hid (Below w.heap.size w (w.alloc (.cells #[.slice A P.length a] 25))) := (Below.refl _ _).alloc (Nat.le_refl _) _
  have K0 : Hid (Blk (w.alloc (.cells #[.slice A P.length a] 25)) w.heap.size 25 #[.slice A P.length a]) := Blk.new w
  have HR := Lib.hid (RdMs.below hr Z0.out)
  have HL := Lib.hid (Rd.below hrl Z0.out)
  clear hr hrl
  go_enter Try.func31, Try.ntmps31
  go_wp2_with (first | (go_at_call 82; refine (slIndexAsked B b l A a P w.heap.size _ hl HL.out hn HR.out K0.out).mono ?_; rintro e w1 ⟨r, rfl, h1, hb⟩) | go_in)
  rcases hc : unB P l with _ | _
  · rw [hc] at h1
    have h2 : ¬ 0 ≤ r := of_decide_eq_false h1
    go_wp2
    go_light
    go_ret
    exact ⟨ret_bool (by first | (simp; done) | (simp; omega)), Below.and Z0.out hb⟩
  · rw [hc] at h1
    have h2 : 0 ≤ r := of_decide_eq_true h1
    go_wp2
    go_light
    go_ret
    exact ⟨ret_bool (by first | (simp; done) | (simp; omega)), Below.and Z0.out hb⟩

/-- All that those who are not 'bad' did. -/
def dnsB (bad : Int) (l : List RpP) : List Cl := (l.filter fun r => r.me != bad).flatMap RpP.dn
theorem dnsB_yes {bad : Int} {l : List RpP} {k : Nat} (h : k < l.length) (hb : (l[k].me != bad) = true) : dnsB bad (l.take (k + 1)) = dnsB bad (l.take k) ++ l[k].dn := by
  unfold dnsB
  rw [List.take_succ_eq_append_getElem h, List.filter_append, List.filter_cons, if_pos hb, List.filter_nil, List.flatMap_append, List.flatMap_cons, List.flatMap_nil, List.append_nil]
theorem dnsB_no {bad : Int} {l : List RpP} {k : Nat} (h : k < l.length) (hb : (l[k].me != bad) = false) : dnsB bad (l.take (k + 1)) = dnsB bad (l.take k) := by
  unfold dnsB
  rw [List.take_succ_eq_append_getElem h, List.filter_append, List.filter_cons, if_neg (by rw [hb]; decide), List.filter_nil, List.flatMap_append, List.flatMap_nil, List.append_nil]
theorem dnsB_split (bad : Int) (l : List RpP) (k : Nat) : dnsB bad l = dnsB bad (l.take k) ++ dnsB bad (l.drop k) := by
  unfold dnsB
  rw [← List.flatMap_append, ← List.filter_append, List.take_append_drop]
def agB (r : WdP) : Bool := wdB r && (decide (agreeP (dnsB r.bad r.rs)) && !unB r.sd (dnsB r.bad r.rs))
theorem unB_app (P : List MgP) (l m : List Cl) : unB P (l ++ m) = (unB P l || unB P m) := by unfold unB; rw [List.any_append]
theorem cls_all : ∀ (l : List Cl) (p : Int), clsB p l = true → ∀ c ∈ l, clB c = true := by
  intro l
  induction l with
  | nil => intro p _ c hc; cases hc
  | cons a l ih =>
    intro p h c hc
    simp only [clsB, Bool.and_eq_true] at h
    rcases List.mem_cons.1 hc with rfl | hc
    · first | exact h.1.2 | exact h.2.1 | exact h.1.1
    · first | exact ih _ h.2 c hc | exact ih _ h.2.2 c hc
theorem rsB_all : ∀ (l : List RpP) (i : Int), rsB i l = true → ∀ r ∈ l, repB r = true := by
  intro l
  induction l with
  | nil => intro i _ r hr; cases hr
  | cons a l ih =>
    intro i h r hr
    simp only [rsB, Bool.and_eq_true] at h
    rcases List.mem_cons.1 hr with rfl | hr
    · exact h.1.1
    · exact ih _ h.2 r hr
theorem rep_cls {r : RpP} (h : repB r = true) : ∀ c ∈ r.dn, clB c = true := by
  rw [repB_eq] at h
  simp only [Bool.and_eq_true] at h
  exact cls_all _ _ h.2.2.2.2.2
theorem wd_reps {r : WdP} (h : wdB r = true) : r.rs.length = 4 ∧ ∀ p ∈ r.rs, repB p = true := by
  unfold wdB at h
  simp only [Bool.and_eq_true, decide_eq_true_eq] at h
  exact ⟨h.2.1.1, rsB_all _ _ h.2.1.2⟩
theorem dns_cls {bad : Int} {l : List RpP} (h : ∀ p ∈ l, repB p = true) : ∀ c ∈ dnsB bad l, clB c = true := by
  intro c hc
  unfold dnsB at hc
  obtain ⟨p, hp, hc⟩ := List.mem_flatMap.1 hc
  exact rep_cls (h p (List.mem_filter.1 hp).1) c hc

set_option maxRecDepth 100000 in
set_option maxHeartbeats 8000000 in
theorem implWorldAgree (r : WdP) (w : World) (hr : r.rd w) :
    Calls Try.prog 12 #[r.val] w fun e w' => e = .returned (.bool (agB r)) ∧ Below w.heap.size w w' := by
  obtain ⟨bad, RA, ra, rs, SA, sa, sd⟩ := r
  change Calls Try.prog 12 #[.agg #[.int .i64 bad, .slice RA rs.length ra, .slice SA sd.length sa]] w fun e w' => e = .returned (.bool (agB (⟨bad, RA, ra, rs, SA, sa, sd⟩ : WdP))) ∧ Below w.heap.size w w'
  have n1 : rs.length ≤ maxLen := hr.nr
  have n2 : sd.length ≤ maxLen := hr.ns
  have BW : Hid (Below w.heap.size w (w.alloc (.cells #[.int .i64 bad, .slice RA rs.length ra, .slice SA sd.length sa] 27))) := (Below.refl _ _).alloc (Nat.le_refl _) _
  have K0 : Hid (Blk (w.alloc (.cells #[.int .i64 bad, .slice RA rs.length ra, .slice SA sd.length sa] 27)) w.heap.size 27 #[.int .i64 bad, .slice RA rs.length ra, .slice SA sd.length sa]) := Blk.new w
  have HR := Lib.hid (hr.below BW.out)
  have HE : Hid (agB (⟨bad, RA, ra, rs, SA, sa, sd⟩ : WdP) = (wdB (⟨bad, RA, ra, rs, SA, sa, sd⟩ : WdP) && (decide (agreeP (dnsB bad rs)) && !unB sd (dnsB bad rs)))) := rfl
  generalize agB (⟨bad, RA, ra, rs, SA, sa, sd⟩ : WdP) = RB at HE
  clear hr
  go_enter Try.func12, Try.ntmps12
  go_wp2_with (fail)
  refine (implWorldOk (⟨bad, RA, ra, rs, SA, sa, sd⟩ : WdP) _ HR.out).mono ?_
  rintro e w1 ⟨rfl, hb⟩
  have BV := Lib.hid (Below.and BW.out hb)
  have K0 := Lib.hid (K0.out.below hb)
  have HR := Lib.hid (HR.out.below hb)
  clear hb BW
  rcases hw : wdB (⟨bad, RA, ra, rs, SA, sa, sd⟩ : WdP) with _ | _
  · have HN := Lib.hid (show RB = false by rw [HE.out, hw]; rfl)
    go_wp2
    go_light
    go_ret
    exact ⟨ret_bool (HN.out.symm), BV.out⟩
  obtain ⟨l4, hv⟩ := wd_reps hw
  replace l4 : rs.length = 4 := l4
  have HV : Hid (∀ p ∈ rs, repB p = true) := hv
  have L4 := Lib.hid l4
  have HG := Lib.hid (show RB = (decide (agreeP (dnsB bad rs)) && !unB sd (dnsB bad rs)) by rw [HE.out, hw]; rfl)
  have RR : Hid (RdRs w1 RA rs) := HR.out.rr
  have RM : Hid (RdMs w1 SA sd) := HR.out.rm
  clear hw hv l4 HR HE
  have lk := K0.out.lt
  have O0 : Hid (OwQ (w1.alloc (.map #[] 0)) w1.heap.size (5 * 0) (agD (dnsB bad (rs.take 0)))) := World.ownsMap_made w1 Try.prog 3 rqElem
  have K0 : Hid (Blk (w1.alloc (.map #[] 0)) w.heap.size 27 #[.int .i64 bad, .slice RA rs.length ra, .slice SA sd.length sa]) := K0.out.alloc _
  have B1 : Hid (Below w1.heap.size w1 (w1.alloc (.map #[] 0))) := (Below.refl _ _).alloc (Nat.le_refl _) _
  have A0 : Hid (agreeP (dnsB bad (rs.take 0))) := by intro c hc; simp [dnsB] at hc
  have U0 : Hid (unB sd (dnsB bad (rs.take 0)) = false) := rfl
  have hmm := @run_makeMap Try.prog
  have lk1 := K0.out.lt
  have x1 : (w1.alloc (.map #[] 0)).cell? ⟨w.heap.size, 1, none⟩ = some (.slice RA rs.length ra) := K0.out.cell 1
  go_wp2
  clear hmm x1 lk1
  go_loopw [13] (fun i wr => ∃ k : Nat, k ≤ rs.length ∧ i = .int .i64 (k : Int) ∧ Hid (agreeP (dnsB bad (rs.take k))) ∧ Hid (unB sd (dnsB bad (rs.take k)) = false) ∧ Hid (OwQ wr w1.heap.size (5 * k) (agD (dnsB bad (rs.take k)))) ∧ Hid (Blk wr w.heap.size 27 #[.int .i64 bad, .slice RA rs.length ra, .slice SA sd.length sa]) ∧ Hid (Below w1.heap.size w1 wr)) (fun i _ => rs.length - (intOf i).toNat)
  case atStart => exact ⟨0, Nat.zero_le _, rfl, A0, U0, O0, K0, B1⟩
  case round =>
    clear A0 U0 O0 K0 B1
    obtain ⟨k, hk, rfl, ha, hu, ho, K0, hb⟩ := hrel
    unfold maxLen at n1
    have lk2 := K0.out.lt
    have lo := ho.out.lt
    by_cases hlt : k < rs.length
    · obtain ⟨g, o, rfl, ca⟩ := Rd.below RR.out.1 hb.out k hlt
      have rx := RR.out.2 rs[k] (List.getElem_mem hlt)
      have hvx := HV.out rs[k] (List.getElem_mem hlt)
      have HVX := Lib.hid (rep_cls hvx)
      have HLX := Lib.hid (rep_len hvx)
      have HY := Lib.hid (fun h => dnsB_yes (bad := bad) hlt h)
      have HN := Lib.hid (fun h => dnsB_no (bad := bad) hlt h)
      have HSP := Lib.hid (dnsB_split bad rs (k + 1))
      have HTV := Lib.hid (dns_cls (bad := bad) (l := rs.take k) (fun p hp => HV.out p (List.mem_of_mem_take hp)))
      clear hvx
      generalize rs[k] = x at ca rx HVX HLX HY HN
      have a0 : wr.cell? ⟨g, o + k * 7, none⟩ = some (.int .i64 x.me) := ca 0 _ rfl
      have a1 : wr.cell? ⟨g, o + k * 7 + 1, none⟩ = some (.int .i64 x.v) := ca 1 _ rfl
      have a2 : wr.cell? ⟨g, o + k * 7 + 2, none⟩ = some (.bool x.lv) := ca 2 _ rfl
      have a3 : wr.cell? ⟨g, o + k * 7 + 3, none⟩ = some (.int .i64 x.nx) := ca 3 _ rfl
      have a4 : wr.cell? ⟨g, o + k * 7 + 4, none⟩ = some (.slice x.TA x.tk.length x.ta) := ca 4 _ rfl
      have a5 : wr.cell? ⟨g, o + k * 7 + 5, none⟩ = some (.slice x.HA x.hd.length x.ha) := ca 5 _ rfl
      have a6 : wr.cell? ⟨g, o + k * 7 + 6, none⟩ = some (.slice x.DA x.dn.length x.da) := ca 6 _ rfl
      clear ca
      have RX := Lib.hid rx
      clear rx
      have i0 : (0 : Int) ≤ (k : Int) := by omega
      have i1 : (k : Int) < (rs.length : Int) := by omega
      have y0 : wr.cell? ⟨w.heap.size, 0, none⟩ = some (.int .i64 bad) := K0.out.cell 0
      have BN := Lib.hid (hb.out.alloc hb.out.size (.cells #[.int .i64 x.me, .int .i64 x.v, .bool x.lv, .int .i64 x.nx, .slice x.TA x.tk.length x.ta, .slice x.HA x.hd.length x.ha, .slice x.DA x.dn.length x.da] 47))
      rcases hbd : (x.me != bad) with _ | _
      · have HT := Lib.hid (HN.out hbd)
        have A2 := Lib.hid (show agreeP (dnsB bad (rs.take (k + 1))) by rw [HT.out]; exact ha.out)
        have U2 := Lib.hid (show unB sd (dnsB bad (rs.take (k + 1))) = false by rw [HT.out]; exact hu.out)
        have O2 := Lib.hid (show OwQ (wr.alloc (.cells #[.int .i64 x.me, .int .i64 x.v, .bool x.lv, .int .i64 x.nx, .slice x.TA x.tk.length x.ta, .slice x.HA x.hd.length x.ha, .slice x.DA x.dn.length x.da] 47)) w1.heap.size (5 * (k + 1)) (agD (dnsB bad (rs.take (k + 1)))) by rw [HT.out]; exact (ho.out.alloc _).mono (by omega))
        have K2 := Lib.hid (K0.out.alloc (.cells #[.int .i64 x.me, .int .i64 x.v, .bool x.lv, .int .i64 x.nx, .slice x.TA x.tk.length x.ta, .slice x.HA x.hd.length x.ha, .slice x.DA x.dn.length x.da] 47))
        go_wp2
        go_roundw
        case rel => exact ⟨k + 1, by omega, by go_num, A2, U2, O2, K2, BN⟩
        case measure => simp [intOf]; omega
      have HT := Lib.hid (HY.out hbd)
      have K2 := Lib.hid (K0.out.alloc (.cells #[.int .i64 x.me, .int .i64 x.v, .bool x.lv, .int .i64 x.nx, .slice x.TA x.tk.length x.ta, .slice x.HA x.hd.length x.ha, .slice x.DA x.dn.length x.da] 47))
      have KX : Hid (Blk (wr.alloc (.cells #[.int .i64 x.me, .int .i64 x.v, .bool x.lv, .int .i64 x.nx, .slice x.TA x.tk.length x.ta, .slice x.HA x.hd.length x.ha, .slice x.DA x.dn.length x.da] 47)) wr.heap.size 47 #[.int .i64 x.me, .int .i64 x.v, .bool x.lv, .int .i64 x.nx, .slice x.TA x.tk.length x.ta, .slice x.HA x.hd.length x.ha, .slice x.DA x.dn.length x.da]) := Blk.new wr
      have OD : Hid (OwQ (wr.alloc (.cells #[.int .i64 x.me, .int .i64 x.v, .bool x.lv, .int .i64 x.nx, .slice x.TA x.tk.length x.ta, .slice x.HA x.hd.length x.ha, .slice x.DA x.dn.length x.da] 47)) w1.heap.size (5 * k) (agD (dnsB bad (rs.take k)))) := ho.out.alloc _
      have hlx := HLX.out
      go_wp2_with (fail)
      refine (agreesWith w1.heap.size (5 * k) (dnsB bad (rs.take k)) x.DA x.da x.dn w1 _ OD.out (by have := L4.out; unfold maxLen; omega) (fun c hc => (List.mem_append.1 hc).elim (HTV.out c) (HVX.out c)) ha.out RX.out.rdn BN.out (Nat.le_refl _)).mono ?_
      rintro e w5 ⟨rfl, h5, hg5⟩
      have BN := Lib.hid (Below.trans BN.out (Below.of_grown hg5 BN.out.size (fun q hq => by have := Option.some.inj hq; omega)))
      have K2 := Lib.hid (Blk.gr K2.out hg5 (fun e => by have := Option.some.inj e; omega))
      have KX := Lib.hid (Blk.gr KX.out hg5 (fun e => by have := Option.some.inj e; omega))
      have O5 := Lib.hid h5
      clear h5 hg5
      have AL := Lib.hid (Below.and BV.out BN.out)
      rcases hd : decide (agreeP (dnsB bad (rs.take k) ++ x.dn)) with _ | _
      · have HF := Lib.hid (show RB = false by
          have h1 : ¬ agreeP (dnsB bad rs) := fun h => by
            rw [HSP.out, HT.out] at h
            exact of_decide_eq_false hd h.left
          rw [HG.out, decide_eq_false h1]; rfl)
        go_wp2
        go_light
        go_ret
        exact ⟨ret_bool (HF.out.symm), AL.out⟩
      have hag := of_decide_eq_true hd
      have HAG := Lib.hid hag
      clear hd hag
      have lq := K2.out.lt
      have lx := KX.out.lt
      have y2 : w5.cell? ⟨w.heap.size, 2, none⟩ = some (.slice SA sd.length sa) := K2.out.cell 2
      have x6 : w5.cell? ⟨wr.heap.size, 6, none⟩ = some (.slice x.DA x.dn.length x.da) := KX.out.cell 6
      have RN := Lib.hid (Rd.below RX.out.rdn BN.out)
      have RS := Lib.hid (RdMs.below RM.out BN.out)
      have RX2 := Lib.hid RX.out.nd
      go_wp2_with (fail)
      refine (allAsked SA sa sd x.DA x.da x.dn _ RX2.out RN.out n2 RS.out).mono ?_
      rintro e w6 ⟨rfl, h6⟩
      have BN := Lib.hid (Below.and BN.out h6)
      have K2 := Lib.hid (K2.out.below h6)
      have AL := Lib.hid (Below.and BV.out BN.out)
      have O6 : Hid (OwQ w6 w1.heap.size (5 * k + x.dn.length) (agD (dnsB bad (rs.take k) ++ x.dn))) := (O5.out HAG.out).kept (Below.grownBy h6 none) (by simp)
      clear h6 y2 x6
      rcases hc : unB sd x.dn with _ | _
      · have A2 := Lib.hid (show agreeP (dnsB bad (rs.take (k + 1))) by rw [HT.out]; exact HAG.out)
        have U2 := Lib.hid (show unB sd (dnsB bad (rs.take (k + 1))) = false by rw [HT.out, unB_app, hu.out, hc]; rfl)
        have O2 := Lib.hid (show OwQ w6 w1.heap.size (5 * (k + 1)) (agD (dnsB bad (rs.take (k + 1)))) by rw [HT.out]; exact O6.out.mono (by omega))
        clear hc
        go_wp2
        go_roundw
        case rel => exact ⟨k + 1, by omega, by go_num, A2, U2, O2, K2, BN⟩
        case measure => simp [intOf]; omega
      · have HF := Lib.hid (show RB = false by rw [HG.out, HSP.out, HT.out, unB_app, unB_app, hc]; simp)
        clear hc
        go_wp2
        go_light
        go_ret
        exact ⟨ret_bool (HF.out.symm), AL.out⟩
    · obtain rfl : k = rs.length := by omega
      have h1 := ha.out
      have h2 := hu.out
      rw [List.take_length] at h1 h2
      have HF := Lib.hid (show RB = true by rw [HG.out, decide_eq_true h1, h2]; rfl)
      have AL := Lib.hid (Below.and BV.out hb.out)
      clear h1 h2
      go_wp2
      go_light
      go_ret
      exact ⟨ret_bool (HF.out.symm), AL.out⟩

end Go.Proofs.Ytfelhnchnaggmaa
