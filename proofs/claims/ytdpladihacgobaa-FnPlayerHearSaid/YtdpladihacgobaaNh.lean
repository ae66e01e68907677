/- Players, copied: both ways. -/
import Derived.Test.YtdpladihacgobaaNd
import Derived.Test.YtdpladihacgobaaHe
namespace Go.Proofs.Ytdpladihacgobaa
open Go.ChangeShapes Go.WideShapes Go.ChangeAt Go.RowKit
set_option linter.unusedVariables false
set_option linter.unusedSimpArgs false

structure RdP (w : World) (A : Option Addr) (a : Nat) (L : List Rp) : Prop where
  r : Rd 4 Rp.cells w A L
  nA : A = none → a = 0
theorem RdP.below {w w' : World} {A : Option Addr} {a : Nat} {L : List Rp} (h : RdP w A a L) (hb : Below w.heap.size w w') : RdP w' A a L := ⟨Rd.below h.r hb, h.nA⟩
theorem own_nilP {w : World} {base : Nat} {e : TypeId} {size : Nat} {A : Option Addr} {c n : Nat} {xs : List Value} (h : w.ownsRow base e size (.slice A n c) n xs) : A = none → c = 0 := by
  intro e
  rcases h.2 with ⟨h1, _⟩ | ⟨g, cap, cur, h1, _⟩
  · injection h1
  · rw [e] at h1
    injection h1 with h1
    cases h1
theorem OwL.rdP {w : World} {lo : Nat} {A : Option Addr} {a : Nat} {L : List Rp} (h : OwL w lo A a L) : RdP w A a L := ⟨h.rd, own_nilP (show w.ownsRow _ _ _ _ _ _ from h)⟩
theorem reps_one (L : List Rp) : ∀ u ∈ L.flatMap Rp.cells, u.oneCell' = true := by
  intro u hu
  simp only [List.mem_flatMap, Rp.cells] at hu
  obtain ⟨a, _, hu⟩ := hu
  simp at hu
  rcases hu with rfl | rfl | rfl | rfl <;> rfl
theorem OwL.nil (w : World) (lo : Nat) : OwL w lo none 0 [] := World.ownsRow_nil _ _ _ _

set_option maxRecDepth 100000 in
set_option maxHeartbeats 2000000 in
theorem copyPlayer (q : Rq) (A : Option Addr) (a : Nat) (L : List Rp) (w : World) (hL : L.length ≤ 2097152) (hr : RdP w A a L) :
    Calls Try.prog 33 #[playerV q A L.length a] w fun e w' => ∃ A' a', e = .returned (playerV q A' L.length a') ∧ OwL w' w.heap.size A' a' L ∧ Below w.heap.size w w' := by
  obtain ⟨I, hi, hz0, hz1, hz2⟩ := parts_ofH infoReply
  have I1 := Lib.hid hi
  have I2 := Lib.hid hz0
  have I3 := Lib.hid hz1
  have I4 := Lib.hid hz2
  clear hi hz0 hz1 hz2
  have HR := Lib.hid hr.r
  have NA := Lib.hid hr.nA
  clear hr
  have K0 : Hid (Bkk ((w.alloc (.cells #[.int .i64 q.c, .int .i64 q.n, .int .i64 q.o, .int .i64 q.x, .int .i64 q.y, .slice A L.length a] 27)).alloc (.cells #[.int .i64 0, .int .i64 0, .int .i64 0, .int .i64 0, .int .i64 0, .slice none 0 0] 27)) w.heap.size 27 #[.int .i64 q.c, .int .i64 q.n, .int .i64 q.o, .int .i64 q.x, .int .i64 q.y, .slice A L.length a]) := (Bkk.new (cs := #[.int .i64 q.c, .int .i64 q.n, .int .i64 q.o, .int .i64 q.x, .int .i64 q.y, .slice A L.length a]) (t := 27) w).alloc _
  have K1 : Hid (Bkk ((w.alloc (.cells #[.int .i64 q.c, .int .i64 q.n, .int .i64 q.o, .int .i64 q.x, .int .i64 q.y, .slice A L.length a] 27)).alloc (.cells #[.int .i64 0, .int .i64 0, .int .i64 0, .int .i64 0, .int .i64 0, .slice none 0 0] 27)) (w.heap.size + 1) 27 #[.int .i64 0, .int .i64 0, .int .i64 0, .int .i64 0, .int .i64 0, .slice none 0 0]) := by have := Bkk.new (cs := #[.int .i64 0, .int .i64 0, .int .i64 0, .int .i64 0, .int .i64 0, .slice none 0 0]) (t := 27) (w.alloc (.cells #[.int .i64 q.c, .int .i64 q.n, .int .i64 q.o, .int .i64 q.x, .int .i64 q.y, .slice A L.length a] 27)); simpa [Hid] using this
  have Z : Hid (Below w.heap.size w ((w.alloc (.cells #[.int .i64 q.c, .int .i64 q.n, .int .i64 q.o, .int .i64 q.x, .int .i64 q.y, .slice A L.length a] 27)).alloc (.cells #[.int .i64 0, .int .i64 0, .int .i64 0, .int .i64 0, .int .i64 0, .slice none 0 0] 27))) := below_alloc2 w _ _
  have HS : Hid (w.heap.size + 2 ≤ ((w.alloc (.cells #[.int .i64 q.c, .int .i64 q.n, .int .i64 q.o, .int .i64 q.x, .int .i64 q.y, .slice A L.length a] 27)).alloc (.cells #[.int .i64 0, .int .i64 0, .int .i64 0, .int .i64 0, .int .i64 0, .slice none 0 0] 27)).heap.size) := by show _ ≤ _; simp
  go_enter Try.func33, Try.ntmps33
  go_upto_region 1 with (fail)
  obtain ⟨w0, hw0⟩ : ∃ X, X = ((w.alloc (.cells #[.int .i64 q.c, .int .i64 q.n, .int .i64 q.o, .int .i64 q.x, .int .i64 q.y, .slice A L.length a] 27)).alloc (.cells #[.int .i64 0, .int .i64 0, .int .i64 0, .int .i64 0, .int .i64 0, .slice none 0 0] 27)) := ⟨_, rfl⟩
  rw [← hw0] at K0 K1 Z HS ⊢
  clear hw0
  have p0 : w0.cell? ⟨w.heap.size, 0, none⟩ = some (.int .i64 q.c) := K0.out.cell 0
  have p1 : w0.cell? ⟨w.heap.size, 1, none⟩ = some (.int .i64 q.n) := K0.out.cell 1
  have p2 : w0.cell? ⟨w.heap.size, 2, none⟩ = some (.int .i64 q.o) := K0.out.cell 2
  have p3 : w0.cell? ⟨w.heap.size, 3, none⟩ = some (.int .i64 q.x) := K0.out.cell 3
  have p4 : w0.cell? ⟨w.heap.size, 4, none⟩ = some (.int .i64 q.y) := K0.out.cell 4
  have p5 : w0.cell? ⟨w.heap.size, 5, none⟩ = some (.slice A L.length a) := K0.out.cell 5
  go_wp2_with (at_builtin; go_loud (refine list_app (f := Rp.cells) (fun _ => rfl) rfl _ _ 25 rfl (w.heap.size + 2) 29 I (.agg #[.int .i64 0, .int .i64 0, .int .i64 0, .int .i64 0]) 32 Try.underlying25 I1.out I2.out I3.out I4.out rfl (by decide) (.slice none 0 0) 0 [] rfl (World.ownsRow_nil _ _ _ _) A a L.length L rfl rfl (Rd.below HR.out Z.out) NA.out (reps_one _) (by unfold maxLen; omega) (by omega) HS.out ?_))
  intro v3 w3 ho hg hp
  (try simp only [Nat.zero_add, List.nil_append] at ho)
  obtain ⟨A1, a1, rfl⟩ := own_formH ho
  have hb : Below w0.heap.size w0 w3 := Below.of_grown hg (Nat.le_refl _) (fun q hq => by simp [Value.ownBlock] at hq)
  have O1 : Hid (OwL w3 (w.heap.size + 2) A1 a1 L) := ho
  have K0 := Lib.hid (K0.out.below hb)
  have K1 := Lib.hid (K1.out.below hb)
  have Z := Lib.hid (Below.and Z.out hb)
  clear ho hg hp hb p0 p1 p2 p3 p4 p5
  have p0 : w3.cell? ⟨w.heap.size, 0, none⟩ = some (.int .i64 q.c) := K0.out.cell 0
  have p1 : w3.cell? ⟨w.heap.size, 1, none⟩ = some (.int .i64 q.n) := K0.out.cell 1
  have p2 : w3.cell? ⟨w.heap.size, 2, none⟩ = some (.int .i64 q.o) := K0.out.cell 2
  have p3 : w3.cell? ⟨w.heap.size, 3, none⟩ = some (.int .i64 q.x) := K0.out.cell 3
  have p4 : w3.cell? ⟨w.heap.size, 4, none⟩ = some (.int .i64 q.y) := K0.out.cell 4
  have p5 : w3.cell? ⟨w.heap.size, 5, none⟩ = some (.slice A L.length a) := K0.out.cell 5
  have pf := K0.out.frozen
  have lp := K0.out.lt
  go_upto_region 2 with (fail)
  have Z := Lib.hid (Below.setCell Z.out (p := ⟨w.heap.size, 5, none⟩) (by simp) (.slice A1 L.length a1))
  have K1 : Hid (Bkk (w3.setCell ⟨w.heap.size, 5, none⟩ (.slice A1 L.length a1)) (w.heap.size + 1) 27 #[.int .i64 0, .int .i64 0, .int .i64 0, .int .i64 0, .int .i64 0, .slice none 0 0]) := K1.out.far (show w.heap.size + 1 ≠ w.heap.size by omega) 5 (.slice A1 L.length a1)
  have K0 : Hid (Bkk (w3.setCell ⟨w.heap.size, 5, none⟩ (.slice A1 L.length a1)) w.heap.size 27 #[.int .i64 q.c, .int .i64 q.n, .int .i64 q.o, .int .i64 q.x, .int .i64 q.y, .slice A1 L.length a1]) := K0.out.set 5 (.slice A1 L.length a1)
  have O1 := Lib.hid (O1.out.put (q := w.heap.size) (by omega) 5 (.slice A1 L.length a1))
  obtain ⟨w4, hw4⟩ : ∃ X, X = (w3.setCell ⟨w.heap.size, 5, none⟩ (.slice A1 L.length a1)) := ⟨_, rfl⟩
  rw [← hw4] at K0 K1 Z O1 ⊢
  clear hw4
  clear p0 p1 p2 p3 p4 p5 pf lp
  have p0 : w4.cell? ⟨w.heap.size, 0, none⟩ = some (.int .i64 q.c) := K0.out.cell 0
  have p1 : w4.cell? ⟨w.heap.size, 1, none⟩ = some (.int .i64 q.n) := K0.out.cell 1
  have p2 : w4.cell? ⟨w.heap.size, 2, none⟩ = some (.int .i64 q.o) := K0.out.cell 2
  have p3 : w4.cell? ⟨w.heap.size, 3, none⟩ = some (.int .i64 q.x) := K0.out.cell 3
  have p4 : w4.cell? ⟨w.heap.size, 4, none⟩ = some (.int .i64 q.y) := K0.out.cell 4
  have p5 : w4.cell? ⟨w.heap.size, 5, none⟩ = some (.slice A1 L.length a1) := K0.out.cell 5
  have z0 : w4.cell? ⟨w.heap.size + 1, 0, none⟩ = some (.int .i64 0) := K1.out.cell 0
  have z1 : w4.cell? ⟨w.heap.size + 1, 1, none⟩ = some (.int .i64 0) := K1.out.cell 1
  have z2 : w4.cell? ⟨w.heap.size + 1, 2, none⟩ = some (.int .i64 0) := K1.out.cell 2
  have z3 : w4.cell? ⟨w.heap.size + 1, 3, none⟩ = some (.int .i64 0) := K1.out.cell 3
  have z4 : w4.cell? ⟨w.heap.size + 1, 4, none⟩ = some (.int .i64 0) := K1.out.cell 4
  have z5 : w4.cell? ⟨w.heap.size + 1, 5, none⟩ = some (.slice none 0 0) := K1.out.cell 5
  have zf := K1.out.frozen
  have lz := K1.out.lt
  have OA := Lib.hid (((((((O1.out.put (q := w.heap.size + 1) (by omega) 0 (.int .i64 q.c)).put (q := w.heap.size + 1) (by omega) 1 (.int .i64 q.n)).put (q := w.heap.size + 1) (by omega) 2 (.int .i64 q.o)).put (q := w.heap.size + 1) (by omega) 3 (.int .i64 q.x)).put (q := w.heap.size + 1) (by omega) 4 (.int .i64 q.y)).put (q := w.heap.size + 1) (by omega) 5 (.slice A1 L.length a1)).base (lo := w.heap.size) (by omega))
  have BG := Lib.hid (Below.setCell (Below.setCell (Below.setCell (Below.setCell (Below.setCell (Below.setCell Z.out (p := ⟨w.heap.size + 1, 0, none⟩) (by simp) (.int .i64 q.c)) (p := ⟨w.heap.size + 1, 1, none⟩) (by simp) (.int .i64 q.n)) (p := ⟨w.heap.size + 1, 2, none⟩) (by simp) (.int .i64 q.o)) (p := ⟨w.heap.size + 1, 3, none⟩) (by simp) (.int .i64 q.x)) (p := ⟨w.heap.size + 1, 4, none⟩) (by simp) (.int .i64 q.y)) (p := ⟨w.heap.size + 1, 5, none⟩) (by simp) (.slice A1 L.length a1))
  clear K0 K1 Z O1
  go_wp2
  refine bodyPost_ret (v := playerV q A1 L.length a1) (by simp [results, Try.results33, go_sem, z0, z1, z2, z3, z4, z5]) rfl ⟨A1, a1, rfl, OA.out, BG.out⟩

set_option maxRecDepth 100000 in
set_option maxHeartbeats 4000000 in
theorem l11Copy (q : Rq) (A : Option Addr) (a : Nat) (L : List Rp) (w : World) (hL : L.length ≤ 2097152) (hr : RdP w A a L) :
    Calls Try.prog 37 #[playerV q A L.length a] w fun e w' => ∃ A' a', e = .returned (playerV q A' L.length a') ∧ OwL w' w.heap.size A' a' L ∧ Below w.heap.size w w' := by
  obtain ⟨I, hi, hz0, hz1, hz2⟩ := parts_ofH infoReply
  have I1 := Lib.hid hi
  have I2 := Lib.hid hz0
  have I3 := Lib.hid hz1
  have I4 := Lib.hid hz2
  clear hi hz0 hz1 hz2
  have HR := Lib.hid hr.r
  have NA := Lib.hid hr.nA
  clear hr
  have KG : Hid (Bkk (w.alloc (.cells #[.int .i64 q.c, .int .i64 q.n, .int .i64 q.o, .int .i64 q.x, .int .i64 q.y, .slice A L.length a] 27)) w.heap.size 27 #[.int .i64 q.c, .int .i64 q.n, .int .i64 q.o, .int .i64 q.x, .int .i64 q.y, .slice A L.length a]) := Bkk.new (cs := #[.int .i64 q.c, .int .i64 q.n, .int .i64 q.o, .int .i64 q.x, .int .i64 q.y, .slice A L.length a]) (t := 27) w
  have K1 : Hid (Bkk ((w.alloc (.cells #[.int .i64 q.c, .int .i64 q.n, .int .i64 q.o, .int .i64 q.x, .int .i64 q.y, .slice A L.length a] 27)).alloc (.cells #[.int .i64 0, .int .i64 0, .int .i64 0, .int .i64 0, .int .i64 0, .slice none 0 0] 27)) (w.heap.size + 1) 27 #[.int .i64 0, .int .i64 0, .int .i64 0, .int .i64 0, .int .i64 0, .slice none 0 0]) := by have := Bkk.new (cs := #[.int .i64 0, .int .i64 0, .int .i64 0, .int .i64 0, .int .i64 0, .slice none 0 0]) (t := 27) (w.alloc (.cells #[.int .i64 q.c, .int .i64 q.n, .int .i64 q.o, .int .i64 q.x, .int .i64 q.y, .slice A L.length a] 27)); simpa [Hid] using this
  have ZG : Hid (Below w.heap.size w (w.alloc (.cells #[.int .i64 q.c, .int .i64 q.n, .int .i64 q.o, .int .i64 q.x, .int .i64 q.y, .slice A L.length a] 27))) := (Below.refl _ _).alloc (Nat.le_refl _) _
  have B2 : Hid (Below (w.alloc (.cells #[.int .i64 q.c, .int .i64 q.n, .int .i64 q.o, .int .i64 q.x, .int .i64 q.y, .slice A L.length a] 27)).heap.size (w.alloc (.cells #[.int .i64 q.c, .int .i64 q.n, .int .i64 q.o, .int .i64 q.x, .int .i64 q.y, .slice A L.length a] 27)) ((w.alloc (.cells #[.int .i64 q.c, .int .i64 q.n, .int .i64 q.o, .int .i64 q.x, .int .i64 q.y, .slice A L.length a] 27)).alloc (.cells #[.int .i64 0, .int .i64 0, .int .i64 0, .int .i64 0, .int .i64 0, .slice none 0 0] 27))) := (Below.refl _ _).alloc (Nat.le_refl _) _
  have HG : Hid ((w.alloc (.cells #[.int .i64 q.c, .int .i64 q.n, .int .i64 q.o, .int .i64 q.x, .int .i64 q.y, .slice A L.length a] 27)).heap.size = w.heap.size + 1) := by show _ = _; simp
  have HS : Hid (w.heap.size + 2 ≤ ((w.alloc (.cells #[.int .i64 q.c, .int .i64 q.n, .int .i64 q.o, .int .i64 q.x, .int .i64 q.y, .slice A L.length a] 27)).alloc (.cells #[.int .i64 0, .int .i64 0, .int .i64 0, .int .i64 0, .int .i64 0, .slice none 0 0] 27)).heap.size) := by show _ ≤ _; simp
  go_enter Try.func37, Try.ntmps37
  go_upto_region 1 with (fail)
  obtain ⟨w0, hw0⟩ : ∃ X, X = ((w.alloc (.cells #[.int .i64 q.c, .int .i64 q.n, .int .i64 q.o, .int .i64 q.x, .int .i64 q.y, .slice A L.length a] 27)).alloc (.cells #[.int .i64 0, .int .i64 0, .int .i64 0, .int .i64 0, .int .i64 0, .slice none 0 0] 27)) := ⟨_, rfl⟩
  rw [← hw0] at K1 B2 HS ⊢
  clear hw0
  obtain ⟨wG, hwG⟩ : ∃ X, X = (w.alloc (.cells #[.int .i64 q.c, .int .i64 q.n, .int .i64 q.o, .int .i64 q.x, .int .i64 q.y, .slice A L.length a] 27)) := ⟨_, rfl⟩
  rw [← hwG] at KG ZG B2 HG
  clear hwG
  have p0 : wG.cell? ⟨w.heap.size, 0, none⟩ = some (.int .i64 q.c) := KG.out.cell 0
  have p1 : wG.cell? ⟨w.heap.size, 1, none⟩ = some (.int .i64 q.n) := KG.out.cell 1
  have p2 : wG.cell? ⟨w.heap.size, 2, none⟩ = some (.int .i64 q.o) := KG.out.cell 2
  have p3 : wG.cell? ⟨w.heap.size, 3, none⟩ = some (.int .i64 q.x) := KG.out.cell 3
  have p4 : wG.cell? ⟨w.heap.size, 4, none⟩ = some (.int .i64 q.y) := KG.out.cell 4
  have p5 : wG.cell? ⟨w.heap.size, 5, none⟩ = some (.slice A L.length a) := KG.out.cell 5
  have lg : w.heap.size < wG.heap.size := by rw [HG.out]; omega
  refine wp_region_held_drew (S := fun w1 => Below wG.heap.size wG w1) (by kernel_rfl) (B2.out.drew) (fun hS0 => ?_)
  refine takeD 0 3 (v := ?_) rfl rfl (by kernel_rfl) (by kernel_rfl) (by kernel_rfl) (fun _ _ _ h => h) (Or.inl ⟨by rfl, ?_⟩) (by assumption) ?_
  rotate_left
  · intro w1 hSw; obtain ⟨hcS, hfS⟩ := bcell hSw; go_simp; (try with_reducible rfl)
  (try simp only [Act.put, List.setIfInBounds_toArray, List.set_cons_zero, List.set_cons_succ])
  refine takeD 1 4 (v := ?_) rfl rfl (by kernel_rfl) (by kernel_rfl) (by kernel_rfl) (fun _ _ _ h => h) (Or.inl ⟨by rfl, ?_⟩) (by assumption) ?_
  rotate_left
  · intro w1 hSw; obtain ⟨hcS, hfS⟩ := bcell hSw; go_simp; (try with_reducible rfl)
  (try simp only [Act.put, List.setIfInBounds_toArray, List.set_cons_zero, List.set_cons_succ])
  refine takeD 3 6 (v := ?_) rfl rfl (by kernel_rfl) (by kernel_rfl) (by kernel_rfl) (fun _ _ _ h => h) (Or.inl ⟨by rfl, ?_⟩) (by assumption) ?_
  rotate_left
  · intro w1 hSw; obtain ⟨hcS, hfS⟩ := bcell hSw; go_simp; (try with_reducible rfl)
  (try simp only [Act.put, List.setIfInBounds_toArray, List.set_cons_zero, List.set_cons_succ])
  refine takeD 4 7 (v := ?_) rfl rfl (by kernel_rfl) (by kernel_rfl) (by kernel_rfl) (fun _ _ _ h => h) (Or.inl ⟨by rfl, ?_⟩) (by assumption) ?_
  rotate_left
  · intro w1 hSw; obtain ⟨hcS, hfS⟩ := bcell hSw; go_simp; (try with_reducible rfl)
  (try simp only [Act.put, List.setIfInBounds_toArray, List.set_cons_zero, List.set_cons_succ])
  refine wpAnyH_ready (rs := [2]) (by kernel_rfl) (by simp) ?_
  refine AllReadyH.cons rfl (fun KK hK => ?_) AllReadyH.nil
  go_simp
  have hba : Below w0.heap.size w0 (w0.alloc (.cells #[] 29)).drew := ((Below.refl _ _).alloc (Nat.le_refl _) _).drew
  have O0 : Hid ((w0.alloc (.cells #[] 29)).drew.ownsRow w0.heap.size 29 4 (.slice (some ⟨w0.heap.size, 0, none⟩) 0 0) 0 []) := own_nil_newH w0 29 4 rfl
  have HL0 : Hid (w0.heap.size < (w0.alloc (.cells #[] 29)).drew.heap.size) := by show _ < _; simp
  refine hK.out _ _ (Below.and B2.out hba) (fun hS1 => ?_)
  clear hK KK
  (try simp only [Act.put, List.setIfInBounds_toArray, List.set_cons_zero, List.set_cons_succ])
  obtain ⟨wE, hwE⟩ : ∃ X, X = (w0.alloc (.cells #[] 29)).drew := ⟨_, rfl⟩
  rw [← hwE] at hba O0 HL0 hS1 ⊢
  clear hwE
  have HRE := Lib.hid (Rd.below HR.out (Below.and ZG.out hS1))
  refine wpAnyH_ready (rs := [5]) (by kernel_rfl) (by simp) ?_
  refine AllReadyH.cons rfl (fun KK hK => ?_) AllReadyH.nil
  refine step_app (k := 4) (f := Rp.cells) (fun _ => rfl) (by rfl) _ _ 25 (by rfl) w0.heap.size 29 I (.agg #[.int .i64 0, .int .i64 0, .int .i64 0, .int .i64 0]) 32 Try.underlying25 I1.out I2.out I3.out I4.out (by rfl) (by omega) (.slice (some ⟨w0.heap.size, 0, none⟩) 0 0) 0 [] (by rfl) O0.out A a L.length L rfl (by rfl) HRE.out NA.out (reps_one L) (by unfold maxLen; omega) (by omega) (Nat.le_of_lt HL0.out) ?_
  intro v3 w3 ho hg hp
  (try simp only [Nat.zero_add, List.nil_append] at ho)
  obtain ⟨A1, a1, rfl⟩ := own_formH ho
  have hb : Below w0.heap.size w0 w3 := hba.grown hg hba.size (fun q hq => by simp [Value.ownBlock] at hq; omega)
  have O1 : Hid (OwL w3 (w.heap.size + 2) A1 a1 L) := own_base ho HS.out
  have K1 := Lib.hid (K1.out.below hb)
  have ZZ := Lib.hid (Below.and B2.out hb)
  clear ho hg hp hb hba O0 HL0 HRE
  refine hK.out _ _ ZZ.out (fun hS2 => ?_)
  clear hK KK
  (try simp only [Act.put, List.setIfInBounds_toArray, List.set_cons_zero, List.set_cons_succ])
  refine takeD 6 9 (v := ?_) rfl rfl (by kernel_rfl) (by kernel_rfl) (by kernel_rfl) (fun _ _ _ h => h) (Or.inl ⟨by rfl, ?_⟩) (by assumption) ?_
  rotate_left
  · intro w1 hSw; go_simp; (try with_reducible rfl)
  (try simp only [Act.put, List.setIfInBounds_toArray, List.set_cons_zero, List.set_cons_succ])
  refine wpAnyH_ready (rs := [7]) (by kernel_rfl) (by simp) ?_
  refine AllReadyH.cons rfl (fun KK hK => ?_) AllReadyH.nil
  have z0 : w3.cell? ⟨w.heap.size + 1, 0, none⟩ = some (.int .i64 0) := K1.out.cell 0
  have z1 : w3.cell? ⟨w.heap.size + 1, 1, none⟩ = some (.int .i64 0) := K1.out.cell 1
  have z2 : w3.cell? ⟨w.heap.size + 1, 2, none⟩ = some (.int .i64 0) := K1.out.cell 2
  have z3 : w3.cell? ⟨w.heap.size + 1, 3, none⟩ = some (.int .i64 0) := K1.out.cell 3
  have z4 : w3.cell? ⟨w.heap.size + 1, 4, none⟩ = some (.int .i64 0) := K1.out.cell 4
  have z5 : w3.cell? ⟨w.heap.size + 1, 5, none⟩ = some (.slice none 0 0) := K1.out.cell 5
  have zf := K1.out.frozen
  have lz := K1.out.lt
  have Z := Lib.hid (Below.and ZG.out ZZ.out)
  have OA := Lib.hid (((((((O1.out.put (q := w.heap.size + 1) (by omega) 0 (.int .i64 q.c)).put (q := w.heap.size + 1) (by omega) 1 (.int .i64 q.n)).put (q := w.heap.size + 1) (by omega) 2 (.int .i64 q.o)).put (q := w.heap.size + 1) (by omega) 3 (.int .i64 q.x)).put (q := w.heap.size + 1) (by omega) 4 (.int .i64 q.y)).put (q := w.heap.size + 1) (by omega) 5 (.slice A1 L.length a1)).base (lo := w.heap.size) (by omega))
  have BG := Lib.hid (Below.setCell (Below.setCell (Below.setCell (Below.setCell (Below.setCell (Below.setCell Z.out (p := ⟨w.heap.size + 1, 0, none⟩) (by simp) (.int .i64 q.c)) (p := ⟨w.heap.size + 1, 1, none⟩) (by simp) (.int .i64 q.n)) (p := ⟨w.heap.size + 1, 2, none⟩) (by simp) (.int .i64 q.o)) (p := ⟨w.heap.size + 1, 3, none⟩) (by simp) (.int .i64 q.x)) (p := ⟨w.heap.size + 1, 4, none⟩) (by simp) (.int .i64 q.y)) (p := ⟨w.heap.size + 1, 5, none⟩) (by simp) (.slice A1 L.length a1))
  go_simp
  refine hK.out _ _ ?_ (fun hS3 => ?_)
  · have e1 := HG.out
    iterate 6 (refine Below.setCell ?_ (by first | (simp; done) | (simp; omega)) _)
    exact ZZ.out
  clear hK KK hS3 hS2 hS1
  (try simp only [Act.put, List.setIfInBounds_toArray, List.set_cons_zero, List.set_cons_succ])
  refine wpAnyH_done (by kernel_rfl) ?_ _
  clear K1 Z O1 ZZ
  go_wp2
  refine bodyPost_ret (v := playerV q A1 L.length a1) (by simp [results, Try.results37, go_sem, z0, z1, z2, z3, z4, z5]) rfl ⟨A1, a1, rfl, OA.out, BG.out⟩

end Go.Proofs.Ytdpladihacgobaa
