/- Where a request stands: both ways. -/
import Derived.Test.YtnpdlpkomfegfaaHf
import Derived.Test.YtnpdlpkomfegfaaHj
import Derived.Test.YtnpdlpkomfegfaaME
namespace Go.Proofs.Ytnpdlpkomfegfaa
open Go.ChangeShapes Go.WideShapes Go.ChangeAt Go.RowKit
set_option linter.unusedVariables false
set_option linter.unusedSimpArgs false

def atR (r : Rq) : List Rq → Option Nat
 | [] => none
 | x :: t => if x = r then some 0 else (atR r t).map (· + 1)
def atV : Option Nat → Int
 | none => -1
 | some i => (i : Int)
theorem Five.drewK {w : World} {g : Nat} {t : TypeId} {u0 u1 u2 u3 u4 : Value} (h : Five w g t u0 u1 u2 u3 u4) : Five w.drew g t u0 u1 u2 u3 u4 := h
theorem atR_none {r : Rq} : ∀ {l : List Rq}, (∀ x ∈ l, x ≠ r) → atR r l = none
 | [], _ => rfl
 | x :: t, h => by
  unfold atR
  rw [if_neg (h x (by simp)), atR_none (fun y hy => h y (by simp [hy]))]
  rfl
theorem atR_at {r : Rq} : ∀ {l : List Rq} (j : Nat) (hj : j < l.length), (∀ x ∈ l.take j, x ≠ r) → l[j] = r → atR r l = some j
 | [], j, hj, _, _ => by simp at hj
 | x :: t, 0, hj, _, h => by
  unfold atR
  rw [if_pos (by simpa using h)]
 | x :: t, j + 1, hj, hl, h => by
  unfold atR
  rw [if_neg (hl x (by simp)), atR_at (l := t) j (by simpa using hj) (fun y hy => hl y (by simp [hy])) (by simpa using h)]
  rfl
theorem atR_lt {r : Rq} : ∀ {l : List Rq} {i : Nat}, atR r l = some i → i < l.length
 | [], i, h => by simp [atR] at h
 | x :: t, i, h => by
  unfold atR at h
  split at h
  · simp only [Option.some.injEq] at h; subst h; simp
  · rcases hn : atR r t with _ | k
    · rw [hn] at h; simp at h
    · rw [hn] at h
      simp only [Option.map_some, Option.some.injEq] at h
      have := atR_lt hn
      simp only [List.length_cons]
      omega

set_option maxRecDepth 100000 in
set_option maxHeartbeats 2000000 in
theorem reqIndex (A : Option Addr) (a : Nat) (l : List Rq) (r : Rq) (w : World) (hl : l.length ≤ 1048576) (hr : Rd 5 Rq.cells w A l) :
 Calls Try.prog 54 #[.slice A l.length a, r.val] w fun e w' => e = .returned (.int .i64 (atV (atR r l))) ∧ Below w.heap.size w w' := by
 have HR := Lib.hid hr
 have KR := Lib.hid (Five.new (u0 := .int .i64 r.c) (u1 := .int .i64 r.n) (u2 := .int .i64 r.o) (u3 := .int .i64 r.x) (u4 := .int .i64 r.y) (t := 37) w)
 have Z : Hid (Below w.heap.size w (w.alloc (.cells #[.int .i64 r.c, .int .i64 r.n, .int .i64 r.o, .int .i64 r.x, .int .i64 r.y] 37))) := (Below.refl _ _).alloc (Nat.le_refl _) _
 clear hr
 go_enter Try.func54, Try.ntmps54
 go_wp2
 go_loopw [8] (fun v wr => ∃ j : Nat, j ≤ l.length ∧ v = .int .i64 (j : Int) ∧ Hid (∀ x ∈ l.take j, x ≠ r) ∧ Hid (Five wr w.heap.size 37 (.int .i64 r.c) (.int .i64 r.n) (.int .i64 r.o) (.int .i64 r.x) (.int .i64 r.y)) ∧ Hid (Below w.heap.size w wr)) (fun v _ => l.length - (intOf v).toNat)
 case atStart => exact ⟨0, Nat.zero_le _, rfl, by simp [Hid], KR.out, Z.out⟩
 case round =>
  clear KR Z
  obtain ⟨j, hj, rfl, ha, KR, hb⟩ := hrel
  by_cases hlt : j < l.length
  · obtain ⟨g, o, rfl, ca⟩ := Rd.below HR.out hb.out j hlt
    have HT := Lib.hid (List.take_succ_eq_append_getElem hlt)
    obtain ⟨x, hx⟩ : ∃ x, x = l[j] := ⟨_, rfl⟩
    rw [← hx] at ca HT
    have HX := Lib.hid hx
    clear hx
    have xr0 : wr.cell? ⟨g, o + j * 5, none⟩ = some (.int .i64 x.c) := ca 0 _ rfl
    have xr1 : wr.cell? ⟨g, o + j * 5 + 1, none⟩ = some (.int .i64 x.n) := ca 1 _ rfl
    have xr2 : wr.cell? ⟨g, o + j * 5 + 2, none⟩ = some (.int .i64 x.o) := ca 2 _ rfl
    have xr3 : wr.cell? ⟨g, o + j * 5 + 3, none⟩ = some (.int .i64 x.x) := ca 3 _ rfl
    have xr4 : wr.cell? ⟨g, o + j * 5 + 4, none⟩ = some (.int .i64 x.y) := ca 4 _ rfl
    clear ca
    have lx : g < wr.heap.size := World.block_lt_of_cell? wr _ xr0
    have i0 : (0 : Int) ≤ (j : Int) := by omega
    have i1 : (j : Int) < (l.length : Int) := by omega
    have hq : ∀ W, (binOp .eql 37 (.agg #[.int .i64 r.c, .int .i64 r.n, .int .i64 r.o, .int .i64 r.x, .int .i64 r.y]) (.agg #[.int .i64 x.c, .int .i64 x.n, .int .i64 x.o, .int .i64 x.x, .int .i64 x.y])).run Try.prog W = .ok (.bool (decide (r = x))) W := fun W => eqlReq r x W
    obtain ⟨y0, y1, y2, y3, y4⟩ := KR.out.cells
    have ly := KR.out.lt
    go_wp2_with (fail)
    refine wp_region_held_drew (S := fun WS => Below wr.heap.size wr WS) (by kernel_rfl) ((Below.refl _ _).drew) (fun hS0 => ?_)
    refine tkI 0 11 (v := ?_) rfl rfl ?_ ?_
    rotate_left
    · intro wS hSw; obtain ⟨hcS, hfS⟩ := bcell hSw; go_simp; (try with_reducible rfl)
    (try simp only [Act.put, pu1, pu2, pu3])
    refine tkI 1 12 (v := ?_) rfl rfl ?_ ?_
    rotate_left
    · intro wS hSw; obtain ⟨hcS, hfS⟩ := bcell hSw; go_simp; (try with_reducible rfl)
    (try simp only [Act.put, pu1, pu2, pu3])
    refine tkI 2 13 (v := ?_) rfl rfl ?_ ?_
    rotate_left
    · intro wS hSw; obtain ⟨hcS, hfS⟩ := bcell hSw; go_simp; (try with_reducible rfl)
    (try simp only [Act.put, pu1, pu2, pu3])
    refine tkI 3 14 (v := ?_) rfl rfl ?_ ?_
    rotate_left
    · intro wS hSw; obtain ⟨hcS, hfS⟩ := bcell hSw; go_simp; (try with_reducible rfl)
    (try simp only [Act.put, pu1, pu2, pu3])
    refine tkI 4 15 (v := ?_) rfl rfl ?_ ?_
    rotate_left
    · intro wS hSw; obtain ⟨hcS, hfS⟩ := bcell hSw; go_simp; (try with_reducible rfl)
    (try simp only [Act.put, pu1, pu2, pu3])
    refine tkI 5 16 (v := ?_) rfl rfl ?_ ?_
    rotate_left
    · intro wS hSw; obtain ⟨hcS, hfS⟩ := bcell hSw; go_simp; (try with_reducible rfl)
    (try simp only [Act.put, pu1, pu2, pu3])
    refine wpAnyH_done (by kernel_rfl) ?_ _
    have BB := Lib.hid (Below.and hb.out (Below.refl wr.heap.size wr).drew)
    clear xr0 xr1 xr2 xr3 xr4 lx y0 y1 y2 y3 y4 ly hq hS0
    rcases hd : decide (r = x) with _ | _
    · have hne : x ≠ r := by simpa [eq_comm] using hd
      have HN : Hid (∀ y ∈ l.take (j + 1), y ≠ r) := by
       show ∀ y ∈ l.take (j + 1), y ≠ r
       rw [HT.out]
       intro y hy
       simp only [List.mem_append, List.mem_singleton] at hy
       rcases hy with hy | rfl
       · exact ha.out y hy
       · exact hne
      clear hd hne
      go_wp2
      go_roundw
      case rel => exact ⟨j + 1, by omega, by go_num, HN.out, KR.out.drewK, BB.out⟩
      case measure => (simp [intOf]; try omega)
    · have hey : l[j] = r := by rw [← HX.out]; simpa [eq_comm] using hd
      have HV := Lib.hid (atR_at j hlt ha.out hey)
      clear hd hey
      go_wp2
      go_light
      go_ret
      exact ⟨by rw [HV.out]; rfl, BB.out⟩
  · have i1 : ¬ (j : Int) < (l.length : Int) := by omega
    obtain rfl : j = l.length := by omega
    rw [List.take_length] at ha
    have HV := Lib.hid (atR_none ha.out)
    go_wp2
    go_light
    go_ret
    exact ⟨by rw [HV.out]; rfl, hb.out⟩

set_option maxRecDepth 100000 in
set_option maxHeartbeats 2000000 in
theorem l8At (A : Option Addr) (n a : Nat) (B : Option Addr) (b : Nat) (l : List Rq) (k : Int) (r : Rq) (w : World) (hl : l.length ≤ 1048576) (hr : Rd 5 Rq.cells w B l) :
 Calls Try.prog 56 #[aheadV A n a B l.length b k, r.val] w fun e w' => e = .returned (.int .i64 (atV (atR r l))) ∧ Below w.heap.size w w' := by
 have HR := Lib.hid hr
 have KA := Lib.hid ((Three.new (u0 := .slice A n a) (u1 := .slice B l.length b) (u2 := .int .i64 k) (t := 25) w).alloc (.cells #[.int .i64 r.c, .int .i64 r.n, .int .i64 r.o, .int .i64 r.x, .int .i64 r.y] 37))
 have KR : Hid (Five ((w.alloc (.cells #[.slice A n a, .slice B l.length b, .int .i64 k] 25)).alloc (.cells #[.int .i64 r.c, .int .i64 r.n, .int .i64 r.o, .int .i64 r.x, .int .i64 r.y] 37)) (w.heap.size + 1) 37 (.int .i64 r.c) (.int .i64 r.n) (.int .i64 r.o) (.int .i64 r.x) (.int .i64 r.y)) := by have := Five.new (u0 := .int .i64 r.c) (u1 := .int .i64 r.n) (u2 := .int .i64 r.o) (u3 := .int .i64 r.x) (u4 := .int .i64 r.y) (t := 37) (w.alloc (.cells #[.slice A n a, .slice B l.length b, .int .i64 k] 25)); simpa [Hid] using this
 have Z : Hid (Below w.heap.size w ((w.alloc (.cells #[.slice A n a, .slice B l.length b, .int .i64 k] 25)).alloc (.cells #[.int .i64 r.c, .int .i64 r.n, .int .i64 r.o, .int .i64 r.x, .int .i64 r.y] 37))) := below_alloc2 w _ _
 clear hr
 go_enter Try.func56, Try.ntmps56
 go_wp2
 go_loopw [5] (fun v wr => ∃ j : Nat, j ≤ l.length ∧ v = .int .i64 (j : Int) ∧ Hid (∀ x ∈ l.take j, x ≠ r) ∧ Hid (Three wr w.heap.size 25 (.slice A n a) (.slice B l.length b) (.int .i64 k)) ∧ Hid (Five wr (w.heap.size + 1) 37 (.int .i64 r.c) (.int .i64 r.n) (.int .i64 r.o) (.int .i64 r.x) (.int .i64 r.y)) ∧ Hid (Below w.heap.size w wr)) (fun v _ => l.length - (intOf v).toNat)
 case atStart => exact ⟨0, Nat.zero_le _, rfl, by simp [Hid], KA.out, KR.out, Z.out⟩
 case round =>
  clear KA KR Z
  obtain ⟨j, hj, rfl, ha, KA, KR, hb⟩ := hrel
  obtain ⟨q0, q1, q2⟩ := KA.out.cells
  have lq := KA.out.lt
  by_cases hlt : j < l.length
  · obtain ⟨g, o, rfl, ca⟩ := Rd.below HR.out hb.out j hlt
    have HT := Lib.hid (List.take_succ_eq_append_getElem hlt)
    obtain ⟨x, hx⟩ : ∃ x, x = l[j] := ⟨_, rfl⟩
    rw [← hx] at ca HT
    have HX := Lib.hid hx
    clear hx
    have xr0 : wr.cell? ⟨g, o + j * 5, none⟩ = some (.int .i64 x.c) := ca 0 _ rfl
    have xr1 : wr.cell? ⟨g, o + j * 5 + 1, none⟩ = some (.int .i64 x.n) := ca 1 _ rfl
    have xr2 : wr.cell? ⟨g, o + j * 5 + 2, none⟩ = some (.int .i64 x.o) := ca 2 _ rfl
    have xr3 : wr.cell? ⟨g, o + j * 5 + 3, none⟩ = some (.int .i64 x.x) := ca 3 _ rfl
    have xr4 : wr.cell? ⟨g, o + j * 5 + 4, none⟩ = some (.int .i64 x.y) := ca 4 _ rfl
    clear ca
    have lx : g < wr.heap.size := World.block_lt_of_cell? wr _ xr0
    have i0 : (0 : Int) ≤ (j : Int) := by omega
    have i1 : (j : Int) < (l.length : Int) := by omega
    have hq : ∀ W, (binOp .eql 37 (.agg #[.int .i64 x.c, .int .i64 x.n, .int .i64 x.o, .int .i64 x.x, .int .i64 x.y]) (.agg #[.int .i64 r.c, .int .i64 r.n, .int .i64 r.o, .int .i64 r.x, .int .i64 r.y])).run Try.prog W = .ok (.bool (decide (x = r))) W := fun W => eqlReq x r W
    obtain ⟨y0, y1, y2, y3, y4⟩ := KR.out.cells
    have ly := KR.out.lt
    go_wp2_with (fail)
    refine wp_region_held_drew (S := fun WS => Below wr.heap.size wr WS) (by kernel_rfl) ((Below.refl _ _).drew) (fun hS0 => ?_)
    refine tkI 0 13 (v := ?_) rfl rfl ?_ ?_
    rotate_left
    · intro wS hSw; obtain ⟨hcS, hfS⟩ := bcell hSw; go_simp; (try with_reducible rfl)
    (try simp only [Act.put, pu1, pu2, pu3])
    refine tkI 1 14 (v := ?_) rfl rfl ?_ ?_
    rotate_left
    · intro wS hSw; obtain ⟨hcS, hfS⟩ := bcell hSw; go_simp; (try with_reducible rfl)
    (try simp only [Act.put, pu1, pu2, pu3])
    refine tkI 2 15 (v := ?_) rfl rfl ?_ ?_
    rotate_left
    · intro wS hSw; obtain ⟨hcS, hfS⟩ := bcell hSw; go_simp; (try with_reducible rfl)
    (try simp only [Act.put, pu1, pu2, pu3])
    refine tkI 3 16 (v := ?_) rfl rfl ?_ ?_
    rotate_left
    · intro wS hSw; obtain ⟨hcS, hfS⟩ := bcell hSw; go_simp; (try with_reducible rfl)
    (try simp only [Act.put, pu1, pu2, pu3])
    refine tkI 4 17 (v := ?_) rfl rfl ?_ ?_
    rotate_left
    · intro wS hSw; obtain ⟨hcS, hfS⟩ := bcell hSw; go_simp; (try with_reducible rfl)
    (try simp only [Act.put, pu1, pu2, pu3])
    refine tkI 5 18 (v := ?_) rfl rfl ?_ ?_
    rotate_left
    · intro wS hSw; obtain ⟨hcS, hfS⟩ := bcell hSw; go_simp; (try with_reducible rfl)
    (try simp only [Act.put, pu1, pu2, pu3])
    refine tkI 6 19 (v := ?_) rfl rfl ?_ ?_
    rotate_left
    · intro wS hSw; obtain ⟨hcS, hfS⟩ := bcell hSw; go_simp; (try with_reducible rfl)
    (try simp only [Act.put, pu1, pu2, pu3])
    refine wpAnyH_done (by kernel_rfl) ?_ _
    have BB := Lib.hid (Below.and hb.out (Below.refl wr.heap.size wr).drew)
    clear xr0 xr1 xr2 xr3 xr4 lx y0 y1 y2 y3 y4 ly hq hS0 q0 q1 q2 lq
    rcases hd : decide (x = r) with _ | _
    · have hne : x ≠ r := by simpa using hd
      have HN : Hid (∀ y ∈ l.take (j + 1), y ≠ r) := by
       show ∀ y ∈ l.take (j + 1), y ≠ r
       rw [HT.out]
       intro y hy
       simp only [List.mem_append, List.mem_singleton] at hy
       rcases hy with hy | rfl
       · exact ha.out y hy
       · exact hne
      clear hd hne
      go_wp2
      go_roundw
      case rel => exact ⟨j + 1, by omega, by go_num, HN.out, KA.out.drew, KR.out.drewK, BB.out⟩
      case measure => (simp [intOf]; try omega)
    · have hey : l[j] = r := by rw [← HX.out]; simpa using hd
      have HV := Lib.hid (atR_at j hlt ha.out hey)
      clear hd hey
      go_wp2
      go_light
      go_ret
      exact ⟨by rw [HV.out]; rfl, BB.out⟩
  · have i1 : ¬ (j : Int) < (l.length : Int) := by omega
    obtain rfl : j = l.length := by omega
    rw [List.take_length] at ha
    have HV := Lib.hid (atR_none ha.out)
    go_wp2
    go_light
    go_ret
    exact ⟨by rw [HV.out]; rfl, hb.out⟩

end Go.Proofs.Ytnpdlpkomfegfaa
