import Derived.Test.YtameldhdegcpoaaLa
namespace Go.Proofs.Ytameldhdegcpoaa
open Go.ChangeShapes Go.WideShapes Go.ChangeAt Go.RowKit
set_option linter.unusedVariables false
set_option linter.unusedSimpArgs false
theorem in_below {w w' : World} {A : Option Addr} {n : Nat} (h : InB w A n) (hb : Below w.heap.size w w') : InB w' A n := fun i hi => by
 obtain ⟨b, off, u, h1, h2, h3⟩ := h i hi
 exact ⟨b, off, u, h1, (Below.grownBy hb none).cell h2 (by simp), h3⟩
set_option maxRecDepth 100000 in
set_option maxHeartbeats 4000000 in
theorem drawAheadCodes {w : World} {A : Option Addr} {n c : Nat} (hn : n ≤ 1048576) (hc : n ≤ c) (hb : InB w A n) :
 Calls Try.prog 42 #[.slice A n c] w fun e w' => ∃ (D1 : Option Addr) (d : Nat) (T1 : Option Addr) (t : Nat) (D T : List Rq) (k : Int), e = .returned (aheadV D1 D.length d T1 T.length t k) ∧ D.length ≤ 8 ∧ T.length ≤ 5 ∧ OwA w' w.heap.size D1 d T1 t D T ∧ Below w.heap.size w w' := by
 have hba : Below w.heap.size w (w.alloc (.cells #[.slice none 0 0, .slice none 0 0, .int .i64 0] 33)) := (Below.refl _ _).alloc (Nat.le_refl _) _
 have KZ := Lib.hid (Three.new (u0 := .slice none 0 0) (u1 := .slice none 0 0) (u2 := .int .i64 0) (t := 33) w)
 have HB := Lib.hid (in_below hb hba)
 have BA := Lib.hid hba
 have HS : w.heap.size < (w.alloc (.cells #[.slice none 0 0, .slice none 0 0, .int .i64 0] 33)).heap.size := KZ.out.lt
 clear hb hba
 go_enter Try.func42, Try.ntmps42
 go_upto_region 1 with (fail)
 obtain ⟨w0, hw0⟩ : ∃ X, X = w.alloc (.cells #[.slice none 0 0, .slice none 0 0, .int .i64 0] 33) := ⟨_, rfl⟩
 rw [← hw0] at KZ HB BA HS ⊢
 clear hw0
 go_wp2_with (fail)
 refine (l20Open hn hc HB.out).mono ?_
 rintro e w1 ⟨m, rfl, hr, h1⟩
 have RD := Lib.hid hr
 have BA := Lib.hid (Below.and BA.out h1)
 have KZ := Lib.hid (Three.below KZ.out h1 KZ.out.lt)
 have hR : w0.heap.size < w1.heap.size := hr.lt
 clear hr h1 HB
 go_wp2_with (fail)
 refine (l20Ahead RD.out (by omega)).mono ?_
 rintro e w2 ⟨D1, d, T1, t, D, T, k, rfl, hD, hT, oa, q, q0, q1, hr, hg⟩
 have KZ := Lib.hid (KZ.out.grown hg (fun e => by injection e with e; omega))
 have BA := Lib.hid (BA.out.trans (Below.of_grown hg (by omega) (fun x hx => by injection hx with hx; omega)))
 have oa := Lib.hid (oa.base (show w.heap.size ≤ w1.heap.size by omega))
 have OG := Lib.hid (((oa.out.box KZ.out 0 (.slice D1 D.length d)).box (KZ.out.set0 _) 1 (.slice T1 T.length t)).box ((KZ.out.set0 _).set1 _) 2 (.int .i64 k))
 have BG := Lib.hid (((BA.out.setCell (p := ⟨w.heap.size, 0, none⟩) (Nat.le_refl _) (.slice D1 D.length d)).setCell (p := ⟨w.heap.size, 1, none⟩) (Nat.le_refl _) (.slice T1 T.length t)).setCell (p := ⟨w.heap.size, 2, none⟩) (Nat.le_refl _) (.int .i64 k))
 obtain ⟨z0, z1, z2⟩ := KZ.out.cells
 have zf := KZ.out.frozen
 clear hr hg RD BA oa KZ
 go_wp2
 refine bodyPost_ret (v := aheadV D1 D.length d T1 T.length t k) (by simp [results, Try.results42, go_sem, z0, z1, z2]) rfl ⟨D1, d, T1, t, D, T, k, rfl, hD, hT, OG.out, BG.out⟩
end Go.Proofs.Ytameldhdegcpoaa
