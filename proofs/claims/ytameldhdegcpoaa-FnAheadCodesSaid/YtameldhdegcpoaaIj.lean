import Derived.Test.YtameldhdegcpoaaIc
namespace Go.Proofs.Ytameldhdegcpoaa
open Go.ChangeShapes Go.WideShapes Go.ChangeAt Go.RowKit
set_option linter.unusedVariables false
set_option linter.unusedSimpArgs false
set_option maxRecDepth 100000 in
set_option maxHeartbeats 4000000 in
theorem implAheadCodes (A : Option Addr) (a : Nat) (B : Option Addr) (b : Nat) (D T : List Rq) (k : Int) (w : World) (hD : D.length ≤ 1048576) (hT : T.length ≤ 1048576) (h : RdAc w A a B b D T) :
 Calls Try.prog 23 #[aheadV A D.length a B T.length b k] w fun e w' => ∃ Q q, e = .returned (.slice Q (acG D T k).length q) ∧ w'.ownsRow w.heap.size 3 1 (.slice Q (acG D T k).length q) (acG D T k).length (ints (acG D T k)) ∧ Below w.heap.size w w' := by
 have HR := Lib.hid h
 have K1 := Lib.hid (Three.new (u0 := .slice A D.length a) (u1 := .slice B T.length b) (u2 := .int .i64 k) (t := 33) w)
 have Z : Hid (Below w.heap.size w (w.alloc (.cells #[.slice A D.length a, .slice B T.length b, .int .i64 k] 33))) := (Below.refl _ _).alloc (Nat.le_refl _) _
 clear h
 go_enter Try.func23, Try.ntmps23
 go_upto_region 1 with (fail)
 obtain ⟨w0, hw0⟩ : ∃ X, X = (w.alloc (.cells #[.slice A D.length a, .slice B T.length b, .int .i64 k] 33)) := ⟨_, rfl⟩
 rw [← hw0] at K1 Z ⊢
 clear hw0
 obtain ⟨p0, p1, p2⟩ := K1.out.cells
 go_wp2_with (fail)
 refine (implAheadOk A a B b D T k _ hD hT (Rd.below HR.out.r.d Z.out) (Rd.below HR.out.r.t Z.out)).mono ?_
 rintro e w1 ⟨rfl, hb⟩
 have K1 := Lib.hid (Three.below K1.out hb K1.out.lt)
 have Z := Lib.hid (Below.and Z.out hb)
 clear hb p0 p1 p2
 rcases hok : ahB D T k with _ | _
 · have HX := Lib.hid (show acG D T k = [] by unfold acG; rw [hok]; rfl)
   clear hok
   go_wp2
   go_light
   go_ret
   refine ⟨none, 0, ?_, ?_, Z.out⟩
   · rw [HX.out]; rfl
   · rw [HX.out]; exact World.ownsRow_nil _ _ _ _
 have HX := Lib.hid (show acG D T k = codesG (foldG D) T by unfold acG; rw [if_pos hok])
 have HOK := Lib.hid hok
 clear hok
 obtain ⟨p0, p1, p2⟩ := K1.out.cells
 go_wp2_with (fail)
 refine (forecastOf A a B b D T k w1 HOK.out (HR.out.below Z.out)).mono ?_
 rintro e w2 ⟨pf, lg, A1, a1, B1, b1, C1, c1, Q, q, V, v, us, A0, a0, B0, b0, C0, c0, rfl, hlg, hpf, fc, _, _, _, _, hb⟩
 have F5 := Lib.hid fc.at_
 have hl := Z.out.size
 have CO := Lib.hid (own_base fc.co (show w.heap.size ≤ pf by omega))
 have Z := Lib.hid (Below.and Z.out hb)
 clear hb p0 p1 p2 fc hl
 obtain ⟨x0, x1, x2, x3, x4⟩ := F5.out.cells
 go_wp2
 go_light
 go_ret
 refine ⟨Q, q, ?_, ?_, Z.out⟩
 · rw [HX.out]; rfl
 · rw [HX.out]; exact CO.out
end Go.Proofs.Ytameldhdegcpoaa
