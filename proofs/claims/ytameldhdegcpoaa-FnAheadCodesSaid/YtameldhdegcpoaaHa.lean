import Derived.Test.YtameldhdegcpoaaMH
import Derived.Test.YtameldhdegcpoaaME
namespace Go.Proofs.Ytameldhdegcpoaa
open Go.ChangeShapes Go.WideShapes Go.ChangeAt Go.RowKit
set_option linter.unusedVariables false
set_option linter.unusedSimpArgs false
abbrev aheadV (A : Option Addr) (n a : Nat) (B : Option Addr) (m b : Nat) (k : Int) : Value := .agg #[.slice A n a, .slice B m b, .int .i64 k]
def ahB (D W : List Rq) (k : Int) : Bool := decide (D.length + W.length ≤ 60) && (inB k 0 99 && (D.all okB && W.all okB))
theorem notOkFn (r : Rq) (w : World) :
 Calls Try.prog 92 #[r.val] w fun e w' => e = .returned (.bool (!okB r)) ∧ Below w.heap.size w w' := by
 have Z0 : Hid (Below w.heap.size w (w.alloc (.cells #[.int .i64 r.c, .int .i64 r.n, .int .i64 r.o, .int .i64 r.x, .int .i64 r.y] 49))) := (Below.refl _ _).alloc (Nat.le_refl _) _
 go_enter Try.func92, Try.ntmps92
 go_wp2_with (fail)
 refine (okOrNull r _).mono ?_
 rintro e w1 ⟨rfl, hb⟩
 have Z0 := Lib.hid (Below.and Z0.out hb)
 clear hb
 go_wp2
 go_light
 go_ret
 exact ⟨rfl, Z0.out⟩
set_option maxRecDepth 100000 in
theorem reqIndexFunc (A : Option Addr) (a : Nat) (l : List Rq) (w : World) (hl : l.length ≤ maxLen) (hr : Rd 5 Rq.cells w A l) :
 Calls Try.prog 108 #[.slice A l.length a, .func (.func 92) #[] #[]] w fun e w' => ∃ i : Int, e = .returned (.int .i64 i) ∧ decide (0 ≤ i) = !l.all okB ∧ Below w.heap.size w w' := by
 unfold maxLen at hl
 have HR := Lib.hid hr
 clear hr
 go_enter Try.func108, Try.ntmps108
 go_wp2
 go_loopw [8] (fun v wr => ∃ j : Nat, j ≤ l.length ∧ v = .int .i64 (j : Int) ∧ Hid ((l.take j).all okB = true) ∧ Hid (Below w.heap.size w wr)) (fun v _ => l.length - (intOf v).toNat)
 case atStart => exact ⟨0, Nat.zero_le _, rfl, by simp [Hid], Below.refl _ _⟩
 case round =>
  obtain ⟨j, hj, rfl, ha, hb⟩ := hrel
  by_cases hlt : j < l.length
  · obtain ⟨g, o, rfl, ca⟩ := Rd.below HR.out hb.out j hlt
    have HT := Lib.hid (List.take_succ_eq_append_getElem hlt)
    have HM := Lib.hid (List.getElem_mem hlt)
    generalize l[j] = x at ca HT HM
    have xr0 : wr.cell? ⟨g, o + j * 5, none⟩ = some (.int .i64 x.c) := ca 0 _ rfl
    have xr1 : wr.cell? ⟨g, o + j * 5 + 1, none⟩ = some (.int .i64 x.n) := ca 1 _ rfl
    have xr2 : wr.cell? ⟨g, o + j * 5 + 2, none⟩ = some (.int .i64 x.o) := ca 2 _ rfl
    have xr3 : wr.cell? ⟨g, o + j * 5 + 3, none⟩ = some (.int .i64 x.x) := ca 3 _ rfl
    have xr4 : wr.cell? ⟨g, o + j * 5 + 4, none⟩ = some (.int .i64 x.y) := ca 4 _ rfl
    clear ca
    have i0 : (0 : Int) ≤ (j : Int) := by omega
    have i1 : (j : Int) < (l.length : Int) := by omega
    go_wp2_with (fail)
    refine (notOkFn x _).mono ?_
    rintro e w1 ⟨rfl, h1⟩
    have BB := Lib.hid (Below.and hb.out h1)
    clear h1 xr0 xr1 xr2 xr3 xr4
    rcases hk : okB x with _ | _
    · have HF : Hid (l.all okB = false) := by
       show _ = _
       rw [List.all_eq_false]
       exact ⟨x, HM.out, by simp [hk]⟩
      clear hk
      go_wp2
      go_light
      go_ret
      exact ⟨(j : Int), rfl, by rw [HF.out]; simp, BB.out⟩
    · have HN : Hid ((l.take (j + 1)).all okB = true) := by
       show _ = _
       rw [HT.out, List.all_append, ha.out]
       simp [hk]
      clear hk
      go_wp2
      go_roundw
      case rel => exact ⟨j + 1, by omega, by go_num, HN.out, BB.out⟩
      case measure => (simp [intOf]; try omega)
  · have i1 : ¬ (j : Int) < (l.length : Int) := by omega
    obtain rfl : j = l.length := by omega
    rw [List.take_length] at ha
    go_wp2
    go_light
    go_ret
    exact ⟨-1, rfl, by rw [ha.out]; rfl, hb.out⟩
set_option maxRecDepth 100000 in
theorem reqContainsFunc (A : Option Addr) (a : Nat) (l : List Rq) (w : World) (hl : l.length ≤ maxLen) (hr : Rd 5 Rq.cells w A l) :
 Calls Try.prog 91 #[.slice A l.length a, .func (.func 92) #[] #[]] w fun e w' => e = .returned (.bool (!l.all okB)) ∧ Below w.heap.size w w' := by
 have HR := Lib.hid hr
 clear hr
 go_enter Try.func91, Try.ntmps91
 go_wp2_with (fail)
 refine (reqIndexFunc A a l _ hl HR.out).mono ?_
 rintro e w1 ⟨i, rfl, hi, hb⟩
 have HI := Lib.hid hi
 clear hi
 obtain ⟨b, hb0⟩ : ∃ b, decide (0 ≤ i) = b := ⟨_, rfl⟩
 have HJ := Lib.hid (show (!l.all okB) = b by rw [← HI.out, hb0])
 go_wp2
 go_light
 go_ret
 exact ⟨by rw [HJ.out]; rfl, hb⟩
theorem allOkOrNull (A : Option Addr) (a : Nat) (l : List Rq) (w : World) (hl : l.length ≤ maxLen) (hr : Rd 5 Rq.cells w A l) :
 Calls Try.prog 60 #[.slice A l.length a] w fun e w' => e = .returned (.bool (l.all okB)) ∧ Below w.heap.size w w' := by
 have HR := Lib.hid hr
 clear hr
 go_enter Try.func60, Try.ntmps60
 go_wp2_with (fail)
 refine (reqContainsFunc A a l _ hl HR.out).mono ?_
 rintro e w1 ⟨rfl, hb⟩
 obtain ⟨b, hb0⟩ : ∃ b, l.all okB = b := ⟨_, rfl⟩
 have HBB := Lib.hid hb0
 rw [hb0]
 clear hb0
 rcases b with _ | _
 all_goals go_wp2
 all_goals go_light
 all_goals go_ret
 all_goals exact ⟨by rw [HBB.out]; rfl, hb⟩
set_option maxRecDepth 100000 in
set_option maxHeartbeats 2000000 in
theorem implAheadOk (A : Option Addr) (a : Nat) (B : Option Addr) (b : Nat) (D W : List Rq) (k : Int) (w : World) (hD : D.length ≤ 1048576) (hW : W.length ≤ 1048576) (rD : Rd 5 Rq.cells w A D) (rW : Rd 5 Rq.cells w B W) :
 Calls Try.prog 29 #[aheadV A D.length a B W.length b k] w fun e w' => e = .returned (.bool (ahB D W k)) ∧ Below w.heap.size w w' := by
 have z0 : Below w.heap.size w (w.alloc (.cells #[.slice A D.length a, .slice B W.length b, .int .i64 k] 33)) := (Below.refl _ _).alloc (Nat.le_refl _) _
 have HD := Lib.hid (Rd.below rD z0)
 have HW := Lib.hid (Rd.below rW z0)
 have K0 := Lib.hid (Three.new (u0 := .slice A D.length a) (u1 := .slice B W.length b) (u2 := .int .i64 k) (t := 33) w)
 have BB := Lib.hid z0
 have HV := Lib.hid (show ahB D W k = (decide ((D.length : Int) + (W.length : Int) ≤ 60) && (inB k 0 99 && (D.all okB && W.all okB))) by
  unfold ahB
  congr 1
  simp; omega)
 have ew : IntKind.i64.wrap ((D.length : Int) + (W.length : Int)) = (D.length : Int) + (W.length : Int) := IntWalk.i64_in _ (by omega)
 clear rD rW z0
 rcases h1 : decide ((D.length : Int) + (W.length : Int) ≤ 60) with _ | _
 · have HF := Lib.hid (show ahB D W k = false by rw [HV.out, h1]; rfl)
   go_enter Try.func29, Try.ntmps29
   go_wp2
   go_light
   go_ret
   exact ⟨ret_bool (by rw [HF.out]), BB.out⟩
 rcases h2 : inB k 0 99 with _ | _
 · have HF := Lib.hid (show ahB D W k = false by rw [HV.out, h1, h2]; rfl)
   go_enter Try.func29, Try.ntmps29
   go_wp2_with (fail)
   refine (implIn _ _ _ _).mono ?_
   rintro e w1 ⟨rfl, rfl⟩
   rw [h2]
   go_wp2
   go_light
   go_ret
   exact ⟨ret_bool (by rw [HF.out]), BB.out⟩
 have HV2 := Lib.hid (show ahB D W k = (D.all okB && W.all okB) by rw [HV.out, h1, h2]; rfl)
 go_enter Try.func29, Try.ntmps29
 go_wp2_with (fail)
 refine (implIn _ _ _ _).mono ?_
 rintro e w1 ⟨rfl, rfl⟩
 rw [h2]
 go_wp2_with (fail)
 refine (allOkOrNull A a D _ (by unfold maxLen; omega) HD.out).mono ?_
 rintro e w2 ⟨rfl, hb⟩
 have BB := Lib.hid (Below.and BB.out hb)
 have HW := Lib.hid (Rd.below HW.out hb)
 obtain ⟨q0, q1, q2⟩ := (Three.below K0.out hb (by simp)).cells
 clear hb
 rcases h3 : D.all okB with _ | _
 · have HF := Lib.hid (show ahB D W k = false by rw [HV2.out, h3]; rfl)
   clear h3
   go_wp2
   go_light
   go_ret
   exact ⟨ret_bool (by rw [HF.out]), BB.out⟩
 have HF := Lib.hid (show ahB D W k = W.all okB by rw [HV2.out, h3]; rfl)
 clear h3
 go_wp2_with (fail)
 refine (allOkOrNull B b W _ (by unfold maxLen; omega) HW.out).mono ?_
 rintro e w3 ⟨rfl, hb⟩
 have BB := Lib.hid (Below.and BB.out hb)
 clear hb
 obtain ⟨b4, hb4⟩ : ∃ b4, W.all okB = b4 := ⟨_, rfl⟩
 have HF := Lib.hid (show ahB D W k = b4 by rw [HF.out, hb4])
 rw [hb4]
 clear hb4
 go_wp2
 go_light
 go_ret
 exact ⟨ret_bool (by rw [HF.out]), BB.out⟩
end Go.Proofs.Ytameldhdegcpoaa
