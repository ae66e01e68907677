import Derived.Test.YtameldhdegcpoaaRows
import Derived.WalkKit
import Derived.ProofKit
import Derived.Outline
import Derived.Lib.Hide
import Derived.Deep.Light
import Derived.BigQuiet
import Derived.Deep.QuietTactic
import Derived.StillTailTactics
import Derived.Deep.RegionHeld3
import Derived.OpenShut
import Derived.Deep.Fields
namespace Go.Proofs.Ytameldhdegcpoaa
open Go.ChangeShapes Go.WideShapes Go.ChangeAt Go.RowKit
def inB (n lo hi : Int) : Bool := decide (lo ≤ n) && decide (n ≤ hi)
theorem specIn (n lo hi : Int) (w : World) :
 Calls Try.prog 79 #[.int .i64 n, .int .i64 lo, .int .i64 hi] w fun e w' => e = .returned (.bool (inB n lo hi)) ∧ w = w' := by
 go_enter Try.func79, Try.ntmps79
 by_cases h1 : lo ≤ n
 all_goals by_cases h2 : n ≤ hi
 all_goals go_wp2
 all_goals go_ret
 all_goals simp [inB]; omega
theorem implIn (n lo hi : Int) (w : World) :
 Calls Try.prog 59 #[.int .i64 n, .int .i64 lo, .int .i64 hi] w fun e w' => e = .returned (.bool (inB n lo hi)) ∧ w = w' := by
 go_enter Try.func59, Try.ntmps59
 by_cases h1 : lo ≤ n
 all_goals by_cases h2 : n ≤ hi
 all_goals go_wp2
 all_goals go_ret
 all_goals simp [inB]; omega
abbrev req (c n o x y : Int) : Value := .agg #[.int .i64 c, .int .i64 n, .int .i64 o, .int .i64 x, .int .i64 y]
theorem toReq (c n o x y : Int) (w : World) :
 Calls Try.prog 81 #[req c n o x y] w fun e w' => e = .returned (req c n o x y) ∧ Below w.heap.size w w' := by
 unfold req
 go_enter Try.func81, Try.ntmps81
 go_wp2
 exact bodyPost_ret (v := .agg #[.int .i64 c, .int .i64 n, .int .i64 o, .int .i64 x, .int .i64 y]) (by simp [results, Try.results81, go_sem]) rfl ⟨rfl, (((Below.refl _ _).alloc (Nat.le_refl _) _).alloc (by simp) _).alloc (by simp; omega) _⟩
def shapeB (o x y : Int) : Bool :=
 if o = 1 ∨ o = 3 then inB x 0 0 && inB y 0 0
 else if o = 2 then inB x (-1) 1 && inB y (-1) 1
 else if o = 4 then inB x 1 4 && inB y 0 0
 else if o = 5 then inB x 1 4 && inB y 1 9
 else false
def reqB (c n o x y : Int) : Bool := inB c 1 4 && (inB n 1 30 && shapeB o x y)
theorem ret_bool {a b : Bool} (h : a = b) : Ending.returned (.bool a) = .returned (.bool b) := by rw [h]
theorem l1Ok (c n o x y : Int) (w : World) :
 Calls Try.prog 67 #[req c n o x y] w fun e w' => e = .returned (.bool (reqB c n o x y)) ∧ Below w.heap.size w w' := by
 unfold req
 go_enter Try.func67, Try.ntmps67
 go_wp2
 all_goals go_ret
 all_goals refine ⟨ret_bool ?_, (Below.refl _ _).alloc (Nat.le_refl _) _⟩
 all_goals unfold reqB shapeB inB
 all_goals go_light
 all_goals first | (simp_all; done) | (simp_all; omega) | (rw [Bool.eq_iff_iff]; simp_all; omega)
def deedT (o : Int) : Value :=
 if o = 1 then .iface 121 (.agg #[]) else if o = 2 then .iface 122 (.agg #[]) else if o = 3 then .iface 123 (.agg #[]) else if o = 4 then .iface 124 (.agg #[]) else if o = 5 then .iface 125 (.agg #[]) else .nilIface
theorem deedOf (o : Int) (w : World) :
 Calls Try.prog 93 #[.int .i64 o] w fun e w' => e = .returned (.tuple #[deedT o, .bool (inB o 1 5)]) ∧ w = w' := by
 go_enter Try.func93, Try.ntmps93
 go_wp2
 all_goals go_light
 all_goals go_ret2
 all_goals refine ⟨?_, rfl⟩
 all_goals unfold deedT inB
 all_goals (simp_all; try omega)
theorem fitsD1 (x y : Int) (w : World) :
 Calls Try.prog 141 #[.agg #[], .int .i64 x, .int .i64 y] w fun e w' => e = .returned (.bool (shapeB 1 x y)) ∧ Below w.heap.size w w' := by
 go_enter Try.func141, Try.ntmps141
 go_wp2
 all_goals go_light
 all_goals go_ret
 all_goals refine ⟨ret_bool ?_, (Below.refl _ _).alloc (Nat.le_refl _) _⟩
 all_goals simp only [shapeB, inB]
 all_goals (rw [Bool.eq_iff_iff]; simp_all; try omega)
theorem fitsD2 (x y : Int) (w : World) :
 Calls Try.prog 143 #[.agg #[], .int .i64 x, .int .i64 y] w fun e w' => e = .returned (.bool (shapeB 2 x y)) ∧ Below w.heap.size w w' := by
 go_enter Try.func143, Try.ntmps143
 go_wp2
 all_goals go_light
 all_goals go_ret
 all_goals refine ⟨ret_bool ?_, (Below.refl _ _).alloc (Nat.le_refl _) _⟩
 all_goals simp only [shapeB, inB]
 all_goals (rw [Bool.eq_iff_iff]; simp_all; try omega)
theorem fitsD3 (x y : Int) (w : World) :
 Calls Try.prog 145 #[.agg #[], .int .i64 x, .int .i64 y] w fun e w' => e = .returned (.bool (shapeB 3 x y)) ∧ Below w.heap.size w w' := by
 go_enter Try.func145, Try.ntmps145
 go_wp2
 all_goals go_light
 all_goals go_ret
 all_goals refine ⟨ret_bool ?_, (Below.refl _ _).alloc (Nat.le_refl _) _⟩
 all_goals simp only [shapeB, inB]
 all_goals (rw [Bool.eq_iff_iff]; simp_all; try omega)
theorem fitsD4 (x y : Int) (w : World) :
 Calls Try.prog 147 #[.agg #[], .int .i64 x, .int .i64 y] w fun e w' => e = .returned (.bool (shapeB 4 x y)) ∧ Below w.heap.size w w' := by
 go_enter Try.func147, Try.ntmps147
 go_wp2
 all_goals go_light
 all_goals go_ret
 all_goals refine ⟨ret_bool ?_, (Below.refl _ _).alloc (Nat.le_refl _) _⟩
 all_goals simp only [shapeB, inB]
 all_goals (rw [Bool.eq_iff_iff]; simp_all; try omega)
theorem fitsD5 (x y : Int) (w : World) :
 Calls Try.prog 149 #[.agg #[], .int .i64 x, .int .i64 y] w fun e w' => e = .returned (.bool (shapeB 5 x y)) ∧ Below w.heap.size w w' := by
 go_enter Try.func149, Try.ntmps149
 go_wp2
 all_goals go_light
 all_goals go_ret
 all_goals refine ⟨ret_bool ?_, (Below.refl _ _).alloc (Nat.le_refl _) _⟩
 all_goals simp only [shapeB, inB]
 all_goals (rw [Bool.eq_iff_iff]; simp_all; try omega)
theorem method_fits1 (w : World) : (method 259 121 (.agg #[]) "loop.example/wapentake/impl.fits").run Try.prog w = .ok (141, .agg #[]) w := by kernel_rfl
set_option maxRecDepth 100000 in
theorem implReqOk1 (c n x y : Int) (w : World) :
 Calls Try.prog 64 #[req c n 1 x y] w fun e w' => e = .returned (.bool (reqB c n 1 x y)) ∧ Below w.heap.size w w' := by
 unfold req
 have hd : deedT 1 = .iface 121 (.agg #[]) := rfl
 have hi : inB 1 1 5 = true := rfl
 have hm := method_fits1
 rcases hc : inB c 1 4 with _ | _
 all_goals rcases hn : inB n 1 30 with _ | _
 all_goals go_enter Try.func64, Try.ntmps64
 all_goals go_wp2_with (first | (go_at_call 93; refine (deedOf _ _).mono ?_; rintro e w' ⟨rfl, rfl⟩; rw [hd, hi]) | (go_at_call 59; refine (implIn _ _ _ _).mono ?_; rintro e w' ⟨rfl, rfl⟩; first | rw [hc] | rw [hn]) | (go_at_call 141; refine (fitsD1 _ _ _).mono ?_; rintro e w' ⟨rfl, hb⟩))
 all_goals go_light
 all_goals go_ret
 all_goals unfold reqB
 all_goals simp only [hc, hn]
 all_goals first | exact ⟨rfl, (Below.refl _ _).alloc (Nat.le_refl _) _⟩ | exact ⟨by simp, ((Below.refl _ _).alloc (Nat.le_refl _) _).trans (hb.mono (by simp))⟩
theorem method_fits2 (w : World) : (method 259 122 (.agg #[]) "loop.example/wapentake/impl.fits").run Try.prog w = .ok (143, .agg #[]) w := by kernel_rfl
set_option maxRecDepth 100000 in
theorem implReqOk2 (c n x y : Int) (w : World) :
 Calls Try.prog 64 #[req c n 2 x y] w fun e w' => e = .returned (.bool (reqB c n 2 x y)) ∧ Below w.heap.size w w' := by
 unfold req
 have hd : deedT 2 = .iface 122 (.agg #[]) := rfl
 have hi : inB 2 1 5 = true := rfl
 have hm := method_fits2
 rcases hc : inB c 1 4 with _ | _
 all_goals rcases hn : inB n 1 30 with _ | _
 all_goals go_enter Try.func64, Try.ntmps64
 all_goals go_wp2_with (first | (go_at_call 93; refine (deedOf _ _).mono ?_; rintro e w' ⟨rfl, rfl⟩; rw [hd, hi]) | (go_at_call 59; refine (implIn _ _ _ _).mono ?_; rintro e w' ⟨rfl, rfl⟩; first | rw [hc] | rw [hn]) | (go_at_call 143; refine (fitsD2 _ _ _).mono ?_; rintro e w' ⟨rfl, hb⟩))
 all_goals go_light
 all_goals go_ret
 all_goals unfold reqB
 all_goals simp only [hc, hn]
 all_goals first | exact ⟨rfl, (Below.refl _ _).alloc (Nat.le_refl _) _⟩ | exact ⟨by simp, ((Below.refl _ _).alloc (Nat.le_refl _) _).trans (hb.mono (by simp))⟩
theorem method_fits3 (w : World) : (method 259 123 (.agg #[]) "loop.example/wapentake/impl.fits").run Try.prog w = .ok (145, .agg #[]) w := by kernel_rfl
set_option maxRecDepth 100000 in
theorem implReqOk3 (c n x y : Int) (w : World) :
 Calls Try.prog 64 #[req c n 3 x y] w fun e w' => e = .returned (.bool (reqB c n 3 x y)) ∧ Below w.heap.size w w' := by
 unfold req
 have hd : deedT 3 = .iface 123 (.agg #[]) := rfl
 have hi : inB 3 1 5 = true := rfl
 have hm := method_fits3
 rcases hc : inB c 1 4 with _ | _
 all_goals rcases hn : inB n 1 30 with _ | _
 all_goals go_enter Try.func64, Try.ntmps64
 all_goals go_wp2_with (first | (go_at_call 93; refine (deedOf _ _).mono ?_; rintro e w' ⟨rfl, rfl⟩; rw [hd, hi]) | (go_at_call 59; refine (implIn _ _ _ _).mono ?_; rintro e w' ⟨rfl, rfl⟩; first | rw [hc] | rw [hn]) | (go_at_call 145; refine (fitsD3 _ _ _).mono ?_; rintro e w' ⟨rfl, hb⟩))
 all_goals go_light
 all_goals go_ret
 all_goals unfold reqB
 all_goals simp only [hc, hn]
 all_goals first | exact ⟨rfl, (Below.refl _ _).alloc (Nat.le_refl _) _⟩ | exact ⟨by simp, ((Below.refl _ _).alloc (Nat.le_refl _) _).trans (hb.mono (by simp))⟩
theorem method_fits4 (w : World) : (method 259 124 (.agg #[]) "loop.example/wapentake/impl.fits").run Try.prog w = .ok (147, .agg #[]) w := by kernel_rfl
set_option maxRecDepth 100000 in
theorem implReqOk4 (c n x y : Int) (w : World) :
 Calls Try.prog 64 #[req c n 4 x y] w fun e w' => e = .returned (.bool (reqB c n 4 x y)) ∧ Below w.heap.size w w' := by
 unfold req
 have hd : deedT 4 = .iface 124 (.agg #[]) := rfl
 have hi : inB 4 1 5 = true := rfl
 have hm := method_fits4
 rcases hc : inB c 1 4 with _ | _
 all_goals rcases hn : inB n 1 30 with _ | _
 all_goals go_enter Try.func64, Try.ntmps64
 all_goals go_wp2_with (first | (go_at_call 93; refine (deedOf _ _).mono ?_; rintro e w' ⟨rfl, rfl⟩; rw [hd, hi]) | (go_at_call 59; refine (implIn _ _ _ _).mono ?_; rintro e w' ⟨rfl, rfl⟩; first | rw [hc] | rw [hn]) | (go_at_call 147; refine (fitsD4 _ _ _).mono ?_; rintro e w' ⟨rfl, hb⟩))
 all_goals go_light
 all_goals go_ret
 all_goals unfold reqB
 all_goals simp only [hc, hn]
 all_goals first | exact ⟨rfl, (Below.refl _ _).alloc (Nat.le_refl _) _⟩ | exact ⟨by simp, ((Below.refl _ _).alloc (Nat.le_refl _) _).trans (hb.mono (by simp))⟩
theorem method_fits5 (w : World) : (method 259 125 (.agg #[]) "loop.example/wapentake/impl.fits").run Try.prog w = .ok (149, .agg #[]) w := by kernel_rfl
set_option maxRecDepth 100000 in
theorem implReqOk5 (c n x y : Int) (w : World) :
 Calls Try.prog 64 #[req c n 5 x y] w fun e w' => e = .returned (.bool (reqB c n 5 x y)) ∧ Below w.heap.size w w' := by
 unfold req
 have hd : deedT 5 = .iface 125 (.agg #[]) := rfl
 have hi : inB 5 1 5 = true := rfl
 have hm := method_fits5
 rcases hc : inB c 1 4 with _ | _
 all_goals rcases hn : inB n 1 30 with _ | _
 all_goals go_enter Try.func64, Try.ntmps64
 all_goals go_wp2_with (first | (go_at_call 93; refine (deedOf _ _).mono ?_; rintro e w' ⟨rfl, rfl⟩; rw [hd, hi]) | (go_at_call 59; refine (implIn _ _ _ _).mono ?_; rintro e w' ⟨rfl, rfl⟩; first | rw [hc] | rw [hn]) | (go_at_call 149; refine (fitsD5 _ _ _).mono ?_; rintro e w' ⟨rfl, hb⟩))
 all_goals go_light
 all_goals go_ret
 all_goals unfold reqB
 all_goals simp only [hc, hn]
 all_goals first | exact ⟨rfl, (Below.refl _ _).alloc (Nat.le_refl _) _⟩ | exact ⟨by simp, ((Below.refl _ _).alloc (Nat.le_refl _) _).trans (hb.mono (by simp))⟩
set_option maxRecDepth 100000 in
theorem implReqOk_no (k : Int) (hd : deedT k = .nilIface) (hi : inB k 1 5 = false) (hs : ∀ x y, shapeB k x y = false)
 (c n x y : Int) (w : World) :
 Calls Try.prog 64 #[req c n k x y] w fun e w' => e = .returned (.bool (reqB c n k x y)) ∧ Below w.heap.size w w' := by
 unfold req
 have H := Lib.hid hs
 clear hs
 go_enter Try.func64, Try.ntmps64
 go_wp2_with (first | (go_at_call 93; refine (deedOf _ _).mono ?_; rintro e w' ⟨rfl, rfl⟩; rw [hd, hi]))
 go_light
 go_ret
 unfold reqB
 rw [H.out]
 exact ⟨by simp, (Below.refl _ _).alloc (Nat.le_refl _) _⟩
theorem implReqOk (c n o x y : Int) (w : World) :
 Calls Try.prog 64 #[req c n o x y] w fun e w' => e = .returned (.bool (reqB c n o x y)) ∧ Below w.heap.size w w' := by
 by_cases h1 : o = 1
 · subst h1; exact implReqOk1 c n x y w
 by_cases h2 : o = 2
 · subst h2; exact implReqOk2 c n x y w
 by_cases h3 : o = 3
 · subst h3; exact implReqOk3 c n x y w
 by_cases h4 : o = 4
 · subst h4; exact implReqOk4 c n x y w
 by_cases h5 : o = 5
 · subst h5; exact implReqOk5 c n x y w
 refine implReqOk_no o (by simp [deedT, h1, h2, h3, h4, h5]) ?_ (fun x y => by simp [shapeB, h1, h2, h3, h4, h5]) c n x y w
 simp only [inB]
 rw [Bool.eq_false_iff]
 simp
 omega
theorem Below.then {a b c : World} (h : Below a.heap.size a b) (k : Below b.heap.size b c) : Below a.heap.size a c := h.trans (k.mono h.size)
end Go.Proofs.Ytameldhdegcpoaa
namespace Go.Proofs.Ytameldhdegcpoaa
open Go.ChangeShapes Go.WideShapes Go.ChangeAt Go.RowKit
def cmpI (a b : Int) : Int := if a < b then -1 else if b < a then 1 else 0
theorem ret_int {k : IntKind} {a b : Int} (h : a = b) : Ending.returned (.int k a) = .returned (.int k b) := by rw [h]
theorem compare (a b : Int) (w : World) :
 Calls Try.prog 119 #[.int .i64 a, .int .i64 b] w fun e w' => e = .returned (.int .i64 (cmpI a b)) ∧ w' = w := by
 go_enter Try.func119, Try.ntmps119
 by_cases h1 : a < b
 all_goals by_cases h2 : b < a
 all_goals go_wp2
 all_goals go_ret
 all_goals refine ⟨ret_int ?_, rfl⟩
 all_goals unfold cmpI
 all_goals repeat' split
 all_goals omega
theorem Below.back {a b c : World} {S : Prop} (k : Below b.heap.size b c) (h : Below a.heap.size a b ∧ S) : Below a.heap.size a c := h.1.trans (k.mono h.1.size)
end Go.Proofs.Ytameldhdegcpoaa
namespace Go.Proofs.Ytameldhdegcpoaa
open Go.ChangeShapes Go.WideShapes Go.ChangeAt Go.RowKit Go.Deep
section
variable {H : Type} {enc : TypeId × Value → H} {P : Program}
theorem trodAll_below (hl : laidOutB P = true) {W W' : World} (hb : Below W.heap.size W W') :
 ∀ (ts : List TypeId) (vs : List Value) (ds : List (DataW H)) (ps : List MemPlace), (ts.all fun t => P.readableRec t && decide (t < P.types.size)) = true →
  (∀ x ∈ ps, x.block < W.heap.size) → DataW.TrodAll enc P W 0 (fun _ => true) true ts vs ds ps →
  DataW.TrodAll enc P W' 0 (fun b => decide (b < W.heap.size)) true ts vs ds ps
 | [], vs, ds, ps, _, _, h => by
  obtain ⟨rfl, rfl, rfl⟩ := trodAll_nil h
  exact trodAll_mk0
 | t :: ts, vs, ds, ps, hr, hlt, h => by
  obtain ⟨v, vs', d, ds', p, q, rfl, rfl, rfl, h1, h2⟩ := trodAll_cons h
  simp only [List.all_cons, Bool.and_eq_true, decide_eq_true_eq] at hr
  exact trodAll_cons_mk (Below.trod hl hr.1.1 hr.1.2 h1 hb fun x hx => hlt x (List.mem_append_left _ hx))
   (trodAll_below hl hb ts vs' ds' q hr.2 (fun x hx => hlt x (List.mem_append_right _ hx)) h2)
theorem law_post {f : Func} {s : ChangeSpec} {W W' : World} {args : Array Value} {ds gs : List (DataW H)} {before : List MemPlace} {tb : TypeId} (hl : laidOutB P = true)
 (hr : (f.params.toList.all fun t => P.readableRec t && decide (t < P.types.size)) = true) (hrt : f.resultTypes = #[tb]) (hub : P.underlying tb = some .bool) (hv : s.vars = [])
 (hW : DataW.Whole enc P f.params.toList s.vars false W args.toList ds gs before) (hs : s.fn H (ds ++ gs) = { results := [.lit (.bool true)], args := ds }) (hb : Below W.heap.size W W') :
 s.post enc P f false true false false W args (.bool true) W' := by
 have hlt : ∀ p ∈ before, p.block < W.heap.size := fun p hp => hW.lt p hp
 have hW' := hW
 obtain ⟨p, q, hA, hV, rfl, _, _⟩ := hW
 rw [hv] at hV
 obtain ⟨rfl, rfl⟩ := trodVars_none hV
 refine ⟨ds, [], p ++ [], [], p, [], hW', ?_, ?_, ?_, hb.frame _, fun h => by cases h⟩
 · rw [hs, hrt]
   exact trodAll_mk1 (shut_bool hub _)
 · rw [hs]
   exact trodAll_below hl hb _ _ _ _ hr (fun x hx => hlt x (List.mem_append_left _ hx)) hA
 · rw [hs, hv]
   trivial
theorem five_of (l : List Int) (h : l.length = 5) : ∃ a b c d e, l = [a, b, c, d, e] :=
 match l, h with
 | [a, b, c, d, e], _ => ⟨a, b, c, d, e, rfl⟩
end
end Go.Proofs.Ytameldhdegcpoaa
namespace Go.Proofs.Ytameldhdegcpoaa
open Go.ChangeShapes Go.WideShapes Go.ChangeAt Go.RowKit Go.Deep
theorem Try.own : ownKnob Try.prog.godebug = none := by kernel_rfl
theorem Try.laidOut : laidOutB Try.prog = true := by kernel_rfl
end Go.Proofs.Ytameldhdegcpoaa
