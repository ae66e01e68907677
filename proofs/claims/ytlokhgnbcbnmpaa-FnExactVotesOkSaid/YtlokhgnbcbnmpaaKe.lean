/- Whether enough said yes, or are sure: the program's way. -/
import Derived.Test.YtlokhgnbcbnmpaaKd
namespace Go.Proofs.Ytlokhgnbcbnmpaa
open Go.ChangeShapes Go.WideShapes Go.ChangeAt Go.RowKit Go.Maps
set_option linter.unusedVariables false
set_option linter.unusedSimpArgs false

def bN (b : Bool) : Nat := if b = true then 1 else 0
def hasK (D : DataW Unit) (k : Int) : Bool := Maps.has D (.int .i64 k)
def four (D : DataW Unit) : Nat := bN (hasK D 0) + bN (hasK D 1) + bN (hasK D 2) + bN (hasK D 3)
theorem hasK_put_same {D : DataW Unit} (h : Tidy D) (k : Int) : hasK (D.put (.int .i64 k) (.agg [])) k = true := has_put_same h.isMap (show WideAt.IsKeyLit (.int .i64 k) from trivial) _
theorem hasK_put_other {D : DataW Unit} {k k' : Int} (h : k' ≠ k) : hasK (D.put (.int .i64 k) (.agg [])) k' = hasK D k' := has_put_other (fun e => h (by simpa using e)) _
theorem put_size {D : DataW Unit} (h : Tidy D) (k : Int) : Maps.size (D.put (.int .i64 k) (.agg [])) = if hasK D k = true then Maps.size D else Maps.size D + 1 := size_put h _
theorem addS_ok {D : DataW Unit} (h : Tidy D) (hs : Maps.size D = four D) (kind : Int) (c : Cl) (m : MgP) : Tidy (addS D kind c m) ∧ Maps.size (addS D kind c m) = four (addS D kind c m) := by
  unfold addS
  split
  · rename_i ho
    refine ⟨h.put (show WideAt.IsKeyLit (.int .i64 m.f) from trivial) _, ?_⟩
    have hf : 0 ≤ m.f ∧ m.f ≤ 3 := by
      simp only [okS, inB, Bool.and_eq_true, decide_eq_true_eq] at ho
      omega
    rw [put_size h]
    have hc : m.f = 0 ∨ m.f = 1 ∨ m.f = 2 ∨ m.f = 3 := by omega
    unfold four at hs ⊢
    rcases hc with e | e | e | e
    all_goals rw [e]
    · rw [hasK_put_same h, hasK_put_other (k' := 1) (by omega), hasK_put_other (k' := 2) (by omega), hasK_put_other (k' := 3) (by omega)]
      cases hh : hasK D 0 <;> simp [hh, bN] at hs ⊢ <;> omega
    · rw [hasK_put_same h, hasK_put_other (k' := 0) (by omega), hasK_put_other (k' := 2) (by omega), hasK_put_other (k' := 3) (by omega)]
      cases hh : hasK D 1 <;> simp [hh, bN] at hs ⊢ <;> omega
    · rw [hasK_put_same h, hasK_put_other (k' := 0) (by omega), hasK_put_other (k' := 1) (by omega), hasK_put_other (k' := 3) (by omega)]
      cases hh : hasK D 2 <;> simp [hh, bN] at hs ⊢ <;> omega
    · rw [hasK_put_same h, hasK_put_other (k' := 0) (by omega), hasK_put_other (k' := 1) (by omega), hasK_put_other (k' := 2) (by omega)]
      cases hh : hasK D 3 <;> simp [hh, bN] at hs ⊢ <;> omega
  · exact ⟨h, hs⟩
theorem fold_ok (kind : Int) (c : Cl) (P : List MgP) : ∀ D : DataW Unit, Tidy D → Maps.size D = four D → Tidy (P.foldl (fun D m => addS D kind c m) D) ∧ Maps.size (P.foldl (fun D m => addS D kind c m) D) = four (P.foldl (fun D m => addS D kind c m) D) := by
  induction P with
  | nil => intro D h hs; exact ⟨h, hs⟩
  | cons m P ih => intro D h hs; obtain ⟨h1, h2⟩ := addS_ok h hs kind c m; exact ih _ h1 h2
theorem setTo_ok (P : List MgP) (kind : Int) (c : Cl) : Tidy (setTo P kind c) ∧ Maps.size (setTo P kind c) = four (setTo P kind c) := fold_ok kind c P _ tidy_empty rfl
theorem okS_sB {kind k : Int} {c : Cl} {m : MgP} (hk : 0 ≤ k ∧ k ≤ 3) : (okS kind c m && (m.f == k)) = sB kind k c m := by
  rcases c with ⟨c1, c2, c3⟩
  unfold okS sB
  rw [Bool.eq_iff_iff]
  simp [inB]
  constructor
  · rintro ⟨⟨h1, h2, h3, h4, h5⟩, h6⟩; exact ⟨h1, h6, h4, h3, h5⟩
  · rintro ⟨h1, h2, h3, h4, h5⟩; exact ⟨⟨h1, by omega, h4, h3, h5⟩, h2⟩
theorem hasK_add {D : DataW Unit} (h : Tidy D) {kind k : Int} {c : Cl} {m : MgP} (hk : 0 ≤ k ∧ k ≤ 3) : hasK (addS D kind c m) k = (hasK D k || sB kind k c m) := by
  rw [← okS_sB hk]
  unfold addS
  cases ho : okS kind c m
  · simp
  · rw [if_pos rfl]
    by_cases e : m.f = k
    · rw [e, hasK_put_same h]; simp
    · rw [hasK_put_other (fun e' => e e'.symm)]; simp [e]
theorem hasK_fold (kind k : Int) (c : Cl) (hk : 0 ≤ k ∧ k ≤ 3) (P : List MgP) : ∀ D : DataW Unit, Tidy D → Maps.size D = four D → hasK (P.foldl (fun D m => addS D kind c m) D) k = (hasK D k || sayB P kind k c) := by
  induction P with
  | nil => intro D _ _; simp [sayB]
  | cons m P ih =>
    intro D h hs
    obtain ⟨h1, h2⟩ := addS_ok h hs kind c m
    rw [List.foldl_cons, ih _ h1 h2, hasK_add h hk]
    simp [sayB, Bool.or_assoc]
theorem hasK_setTo (P : List MgP) (kind k : Int) (c : Cl) (hk : 0 ≤ k ∧ k ≤ 3) : hasK (setTo P kind c) k = sayB P kind k c := by
  unfold setTo
  rw [hasK_fold kind k c hk P _ tidy_empty rfl]
  rfl
theorem four_setTo (P : List MgP) (kind : Int) (c : Cl) : four (setTo P kind c) = bN (sayB P kind 0 c) + bN (sayB P kind 1 c) + bN (sayB P kind 2 c) + bN (sayB P kind 3 c) := by
  unfold four
  rw [hasK_setTo P kind 0 c (by omega), hasK_setTo P kind 1 c (by omega), hasK_setTo P kind 2 c (by omega), hasK_setTo P kind 3 c (by omega)]
theorem cnt4 (P : List MgP) (kind : Int) (c : Cl) : cntTo P kind c 4 = cntK P kind c 0 + cntK P kind c 1 + cntK P kind c 2 + cntK P kind c 3 := by
  rw [cntTo_succ, cntTo_succ, cntTo_succ, cntTo_succ]
  simp [cntTo]
theorem sure_size (P : List MgP) (c : Cl) : Maps.size (setTo P 4 c) = cntTo P 4 c 4 := by
  rw [(setTo_ok P 4 c).2, four_setTo, cnt4]
  have e : ∀ k : Int, cntK P 4 c k = bN (sayB P 4 k c) := fun k => by
    unfold cntK bN
    simp
  rw [e, e, e, e]
theorem yes_size (P : List MgP) (c : Cl) (hv : inB c.v 0 6 = true) : Maps.size ((setTo P 3 c).del (.int .i64 (ldr c.v))) = cntTo P 3 c 4 := by
  obtain ⟨h1, h2⟩ := setTo_ok P 3 c
  have h3 := size_del (k := .int .i64 (ldr c.v)) h1
  have h4 : (if Maps.has (setTo P 3 c) (.int .i64 (ldr c.v)) = true then 1 else 0) = bN (sayB P 3 (ldr c.v) c) := by
    have := hasK_setTo P 3 (ldr c.v) c (ldr_bd hv)
    unfold hasK at this
    rw [this]
    rfl
  rw [h4, h2, four_setTo] at h3
  rw [cnt4]
  have e : ∀ k : Int, cntK P 3 c k = if k = ldr c.v then 0 else bN (sayB P 3 k c) := fun k => by
    unfold cntK bN
    by_cases hk : k = ldr c.v <;> simp [hk]
  rw [e, e, e, e]
  have hb := ldr_bd hv
  have hc : ldr c.v = 0 ∨ ldr c.v = 1 ∨ ldr c.v = 2 ∨ ldr c.v = 3 := by omega
  rcases hc with hc | hc | hc | hc
  all_goals rw [hc] at h3 ⊢
  all_goals simp
  all_goals omega
theorem leaderQ (v : Int) (w : World) (h : inB v 0 6 = true) :
    Calls Try.prog 96 #[.int .i64 v] w fun e w' => e = .returned (.int .i64 (ldr v)) ∧ w = w' :=
  (implLeader v w).mono fun _ _ ⟨he, hw⟩ => ⟨by rw [he, ldr_eq h], hw⟩

set_option maxRecDepth 100000 in
set_option maxHeartbeats 2000000 in
theorem enoughYes (A : Option Addr) (a : Nat) (P : List MgP) (c : Cl) (w : World) (hn : P.length ≤ maxLen) (hr : RdMs w A P) (hv : inB c.v 0 6 = true) :
    Calls Try.prog 60 #[.slice A P.length a, c.val] w fun e w' => e = .returned (.bool (decide (2 ≤ cntTo P 3 c 4))) ∧ Below w.heap.size w w' := by
  have Z0 : Hid (Below w.heap.size w (w.alloc (.cells #[.int .i64 c.s, .int .i64 c.v, .int .i64 c.r.c, .int .i64 c.r.n, .int .i64 c.r.o, .int .i64 c.r.x, .int .i64 c.r.y] 55))) := (Below.refl _ _).alloc (Nat.le_refl _) _
  have K0 : Hid (Blk (w.alloc (.cells #[.int .i64 c.s, .int .i64 c.v, .int .i64 c.r.c, .int .i64 c.r.n, .int .i64 c.r.o, .int .i64 c.r.x, .int .i64 c.r.y] 55)) w.heap.size 55 #[.int .i64 c.s, .int .i64 c.v, .int .i64 c.r.c, .int .i64 c.r.n, .int .i64 c.r.o, .int .i64 c.r.x, .int .i64 c.r.y]) := Blk.new w
  have HR := Lib.hid (RdMs.below hr Z0.out)
  have HY := Lib.hid (yes_size P c hv)
  have hkey := keyK (ldr_bd hv)
  have HV := Lib.hid hv
  clear hr hv
  go_enter Try.func60, Try.ntmps60
  go_wp2_with (fail)
  refine (senders A a P 3 c _ hn HR.out).mono ?_
  rintro e w1 ⟨rfl, ho, hb⟩
  have BB := Lib.hid (Below.and Z0.out hb)
  have KC := Lib.hid (K0.out.below hb)
  have HO := Lib.hid (show OwS w1 (w.heap.size + 1 + 1) P.length _ by simpa using ho)
  have hz1 := BB.out.size
  clear ho hb
  generalize hz : Maps.size ((setTo P 3 c).del (.int .i64 (ldr c.v))) = z at HY
  have HZ := Lib.hid hz
  clear hz
  have y0 : w1.cell? ⟨w.heap.size, 0, none⟩ = some (.int .i64 c.s) := KC.out.cell 0
  have y1 : w1.cell? ⟨w.heap.size, 1, none⟩ = some (.int .i64 c.v) := KC.out.cell 1
  have y2 : w1.cell? ⟨w.heap.size, 2, none⟩ = some (.int .i64 c.r.c) := KC.out.cell 2
  have y3 : w1.cell? ⟨w.heap.size, 3, none⟩ = some (.int .i64 c.r.n) := KC.out.cell 3
  have y4 : w1.cell? ⟨w.heap.size, 4, none⟩ = some (.int .i64 c.r.o) := KC.out.cell 4
  have y5 : w1.cell? ⟨w.heap.size, 5, none⟩ = some (.int .i64 c.r.x) := KC.out.cell 5
  have y6 : w1.cell? ⟨w.heap.size, 6, none⟩ = some (.int .i64 c.r.y) := KC.out.cell 6
  rcases hd : decide (2 ≤ cntTo P 3 c 4) with _ | _
  · have hzl : ¬ 2 ≤ z := by rw [HY.out]; exact of_decide_eq_false hd
    go_wp2_with (first | (go_at_call 96; refine (leaderQ _ _ HV.out).mono ?_; rintro e w' ⟨rfl, rfl⟩) | (at_delete; refine wpList_delete_own _ rfl _ _ 121 3 rfl 136 lawInt Try.underlying121 (unitElem (H := Unit)) _ P.length _ rfl HO.out _ _ rfl hkey ?_; intro w2 hown2 hturn2) | (at_len; refine wpList_len_own _ rfl _ 121 rfl 3 136 Try.underlying121 (unitElem (H := Unit)) _ P.length _ rfl hown2 ?_; rw [HZ.out]))
    have B2 := Lib.hid (Below.trans BB.out (Below.of_grown hturn2.grown BB.out.size (fun q hq => by cases hq; omega)))
    go_light
    go_ret
    exact ⟨ret_bool (by have := HY.out; simp; omega), B2.out⟩
  · have hzl : 2 ≤ z := by rw [HY.out]; exact of_decide_eq_true hd
    go_wp2_with (first | (go_at_call 96; refine (leaderQ _ _ HV.out).mono ?_; rintro e w' ⟨rfl, rfl⟩) | (at_delete; refine wpList_delete_own _ rfl _ _ 121 3 rfl 136 lawInt Try.underlying121 (unitElem (H := Unit)) _ P.length _ rfl HO.out _ _ rfl hkey ?_; intro w2 hown2 hturn2) | (at_len; refine wpList_len_own _ rfl _ 121 rfl 3 136 Try.underlying121 (unitElem (H := Unit)) _ P.length _ rfl hown2 ?_; rw [HZ.out]))
    have B2 := Lib.hid (Below.trans BB.out (Below.of_grown hturn2.grown BB.out.size (fun q hq => by cases hq; omega)))
    go_light
    go_ret
    exact ⟨ret_bool (by have := HY.out; simp; omega), B2.out⟩

set_option maxRecDepth 100000 in
set_option maxHeartbeats 2000000 in
theorem enoughSure (A : Option Addr) (a : Nat) (P : List MgP) (c : Cl) (w : World) (hn : P.length ≤ maxLen) (hr : RdMs w A P) :
    Calls Try.prog 62 #[.slice A P.length a, c.val] w fun e w' => e = .returned (.bool (decide (3 ≤ cntTo P 4 c 4))) ∧ Below w.heap.size w w' := by
  have Z0 : Hid (Below w.heap.size w (w.alloc (.cells #[.int .i64 c.s, .int .i64 c.v, .int .i64 c.r.c, .int .i64 c.r.n, .int .i64 c.r.o, .int .i64 c.r.x, .int .i64 c.r.y] 55))) := (Below.refl _ _).alloc (Nat.le_refl _) _
  have HR := Lib.hid (RdMs.below hr Z0.out)
  have HY := Lib.hid (sure_size P c)
  clear hr
  go_enter Try.func62, Try.ntmps62
  go_wp2_with (fail)
  refine (senders A a P 4 c _ hn HR.out).mono ?_
  rintro e w1 ⟨rfl, ho, hb⟩
  have BB := Lib.hid (Below.and Z0.out hb)
  have HO := Lib.hid (show OwS w1 (w.heap.size + 1 + 1) P.length _ by simpa using ho)
  clear ho hb
  generalize hz : Maps.size (setTo P 4 c) = z at HY
  have HZ := Lib.hid hz
  clear hz
  rcases hd : decide (3 ≤ cntTo P 4 c 4) with _ | _
  · have hzl : ¬ 3 ≤ z := by rw [HY.out]; exact of_decide_eq_false hd
    go_wp2_with (at_len; refine wpList_len_own _ rfl _ 121 rfl 3 136 Try.underlying121 (unitElem (H := Unit)) _ P.length _ rfl HO.out ?_; rw [HZ.out])
    go_light
    go_ret
    exact ⟨ret_bool (by have := HY.out; simp; omega), BB.out⟩
  · have hzl : 3 ≤ z := by rw [HY.out]; exact of_decide_eq_true hd
    go_wp2_with (at_len; refine wpList_len_own _ rfl _ 121 rfl 3 136 Try.underlying121 (unitElem (H := Unit)) _ P.length _ rfl HO.out ?_; rw [HZ.out])
    go_light
    go_ret
    exact ⟨ret_bool (by have := HY.out; simp; omega), BB.out⟩

end Go.Proofs.Ytlokhgnbcbnmpaa
