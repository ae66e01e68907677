/- How many said something of a claim: the model's way. -/
import Derived.Test.YtlokhgnbcbnmpaaKb
namespace Go.Proofs.Ytlokhgnbcbnmpaa
open Go.ChangeShapes Go.WideShapes Go.ChangeAt Go.RowKit
set_option linter.unusedVariables false
set_option linter.unusedSimpArgs false

def sB (kind k : Int) (c : Cl) (m : MgP) : Bool := (m.k == kind) && ((m.f == k) && ((m.v == c.v) && ((m.s == c.s) && decide (m.r = c.r))))
def sayB (P : List MgP) (kind k : Int) (c : Cl) : Bool := P.any (sB kind k c)
theorem sayB_step {P : List MgP} {kind k : Int} {c : Cl} {q : Nat} (h : q < P.length) : sayB (P.drop q) kind k c = (sB kind k c P[q] || sayB (P.drop (q + 1)) kind k c) := by
  unfold sayB
  rw [List.drop_eq_getElem_cons h, List.any_cons]
def cntK (P : List MgP) (kind : Int) (c : Cl) (k : Int) : Nat := if (sayB P kind k c && (kind != 3 || k != ldr c.v)) = true then 1 else 0
def cntTo (P : List MgP) (kind : Int) (c : Cl) (j : Nat) : Nat := ((List.range j).map fun i : Nat => cntK P kind c (i : Int)).sum
theorem cntTo_succ (P : List MgP) (kind : Int) (c : Cl) (j : Nat) : cntTo P kind c (j + 1) = cntTo P kind c j + cntK P kind c (j : Int) := by
  unfold cntTo
  rw [List.range_succ, List.map_append, List.sum_append]
  simp
theorem cntTo_le (P : List MgP) (kind : Int) (c : Cl) (j : Nat) : cntTo P kind c j ≤ j := by
  induction j with
  | zero => simp [cntTo]
  | succ j ih =>
    rw [cntTo_succ]
    have : cntK P kind c (j : Int) ≤ 1 := by unfold cntK; split <;> omega
    omega

set_option maxRecDepth 100000 in
set_option maxHeartbeats 4000000 in
theorem l4Count (A : Option Addr) (a : Nat) (P : List MgP) (kind : Int) (c : Cl) (w : World) (hn : P.length ≤ maxLen) (hr : RdMs w A P) :
    Calls Try.prog 89 #[.slice A P.length a, .int .i64 kind, c.val] w fun e w' => e = .returned (.int .i64 (cntTo P kind c 4)) ∧ Below w.heap.size w w' := by
  unfold maxLen at hn
  have Z0 : Hid (Below w.heap.size w (w.alloc (.cells #[.int .i64 c.s, .int .i64 c.v, .int .i64 c.r.c, .int .i64 c.r.n, .int .i64 c.r.o, .int .i64 c.r.x, .int .i64 c.r.y] 55))) := (Below.refl _ _).alloc (Nat.le_refl _) _
  have K0 : Hid (Blk (w.alloc (.cells #[.int .i64 c.s, .int .i64 c.v, .int .i64 c.r.c, .int .i64 c.r.n, .int .i64 c.r.o, .int .i64 c.r.x, .int .i64 c.r.y] 55)) w.heap.size 55 #[.int .i64 c.s, .int .i64 c.v, .int .i64 c.r.c, .int .i64 c.r.n, .int .i64 c.r.o, .int .i64 c.r.x, .int .i64 c.r.y]) := Blk.new w
  have HR := Lib.hid hr
  clear hr
  go_enter Try.func89, Try.ntmps89
  go_wp2
  go_loopw [7, 8] (fun n i wr => ∃ k : Nat, k ≤ 4 ∧ i = .int .i64 k ∧ n = .int .i64 (cntTo P kind c k) ∧ Hid (Blk wr w.heap.size 55 #[.int .i64 c.s, .int .i64 c.v, .int .i64 c.r.c, .int .i64 c.r.n, .int .i64 c.r.o, .int .i64 c.r.x, .int .i64 c.r.y]) ∧ Hid (Below w.heap.size w wr)) (fun _ i _ => 4 - (intOf i).toNat)
  case atStart => exact ⟨0, by omega, rfl, rfl, K0, Z0⟩
  case round =>
    clear K0 Z0
    obtain ⟨k, hk, rfl, rfl, KC, hb⟩ := hrel
    have hcn := cntTo_le P kind c k
    by_cases hlt : k < 4
    · have HC := Lib.hid (cntTo_succ P kind c k)
      generalize cntTo P kind c k = n at HC hcn
      go_wp2
      go_loopw [9, 10] (fun bv j wi => ∃ (q : Nat) (b : Bool), q ≤ P.length ∧ j = .int .i64 q ∧ bv = .bool b ∧ Hid (sayB P kind k c = (b || sayB (P.drop q) kind k c)) ∧ Hid (Blk wi w.heap.size 55 #[.int .i64 c.s, .int .i64 c.v, .int .i64 c.r.c, .int .i64 c.r.n, .int .i64 c.r.o, .int .i64 c.r.x, .int .i64 c.r.y]) ∧ Hid (Below w.heap.size w wi)) (fun _ j _ => P.length - (intOf j).toNat)
      case atStart => exact ⟨0, false, Nat.zero_le _, rfl, rfl, by simp [Hid], KC, hb⟩
      case round =>
        clear KC hb
        obtain ⟨q, b, hq, rfl, rfl, ht, KC, hb⟩ := hrel
        by_cases hlq : q < P.length
        · obtain ⟨g, o, rfl, ca⟩ := Rd.below HR.out.1 hb.out q hlq
          have HE := Lib.hid (show sayB P kind k c = (b || (sB kind k c P[q] || sayB (P.drop (q + 1)) kind k c)) by rw [ht.out, sayB_step hlq])
          generalize P[q] = x at ca HE
          clear ht
          have a0 : wr.cell? ⟨g, o + q * 11, none⟩ = some (.int .i64 x.k) := ca 0 _ rfl
          have a1 : wr.cell? ⟨g, o + q * 11 + 1, none⟩ = some (.int .i64 x.f) := ca 1 _ rfl
          have a2 : wr.cell? ⟨g, o + q * 11 + 2, none⟩ = some (.int .i64 x.v) := ca 2 _ rfl
          have a3 : wr.cell? ⟨g, o + q * 11 + 3, none⟩ = some (.int .i64 x.s) := ca 3 _ rfl
          have a4 : wr.cell? ⟨g, o + q * 11 + 4, none⟩ = some (.int .i64 x.r.c) := ca 4 _ rfl
          have a5 : wr.cell? ⟨g, o + q * 11 + 5, none⟩ = some (.int .i64 x.r.n) := ca 5 _ rfl
          have a6 : wr.cell? ⟨g, o + q * 11 + 6, none⟩ = some (.int .i64 x.r.o) := ca 6 _ rfl
          have a7 : wr.cell? ⟨g, o + q * 11 + 7, none⟩ = some (.int .i64 x.r.x) := ca 7 _ rfl
          have a8 : wr.cell? ⟨g, o + q * 11 + 8, none⟩ = some (.int .i64 x.r.y) := ca 8 _ rfl
          have a9 : wr.cell? ⟨g, o + q * 11 + 9, none⟩ = some (.slice x.A x.cl.length x.a) := ca 9 _ rfl
          have a10 : wr.cell? ⟨g, o + q * 11 + 10, none⟩ = some (.slice x.B x.vt.length x.b) := ca 10 _ rfl
          clear ca
          have BC := Lib.hid (hb.out.alloc hb.out.size (.cells #[.int .i64 x.k, .int .i64 x.f, .int .i64 x.v, .int .i64 x.s, .int .i64 x.r.c, .int .i64 x.r.n, .int .i64 x.r.o, .int .i64 x.r.x, .int .i64 x.r.y, .slice x.A x.cl.length x.a, .slice x.B x.vt.length x.b] 34))
          have KD := Lib.hid (KC.out.alloc (.cells #[.int .i64 x.k, .int .i64 x.f, .int .i64 x.v, .int .i64 x.s, .int .i64 x.r.c, .int .i64 x.r.n, .int .i64 x.r.o, .int .i64 x.r.x, .int .i64 x.r.y, .slice x.A x.cl.length x.a, .slice x.B x.vt.length x.b] 34))
          have lk := KC.out.lt
          have y0 : wr.cell? ⟨w.heap.size, 0, none⟩ = some (.int .i64 c.s) := KC.out.cell 0
          have y1 : wr.cell? ⟨w.heap.size, 1, none⟩ = some (.int .i64 c.v) := KC.out.cell 1
          have y2 : wr.cell? ⟨w.heap.size, 2, none⟩ = some (.int .i64 c.r.c) := KC.out.cell 2
          have y3 : wr.cell? ⟨w.heap.size, 3, none⟩ = some (.int .i64 c.r.n) := KC.out.cell 3
          have y4 : wr.cell? ⟨w.heap.size, 4, none⟩ = some (.int .i64 c.r.o) := KC.out.cell 4
          have y5 : wr.cell? ⟨w.heap.size, 5, none⟩ = some (.int .i64 c.r.x) := KC.out.cell 5
          have y6 : wr.cell? ⟨w.heap.size, 6, none⟩ = some (.int .i64 c.r.y) := KC.out.cell 6
          have i0 : (0 : Int) ≤ (q : Int) := by omega
          have i1 : (q : Int) < (P.length : Int) := by omega
          have hq1 : ∀ W, (binOp .eql 30 (.agg #[.int .i64 x.r.c, .int .i64 x.r.n, .int .i64 x.r.o, .int .i64 x.r.x, .int .i64 x.r.y]) (.agg #[.int .i64 c.r.c, .int .i64 c.r.n, .int .i64 c.r.o, .int .i64 c.r.x, .int .i64 c.r.y])).run Try.prog W = .ok (.bool (decide (x.r = c.r))) W := fun W => eqlReq x.r c.r W
          rcases b with _ | _
          rotate_left
          · have HN := Lib.hid (show sayB P kind k c = (true || sayB (P.drop (q + 1)) kind k c) by rw [HE.out]; simp)
            go_wp2
            go_roundw
            case rel => exact ⟨q + 1, true, by omega, by go_num, rfl, HN, KD, BC⟩
            case measure => simp [intOf]; omega
          rcases e1 : (x.k == kind) with _ | _
          · have HN := Lib.hid (show sayB P kind k c = (false || sayB (P.drop (q + 1)) kind k c) by rw [HE.out, show sB kind k c x = false by unfold sB; rw [e1]; rfl]; first | rfl | simp)
            go_wp2
            go_roundw
            case rel => exact ⟨q + 1, false, by omega, by go_num, rfl, HN, KD, BC⟩
            case measure => simp [intOf]; omega
          rcases e2 : (x.f == (k : Int)) with _ | _
          · have HN := Lib.hid (show sayB P kind k c = (false || sayB (P.drop (q + 1)) kind k c) by rw [HE.out, show sB kind k c x = false by unfold sB; rw [e1, e2]; rfl]; first | rfl | simp)
            go_wp2
            go_roundw
            case rel => exact ⟨q + 1, false, by omega, by go_num, rfl, HN, KD, BC⟩
            case measure => simp [intOf]; omega
          rcases e3 : (x.v == c.v) with _ | _
          · have HN := Lib.hid (show sayB P kind k c = (false || sayB (P.drop (q + 1)) kind k c) by rw [HE.out, show sB kind k c x = false by unfold sB; rw [e1, e2, e3]; rfl]; first | rfl | simp)
            go_wp2
            go_roundw
            case rel => exact ⟨q + 1, false, by omega, by go_num, rfl, HN, KD, BC⟩
            case measure => simp [intOf]; omega
          rcases e4 : (x.s == c.s) with _ | _
          · have HN := Lib.hid (show sayB P kind k c = (false || sayB (P.drop (q + 1)) kind k c) by rw [HE.out, show sB kind k c x = false by unfold sB; rw [e1, e2, e3, e4]; rfl]; first | rfl | simp)
            go_wp2
            go_roundw
            case rel => exact ⟨q + 1, false, by omega, by go_num, rfl, HN, KD, BC⟩
            case measure => simp [intOf]; omega
          rcases e5 : (decide (x.r = c.r)) with _ | _
          · simp only [e5] at hq1
            have HN := Lib.hid (show sayB P kind k c = (false || sayB (P.drop (q + 1)) kind k c) by rw [HE.out, show sB kind k c x = false by unfold sB; rw [e1, e2, e3, e4, e5]; rfl]; first | rfl | simp)
            clear e5
            go_wp2
            go_roundw
            case rel => exact ⟨q + 1, false, by omega, by go_num, rfl, HN, KD, BC⟩
            case measure => simp [intOf]; omega
          simp only [e5] at hq1
          have HN := Lib.hid (show sayB P kind k c = (true || sayB (P.drop (q + 1)) kind k c) by rw [HE.out, show sB kind k c x = true by unfold sB; rw [e1, e2, e3, e4, e5]; rfl]; first | rfl | simp)
          clear e5
          go_wp2
          go_roundw
          case rel => exact ⟨q + 1, true, by omega, by go_num, rfl, HN, KD, BC⟩
          case measure => simp [intOf]; omega
        · have HS := Lib.hid (show sayB P kind k c = b by rw [ht.out, List.drop_of_length_le (by omega)]; simp [sayB])
          have lk := KC.out.lt
          have y0 : wr.cell? ⟨w.heap.size, 0, none⟩ = some (.int .i64 c.s) := KC.out.cell 0
          have y1 : wr.cell? ⟨w.heap.size, 1, none⟩ = some (.int .i64 c.v) := KC.out.cell 1
          have y2 : wr.cell? ⟨w.heap.size, 2, none⟩ = some (.int .i64 c.r.c) := KC.out.cell 2
          have y3 : wr.cell? ⟨w.heap.size, 3, none⟩ = some (.int .i64 c.r.n) := KC.out.cell 3
          have y4 : wr.cell? ⟨w.heap.size, 4, none⟩ = some (.int .i64 c.r.o) := KC.out.cell 4
          have y5 : wr.cell? ⟨w.heap.size, 5, none⟩ = some (.int .i64 c.r.x) := KC.out.cell 5
          have y6 : wr.cell? ⟨w.heap.size, 6, none⟩ = some (.int .i64 c.r.y) := KC.out.cell 6
          rcases b with _ | _
          · have HN := Lib.hid (show cntTo P kind c (k + 1) = n by rw [HC.out, cntK, HS.out]; rfl)
            go_wp2
            go_roundw
            case rel => exact ⟨k + 1, by omega, by go_num, by rw [HN.out], KC, hb⟩
            case measure => simp [intOf]; omega
          rcases h3 : (kind != 3) with _ | _
          · rcases h4 : ((k : Int) != ldr c.v) with _ | _
            · have HN := Lib.hid (show cntTo P kind c (k + 1) = n by rw [HC.out, cntK, HS.out, h3, h4]; rfl)
              go_wp2_with (go_at_call 107; refine (l3LeaderT _ _).mono ?_; rintro e w' ⟨rfl, rfl⟩)
              go_roundw
              case rel => exact ⟨k + 1, by omega, by go_num, by rw [HN.out], KC, hb⟩
              case measure => simp [intOf]; omega
            · have HN := Lib.hid (show cntTo P kind c (k + 1) = n + 1 by rw [HC.out, cntK, HS.out, h3, h4]; rfl)
              go_wp2_with (go_at_call 107; refine (l3LeaderT _ _).mono ?_; rintro e w' ⟨rfl, rfl⟩)
              go_roundw
              case rel => exact ⟨k + 1, by omega, by go_num, by rw [HN.out]; go_num, KC, hb⟩
              case measure => simp [intOf]; omega
          · have HN := Lib.hid (show cntTo P kind c (k + 1) = n + 1 by rw [HC.out, cntK, HS.out, h3]; rfl)
            go_wp2
            go_roundw
            case rel => exact ⟨k + 1, by omega, by go_num, by rw [HN.out]; go_num, KC, hb⟩
            case measure => simp [intOf]; omega
    · obtain rfl : k = 4 := by omega
      go_wp2
      go_ret
      exact ⟨rfl, hb.out⟩

end Go.Proofs.Ytlokhgnbcbnmpaa
