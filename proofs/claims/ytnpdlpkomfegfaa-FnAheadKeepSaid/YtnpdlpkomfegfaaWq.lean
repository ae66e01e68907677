/- Two lists of requests that read alike: true. -/
import Derived.Test.YtnpdlpkomfegfaaME
import Derived.BigQuiet
import Derived.Deep.QuietTactic
namespace Go.Proofs.Ytnpdlpkomfegfaa
open Go.ChangeShapes Go.WideShapes Go.ChangeAt Go.RowKit
set_option linter.unusedVariables false
set_option linter.unusedSimpArgs false

set_option maxRecDepth 100000 in
set_option maxHeartbeats 1000000 in
theorem wpReqsQ (A B : Option Addr) (c d : Nat) (L : List Rq) (w : World) (hL : L.length ≤ maxLen) (ha : Rd 5 Rq.cells w A L) (hb : Rd 5 Rq.cells w B L) :
 Calls Try.prog 25 #[.slice A L.length c, .slice B L.length d] w fun e w' => e = .returned (.bool true) ∧ Below w.heap.size w w' := by
 unfold maxLen at hL
 have HA := Lib.hid ha
 have HB := Lib.hid hb
 have hne : ((L.length : Int) != (L.length : Int)) = false := by simp
 clear ha hb
 go_enter Try.func25, Try.ntmps25
 go_wp2
 go_loopw [5] (fun i wr => ∃ k : Nat, k ≤ L.length ∧ i = .int .i64 k ∧ Hid (Below w.heap.size w wr)) (fun i _ => L.length - (intOf i).toNat)
 case atStart => exact ⟨0, Nat.zero_le _, rfl, Below.refl _ _⟩
 case round =>
  obtain ⟨k, hk, rfl, hb⟩ := hrel
  by_cases hlt : k < L.length
  · obtain ⟨g, o, rfl, ca⟩ := Rd.below HA.out hb.out k hlt
    obtain ⟨g', o', rfl, cb⟩ := Rd.below HB.out hb.out k hlt
    generalize L[k] = r at ca cb
    have a0 : wr.cell? ⟨g, o + k * 5, none⟩ = some (.int .i64 r.c) := ca 0 _ rfl
    have a1 : wr.cell? ⟨g, o + k * 5 + 1, none⟩ = some (.int .i64 r.n) := ca 1 _ rfl
    have a2 : wr.cell? ⟨g, o + k * 5 + 2, none⟩ = some (.int .i64 r.o) := ca 2 _ rfl
    have a3 : wr.cell? ⟨g, o + k * 5 + 3, none⟩ = some (.int .i64 r.x) := ca 3 _ rfl
    have a4 : wr.cell? ⟨g, o + k * 5 + 4, none⟩ = some (.int .i64 r.y) := ca 4 _ rfl
    have b0 : wr.cell? ⟨g', o' + k * 5, none⟩ = some (.int .i64 r.c) := cb 0 _ rfl
    have b1 : wr.cell? ⟨g', o' + k * 5 + 1, none⟩ = some (.int .i64 r.n) := cb 1 _ rfl
    have b2 : wr.cell? ⟨g', o' + k * 5 + 2, none⟩ = some (.int .i64 r.o) := cb 2 _ rfl
    have b3 : wr.cell? ⟨g', o' + k * 5 + 3, none⟩ = some (.int .i64 r.x) := cb 3 _ rfl
    have b4 : wr.cell? ⟨g', o' + k * 5 + 4, none⟩ = some (.int .i64 r.y) := cb 4 _ rfl
    clear ca cb
    have i0 : (0 : Int) ≤ (k : Int) := by omega
    have i1 : (k : Int) < (L.length : Int) := by omega
    have hq : ∀ W, (binOp .neq 37 (.agg #[.int .i64 r.c, .int .i64 r.n, .int .i64 r.o, .int .i64 r.x, .int .i64 r.y]) (.agg #[.int .i64 r.c, .int .i64 r.n, .int .i64 r.o, .int .i64 r.x, .int .i64 r.y])).run Try.prog W = .ok (.bool false) W := fun W => by have := neqReq r r W; simpa using this
    go_wp2_with (fail)
    go_quiet (fail)
    have BN := Lib.hid (Below.drewN hb.out (by assumption))
    go_wp2
    go_roundw
    case rel => exact ⟨k + 1, by omega, by go_num, BN.out⟩
    case measure => simp [intOf]; omega
  · go_wp2
    go_light
    go_ret
    exact ⟨rfl, hb.out⟩

end Go.Proofs.Ytnpdlpkomfegfaa
