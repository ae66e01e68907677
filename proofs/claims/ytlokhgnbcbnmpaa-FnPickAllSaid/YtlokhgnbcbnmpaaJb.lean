/- What votes claim: what is picked at a place. -/
import Derived.Test.YtlokhgnbcbnmpaaJa
import Derived.Test.YtlokhgnbcbnmpaaJc
namespace Go.Proofs.Ytlokhgnbcbnmpaa
open Go.ChangeShapes Go.WideShapes Go.ChangeAt Go.RowKit
set_option linter.unusedVariables false
set_option linter.unusedSimpArgs false

set_option maxRecDepth 100000 in
set_option maxHeartbeats 1000000 in
theorem pickAt (A : Option Addr) (c : Nat) (P : List VtP) (seq : Int) (w : World) (hn : P.length ≤ maxLen) (hr : RdV w A P) :
    Calls Try.prog 53 #[.slice A P.length c, .int .i64 seq] w fun e w' => e = .returned (Rq.val (pckR seq P)) ∧ Below w.heap.size w w' := by
  unfold maxLen at hn
  have HR := Lib.hid hr
  have S0 : Hid (Below w.heap.size w ((w.alloc (.cells #[.int .i64 0, .int .i64 0, .int .i64 0, .int .i64 0, .int .i64 0] 30)).alloc (.cells #[.int .i64 0, .int .i64 0, .int .i64 0, .int .i64 0, .int .i64 0, .int .i64 0, .int .i64 0] 55))) := below_alloc2 _ _ _
  have S1 : Hid (Blk ((w.alloc (.cells #[.int .i64 0, .int .i64 0, .int .i64 0, .int .i64 0, .int .i64 0] 30)).alloc (.cells #[.int .i64 0, .int .i64 0, .int .i64 0, .int .i64 0, .int .i64 0, .int .i64 0, .int .i64 0] 55)) w.heap.size 30 #[.int .i64 0, .int .i64 0, .int .i64 0, .int .i64 0, .int .i64 0]) := (Blk.new w).alloc _
  have S2 : Hid (Blk ((w.alloc (.cells #[.int .i64 0, .int .i64 0, .int .i64 0, .int .i64 0, .int .i64 0] 30)).alloc (.cells #[.int .i64 0, .int .i64 0, .int .i64 0, .int .i64 0, .int .i64 0, .int .i64 0, .int .i64 0] 55)) (w.heap.size + 1) 55 #[.int .i64 0, .int .i64 0, .int .i64 0, .int .i64 0, .int .i64 0, .int .i64 0, .int .i64 0]) := by have := Blk.new (t := 55) (cs := #[.int .i64 0, .int .i64 0, .int .i64 0, .int .i64 0, .int .i64 0, .int .i64 0, .int .i64 0]) (w.alloc (.cells #[.int .i64 0, .int .i64 0, .int .i64 0, .int .i64 0, .int .i64 0] 30)); simpa [Hid] using this
  clear hr
  go_enter Try.func53, Try.ntmps53
  go_wp2
  go_loopw [6, 13] (fun fv i wr => ∃ (k : Nat) (f : Bool) (b : Cl), k ≤ P.length ∧ i = .int .i64 k ∧ fv = .bool f ∧ Hid (pkC seq ⟨false, 0, ⟨0, 0, 0, 0, 0⟩⟩ (allC P) = pkC seq ⟨f, b.v, b.r⟩ (allC (P.drop k))) ∧ Hid (Blk wr (w.heap.size + 1) 55 #[.int .i64 b.s, .int .i64 b.v, .int .i64 b.r.c, .int .i64 b.r.n, .int .i64 b.r.o, .int .i64 b.r.x, .int .i64 b.r.y]) ∧ Hid (Blk wr w.heap.size 30 #[.int .i64 0, .int .i64 0, .int .i64 0, .int .i64 0, .int .i64 0]) ∧ Hid (Below w.heap.size w wr)) (fun _ i _ => P.length - (intOf i).toNat)
  case atStart => exact ⟨0, false, ⟨0, 0, ⟨0, 0, 0, 0, 0⟩⟩, Nat.zero_le _, rfl, rfl, by simp [Hid], S2, S1, S0⟩
  case round =>
    clear S0 S1 S2
    obtain ⟨k, f, b, hk, rfl, rfl, ht, K1, K0, hb⟩ := hrel
    by_cases hlt : k < P.length
    · obtain ⟨g, o, rfl, ca⟩ := Rd.below HR.out.1 hb.out k hlt
      have rx := HR.out.2 P[k] (List.getElem_mem hlt)
      have HD := Lib.hid (show pkC seq ⟨false, 0, ⟨0, 0, 0, 0, 0⟩⟩ (allC P) = pkC seq (pkC seq ⟨f, b.v, b.r⟩ P[k].cl) (allC (P.drop (k + 1))) by rw [ht.out, allC_drop hlt, pkC_append])
      clear ht
      generalize P[k] = x at ca HD rx
      obtain ⟨xf, xA, xc, xl⟩ := x
      have a0 : wr.cell? ⟨g, o + k * 2, none⟩ = some (.int .i64 xf) := ca 0 _ rfl
      have a1 : wr.cell? ⟨g, o + k * 2 + 1, none⟩ = some (.slice xA xl.length xc) := ca 1 _ rfl
      clear ca
      have mx : xl.length ≤ 9223372036854775807 := rx.1
      have RX : Hid (RdC w xA xl) := rx.2
      have BB := Lib.hid (hb.out.alloc hb.out.size (.cells #[.int .i64 xf, .slice xA xl.length xc] 67))
      have K1 := Lib.hid (K1.out.alloc (.cells #[.int .i64 xf, .slice xA xl.length xc] 67))
      have K0 := Lib.hid (K0.out.alloc (.cells #[.int .i64 xf, .slice xA xl.length xc] 67))
      obtain ⟨f0, hf0⟩ : ∃ f0, f0 = f := ⟨f, rfl⟩
      obtain ⟨b0, hb0⟩ : ∃ b0, b0 = b := ⟨b, rfl⟩
      have HD := Lib.hid (show pkC seq ⟨false, 0, ⟨0, 0, 0, 0, 0⟩⟩ (allC P) = pkC seq (pkC seq ⟨f0, b0.v, b0.r⟩ xl) (allC (P.drop (k + 1))) by rw [HD.out, hf0, hb0])
      have HS := Lib.hid (show pkC seq ⟨f0, b0.v, b0.r⟩ xl = pkC seq ⟨f, b.v, b.r⟩ xl by rw [hf0, hb0])
      clear rx hb hf0 hb0
      have i0 : (0 : Int) ≤ (k : Int) := by omega
      have i1 : (k : Int) < (P.length : Int) := by omega
      go_wp2
      go_loopw [6, 20] (fun fv j wi => ∃ (q : Nat) (f : Bool) (b : Cl), q ≤ xl.length ∧ j = .int .i64 q ∧ fv = .bool f ∧ Hid (pkC seq ⟨f0, b0.v, b0.r⟩ xl = pkC seq ⟨f, b.v, b.r⟩ (xl.drop q)) ∧ Hid (Blk wi (w.heap.size + 1) 55 #[.int .i64 b.s, .int .i64 b.v, .int .i64 b.r.c, .int .i64 b.r.n, .int .i64 b.r.o, .int .i64 b.r.x, .int .i64 b.r.y]) ∧ Hid (Blk wi w.heap.size 30 #[.int .i64 0, .int .i64 0, .int .i64 0, .int .i64 0, .int .i64 0]) ∧ Hid (Below w.heap.size w wi)) (fun _ j _ => xl.length - (intOf j).toNat)
      case atStart => exact ⟨0, f, b, Nat.zero_le _, rfl, rfl, HS, K1, K0, BB⟩
      case round =>
        clear a0 a1 HS K1 K0 BB
        obtain ⟨q, f, b, hq, rfl, rfl, ht, K1, K0, hbi⟩ := hrel
        by_cases hlq : q < xl.length
        · obtain ⟨g', o', rfl, ca⟩ := Rd.below RX.out hbi.out q hlq
          have HE := Lib.hid (show pkC seq ⟨f0, b0.v, b0.r⟩ xl = pkC seq (if (xl[q].s == seq && (!f || decide (b.v < xl[q].v))) = true then ⟨true, xl[q].v, xl[q].r⟩ else ⟨f, b.v, b.r⟩) (xl.drop (q + 1)) by rw [ht.out, List.drop_eq_getElem_cons hlq]; rfl)
          clear ht
          generalize xl[q] = y at ca HE
          have c0 : wr.cell? ⟨g', o' + q * 7, none⟩ = some (.int .i64 y.s) := ca 0 _ rfl
          have c1 : wr.cell? ⟨g', o' + q * 7 + 1, none⟩ = some (.int .i64 y.v) := ca 1 _ rfl
          have c2 : wr.cell? ⟨g', o' + q * 7 + 2, none⟩ = some (.int .i64 y.r.c) := ca 2 _ rfl
          have c3 : wr.cell? ⟨g', o' + q * 7 + 3, none⟩ = some (.int .i64 y.r.n) := ca 3 _ rfl
          have c4 : wr.cell? ⟨g', o' + q * 7 + 4, none⟩ = some (.int .i64 y.r.o) := ca 4 _ rfl
          have c5 : wr.cell? ⟨g', o' + q * 7 + 5, none⟩ = some (.int .i64 y.r.x) := ca 5 _ rfl
          have c6 : wr.cell? ⟨g', o' + q * 7 + 6, none⟩ = some (.int .i64 y.r.y) := ca 6 _ rfl
          clear ca
          have BC := Lib.hid (hbi.out.alloc hbi.out.size (.cells #[.int .i64 y.s, .int .i64 y.v, .int .i64 y.r.c, .int .i64 y.r.n, .int .i64 y.r.o, .int .i64 y.r.x, .int .i64 y.r.y] 55))
          have e0 : wr.cell? ⟨w.heap.size + 1, 0, none⟩ = some (.int .i64 b.s) := K1.out.cell 0
          have e1 : wr.cell? ⟨w.heap.size + 1, 1, none⟩ = some (.int .i64 b.v) := K1.out.cell 1
          have e2 : wr.cell? ⟨w.heap.size + 1, 2, none⟩ = some (.int .i64 b.r.c) := K1.out.cell 2
          have e3 : wr.cell? ⟨w.heap.size + 1, 3, none⟩ = some (.int .i64 b.r.n) := K1.out.cell 3
          have e4 : wr.cell? ⟨w.heap.size + 1, 4, none⟩ = some (.int .i64 b.r.o) := K1.out.cell 4
          have e5 : wr.cell? ⟨w.heap.size + 1, 5, none⟩ = some (.int .i64 b.r.x) := K1.out.cell 5
          have e6 : wr.cell? ⟨w.heap.size + 1, 6, none⟩ = some (.int .i64 b.r.y) := K1.out.cell 6
          have ef := K1.out.frozen
          have el := K1.out.lt
          have j0 : (0 : Int) ≤ (q : Int) := by omega
          have j1 : (q : Int) < (xl.length : Int) := by omega
          rcases hs : (y.s == seq) with _ | _
          · have HF := Lib.hid (show pkC seq ⟨f0, b0.v, b0.r⟩ xl = pkC seq ⟨f, b.v, b.r⟩ (xl.drop (q + 1)) by rw [HE.out, hs]; rfl)
            clear HE
            have KN := Lib.hid (K1.out.alloc (.cells #[.int .i64 y.s, .int .i64 y.v, .int .i64 y.r.c, .int .i64 y.r.n, .int .i64 y.r.o, .int .i64 y.r.x, .int .i64 y.r.y] 55))
            have K0N := Lib.hid (K0.out.alloc (.cells #[.int .i64 y.s, .int .i64 y.v, .int .i64 y.r.c, .int .i64 y.r.n, .int .i64 y.r.o, .int .i64 y.r.x, .int .i64 y.r.y] 55))
            go_wp2
            go_roundw
            case rel => exact ⟨q + 1, f, b, by omega, by go_num, rfl, HF, KN, K0N, BC⟩
            case measure => simp [intOf]; omega
          rcases f with _ | _
          · have HF := Lib.hid (show pkC seq ⟨f0, b0.v, b0.r⟩ xl = pkC seq ⟨true, y.v, y.r⟩ (xl.drop (q + 1)) by rw [HE.out, hs]; rfl)
            clear HE
            have KN := Lib.hid ((Blk.store7 (.int .i64 y.s) (.int .i64 y.v) (.int .i64 y.r.c) (.int .i64 y.r.n) (.int .i64 y.r.o) (.int .i64 y.r.x) (.int .i64 y.r.y) K1.out).alloc (.cells #[.int .i64 y.s, .int .i64 y.v, .int .i64 y.r.c, .int .i64 y.r.n, .int .i64 y.r.o, .int .i64 y.r.x, .int .i64 y.r.y] 55))
            have K0N := Lib.hid ((Blk.away7 (.int .i64 y.s) (.int .i64 y.v) (.int .i64 y.r.c) (.int .i64 y.r.n) (.int .i64 y.r.o) (.int .i64 y.r.x) (.int .i64 y.r.y) (show w.heap.size ≠ w.heap.size + 1 by omega) K0.out).alloc (.cells #[.int .i64 y.s, .int .i64 y.v, .int .i64 y.r.c, .int .i64 y.r.n, .int .i64 y.r.o, .int .i64 y.r.x, .int .i64 y.r.y] 55))
            have BN := Lib.hid (Below.store7 (.int .i64 y.s) (.int .i64 y.v) (.int .i64 y.r.c) (.int .i64 y.r.n) (.int .i64 y.r.o) (.int .i64 y.r.x) (.int .i64 y.r.y) (show w.heap.size ≤ w.heap.size + 1 by omega) hbi.out)
            have BN := Lib.hid (BN.out.alloc BN.out.size (.cells #[.int .i64 y.s, .int .i64 y.v, .int .i64 y.r.c, .int .i64 y.r.n, .int .i64 y.r.o, .int .i64 y.r.x, .int .i64 y.r.y] 55))
            go_wp2
            go_roundw
            case rel => exact ⟨q + 1, true, y, by omega, by go_num, rfl, HF, KN, K0N, BN⟩
            case measure => simp [intOf]; omega
          by_cases hm : b.v < y.v
          · have HF := Lib.hid (show pkC seq ⟨f0, b0.v, b0.r⟩ xl = pkC seq ⟨true, y.v, y.r⟩ (xl.drop (q + 1)) by rw [HE.out, hs, decide_eq_true hm]; rfl)
            clear HE
            have KN := Lib.hid ((Blk.store7 (.int .i64 y.s) (.int .i64 y.v) (.int .i64 y.r.c) (.int .i64 y.r.n) (.int .i64 y.r.o) (.int .i64 y.r.x) (.int .i64 y.r.y) K1.out).alloc (.cells #[.int .i64 y.s, .int .i64 y.v, .int .i64 y.r.c, .int .i64 y.r.n, .int .i64 y.r.o, .int .i64 y.r.x, .int .i64 y.r.y] 55))
            have K0N := Lib.hid ((Blk.away7 (.int .i64 y.s) (.int .i64 y.v) (.int .i64 y.r.c) (.int .i64 y.r.n) (.int .i64 y.r.o) (.int .i64 y.r.x) (.int .i64 y.r.y) (show w.heap.size ≠ w.heap.size + 1 by omega) K0.out).alloc (.cells #[.int .i64 y.s, .int .i64 y.v, .int .i64 y.r.c, .int .i64 y.r.n, .int .i64 y.r.o, .int .i64 y.r.x, .int .i64 y.r.y] 55))
            have BN := Lib.hid (Below.store7 (.int .i64 y.s) (.int .i64 y.v) (.int .i64 y.r.c) (.int .i64 y.r.n) (.int .i64 y.r.o) (.int .i64 y.r.x) (.int .i64 y.r.y) (show w.heap.size ≤ w.heap.size + 1 by omega) hbi.out)
            have BN := Lib.hid (BN.out.alloc BN.out.size (.cells #[.int .i64 y.s, .int .i64 y.v, .int .i64 y.r.c, .int .i64 y.r.n, .int .i64 y.r.o, .int .i64 y.r.x, .int .i64 y.r.y] 55))
            go_wp2
            go_roundw
            case rel => exact ⟨q + 1, true, y, by omega, by go_num, rfl, HF, KN, K0N, BN⟩
            case measure => simp [intOf]; omega
          · have HF := Lib.hid (show pkC seq ⟨f0, b0.v, b0.r⟩ xl = pkC seq ⟨true, b.v, b.r⟩ (xl.drop (q + 1)) by rw [HE.out, hs, decide_eq_false hm]; rfl)
            clear HE
            have KN := Lib.hid (K1.out.alloc (.cells #[.int .i64 y.s, .int .i64 y.v, .int .i64 y.r.c, .int .i64 y.r.n, .int .i64 y.r.o, .int .i64 y.r.x, .int .i64 y.r.y] 55))
            have K0N := Lib.hid (K0.out.alloc (.cells #[.int .i64 y.s, .int .i64 y.v, .int .i64 y.r.c, .int .i64 y.r.n, .int .i64 y.r.o, .int .i64 y.r.x, .int .i64 y.r.y] 55))
            go_wp2
            go_roundw
            case rel => exact ⟨q + 1, true, b, by omega, by go_num, rfl, HF, KN, K0N, BC⟩
            case measure => simp [intOf]; omega
        · have HN := Lib.hid (show pkC seq ⟨false, 0, ⟨0, 0, 0, 0, 0⟩⟩ (allC P) = pkC seq ⟨f, b.v, b.r⟩ (allC (P.drop (k + 1))) by rw [HD.out, ht.out, List.drop_of_length_le (by omega)]; rfl)
          clear ht
          go_wp2
          go_roundw
          case rel => exact ⟨k + 1, f, b, by omega, by go_num, rfl, HN, K1, K0, hbi⟩
          case measure => simp [intOf]; omega
    · have HZ := Lib.hid (show pckR seq P = b.r by unfold pckR; rw [ht.out, allC_end (by omega)]; rfl)
      have e0 : wr.cell? ⟨w.heap.size + 1, 0, none⟩ = some (.int .i64 b.s) := K1.out.cell 0
      have e1 : wr.cell? ⟨w.heap.size + 1, 1, none⟩ = some (.int .i64 b.v) := K1.out.cell 1
      have e2 : wr.cell? ⟨w.heap.size + 1, 2, none⟩ = some (.int .i64 b.r.c) := K1.out.cell 2
      have e3 : wr.cell? ⟨w.heap.size + 1, 3, none⟩ = some (.int .i64 b.r.n) := K1.out.cell 3
      have e4 : wr.cell? ⟨w.heap.size + 1, 4, none⟩ = some (.int .i64 b.r.o) := K1.out.cell 4
      have e5 : wr.cell? ⟨w.heap.size + 1, 5, none⟩ = some (.int .i64 b.r.x) := K1.out.cell 5
      have e6 : wr.cell? ⟨w.heap.size + 1, 6, none⟩ = some (.int .i64 b.r.y) := K1.out.cell 6
      have ef := K0.out.frozen
      have el := K1.out.lt
      have z0 : wr.cell? ⟨w.heap.size, 0, none⟩ = some (.int .i64 0) := K0.out.cell 0
      have z1 : wr.cell? ⟨w.heap.size, 1, none⟩ = some (.int .i64 0) := K0.out.cell 1
      have z2 : wr.cell? ⟨w.heap.size, 2, none⟩ = some (.int .i64 0) := K0.out.cell 2
      have z3 : wr.cell? ⟨w.heap.size, 3, none⟩ = some (.int .i64 0) := K0.out.cell 3
      have z4 : wr.cell? ⟨w.heap.size, 4, none⟩ = some (.int .i64 0) := K0.out.cell 4
      go_wp2
      refine bodyPost_ret (v := .agg #[.int .i64 b.r.c, .int .i64 b.r.n, .int .i64 b.r.o, .int .i64 b.r.x, .int .i64 b.r.y]) (by simp [results, Try.results53, go_sem, z0, z1, z2, z3, z4]) rfl ⟨by rw [HZ.out], ?_⟩
      iterate 5 (refine Below.setCell ?_ (by first | (simp; done) | (simp; omega)) _)
      exact hb.out

set_option maxRecDepth 100000 in
set_option maxHeartbeats 1000000 in
theorem l4Pick (A : Option Addr) (c : Nat) (P : List VtP) (seq : Int) (w : World) (hn : P.length ≤ maxLen) (hr : RdV w A P) :
    Calls Try.prog 87 #[.slice A P.length c, .int .i64 seq] w fun e w' => e = .returned (Rq.val (pckR seq P)) ∧ Below w.heap.size w w' := by
  unfold maxLen at hn
  have HR := Lib.hid hr
  have S0 : Hid (Below w.heap.size w ((w.alloc (.cells #[.int .i64 0, .int .i64 0, .int .i64 0, .int .i64 0, .int .i64 0] 30)).alloc (.cells #[.int .i64 0, .int .i64 0, .int .i64 0, .int .i64 0, .int .i64 0] 30))) := below_alloc2 _ _ _
  have S1 : Hid (Blk ((w.alloc (.cells #[.int .i64 0, .int .i64 0, .int .i64 0, .int .i64 0, .int .i64 0] 30)).alloc (.cells #[.int .i64 0, .int .i64 0, .int .i64 0, .int .i64 0, .int .i64 0] 30)) w.heap.size 30 #[.int .i64 0, .int .i64 0, .int .i64 0, .int .i64 0, .int .i64 0]) := (Blk.new w).alloc _
  have S2 : Hid (Blk ((w.alloc (.cells #[.int .i64 0, .int .i64 0, .int .i64 0, .int .i64 0, .int .i64 0] 30)).alloc (.cells #[.int .i64 0, .int .i64 0, .int .i64 0, .int .i64 0, .int .i64 0] 30)) (w.heap.size + 1) 30 #[.int .i64 0, .int .i64 0, .int .i64 0, .int .i64 0, .int .i64 0]) := by have := Blk.new (t := 30) (cs := #[.int .i64 0, .int .i64 0, .int .i64 0, .int .i64 0, .int .i64 0]) (w.alloc (.cells #[.int .i64 0, .int .i64 0, .int .i64 0, .int .i64 0, .int .i64 0] 30)); simpa [Hid] using this
  clear hr
  go_enter Try.func87, Try.ntmps87
  go_wp2
  go_loopw [5, 6, 8] (fun bv fv i wr => ∃ (k : Nat) (f : Bool) (v : Int) (r : Rq), k ≤ P.length ∧ i = .int .i64 k ∧ fv = .bool f ∧ bv = .int .i64 v ∧ Hid (pkC seq ⟨false, 0, ⟨0, 0, 0, 0, 0⟩⟩ (allC P) = pkC seq ⟨f, v, r⟩ (allC (P.drop k))) ∧ Hid (Blk wr (w.heap.size + 1) 30 #[.int .i64 r.c, .int .i64 r.n, .int .i64 r.o, .int .i64 r.x, .int .i64 r.y]) ∧ Hid (Blk wr w.heap.size 30 #[.int .i64 0, .int .i64 0, .int .i64 0, .int .i64 0, .int .i64 0]) ∧ Hid (Below w.heap.size w wr)) (fun _ _ i _ => P.length - (intOf i).toNat)
  case atStart => exact ⟨0, false, 0, ⟨0, 0, 0, 0, 0⟩, Nat.zero_le _, rfl, rfl, rfl, by simp [Hid], S2, S1, S0⟩
  case round =>
    clear S0 S1 S2
    obtain ⟨k, f, v, r, hk, rfl, rfl, rfl, ht, K1, K0, hb⟩ := hrel
    by_cases hlt : k < P.length
    · obtain ⟨g, o, rfl, ca⟩ := HR.out.1 k hlt
      have rx := HR.out.2 P[k] (List.getElem_mem hlt)
      have HD := Lib.hid (show pkC seq ⟨false, 0, ⟨0, 0, 0, 0, 0⟩⟩ (allC P) = pkC seq (pkC seq ⟨f, v, r⟩ P[k].cl) (allC (P.drop (k + 1))) by rw [ht.out, allC_drop hlt, pkC_append])
      clear ht
      generalize P[k] = x at ca HD rx
      obtain ⟨xf, xA, xc, xl⟩ := x
      have A1 : Hid (w.cell? ⟨g, o + k * 2 + 1, none⟩ = some (.slice xA xl.length xc)) := ca 1 _ rfl
      clear ca
      have mx : xl.length ≤ 9223372036854775807 := rx.1
      have RX : Hid (RdC w xA xl) := rx.2
      obtain ⟨f0, hf0⟩ : ∃ f0, f0 = f := ⟨f, rfl⟩
      obtain ⟨v0, hv0⟩ : ∃ v0, v0 = v := ⟨v, rfl⟩
      obtain ⟨r0, hr0⟩ : ∃ r0, r0 = r := ⟨r, rfl⟩
      have HD := Lib.hid (show pkC seq ⟨false, 0, ⟨0, 0, 0, 0, 0⟩⟩ (allC P) = pkC seq (pkC seq ⟨f0, v0, r0⟩ xl) (allC (P.drop (k + 1))) by rw [HD.out, hf0, hv0, hr0])
      have HS := Lib.hid (show pkC seq ⟨f0, v0, r0⟩ xl = pkC seq ⟨f, v, r⟩ xl by rw [hf0, hv0, hr0])
      have a1 : wr.cell? ⟨g, o + k * 2 + 1, none⟩ = some (.slice xA xl.length xc) := cell_kept hb.out A1.out
      clear rx hf0 hv0 hr0
      have i0 : (0 : Int) ≤ (k : Int) := by omega
      have i1 : (k : Int) < (P.length : Int) := by omega
      go_wp2
      go_loopw [5, 6, 9] (fun bv fv j wi => ∃ (q : Nat) (f : Bool) (v : Int) (r : Rq), q ≤ xl.length ∧ j = .int .i64 q ∧ fv = .bool f ∧ bv = .int .i64 v ∧ Hid (pkC seq ⟨f0, v0, r0⟩ xl = pkC seq ⟨f, v, r⟩ (xl.drop q)) ∧ Hid (Blk wi (w.heap.size + 1) 30 #[.int .i64 r.c, .int .i64 r.n, .int .i64 r.o, .int .i64 r.x, .int .i64 r.y]) ∧ Hid (Blk wi w.heap.size 30 #[.int .i64 0, .int .i64 0, .int .i64 0, .int .i64 0, .int .i64 0]) ∧ Hid (Below w.heap.size w wi)) (fun _ _ j _ => xl.length - (intOf j).toNat)
      case atStart => exact ⟨0, f, v, r, Nat.zero_le _, rfl, rfl, rfl, HS, K1, K0, hb⟩
      case round =>
        clear a1 HS K1 K0 hb
        obtain ⟨q, f, v, r, hq, rfl, rfl, rfl, ht, K1, K0, hbi⟩ := hrel
        have a1 : wr.cell? ⟨g, o + k * 2 + 1, none⟩ = some (.slice xA xl.length xc) := cell_kept hbi.out A1.out
        by_cases hlq : q < xl.length
        · obtain ⟨g', o', rfl, ca⟩ := Rd.below RX.out hbi.out q hlq
          have HE := Lib.hid (show pkC seq ⟨f0, v0, r0⟩ xl = pkC seq (if (xl[q].s == seq && (!f || decide (v < xl[q].v))) = true then ⟨true, xl[q].v, xl[q].r⟩ else ⟨f, v, r⟩) (xl.drop (q + 1)) by rw [ht.out, List.drop_eq_getElem_cons hlq]; rfl)
          clear ht
          generalize xl[q] = y at ca HE
          have c0 : wr.cell? ⟨g', o' + q * 7, none⟩ = some (.int .i64 y.s) := ca 0 _ rfl
          have c1 : wr.cell? ⟨g', o' + q * 7 + 1, none⟩ = some (.int .i64 y.v) := ca 1 _ rfl
          have c2 : wr.cell? ⟨g', o' + q * 7 + 2, none⟩ = some (.int .i64 y.r.c) := ca 2 _ rfl
          have c3 : wr.cell? ⟨g', o' + q * 7 + 3, none⟩ = some (.int .i64 y.r.n) := ca 3 _ rfl
          have c4 : wr.cell? ⟨g', o' + q * 7 + 4, none⟩ = some (.int .i64 y.r.o) := ca 4 _ rfl
          have c5 : wr.cell? ⟨g', o' + q * 7 + 5, none⟩ = some (.int .i64 y.r.x) := ca 5 _ rfl
          have c6 : wr.cell? ⟨g', o' + q * 7 + 6, none⟩ = some (.int .i64 y.r.y) := ca 6 _ rfl
          clear ca
          have e0 : wr.cell? ⟨w.heap.size + 1, 0, none⟩ = some (.int .i64 r.c) := K1.out.cell 0
          have e1 : wr.cell? ⟨w.heap.size + 1, 1, none⟩ = some (.int .i64 r.n) := K1.out.cell 1
          have e2 : wr.cell? ⟨w.heap.size + 1, 2, none⟩ = some (.int .i64 r.o) := K1.out.cell 2
          have e3 : wr.cell? ⟨w.heap.size + 1, 3, none⟩ = some (.int .i64 r.x) := K1.out.cell 3
          have e4 : wr.cell? ⟨w.heap.size + 1, 4, none⟩ = some (.int .i64 r.y) := K1.out.cell 4
          have ef := K1.out.frozen
          have el := K1.out.lt
          have j0 : (0 : Int) ≤ (q : Int) := by omega
          have j1 : (q : Int) < (xl.length : Int) := by omega
          rcases hs : (y.s == seq) with _ | _
          · have HF := Lib.hid (show pkC seq ⟨f0, v0, r0⟩ xl = pkC seq ⟨f, v, r⟩ (xl.drop (q + 1)) by rw [HE.out, hs]; rfl)
            clear HE
            have KN := Lib.hid (K1.out.alloc (.cells #[.int .i64 y.s, .int .i64 y.v, .int .i64 y.r.c, .int .i64 y.r.n, .int .i64 y.r.o, .int .i64 y.r.x, .int .i64 y.r.y] 55))
            have K0N := Lib.hid (K0.out.alloc (.cells #[.int .i64 y.s, .int .i64 y.v, .int .i64 y.r.c, .int .i64 y.r.n, .int .i64 y.r.o, .int .i64 y.r.x, .int .i64 y.r.y] 55))
            have BN := Lib.hid (hbi.out.alloc hbi.out.size (.cells #[.int .i64 y.s, .int .i64 y.v, .int .i64 y.r.c, .int .i64 y.r.n, .int .i64 y.r.o, .int .i64 y.r.x, .int .i64 y.r.y] 55))
            go_wp2
            go_roundw
            case rel => exact ⟨q + 1, f, v, r, by omega, by go_num, rfl, rfl, HF, KN, K0N, BN⟩
            case measure => simp [intOf]; omega
          rcases f with _ | _
          · have HF := Lib.hid (show pkC seq ⟨f0, v0, r0⟩ xl = pkC seq ⟨true, y.v, y.r⟩ (xl.drop (q + 1)) by rw [HE.out, hs]; rfl)
            clear HE
            have KN := Lib.hid ((Blk.store5 (.int .i64 y.r.c) (.int .i64 y.r.n) (.int .i64 y.r.o) (.int .i64 y.r.x) (.int .i64 y.r.y) K1.out).alloc (.cells #[.int .i64 y.s, .int .i64 y.v, .int .i64 y.r.c, .int .i64 y.r.n, .int .i64 y.r.o, .int .i64 y.r.x, .int .i64 y.r.y] 55))
            have K0N := Lib.hid ((Blk.away5 (.int .i64 y.r.c) (.int .i64 y.r.n) (.int .i64 y.r.o) (.int .i64 y.r.x) (.int .i64 y.r.y) (show w.heap.size ≠ w.heap.size + 1 by omega) K0.out).alloc (.cells #[.int .i64 y.s, .int .i64 y.v, .int .i64 y.r.c, .int .i64 y.r.n, .int .i64 y.r.o, .int .i64 y.r.x, .int .i64 y.r.y] 55))
            have BN := Lib.hid (Below.store5 (.int .i64 y.r.c) (.int .i64 y.r.n) (.int .i64 y.r.o) (.int .i64 y.r.x) (.int .i64 y.r.y) (show w.heap.size ≤ w.heap.size + 1 by omega) hbi.out)
            have BN := Lib.hid (BN.out.alloc BN.out.size (.cells #[.int .i64 y.s, .int .i64 y.v, .int .i64 y.r.c, .int .i64 y.r.n, .int .i64 y.r.o, .int .i64 y.r.x, .int .i64 y.r.y] 55))
            go_wp2
            go_roundw
            case rel => exact ⟨q + 1, true, y.v, y.r, by omega, by go_num, rfl, rfl, HF, KN, K0N, BN⟩
            case measure => simp [intOf]; omega
          by_cases hm : v < y.v
          · have HF := Lib.hid (show pkC seq ⟨f0, v0, r0⟩ xl = pkC seq ⟨true, y.v, y.r⟩ (xl.drop (q + 1)) by rw [HE.out, hs, decide_eq_true hm]; rfl)
            clear HE
            have KN := Lib.hid ((Blk.store5 (.int .i64 y.r.c) (.int .i64 y.r.n) (.int .i64 y.r.o) (.int .i64 y.r.x) (.int .i64 y.r.y) K1.out).alloc (.cells #[.int .i64 y.s, .int .i64 y.v, .int .i64 y.r.c, .int .i64 y.r.n, .int .i64 y.r.o, .int .i64 y.r.x, .int .i64 y.r.y] 55))
            have K0N := Lib.hid ((Blk.away5 (.int .i64 y.r.c) (.int .i64 y.r.n) (.int .i64 y.r.o) (.int .i64 y.r.x) (.int .i64 y.r.y) (show w.heap.size ≠ w.heap.size + 1 by omega) K0.out).alloc (.cells #[.int .i64 y.s, .int .i64 y.v, .int .i64 y.r.c, .int .i64 y.r.n, .int .i64 y.r.o, .int .i64 y.r.x, .int .i64 y.r.y] 55))
            have BN := Lib.hid (Below.store5 (.int .i64 y.r.c) (.int .i64 y.r.n) (.int .i64 y.r.o) (.int .i64 y.r.x) (.int .i64 y.r.y) (show w.heap.size ≤ w.heap.size + 1 by omega) hbi.out)
            have BN := Lib.hid (BN.out.alloc BN.out.size (.cells #[.int .i64 y.s, .int .i64 y.v, .int .i64 y.r.c, .int .i64 y.r.n, .int .i64 y.r.o, .int .i64 y.r.x, .int .i64 y.r.y] 55))
            go_wp2
            go_roundw
            case rel => exact ⟨q + 1, true, y.v, y.r, by omega, by go_num, rfl, rfl, HF, KN, K0N, BN⟩
            case measure => simp [intOf]; omega
          · have HF := Lib.hid (show pkC seq ⟨f0, v0, r0⟩ xl = pkC seq ⟨true, v, r⟩ (xl.drop (q + 1)) by rw [HE.out, hs, decide_eq_false hm]; rfl)
            clear HE
            have KN := Lib.hid (K1.out.alloc (.cells #[.int .i64 y.s, .int .i64 y.v, .int .i64 y.r.c, .int .i64 y.r.n, .int .i64 y.r.o, .int .i64 y.r.x, .int .i64 y.r.y] 55))
            have K0N := Lib.hid (K0.out.alloc (.cells #[.int .i64 y.s, .int .i64 y.v, .int .i64 y.r.c, .int .i64 y.r.n, .int .i64 y.r.o, .int .i64 y.r.x, .int .i64 y.r.y] 55))
            have BN := Lib.hid (hbi.out.alloc hbi.out.size (.cells #[.int .i64 y.s, .int .i64 y.v, .int .i64 y.r.c, .int .i64 y.r.n, .int .i64 y.r.o, .int .i64 y.r.x, .int .i64 y.r.y] 55))
            go_wp2
            go_roundw
            case rel => exact ⟨q + 1, true, v, r, by omega, by go_num, rfl, rfl, HF, KN, K0N, BN⟩
            case measure => simp [intOf]; omega
        · have HN := Lib.hid (show pkC seq ⟨false, 0, ⟨0, 0, 0, 0, 0⟩⟩ (allC P) = pkC seq ⟨f, v, r⟩ (allC (P.drop (k + 1))) by rw [HD.out, ht.out, List.drop_of_length_le (by omega)]; rfl)
          clear ht
          go_wp2
          go_roundw
          case rel => exact ⟨k + 1, f, v, r, by omega, by go_num, rfl, rfl, HN, K1, K0, hbi⟩
          case measure => simp [intOf]; omega
    · have HZ := Lib.hid (show pckR seq P = r by unfold pckR; rw [ht.out, allC_end (by omega)]; rfl)
      have e0 : wr.cell? ⟨w.heap.size + 1, 0, none⟩ = some (.int .i64 r.c) := K1.out.cell 0
      have e1 : wr.cell? ⟨w.heap.size + 1, 1, none⟩ = some (.int .i64 r.n) := K1.out.cell 1
      have e2 : wr.cell? ⟨w.heap.size + 1, 2, none⟩ = some (.int .i64 r.o) := K1.out.cell 2
      have e3 : wr.cell? ⟨w.heap.size + 1, 3, none⟩ = some (.int .i64 r.x) := K1.out.cell 3
      have e4 : wr.cell? ⟨w.heap.size + 1, 4, none⟩ = some (.int .i64 r.y) := K1.out.cell 4
      have ef := K0.out.frozen
      have el := K1.out.lt
      have z0 : wr.cell? ⟨w.heap.size, 0, none⟩ = some (.int .i64 0) := K0.out.cell 0
      have z1 : wr.cell? ⟨w.heap.size, 1, none⟩ = some (.int .i64 0) := K0.out.cell 1
      have z2 : wr.cell? ⟨w.heap.size, 2, none⟩ = some (.int .i64 0) := K0.out.cell 2
      have z3 : wr.cell? ⟨w.heap.size, 3, none⟩ = some (.int .i64 0) := K0.out.cell 3
      have z4 : wr.cell? ⟨w.heap.size, 4, none⟩ = some (.int .i64 0) := K0.out.cell 4
      go_wp2
      refine bodyPost_ret (v := .agg #[.int .i64 r.c, .int .i64 r.n, .int .i64 r.o, .int .i64 r.x, .int .i64 r.y]) (by simp [results, Try.results87, go_sem, z0, z1, z2, z3, z4]) rfl ⟨by rw [HZ.out], ?_⟩
      iterate 5 (refine Below.setCell ?_ (by first | (simp; done) | (simp; omega)) _)
      exact hb.out

end Go.Proofs.Ytlokhgnbcbnmpaa
