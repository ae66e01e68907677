/- What votes claim: the last place, and what is picked at a place. -/
import Derived.Test.YtlokhgnbcbnmpaaMH
import Derived.Test.YtlokhgnbcbnmpaaUi
namespace Go.Proofs.Ytlokhgnbcbnmpaa
open Go.ChangeShapes Go.WideShapes Go.ChangeAt Go.RowKit
set_option linter.unusedVariables false
set_option linter.unusedSimpArgs false

def allC (P : List VtP) : List Cl := P.flatMap VtP.cl
theorem allC_drop {P : List VtP} {k : Nat} (h : k < P.length) : allC (P.drop k) = P[k].cl ++ allC (P.drop (k + 1)) := by
  rw [List.drop_eq_getElem_cons h]; rfl
theorem allC_end {P : List VtP} {k : Nat} (h : P.length ≤ k) : allC (P.drop k) = [] := by rw [List.drop_of_length_le h]; rfl
theorem allC_congr {P Q : List VtP} (h : P.map VtP.vt = Q.map VtP.vt) : allC P = allC Q := by
  have e : ∀ X : List VtP, allC X = (X.map VtP.vt).flatMap Vt.cl := fun X => by induction X with
    | nil => rfl
    | cons a X ih => rw [allC, List.flatMap_cons, List.map_cons, List.flatMap_cons, ← ih]; rfl
  rw [e, e, h]

def topC : Int → List Cl → Int
  | t, [] => t
  | t, c :: l => topC (if t < c.s then c.s else t) l
theorem topC_append (a b : List Cl) : ∀ t, topC t (a ++ b) = topC (topC t a) b := by
  induction a with
  | nil => intro t; rfl
  | cons c a ih => intro t; exact ih _

structure Pk where
  f : Bool
  v : Int
  r : Rq
def pkC (seq : Int) : Pk → List Cl → Pk
  | p, [] => p
  | p, c :: l => pkC seq (if (c.s == seq && (!p.f || decide (p.v < c.v))) = true then ⟨true, c.v, c.r⟩ else p) l
theorem pkC_append (seq : Int) (a b : List Cl) : ∀ p, pkC seq p (a ++ b) = pkC seq (pkC seq p a) b := by
  induction a with
  | nil => intro t; rfl
  | cons c a ih => intro t; exact ih _
def pckR (seq : Int) (P : List VtP) : Rq := (pkC seq ⟨false, 0, ⟨0, 0, 0, 0, 0⟩⟩ (allC P)).r

set_option maxRecDepth 100000 in
set_option maxHeartbeats 4000000 in
theorem lastSeq (A : Option Addr) (c : Nat) (P : List VtP) (w : World) (hn : P.length ≤ maxLen) (hr : RdV w A P) :
    Calls Try.prog 52 #[.slice A P.length c] w fun e w' => e = .returned (.int .i64 (topC 0 (allC P))) ∧ Below w.heap.size w w' := by
  unfold maxLen at hn
  have HR := Lib.hid hr
  clear hr
  go_enter Try.func52, Try.ntmps52
  go_wp2
  go_loopw [3, 10] (fun t i wr => ∃ (k : Nat) (m : Int), k ≤ P.length ∧ i = .int .i64 k ∧ t = .int .i64 m ∧ Hid (topC 0 (allC P) = topC m (allC (P.drop k))) ∧ Hid (Below w.heap.size w wr)) (fun _ i _ => P.length - (intOf i).toNat)
  case atStart => exact ⟨0, 0, Nat.zero_le _, rfl, rfl, by simp [Hid], Below.refl _ _⟩
  case round =>
    obtain ⟨k, m, hk, rfl, rfl, ht, hb⟩ := hrel
    by_cases hlt : k < P.length
    · obtain ⟨g, o, rfl, ca⟩ := Rd.below HR.out.1 hb.out k hlt
      have rx := HR.out.2 P[k] (List.getElem_mem hlt)
      have HD := Lib.hid (show topC 0 (allC P) = topC (topC m P[k].cl) (allC (P.drop (k + 1))) by rw [ht.out, allC_drop hlt]; first | rw [topC_append] | rw [pkC_append])
      clear ht
      generalize P[k] = x at ca HD rx
      obtain ⟨xf, xA, xc, xl⟩ := x
      have a0 : wr.cell? ⟨g, o + k * 2, none⟩ = some (.int .i64 xf) := ca 0 _ rfl
      have a1 : wr.cell? ⟨g, o + k * 2 + 1, none⟩ = some (.slice xA xl.length xc) := ca 1 _ rfl
      clear ca
      have mx : xl.length ≤ 9223372036854775807 := rx.1
      have RX : Hid (RdC w xA xl) := rx.2
      have BB := Lib.hid (hb.out.alloc hb.out.size (.cells #[.int .i64 xf, .slice xA xl.length xc] 67))
      clear rx
      have i0 : (0 : Int) ≤ (k : Int) := by omega
      have i1 : (k : Int) < (P.length : Int) := by omega
      go_wp2
      go_loopw [3, 17] (fun t j wi => ∃ (q : Nat) (n : Int), q ≤ xl.length ∧ j = .int .i64 q ∧ t = .int .i64 n ∧ Hid (topC m xl = topC n (xl.drop q)) ∧ Hid (Below w.heap.size w wi)) (fun _ j _ => xl.length - (intOf j).toNat)
      case atStart => exact ⟨0, m, Nat.zero_le _, rfl, rfl, by simp [Hid], BB.out⟩
      case round =>
        clear a0 a1
        obtain ⟨q, n, hq, rfl, rfl, ht, hbi⟩ := hrel
        by_cases hlq : q < xl.length
        · obtain ⟨g', o', rfl, ca⟩ := Rd.below RX.out hbi.out q hlq
          have HE := Lib.hid (show topC m xl = topC (if n < xl[q].s then xl[q].s else n) (xl.drop (q + 1)) by rw [ht.out, List.drop_eq_getElem_cons hlq]; rfl)
          clear ht
          generalize xl[q] = y at ca HE
          have c0 : wr.cell? ⟨g', o' + q * 7, none⟩ = some (.int .i64 y.s) := ca 0 _ rfl
          have c1 : wr.cell? ⟨g', o' + q * 7 + 1, none⟩ = some (.int .i64 y.v) := ca 1 _ rfl
          have c2 : wr.cell? ⟨g', o' + q * 7 + 2, none⟩ = some (.int .i64 y.r.c) := ca 2 _ rfl
          have c3 : wr.cell? ⟨g', o' + q * 7 + 3, none⟩ = some (.int .i64 y.r.n) := ca 3 _ rfl
          have c4 : wr.cell? ⟨g', o' + q * 7 + 4, none⟩ = some (.int .i64 y.r.o) := ca 4 _ rfl
          have c5 : wr.cell? ⟨g', o' + q * 7 + 5, none⟩ = some (.int .i64 y.r.x) := ca 5 _ rfl
          have c6 : wr.cell? ⟨g', o' + q * 7 + 6, none⟩ = some (.int .i64 y.r.y) := ca 6 _ rfl
          clear ca
          have j0 : (0 : Int) ≤ (q : Int) := by omega
          have j1 : (q : Int) < (xl.length : Int) := by omega
          have BC := Lib.hid (hbi.out.alloc hbi.out.size (.cells #[.int .i64 y.s, .int .i64 y.v, .int .i64 y.r.c, .int .i64 y.r.n, .int .i64 y.r.o, .int .i64 y.r.x, .int .i64 y.r.y] 55))
          by_cases hm : n < y.s
          · have HF := Lib.hid (show topC m xl = topC y.s (xl.drop (q + 1)) by rw [HE.out, if_pos hm])
            clear HE
            go_wp2
            go_roundw
            case rel => exact ⟨q + 1, _, by omega, by go_num, by first | rfl | go_num | (congr 1; omega), HF, BC.out⟩
            case measure => simp [intOf]; omega
          · have HF := Lib.hid (show topC m xl = topC n (xl.drop (q + 1)) by rw [HE.out, if_neg hm])
            clear HE
            go_wp2
            go_roundw
            case rel => exact ⟨q + 1, _, by omega, by go_num, by first | rfl | go_num | (congr 1; omega), HF, BC.out⟩
            case measure => simp [intOf]; omega
        · have HN := Lib.hid (show topC 0 (allC P) = topC n (allC (P.drop (k + 1))) by rw [HD.out, ht.out, List.drop_of_length_le (by omega)]; rfl)
          clear ht
          go_wp2
          go_roundw
          case rel => exact ⟨k + 1, n, by omega, by go_num, rfl, HN, hbi.out⟩
          case measure => simp [intOf]; omega
    · have HZ := Lib.hid (show topC 0 (allC P) = m by rw [ht.out, allC_end (by omega)]; rfl)
      go_wp2
      go_ret
      exact ⟨by rw [HZ.out]; rfl, hb.out⟩

set_option maxRecDepth 100000 in
set_option maxHeartbeats 4000000 in
theorem l4Top (A : Option Addr) (c : Nat) (P : List VtP) (w : World) (hn : P.length ≤ maxLen) (hr : RdV w A P) :
    Calls Try.prog 86 #[.slice A P.length c] w fun e w' => e = .returned (.int .i64 (topC 0 (allC P))) ∧ Below w.heap.size w w' := by
  unfold maxLen at hn
  have HR := Lib.hid hr
  clear hr
  go_enter Try.func86, Try.ntmps86
  go_wp2
  go_loop [3, 4] (fun t i => ∃ (k : Nat) (m : Int), k ≤ P.length ∧ i = .int .i64 k ∧ t = .int .i64 m ∧ Hid (topC 0 (allC P) = topC m (allC (P.drop k)))) (fun _ i => P.length - (intOf i).toNat)
  case atStart => exact ⟨0, 0, Nat.zero_le _, rfl, rfl, by simp [Hid]⟩
  case round =>
    obtain ⟨k, m, hk, rfl, rfl, ht⟩ := hrel
    by_cases hlt : k < P.length
    · obtain ⟨g, o, rfl, ca⟩ := HR.out.1 k hlt
      have rx := HR.out.2 P[k] (List.getElem_mem hlt)
      have HD := Lib.hid (show topC 0 (allC P) = topC (topC m P[k].cl) (allC (P.drop (k + 1))) by rw [ht.out, allC_drop hlt, topC_append])
      clear ht
      generalize P[k] = x at ca HD rx
      obtain ⟨xf, xA, xc, xl⟩ := x
      have a0 : w.cell? ⟨g, o + k * 2, none⟩ = some (.int .i64 xf) := ca 0 _ rfl
      have a1 : w.cell? ⟨g, o + k * 2 + 1, none⟩ = some (.slice xA xl.length xc) := ca 1 _ rfl
      clear ca
      have mx : xl.length ≤ 9223372036854775807 := rx.1
      have RX : Hid (RdC w xA xl) := rx.2
      clear rx
      have i0 : (0 : Int) ≤ (k : Int) := by omega
      have i1 : (k : Int) < (P.length : Int) := by omega
      go_wp2
      go_loop [3, 5] (fun t j => ∃ (q : Nat) (n : Int), q ≤ xl.length ∧ j = .int .i64 q ∧ t = .int .i64 n ∧ Hid (topC m xl = topC n (xl.drop q))) (fun _ j => xl.length - (intOf j).toNat)
      case atStart => exact ⟨0, m, Nat.zero_le _, rfl, rfl, by simp [Hid]⟩
      case round =>
        obtain ⟨q, n, hq, rfl, rfl, ht⟩ := hrel
        by_cases hlq : q < xl.length
        · obtain ⟨g', o', rfl, ca⟩ := RX.out q hlq
          have HE := Lib.hid (show topC m xl = topC (if n < xl[q].s then xl[q].s else n) (xl.drop (q + 1)) by rw [ht.out, List.drop_eq_getElem_cons hlq]; rfl)
          clear ht
          generalize xl[q] = y at ca HE
          have c0 : w.cell? ⟨g', o' + q * 7, none⟩ = some (.int .i64 y.s) := ca 0 _ rfl
          clear ca
          have j0 : (0 : Int) ≤ (q : Int) := by omega
          have j1 : (q : Int) < (xl.length : Int) := by omega
          by_cases hm : n < y.s
          · have HF := Lib.hid (show topC m xl = topC y.s (xl.drop (q + 1)) by rw [HE.out, if_pos hm])
            clear HE
            go_wp2
            go_round
            case rel => exact ⟨q + 1, _, by omega, by go_num, rfl, HF⟩
            case measure => simp [intOf]; omega
          · have HF := Lib.hid (show topC m xl = topC n (xl.drop (q + 1)) by rw [HE.out, if_neg hm])
            clear HE
            go_wp2
            go_round
            case rel => exact ⟨q + 1, _, by omega, by go_num, rfl, HF⟩
            case measure => simp [intOf]; omega
        · have HN := Lib.hid (show topC 0 (allC P) = topC n (allC (P.drop (k + 1))) by rw [HD.out, ht.out, List.drop_of_length_le (by omega)]; rfl)
          clear ht
          go_wp2
          go_round
          case rel => exact ⟨k + 1, n, by omega, by go_num, rfl, HN⟩
          case measure => simp [intOf]; omega
    · have HZ := Lib.hid (show topC 0 (allC P) = m by rw [ht.out, allC_end (by omega)]; rfl)
      go_wp2
      go_ret
      exact ⟨by rw [HZ.out]; rfl, Below.refl _ _⟩

end Go.Proofs.Ytlokhgnbcbnmpaa
