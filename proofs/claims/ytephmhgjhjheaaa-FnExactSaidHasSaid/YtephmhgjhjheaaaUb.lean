/- Requests and claims that came in, made the program's own. -/
import Derived.Test.YtephmhgjhjheaaaUaa
namespace Go.Proofs.Ytephmhgjhjheaaa
open Go.ChangeShapes Go.WideShapes Go.ChangeAt Go.RowKit
set_option linter.unusedVariables false

theorem infoReq : (Try.prog.info? 24).map (fun i => (i.zero, i.size, i.bytes)) = some (some (.agg #[.int .i64 0, .int .i64 0, .int .i64 0, .int .i64 0, .int .i64 0]), 5, 40) := by kernel_rfl

set_option maxRecDepth 100000 in
theorem toReqS (A : Option Addr) (c : Nat) (l : List Rq) (w : World) (hl : l.length ≤ 1048576) (h : Rd 5 Rq.cells w A l) :
    Calls Try.prog 53 #[.slice A l.length c] w fun e w' => ∃ g, e = .returned (.slice (some ⟨g, 0, none⟩) l.length l.length) ∧ g = w.heap.size ∧ w'.ownsRow w.heap.size 24 5 (.slice (some ⟨g, 0, none⟩) l.length l.length) l.length (l.flatMap Rq.cells) ∧ Below w.heap.size w w' := by
  obtain ⟨i0, hi, hz0, hz1, hz2⟩ := info_parts infoReq
  obtain ⟨w1, hmk, hown, hg1⟩ := run_make_full (P := Try.prog) w w.heap.size 40 24 i0 _ 5 Try.underlying40 hi hz0 hz1 .i64 .i64 l.length (by rw [hz2]; omega) (by unfold maxLen; omega) (Nat.le_refl _)
  have B1 := Below.of_none hg1
  have hx : l.length * 5 = ((madeCells (Value.agg #[.int .i64 0, .int .i64 0, .int .i64 0, .int .i64 0, .int .i64 0]).cells (l.length * 5)).toList).length := by have := hown.1; omega
  generalize (madeCells (Value.agg #[.int .i64 0, .int .i64 0, .int .i64 0, .int .i64 0, .int .i64 0]).cells (l.length * 5)).toList = xs at hown hx
  have HI := Lib.hid h
  have HX := Lib.hid hx
  have HO := Lib.hid hown
  have HB := Lib.hid B1
  clear h hx hown hg1 B1 hi hz0 hz1 hz2
  go_enter Try.func53, Try.ntmps53
  go_wp2
  go_loopw [4] (fun i wr => ∃ j : Nat, j ≤ l.length ∧ i = .int .i64 j ∧ Hid (wr.ownsRow w.heap.size 24 5 (.slice (some ⟨w.heap.size, 0, none⟩) l.length l.length) l.length ((l.take j).flatMap Rq.cells ++ xs.drop (j * 5))) ∧ Hid (w1.grownBy wr (some w.heap.size))) (fun i _ => l.length - (intOf i).toNat)
  case atStart => exact ⟨0, Nat.zero_le _, rfl, by simpa [Hid] using HO.out, World.grownBy.refl _ _⟩
  case round =>
    obtain ⟨j, hj, rfl, ho, hg⟩ := hrel
    by_cases hlt : j < l.length
    · obtain ⟨b, off, rfl, ca⟩ := HI.out j hlt
      have keep : ∀ {o : Nat} {u : Value}, w.cell? ⟨b, o, none⟩ = some u → wr.cell? ⟨b, o, none⟩ = some u := fun hc => hg.out.cell (cell_kept HB.out hc) (by have := World.block_lt_of_cell? w _ hc; simp at this ⊢; omega)
      have cb := fun (p : Nat) (u : Value) hu => keep (ca p u hu)
      clear ca keep
      have c0 : wr.cell? ⟨b, off + j * 5, none⟩ = some (.int .i64 l[j].c) := cb 0 _ rfl
      have c1 : wr.cell? ⟨b, off + j * 5 + 1, none⟩ = some (.int .i64 l[j].n) := cb 1 _ rfl
      have c2 : wr.cell? ⟨b, off + j * 5 + 2, none⟩ = some (.int .i64 l[j].o) := cb 2 _ rfl
      have c3 : wr.cell? ⟨b, off + j * 5 + 3, none⟩ = some (.int .i64 l[j].x) := cb 3 _ rfl
      have c4 : wr.cell? ⟨b, off + j * 5 + 4, none⟩ = some (.int .i64 l[j].y) := cb 4 _ rfl
      clear cb
      have i0 : (0 : Int) ≤ (j : Int) := by omega
      have i1 : (j : Int) < (l.length : Int) := by omega
      go_wp2_with (fail)
      refine (toRq l[j] wr).mono ?_
      rintro r w2 ⟨rfl, h2⟩
      have ho2 := own_below ho.out h2
      have hf := fun p => ho2.frozenAt p
      have hlen : ((l.take j).flatMap Rq.cells).length = j * 5 := by rw [rows_length 5 Rq.cells Rq.len, List.length_take, Nat.min_eq_left (by omega)]
      have hc : ∀ p, p < 5 → ∃ u, w2.cell? ⟨w.heap.size, j * 5 + p, none⟩ = some u := fun p hp => ⟨_, (ho2.cellAt (j * 5 + p) (by omega)).trans (List.getElem?_eq_getElem (by have := HX.out; rw [List.length_append, hlen, List.length_drop]; omega))⟩
      obtain ⟨v0, hv0⟩ := hc 0 (by omega)
      obtain ⟨v1, hv1⟩ := hc 1 (by omega)
      obtain ⟨v2, hv2⟩ := hc 2 (by omega)
      obtain ⟨v3, hv3⟩ := hc 3 (by omega)
      obtain ⟨v4, hv4⟩ := hc 4 (by omega)
      rw [Nat.add_zero] at hv0
      obtain ⟨s1, s2⟩ := store_all (l[j].cells) (j * 5) hlen (by have := HX.out; rw [Rq.len]; omega) ho2
      have e1 : (l.take (j + 1)).flatMap Rq.cells = (l.take j).flatMap Rq.cells ++ l[j].cells := by rw [List.take_succ_eq_append_getElem hlt, List.flatMap_append, List.flatMap_cons, List.flatMap_nil, List.append_nil]
      rw [← e1, Rq.len, show j * 5 + 5 = (j + 1) * 5 from by omega] at s1
      have S1 := Lib.hid s1
      have S2 := Lib.hid (grownBy_trans hg.out (grownBy_trans (Below.grownBy h2 _) s2))
      clear s1 s2 hc h2 ho2 e1 hlen c0 c1 c2 c3 c4
      go_wp2
      go_roundw
      case rel => exact ⟨j + 1, by omega, by go_num, S1.out, S2.out⟩
      case measure => simp [intOf]; omega
    · have hz : j = l.length := by omega
      have HZ := Lib.hid hz
      clear hz
      go_wp2
      go_ret
      have := ho.out
      rw [HZ.out, List.take_length, List.drop_of_length_le (by have := HX.out; omega), List.append_nil] at this
      exact ⟨_, rfl, rfl, this, Below.trans HB.out (Below.of_grown hg.out HB.out.size (by rintro k hk; cases hk; omega))⟩

theorem infoClaim : (Try.prog.info? 60).map (fun i => (i.zero, i.size, i.bytes)) = some (some (.agg #[.int .i64 0, .int .i64 0, .int .i64 0, .int .i64 0, .int .i64 0, .int .i64 0, .int .i64 0]), 7, 56) := by kernel_rfl

set_option maxRecDepth 100000 in
theorem toClaimS (A : Option Addr) (c : Nat) (l : List Cl) (w : World) (hl : l.length ≤ 1048576) (h : Rd 7 Cl.cells w A l) :
    Calls Try.prog 132 #[.slice A l.length c] w fun e w' => ∃ g, e = .returned (.slice (some ⟨g, 0, none⟩) l.length l.length) ∧ g = w.heap.size ∧ w'.ownsRow w.heap.size 60 7 (.slice (some ⟨g, 0, none⟩) l.length l.length) l.length (l.flatMap Cl.cells) ∧ Below w.heap.size w w' := by
  obtain ⟨i0, hi, hz0, hz1, hz2⟩ := info_parts infoClaim
  obtain ⟨w1, hmk, hown, hg1⟩ := run_make_full (P := Try.prog) w w.heap.size 46 60 i0 _ 7 Try.underlying46 hi hz0 hz1 .i64 .i64 l.length (by rw [hz2]; omega) (by unfold maxLen; omega) (Nat.le_refl _)
  have B1 := Below.of_none hg1
  have hx : l.length * 7 = ((madeCells (Value.agg #[.int .i64 0, .int .i64 0, .int .i64 0, .int .i64 0, .int .i64 0, .int .i64 0, .int .i64 0]).cells (l.length * 7)).toList).length := by have := hown.1; omega
  generalize (madeCells (Value.agg #[.int .i64 0, .int .i64 0, .int .i64 0, .int .i64 0, .int .i64 0, .int .i64 0, .int .i64 0]).cells (l.length * 7)).toList = xs at hown hx
  have HI := Lib.hid h
  have HX := Lib.hid hx
  have HO := Lib.hid hown
  have HB := Lib.hid B1
  clear h hx hown hg1 B1 hi hz0 hz1 hz2
  go_enter Try.func132, Try.ntmps132
  go_wp2
  go_loopw [4] (fun i wr => ∃ j : Nat, j ≤ l.length ∧ i = .int .i64 j ∧ Hid (wr.ownsRow w.heap.size 60 7 (.slice (some ⟨w.heap.size, 0, none⟩) l.length l.length) l.length ((l.take j).flatMap Cl.cells ++ xs.drop (j * 7))) ∧ Hid (w1.grownBy wr (some w.heap.size))) (fun i _ => l.length - (intOf i).toNat)
  case atStart => exact ⟨0, Nat.zero_le _, rfl, by simpa [Hid] using HO.out, World.grownBy.refl _ _⟩
  case round =>
    obtain ⟨j, hj, rfl, ho, hg⟩ := hrel
    by_cases hlt : j < l.length
    · obtain ⟨b, off, rfl, ca⟩ := HI.out j hlt
      have keep : ∀ {o : Nat} {u : Value}, w.cell? ⟨b, o, none⟩ = some u → wr.cell? ⟨b, o, none⟩ = some u := fun hc => hg.out.cell (cell_kept HB.out hc) (by have := World.block_lt_of_cell? w _ hc; simp at this ⊢; omega)
      have cb := fun (p : Nat) (u : Value) hu => keep (ca p u hu)
      clear ca keep
      have c0 : wr.cell? ⟨b, off + j * 7, none⟩ = some (.int .i64 l[j].s) := cb 0 _ rfl
      have c1 : wr.cell? ⟨b, off + j * 7 + 1, none⟩ = some (.int .i64 l[j].v) := cb 1 _ rfl
      have c2 : wr.cell? ⟨b, off + j * 7 + 2, none⟩ = some (.int .i64 l[j].r.c) := cb 2 _ rfl
      have c3 : wr.cell? ⟨b, off + j * 7 + 3, none⟩ = some (.int .i64 l[j].r.n) := cb 3 _ rfl
      have c4 : wr.cell? ⟨b, off + j * 7 + 4, none⟩ = some (.int .i64 l[j].r.o) := cb 4 _ rfl
      have c5 : wr.cell? ⟨b, off + j * 7 + 5, none⟩ = some (.int .i64 l[j].r.x) := cb 5 _ rfl
      have c6 : wr.cell? ⟨b, off + j * 7 + 6, none⟩ = some (.int .i64 l[j].r.y) := cb 6 _ rfl
      clear cb
      have i0 : (0 : Int) ≤ (j : Int) := by omega
      have i1 : (j : Int) < (l.length : Int) := by omega
      go_wp2_with (fail)
      refine (toClaim l[j] wr).mono ?_
      rintro r w2 ⟨rfl, h2⟩
      have ho2 := own_below ho.out h2
      have hf := fun p => ho2.frozenAt p
      have hlen : ((l.take j).flatMap Cl.cells).length = j * 7 := by rw [rows_length 7 Cl.cells Cl.len, List.length_take, Nat.min_eq_left (by omega)]
      have hc : ∀ p, p < 7 → ∃ u, w2.cell? ⟨w.heap.size, j * 7 + p, none⟩ = some u := fun p hp => ⟨_, (ho2.cellAt (j * 7 + p) (by omega)).trans (List.getElem?_eq_getElem (by have := HX.out; rw [List.length_append, hlen, List.length_drop]; omega))⟩
      obtain ⟨v0, hv0⟩ := hc 0 (by omega)
      obtain ⟨v1, hv1⟩ := hc 1 (by omega)
      obtain ⟨v2, hv2⟩ := hc 2 (by omega)
      obtain ⟨v3, hv3⟩ := hc 3 (by omega)
      obtain ⟨v4, hv4⟩ := hc 4 (by omega)
      obtain ⟨v5, hv5⟩ := hc 5 (by omega)
      obtain ⟨v6, hv6⟩ := hc 6 (by omega)
      rw [Nat.add_zero] at hv0
      obtain ⟨s1, s2⟩ := store_all (l[j].cells) (j * 7) hlen (by have := HX.out; rw [Cl.len]; omega) ho2
      have e1 : (l.take (j + 1)).flatMap Cl.cells = (l.take j).flatMap Cl.cells ++ l[j].cells := by rw [List.take_succ_eq_append_getElem hlt, List.flatMap_append, List.flatMap_cons, List.flatMap_nil, List.append_nil]
      rw [← e1, Cl.len, show j * 7 + 7 = (j + 1) * 7 from by omega] at s1
      have S1 := Lib.hid s1
      have S2 := Lib.hid (grownBy_trans hg.out (grownBy_trans (Below.grownBy h2 _) s2))
      clear s1 s2 hc h2 ho2 e1 hlen c0 c1 c2 c3 c4 c5 c6
      go_wp2
      go_roundw
      case rel => exact ⟨j + 1, by omega, by go_num, S1.out, S2.out⟩
      case measure => simp [intOf]; omega
    · have hz : j = l.length := by omega
      have HZ := Lib.hid hz
      clear hz
      go_wp2
      go_ret
      have := ho.out
      rw [HZ.out, List.take_length, List.drop_of_length_le (by have := HX.out; omega), List.append_nil] at this
      exact ⟨_, rfl, rfl, this, Below.trans HB.out (Below.of_grown hg.out HB.out.size (by rintro k hk; cases hk; omega))⟩

end Go.Proofs.Ytephmhgjhjheaaa
