/- Lists of votes that came in, made the program's own. -/
import Derived.Test.YtephmhgjhjheaaaUj
namespace Go.Proofs.Ytephmhgjhjheaaa
open Go.ChangeShapes Go.WideShapes Go.ChangeAt Go.RowKit
set_option linter.unusedVariables false

theorem infoVote : (Try.prog.info? 58).map (fun i => (i.zero, i.size, i.bytes)) = some (some (.agg #[.int .i64 0, .slice none 0 0]), 2, 32) := by kernel_rfl

set_option maxRecDepth 100000 in
set_option maxHeartbeats 1000000 in
theorem toVoteS (A : Option Addr) (c : Nat) (l : List VtP) (w : World) (hl : l.length ≤ 1048576) (hcl : ∀ p ∈ l, p.cl.length ≤ 1048576) (h : RdV w A l) :
    Calls Try.prog 65 #[.slice A l.length c] w fun e w' => ∃ Q : List VtP, e = .returned (.slice (some ⟨w.heap.size, 0, none⟩) Q.length Q.length) ∧ Q.map VtP.vt = l.map VtP.vt ∧ OwV w' w.heap.size Q ∧ Below w.heap.size w w' := by
  obtain ⟨i0, hi, hz0, hz1, hz2⟩ := info_parts infoVote
  obtain ⟨w1, hmk, hown, hg1⟩ := run_make_full (P := Try.prog) w w.heap.size 47 58 i0 _ 2 Try.underlying47 hi hz0 hz1 .i64 .i64 l.length (by rw [hz2]; omega) (by unfold maxLen; omega) (Nat.le_refl _)
  have B1 := Below.of_none hg1
  have hx : l.length * 2 = ((madeCells (Value.agg #[.int .i64 0, .slice none 0 0]).cells (l.length * 2)).toList).length := by have := hown.1; omega
  generalize (madeCells (Value.agg #[.int .i64 0, .slice none 0 0]).cells (l.length * 2)).toList = xs at hown hx
  have HI := Lib.hid h
  have HCL := Lib.hid hcl
  have HX := Lib.hid hx
  have HO := Lib.hid hown
  have HB := Lib.hid B1
  have hs1 : w.heap.size + 1 ≤ w1.heap.size := by have := (hown.lt w.heap.size rfl).2; omega
  clear h hx hown hg1 B1 hi hz0 hz1 hz2 hcl
  go_enter Try.func65, Try.ntmps65
  go_wp2
  go_loopw [4] (fun i wr => ∃ (j : Nat) (Q : List VtP), j ≤ l.length ∧ i = .int .i64 j ∧ Hid (Q.map VtP.vt = (l.take j).map VtP.vt) ∧ Hid (wr.ownsRow w.heap.size 58 2 (.slice (some ⟨w.heap.size, 0, none⟩) l.length l.length) l.length (Q.flatMap VtP.cells ++ xs.drop (j * 2))) ∧ Hid (∀ q ∈ Q, q.own wr (w.heap.size + 1)) ∧ Hid (w1.grownBy wr (some w.heap.size))) (fun i _ => l.length - (intOf i).toNat)
  case atStart => exact ⟨0, [], Nat.zero_le _, rfl, by simp [Hid], by simpa [Hid] using HO.out, by simp [Hid], World.grownBy.refl _ _⟩
  case round =>
    obtain ⟨j, Q, hj, rfl, hm, ho, hq, hg⟩ := hrel
    have hsr : w.heap.size + 1 ≤ wr.heap.size := by have := hg.out.size; omega
    by_cases hlt : j < l.length
    · obtain ⟨b, off, rfl, ca⟩ := HI.out.1 j hlt
      have keep : ∀ {o : Nat} {u : Value}, w.cell? ⟨b, o, none⟩ = some u → wr.cell? ⟨b, o, none⟩ = some u := fun hc => hg.out.cell (cell_kept HB.out hc) (by have := World.block_lt_of_cell? w _ hc; simp at this ⊢; omega)
      have c0 : wr.cell? ⟨b, off + j * 2, none⟩ = some (.int .i64 l[j].f) := keep (ca 0 _ rfl)
      have c1 : wr.cell? ⟨b, off + j * 2 + 1, none⟩ = some (.slice l[j].A l[j].cl.length l[j].c) := keep (ca 1 _ rfl)
      clear ca keep
      have BW : Below w.heap.size w wr := Below.trans HB.out (Below.of_grown hg.out HB.out.size (by rintro k hk; cases hk; omega))
      have rx := (HI.out.2 l[j] (List.getElem_mem hlt)).below BW
      have lx := HCL.out l[j] (List.getElem_mem hlt)
      have RX := Lib.hid rx
      have i0 : (0 : Int) ≤ (j : Int) := by omega
      have i1 : (j : Int) < (l.length : Int) := by omega
      clear rx BW
      obtain ⟨x, hx⟩ : ∃ x, x = l[j] := ⟨_, rfl⟩
      rw [← hx] at c0 c1 lx RX
      have HXX := Lib.hid hx
      clear hx
      go_wp2_with (fail)
      refine (toVote x wr RX.out lx).mono ?_
      rintro r w2 ⟨y, rfl, hy, oy, h2⟩
      have hs2 := h2.size
      have ho2 := own_below ho.out h2
      have hlen : (Q.flatMap VtP.cells).length = j * 2 := by
        have := congrArg List.length hm.out
        rw [List.length_map, List.length_map, List.length_take, Nat.min_eq_left (by omega)] at this
        rw [rows_length 2 VtP.cells VtP.len, this]
      have hc : ∀ p, p < 2 → ∃ u, w2.cell? ⟨w.heap.size, j * 2 + p, none⟩ = some u := fun p hp => ⟨_, (ho2.cellAt (j * 2 + p) (by omega)).trans (List.getElem?_eq_getElem (by have := HX.out; rw [List.length_append, hlen, List.length_drop]; omega))⟩
      have hf := fun p => ho2.frozenAt p
      obtain ⟨v0, hv0⟩ := hc 0 (by omega)
      obtain ⟨v1, hv1⟩ := hc 1 (by omega)
      rw [Nat.add_zero] at hv0
      obtain ⟨s1, s2⟩ := store_all y.cells (j * 2) hlen (by have := HX.out; rw [VtP.len]; omega) ho2
      have e1 : (Q ++ [y]).flatMap VtP.cells = Q.flatMap VtP.cells ++ y.cells := by simp
      rw [← e1, VtP.len, show j * 2 + 2 = (j + 1) * 2 from by omega] at s1
      have S1 := Lib.hid s1
      have S2 := Lib.hid (grownBy_trans hg.out (grownBy_trans (Below.grownBy h2 _) s2))
      have S3 : Hid (∀ q ∈ Q ++ [y], q.own (storeAll w2 w.heap.size (j * 2) y.cells) (w.heap.size + 1)) := by
        intro q hq'
        simp only [storeAll, VtP.cells]
        rcases List.mem_append.1 hq' with h' | h'
        · exact (((hq.out q h').below h2).set (by omega) _ _).set (by omega) _ _
        · rw [List.mem_singleton.1 h']
          exact ((oy.base (by omega)).set (by omega) _ _).set (by omega) _ _
      have S4 : Hid ((Q ++ [y]).map VtP.vt = (l.take (j + 1)).map VtP.vt) := by
        rw [List.take_succ_eq_append_getElem hlt, List.map_append, List.map_append, hm.out, List.map_cons, List.map_nil, List.map_cons, List.map_nil, hy, HXX.out]
        rfl
      clear s1 s2 hc h2 ho2 e1 hlen c0 c1 oy hy hq
      go_wp2
      go_roundw
      case rel => exact ⟨j + 1, Q ++ [y], by omega, by go_num, S4.out, S1.out, S3.out, S2.out⟩
      case measure => simp [intOf]; omega
    · have hz : j = l.length := by omega
      have HZ := Lib.hid hz
      clear hz
      go_wp2
      go_ret
      have h1 := ho.out
      have h2 := hm.out
      rw [HZ.out, List.drop_of_length_le (by have := HX.out; omega), List.append_nil] at h1
      rw [HZ.out, List.take_length] at h2
      have h3 : Q.length = l.length := by have := congrArg List.length h2; simpa using this
      rw [← h3] at h1
      exact ⟨Q, by rw [h3]; rfl, h2, ⟨h1, hq.out⟩, Below.trans HB.out (Below.of_grown hg.out HB.out.size (by rintro k hk; cases hk; omega))⟩
end Go.Proofs.Ytephmhgjhjheaaa
