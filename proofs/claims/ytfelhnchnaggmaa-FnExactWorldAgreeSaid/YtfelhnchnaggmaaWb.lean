/- Keepers, and a world that came in, made the program's own. -/
import Derived.Test.YtfelhnchnaggmaaWa
namespace Go.Proofs.Ytfelhnchnaggmaa
open Go.ChangeShapes Go.WideShapes Go.ChangeAt Go.RowKit
set_option linter.unusedVariables false
set_option linter.unusedSimpArgs false

theorem infoRep : (Try.prog.info? 47).map (fun i => (i.zero, i.size, i.bytes)) = some (some (.agg #[.int .i64 0, .int .i64 0, .bool false, .int .i64 0, .slice none 0 0, .slice none 0 0, .slice none 0 0]), 7, 104) := by kernel_rfl

theorem RpP.own.set {w : World} {lo : Nat} {r : RpP} (h : r.own w lo) {b : Nat} (hb : b < lo) (o : Nat) (u : Value) : r.own (w.setCell ⟨b, o, none⟩ u) lo := by
  obtain ⟨g, h1, h2, h3, h4⟩ := h.oh
  exact ⟨own_set h.ot hb o u, ⟨g, h1, h2, h3, h4.set (by omega) o u⟩, own_set h.od hb o u⟩
theorem RpP.own.base {w : World} {lo lo' : Nat} {r : RpP} (h : r.own w lo) (hl : lo' ≤ lo) : r.own w lo' := by
  obtain ⟨g, h1, h2, h3, h4⟩ := h.oh
  exact ⟨own_base h.ot hl, ⟨g, by omega, h2, h3, h4⟩, own_base h.od hl⟩
/-- The keepers Q lie in the row g, and what they hold behind it. -/
def OwR (w : World) (g : Nat) (Q : List RpP) : Prop := w.ownsRow g 47 7 (.slice (some ⟨g, 0, none⟩) Q.length Q.length) Q.length (Q.flatMap RpP.cells) ∧ ∀ q ∈ Q, q.own w (g + 1)
theorem OwR.below {w w' : World} {g : Nat} {Q : List RpP} (h : OwR w g Q) (hb : Below w.heap.size w w') : OwR w' g Q := ⟨own_below h.1 hb, fun q hq => (h.2 q hq).below hb⟩
theorem OwR.rd {w : World} {g : Nat} {Q : List RpP} (h : OwR w g Q) : RdRs w (some ⟨g, 0, none⟩) Q := ⟨Rd.of_own RpP.len h.1 rfl, fun q hq => (h.2 q hq).rd⟩
theorem OwR.len {w : World} {g : Nat} {Q : List RpP} (h : OwR w g Q) : Q.length ≤ maxLen := by
  obtain ⟨A, c, hv, hm⟩ := own_form h.1
  exact hm
theorem OwR.set {w : World} {g : Nat} {Q : List RpP} (h : OwR w g Q) {b : Nat} (hb : b < g) (o : Nat) (u : Value) : OwR (w.setCell ⟨b, o, none⟩ u) g Q := ⟨own_set h.1 hb o u, fun q hq => (h.2 q hq).set (by omega) o u⟩
theorem szRs_mem {P : List RpP} {p : RpP} (h : p ∈ P) : p.sz ≤ szRs P := by
  have := sz_mem (f := RpP.sz) h
  unfold szRs
  omega

set_option maxRecDepth 100000 in
set_option maxHeartbeats 2000000 in
theorem toRepS (A : Option Addr) (c : Nat) (l : List RpP) (w : World) (hsz : szRs l ≤ 1048576) (h : RdRs w A l) :
    Calls Try.prog 35 #[.slice A l.length c] w fun e w' => ∃ Q : List RpP, e = .returned (.slice (some ⟨w.heap.size, 0, none⟩) Q.length Q.length) ∧ Q.map RpP.rp = l.map RpP.rp ∧ OwR w' w.heap.size Q ∧ Below w.heap.size w w' := by
  have hl : l.length ≤ 1048576 := by unfold szRs at hsz; omega
  have HCL := Lib.hid (fun p (hp : p ∈ l) => Nat.le_trans (szRs_mem hp) hsz)
  clear hsz
  obtain ⟨i0, hi, hz0, hz1, hz2⟩ := info_parts infoRep
  obtain ⟨w1, hmk, hown, hg1⟩ := run_make_full (P := Try.prog) w w.heap.size 24 47 i0 _ 7 Try.underlying24 hi hz0 hz1 .i64 .i64 l.length (by rw [hz2]; omega) (by unfold maxLen; omega) (Nat.le_refl _)
  have B1 := Below.of_none hg1
  have hx : l.length * 7 = ((madeCells (Value.agg #[.int .i64 0, .int .i64 0, .bool false, .int .i64 0, .slice none 0 0, .slice none 0 0, .slice none 0 0]).cells (l.length * 7)).toList).length := by have := hown.1; omega
  generalize (madeCells (Value.agg #[.int .i64 0, .int .i64 0, .bool false, .int .i64 0, .slice none 0 0, .slice none 0 0, .slice none 0 0]).cells (l.length * 7)).toList = xs at hown hx
  have HI := Lib.hid h
  have HX := Lib.hid hx
  have HO := Lib.hid hown
  have HB := Lib.hid B1
  have hs1 : w.heap.size + 1 ≤ w1.heap.size := by have := (hown.lt w.heap.size rfl).2; omega
  clear h hx hown hg1 B1 hi hz0 hz1 hz2
  go_enter Try.func35, Try.ntmps35
  go_wp2
  go_loopw [4] (fun i wr => ∃ (j : Nat) (Q : List RpP), j ≤ l.length ∧ i = .int .i64 j ∧ Hid (Q.map RpP.rp = (l.take j).map RpP.rp) ∧ Hid (wr.ownsRow w.heap.size 47 7 (.slice (some ⟨w.heap.size, 0, none⟩) l.length l.length) l.length (Q.flatMap RpP.cells ++ xs.drop (j * 7))) ∧ Hid (∀ q ∈ Q, q.own wr (w.heap.size + 1)) ∧ Hid (w1.grownBy wr (some w.heap.size))) (fun i _ => l.length - (intOf i).toNat)
  case atStart => exact ⟨0, [], Nat.zero_le _, rfl, by simp [Hid], by simpa [Hid] using HO.out, by simp [Hid], World.grownBy.refl _ _⟩
  case round =>
    obtain ⟨j, Q, hj, rfl, hm, ho, hq, hg⟩ := hrel
    have hsr : w.heap.size + 1 ≤ wr.heap.size := by have := hg.out.size; omega
    by_cases hlt : j < l.length
    · obtain ⟨b, off, rfl, ca⟩ := HI.out.1 j hlt
      have keep : ∀ {o : Nat} {u : Value}, w.cell? ⟨b, o, none⟩ = some u → wr.cell? ⟨b, o, none⟩ = some u := fun hc => hg.out.cell (cell_kept HB.out hc) (by have := World.block_lt_of_cell? w _ hc; simp at this ⊢; omega)
      have c0 : wr.cell? ⟨b, off + j * 7, none⟩ = some (.int .i64 l[j].me) := keep (ca 0 _ rfl)
      have c1 : wr.cell? ⟨b, off + j * 7 + 1, none⟩ = some (.int .i64 l[j].v) := keep (ca 1 _ rfl)
      have c2 : wr.cell? ⟨b, off + j * 7 + 2, none⟩ = some (.bool l[j].lv) := keep (ca 2 _ rfl)
      have c3 : wr.cell? ⟨b, off + j * 7 + 3, none⟩ = some (.int .i64 l[j].nx) := keep (ca 3 _ rfl)
      have c4 : wr.cell? ⟨b, off + j * 7 + 4, none⟩ = some (.slice l[j].TA l[j].tk.length l[j].ta) := keep (ca 4 _ rfl)
      have c5 : wr.cell? ⟨b, off + j * 7 + 5, none⟩ = some (.slice l[j].HA l[j].hd.length l[j].ha) := keep (ca 5 _ rfl)
      have c6 : wr.cell? ⟨b, off + j * 7 + 6, none⟩ = some (.slice l[j].DA l[j].dn.length l[j].da) := keep (ca 6 _ rfl)
      clear ca keep
      have BW : Below w.heap.size w wr := Below.trans HB.out (Below.of_grown hg.out HB.out.size (by rintro k hk; cases hk; omega))
      have rx := (HI.out.2 l[j] (List.getElem_mem hlt)).below BW
      have lx := HCL.out l[j] (List.getElem_mem hlt)
      have RX := Lib.hid rx
      have i0 : (0 : Int) ≤ (j : Int) := by omega
      have i1 : (j : Int) < (l.length : Int) := by omega
      clear rx BW
      obtain ⟨x, hx⟩ : ∃ x, x = l[j] := ⟨_, rfl⟩
      rw [← hx] at c0 c1 c2 c3 c4 c5 c6 lx RX
      have HXX := Lib.hid hx
      clear hx
      go_wp2_with (fail)
      refine (toRep x wr RX.out lx).mono ?_
      rintro r w2 ⟨y, rfl, hy, oy, h2⟩
      have hs2 := h2.size
      have ho2 := own_below ho.out h2
      have hlen : (Q.flatMap RpP.cells).length = j * 7 := by
        have := congrArg List.length hm.out
        rw [List.length_map, List.length_map, List.length_take, Nat.min_eq_left (by omega)] at this
        rw [rows_length 7 RpP.cells RpP.len, this]
      have hc : ∀ p, p < 7 → ∃ u, w2.cell? ⟨w.heap.size, j * 7 + p, none⟩ = some u := fun p hp => ⟨_, (ho2.cellAt (j * 7 + p) (by omega)).trans (List.getElem?_eq_getElem (by have := HX.out; rw [List.length_append, hlen, List.length_drop]; omega))⟩
      have hf := fun p => ho2.frozenAt p
      obtain ⟨v0, hv0⟩ := hc 0 (by omega)
      obtain ⟨v1, hv1⟩ := hc 1 (by omega)
      obtain ⟨v2, hv2⟩ := hc 2 (by omega)
      obtain ⟨v3, hv3⟩ := hc 3 (by omega)
      obtain ⟨v4, hv4⟩ := hc 4 (by omega)
      obtain ⟨v5, hv5⟩ := hc 5 (by omega)
      obtain ⟨v6, hv6⟩ := hc 6 (by omega)
      rw [Nat.add_zero] at hv0
      obtain ⟨s1, s2⟩ := store_all y.cells (j * 7) hlen (by have := HX.out; rw [RpP.len]; omega) ho2
      have e1 : (Q ++ [y]).flatMap RpP.cells = Q.flatMap RpP.cells ++ y.cells := by simp
      rw [← e1, RpP.len, show j * 7 + 7 = (j + 1) * 7 from by omega] at s1
      have S1 := Lib.hid s1
      have S2 := Lib.hid (grownBy_trans hg.out (grownBy_trans (Below.grownBy h2 _) s2))
      have S3 : Hid (∀ q ∈ Q ++ [y], q.own (storeAll w2 w.heap.size (j * 7) y.cells) (w.heap.size + 1)) := by
        intro q hq'
        simp only [storeAll, RpP.cells]
        rcases List.mem_append.1 hq' with h' | h'
        · exact (((((((((hq.out q h').below h2).set (by omega) _ _).set (by omega) _ _).set (by omega) _ _).set (by omega) _ _).set (by omega) _ _).set (by omega) _ _).set (by omega) _ _)
        · rw [List.mem_singleton.1 h']
          exact ((((((((oy.base (lo' := w.heap.size + 1) (by omega)).set (by omega) _ _).set (by omega) _ _).set (by omega) _ _).set (by omega) _ _).set (by omega) _ _).set (by omega) _ _).set (by omega) _ _)
      have S4 : Hid ((Q ++ [y]).map RpP.rp = (l.take (j + 1)).map RpP.rp) := by
        rw [List.take_succ_eq_append_getElem hlt, List.map_append, List.map_append, hm.out, List.map_cons, List.map_nil, List.map_cons, List.map_nil, hy, HXX.out]
        rfl
      clear s1 s2 hc h2 ho2 e1 hlen c0 c1 c2 c3 c4 c5 c6 oy hy hq
      go_wp2
      go_roundw
      case rel => exact ⟨j + 1, Q ++ [y], by omega, by go_num, S4.out, S1.out, S3.out, S2.out⟩
      case measure => simp [intOf]; omega
    · have hz : j = l.length := by omega
      have HZ := Lib.hid hz
      clear hz
      go_wp2
      go_ret
      have h1 := ho.out
      have h2 := hm.out
      rw [HZ.out, List.drop_of_length_le (by have := HX.out; omega), List.append_nil] at h1
      rw [HZ.out, List.take_length] at h2
      have h3 : Q.length = l.length := by have := congrArg List.length h2; simpa using this
      rw [← h3] at h1
      exact ⟨Q, by rw [h3]; rfl, h2, ⟨h1, hq.out⟩, Below.trans HB.out (Below.of_grown hg.out HB.out.size (by rintro k hk; cases hk; omega))⟩

structure WdP.own (w : World) (lo : Nat) (r : WdP) : Prop where
  orr : ∃ g, lo ≤ g ∧ r.RA = some ⟨g, 0, none⟩ ∧ r.ra = r.rs.length ∧ OwR w g r.rs
  om : ∃ g, lo ≤ g ∧ r.SA = some ⟨g, 0, none⟩ ∧ r.sa = r.sd.length ∧ OwM w g r.sd
theorem WdP.own.below {w w' : World} {lo : Nat} {r : WdP} (h : r.own w lo) (hb : Below w.heap.size w w') : r.own w' lo := by
  obtain ⟨g, h1, h2, h3, h4⟩ := h.orr
  obtain ⟨k, k1, k2, k3, k4⟩ := h.om
  exact ⟨⟨g, h1, h2, h3, h4.below hb⟩, ⟨k, k1, k2, k3, k4.below hb⟩⟩
theorem WdP.own.rd {w : World} {lo : Nat} {r : WdP} (h : r.own w lo) : r.rd w := by
  obtain ⟨g, h1, h2, h3, h4⟩ := h.orr
  obtain ⟨k, k1, k2, k3, k4⟩ := h.om
  refine ⟨h4.len, k4.len, ?_, ?_⟩
  · rw [h2]; exact h4.rd
  · rw [k2]; exact k4.rd

set_option maxRecDepth 100000 in
set_option maxHeartbeats 4000000 in
theorem toWorld (p : WdP) (w : World) (hp : p.rd w) (hl : p.sz ≤ 1048576) :
    Calls Try.prog 15 #[p.val] w fun e w' => ∃ q : WdP, e = .returned q.val ∧ q.wd = p.wd ∧ q.own w' w.heap.size ∧ Below w.heap.size w w' := by
  have hl1 : szRs p.rs ≤ 1048576 := by unfold WdP.sz at hl; omega
  have hl2 : szMs p.sd ≤ 1048576 := by unfold WdP.sz at hl; omega
  have Z0 : Hid (Below w.heap.size w (((w.alloc (.cells #[.int .i64 p.bad, .slice p.RA p.rs.length p.ra, .slice p.SA p.sd.length p.sa] 35)).alloc (.cells #[.int .i64 0, .slice none 0 0, .slice none 0 0] 27)).alloc (.cells #[.int .i64 p.bad, .slice none 0 0, .slice none 0 0] 27))) := (below_alloc2 _ _ _).alloc (by simp; omega) _
  have R1 := Lib.hid hp.rr
  have R2 := Lib.hid hp.rm
  clear hp hl
  go_enter Try.func15, Try.ntmps15
  go_wp2_with (fail)
  refine (toRepS p.RA p.ra p.rs _ hl1 (R1.out.below Z0.out)).mono ?_
  rintro e w1 ⟨Q1, rfl, hQ, ho, hb⟩
  have K1 : Hid (Blk w1 (w.heap.size + 1 + 1) 27 #[.int .i64 p.bad, .slice none 0 0, .slice none 0 0]) := by have := (Blk.new (t := 27) (cs := #[.int .i64 p.bad, .slice none 0 0, .slice none 0 0]) ((w.alloc (.cells #[.int .i64 p.bad, .slice p.RA p.rs.length p.ra, .slice p.SA p.sd.length p.sa] 35)).alloc (.cells #[.int .i64 0, .slice none 0 0, .slice none 0 0] 27))).below hb; simpa [Hid] using this
  have K2 : Hid (Blk w1 (w.heap.size + 1) 27 #[.int .i64 0, .slice none 0 0, .slice none 0 0]) := by have := ((Blk.new (t := 27) (cs := #[.int .i64 0, .slice none 0 0, .slice none 0 0]) (w.alloc (.cells #[.int .i64 p.bad, .slice p.RA p.rs.length p.ra, .slice p.SA p.sd.length p.sa] 35))).alloc (.cells #[.int .i64 p.bad, .slice none 0 0, .slice none 0 0] 27)).below hb; simpa [Hid] using this
  have K3 : Hid (Blk w1 w.heap.size 35 #[.int .i64 p.bad, .slice p.RA p.rs.length p.ra, .slice p.SA p.sd.length p.sa]) := (((Blk.new w).alloc _).alloc _).below hb
  have hz : w.heap.size + 1 + 1 < w1.heap.size := by have := hb.size; simp at this; omega
  have Z1 := Lib.hid (below_box3 hb)
  have HQ1 := Lib.hid hQ
  rw [show (((w.alloc (.cells #[.int .i64 p.bad, .slice p.RA p.rs.length p.ra, .slice p.SA p.sd.length p.sa] 35)).alloc (.cells #[.int .i64 0, .slice none 0 0, .slice none 0 0] 27)).alloc (.cells #[.int .i64 p.bad, .slice none 0 0, .slice none 0 0] 27)).heap.size = w.heap.size + 1 + 1 + 1 from by simp] at ho ⊢
  obtain ⟨g1, hg1⟩ : ∃ g1, g1 = w.heap.size + 1 + 1 + 1 := ⟨_, rfl⟩
  rw [← hg1] at ho ⊢
  have gz1 : w.heap.size + 1 + 1 < g1 := by omega
  have O1 := Lib.hid ho
  clear hb ho hQ hg1
  have x0 : w1.cell? ⟨w.heap.size + 1 + 1, 0, none⟩ = some (.int .i64 p.bad) := K1.out.cell 0
  have x1 : w1.cell? ⟨w.heap.size + 1 + 1, 1, none⟩ = some (.slice none 0 0) := K1.out.cell 1
  have x2 : w1.cell? ⟨w.heap.size + 1 + 1, 2, none⟩ = some (.slice none 0 0) := K1.out.cell 2
  have y0 : w1.cell? ⟨w.heap.size, 0, none⟩ = some (.int .i64 p.bad) := K3.out.cell 0
  have y1 : w1.cell? ⟨w.heap.size, 1, none⟩ = some (.slice p.RA p.rs.length p.ra) := K3.out.cell 1
  have y2 : w1.cell? ⟨w.heap.size, 2, none⟩ = some (.slice p.SA p.sd.length p.sa) := K3.out.cell 2
  have xf := K1.out.frozen
  go_wp2_with (fail)
  have K1 : Hid (Blk (w1.setCell ⟨w.heap.size + 1 + 1, 1, none⟩ (.slice (some ⟨g1, 0, none⟩) Q1.length Q1.length)) (w.heap.size + 1 + 1) 27 #[.int .i64 p.bad, .slice (some ⟨g1, 0, none⟩) Q1.length Q1.length, .slice none 0 0]) := K1.out.set 1 _
  have K2 : Hid (Blk (w1.setCell ⟨w.heap.size + 1 + 1, 1, none⟩ (.slice (some ⟨g1, 0, none⟩) Q1.length Q1.length)) (w.heap.size + 1) 27 #[.int .i64 0, .slice none 0 0, .slice none 0 0]) := K2.out.far (by omega) 1 _
  have K3 : Hid (Blk (w1.setCell ⟨w.heap.size + 1 + 1, 1, none⟩ (.slice (some ⟨g1, 0, none⟩) Q1.length Q1.length)) w.heap.size 35 #[.int .i64 p.bad, .slice p.RA p.rs.length p.ra, .slice p.SA p.sd.length p.sa]) := K3.out.far (by omega) 1 _
  have Z1 : Hid (Below w.heap.size w (w1.setCell ⟨w.heap.size + 1 + 1, 1, none⟩ (.slice (some ⟨g1, 0, none⟩) Q1.length Q1.length))) := Z1.out.setCell (by simp; omega) _
  have O1 := Lib.hid (O1.out.set (b := w.heap.size + 1 + 1) (by omega) 1 (.slice (some ⟨g1, 0, none⟩) Q1.length Q1.length))
  have hsz : (w1.setCell ⟨w.heap.size + 1 + 1, 1, none⟩ (.slice (some ⟨g1, 0, none⟩) Q1.length Q1.length)).heap.size = w1.heap.size := by simp
  have HSZ := Lib.hid hsz
  clear x0 x1 x2 y0 y1 y2
  clear xf hsz
  refine (toMsgS p.SA p.sa p.sd _ hl2 (R2.out.below Z1.out)).mono ?_
  rintro e w2 ⟨Q, rfl, hQ, ho, hb⟩
  have K1 := Lib.hid (K1.out.below hb)
  have K2 := Lib.hid (K2.out.below hb)
  have K3 := Lib.hid (K3.out.below hb)
  have Z1 := Lib.hid (Below.and Z1.out hb)
  have O1 := Lib.hid (O1.out.below hb)
  have HQ := Lib.hid hQ
  have hz2 : w.heap.size + 1 + 1 < w2.heap.size := by have := hb.size; rw [HSZ.out] at this; omega
  rw [HSZ.out] at ho ⊢
  obtain ⟨g2, hg2⟩ : ∃ g2, g2 = w1.heap.size := ⟨_, rfl⟩
  rw [← hg2] at ho ⊢
  have gz2 : w.heap.size + 1 + 1 < g2 := by omega
  have O2 := Lib.hid ho
  clear hb ho hQ HSZ hg2 hz
  have x0 : w2.cell? ⟨w.heap.size + 1 + 1, 0, none⟩ = some (.int .i64 p.bad) := K1.out.cell 0
  have x1 : w2.cell? ⟨w.heap.size + 1 + 1, 1, none⟩ = some (.slice (some ⟨g1, 0, none⟩) Q1.length Q1.length) := K1.out.cell 1
  have x2 : w2.cell? ⟨w.heap.size + 1 + 1, 2, none⟩ = some (.slice none 0 0) := K1.out.cell 2
  have y0 : w2.cell? ⟨w.heap.size + 1, 0, none⟩ = some (.int .i64 0) := K2.out.cell 0
  have y1 : w2.cell? ⟨w.heap.size + 1, 1, none⟩ = some (.slice none 0 0) := K2.out.cell 1
  have y2 : w2.cell? ⟨w.heap.size + 1, 2, none⟩ = some (.slice none 0 0) := K2.out.cell 2
  have xf := K1.out.frozen
  have yf := K2.out.frozen
  go_wp2
  refine bodyPost_ret (v := .agg #[.int .i64 p.bad, .slice (some ⟨g1, 0, none⟩) Q1.length Q1.length, .slice (some ⟨g2, 0, none⟩) Q.length Q.length]) (by simp [results, Try.results15, go_sem, x0, x1, x2, y0, y1, y2]) rfl ⟨⟨p.bad, some ⟨g1, 0, none⟩, Q1.length, Q1, some ⟨g2, 0, none⟩, Q.length, Q⟩, rfl, by simp only [WdP.wd, HQ.out, HQ1.out], ?_, ?_⟩
  · clear x0 x1 x2 y0 y1 y2 xf yf
    refine ⟨⟨g1, by omega, rfl, rfl, ?_⟩, ⟨g2, by omega, rfl, rfl, ?_⟩⟩
    · iterate 4 (refine OwR.set ?_ (by omega) _ _)
      exact O1.out
    · iterate 4 (refine OwM.set ?_ (by omega) _ _)
      exact O2.out
  · clear x0 x1 x2 y0 y1 y2 xf yf
    iterate 4 (refine Below.setCell ?_ (by first | (simp; done) | (simp; omega)) _)
    exact Z1.out

end Go.Proofs.Ytfelhnchnaggmaa
