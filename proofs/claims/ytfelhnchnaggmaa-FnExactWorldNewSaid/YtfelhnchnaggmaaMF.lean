/- Uj, Uk -/
import Derived.Test.YtfelhnchnaggmaaME
/- Votes that came in, made the program's own. -/
namespace Go.Proofs.Ytfelhnchnaggmaa
open Go.ChangeShapes Go.WideShapes Go.ChangeAt Go.RowKit
set_option linter.unusedVariables false

/-- Block g is just these cells, none frozen. -/
def Blk (w : World) (g : Nat) (t : TypeId) (cs : Array Value) : Prop := w.heap[g]? = some (.cells cs t)
section
variable {w w' : World} {g : Nat} {t : TypeId} {cs : Array Value}
theorem Blk.lt (h : Blk w g t cs) : g < w.heap.size := by
  unfold Blk at h
  rcases Nat.lt_or_ge g w.heap.size with h1 | h1
  · exact h1
  · rw [Array.getElem?_eq_none h1] at h
    cases h
theorem Blk.cell (h : Blk w g t cs) (j : Nat) : w.cell? ⟨g, j, none⟩ = cs[j]? := cell_of_row w g j _ t (0, 0) h
theorem Blk.frozen (h : Blk w g t cs) (j : Nat) : w.frozen? ⟨g, j, none⟩ = false := frozen_of_row w g j _ t h
theorem Blk.new (w : World) : Blk (w.alloc (.cells cs t)) w.heap.size t cs := heap_alloc_new w _
theorem Blk.alloc (h : Blk w g t cs) (o : Obj) : Blk (w.alloc o) g t cs := (Below.heap_alloc w o g h.lt).trans h
theorem Blk.below (h : Blk w g t cs) (hb : Below w.heap.size w w') : Blk w' g t cs := (hb.block g h.lt).trans h
theorem Blk.set (h : Blk w g t cs) (j : Nat) (v : Value) : Blk (w.setCell ⟨g, j, none⟩ v) g t (cs.setIfInBounds j v) := heap_setCell_same w g j _ t v h
theorem Blk.far (h : Blk w g t cs) {g' : Nat} (hg : g ≠ g') (j : Nat) (v : Value) : Blk (w.setCell ⟨g', j, none⟩ v) g t cs := (heap_setCell_other w ⟨g', j, none⟩ g v (by simpa using hg)).trans h
end

theorem own_set {w : World} {base : Nat} {e : TypeId} {size : Nat} {v : Value} {n : Nat} {xs : List Value} (h : w.ownsRow base e size v n xs) {b : Nat} (hb : b < base) (o : Nat) (u : Value) : (w.setCell ⟨b, o, none⟩ u).ownsRow base e size v n xs :=
  h.kept (grownBy_set w b o u) (.inr fun e => by have := (h.lt b e).1; omega)

/-- What lies behind a vote is a row of the call's own, in a block from lo on. -/
def VtP.own (w : World) (lo : Nat) (q : VtP) : Prop := w.ownsRow lo 77 7 (.slice q.A q.cl.length q.c) q.cl.length (q.cl.flatMap Cl.cells)
theorem VtP.own.below {w w' : World} {lo : Nat} {q : VtP} (h : q.own w lo) (hb : Below w.heap.size w w') : q.own w' lo := own_below h hb
theorem VtP.own.set {w : World} {lo : Nat} {q : VtP} (h : q.own w lo) {b : Nat} (hb : b < lo) (o : Nat) (u : Value) : q.own (w.setCell ⟨b, o, none⟩ u) lo := own_set h hb o u
theorem VtP.own.base {w : World} {lo lo' : Nat} {q : VtP} (h : q.own w lo) (hb : lo' ≤ lo) : q.own w lo' := own_base h hb
theorem VtP.own.rd {w : World} {lo : Nat} {q : VtP} (h : q.own w lo) : q.rd w := by
  obtain ⟨A, c, hv, hm⟩ := own_form h
  exact ⟨hm, Rd.of_own Cl.len h rfl⟩

/-- The votes Q lie in the row g, and what they claim behind it. -/
def OwV (w : World) (g : Nat) (Q : List VtP) : Prop := w.ownsRow g 103 2 (.slice (some ⟨g, 0, none⟩) Q.length Q.length) Q.length (Q.flatMap VtP.cells) ∧ ∀ q ∈ Q, q.own w (g + 1)
theorem OwV.below {w w' : World} {g : Nat} {Q : List VtP} (h : OwV w g Q) (hb : Below w.heap.size w w') : OwV w' g Q := ⟨own_below h.1 hb, fun q hq => (h.2 q hq).below hb⟩
theorem OwV.rd {w : World} {g : Nat} {Q : List VtP} (h : OwV w g Q) : RdV w (some ⟨g, 0, none⟩) Q := ⟨Rd.of_own VtP.len h.1 rfl, fun q hq => (h.2 q hq).rd⟩
theorem OwV.len {w : World} {g : Nat} {Q : List VtP} (h : OwV w g Q) : Q.length ≤ maxLen := by
  obtain ⟨A, c, hv, hm⟩ := own_form h.1
  exact hm

set_option maxRecDepth 100000 in
set_option maxHeartbeats 1000000 in
theorem toVote (p : VtP) (w : World) (hp : p.rd w) (hl : p.cl.length ≤ 1048576) :
    Calls Try.prog 108 #[p.val] w fun e w' => ∃ q : VtP, e = .returned q.val ∧ q.vt = p.vt ∧ q.own w' w.heap.size ∧ Below w.heap.size w w' := by
  obtain ⟨g, A, c, l⟩ := p
  have z0 : Below w.heap.size w (((w.alloc (.cells #[.int .i64 g, .slice A l.length c] 137)).alloc (.cells #[.int .i64 0, .slice none 0 0] 103)).alloc (.cells #[.int .i64 g, .slice none 0 0] 103)) := (below_alloc2 _ _ _).alloc (by simp; omega) _
  have R := Lib.hid (hp.2.below z0)
  clear hp
  replace hl : l.length ≤ 1048576 := hl
  go_enter Try.func108, Try.ntmps108
  go_wp2_with (fail)
  refine (toClaimS A c l _ hl R.out).mono ?_
  rintro e w1 ⟨g1, rfl, hg1, ho, hb⟩
  obtain ⟨hc, hf⟩ := bcell hb
  have hz : w.heap.size + 1 + 1 < w1.heap.size := by have := hb.size; simp at this; omega
  have B := Lib.hid (below_box3 hb)
  have O := Lib.hid (own_base (base' := w.heap.size + 1 + 1 + 1) ho (by simp))
  have G1 := Lib.hid hg1
  clear ho hg1 z0
  go_wp2
  refine bodyPost_ret (v := .agg #[.int .i64 g, .slice (some ⟨g1, 0, none⟩) l.length l.length]) (by simp [results, Try.results108, go_sem, hc]) rfl ⟨⟨g, some ⟨g1, 0, none⟩, l.length, l⟩, rfl, rfl, ?_, ?_⟩
  · clear hb hc hf
    have o1 := own_set (own_set (own_set O.out (b := w.heap.size + 1 + 1) (by omega) 1 (.slice (some ⟨g1, 0, none⟩) l.length l.length)) (b := w.heap.size + 1) (by omega) 0 (.int .i64 g)) (b := w.heap.size + 1) (by omega) 1 (.slice (some ⟨g1, 0, none⟩) l.length l.length)
    exact own_base o1 (by omega)
  · clear hb hc hf
    iterate 3 (refine Below.setCell ?_ (by first | (simp; done) | (simp; omega)) _)
    exact B.out
end Go.Proofs.Ytfelhnchnaggmaa

/- Lists of votes that came in, made the program's own. -/
namespace Go.Proofs.Ytfelhnchnaggmaa
open Go.ChangeShapes Go.WideShapes Go.ChangeAt Go.RowKit
set_option linter.unusedVariables false

theorem infoVote : (Try.prog.info? 103).map (fun i => (i.zero, i.size, i.bytes)) = some (some (.agg #[.int .i64 0, .slice none 0 0]), 2, 32) := by kernel_rfl

set_option maxRecDepth 100000 in
set_option maxHeartbeats 1000000 in
theorem toVoteS (A : Option Addr) (c : Nat) (l : List VtP) (w : World) (hl : l.length ≤ 1048576) (hcl : ∀ p ∈ l, p.cl.length ≤ 1048576) (h : RdV w A l) :
    Calls Try.prog 93 #[.slice A l.length c] w fun e w' => ∃ Q : List VtP, e = .returned (.slice (some ⟨w.heap.size, 0, none⟩) Q.length Q.length) ∧ Q.map VtP.vt = l.map VtP.vt ∧ OwV w' w.heap.size Q ∧ Below w.heap.size w w' := by
  obtain ⟨i0, hi, hz0, hz1, hz2⟩ := info_parts infoVote
  obtain ⟨w1, hmk, hown, hg1⟩ := run_make_full (P := Try.prog) w w.heap.size 70 103 i0 _ 2 Try.underlying70 hi hz0 hz1 .i64 .i64 l.length (by rw [hz2]; omega) (by unfold maxLen; omega) (Nat.le_refl _)
  have B1 := Below.of_none hg1
  have hx : l.length * 2 = ((madeCells (Value.agg #[.int .i64 0, .slice none 0 0]).cells (l.length * 2)).toList).length := by have := hown.1; omega
  generalize (madeCells (Value.agg #[.int .i64 0, .slice none 0 0]).cells (l.length * 2)).toList = xs at hown hx
  have HI := Lib.hid h
  have HCL := Lib.hid hcl
  have HX := Lib.hid hx
  have HO := Lib.hid hown
  have HB := Lib.hid B1
  have hs1 : w.heap.size + 1 ≤ w1.heap.size := by have := (hown.lt w.heap.size rfl).2; omega
  clear h hx hown hg1 B1 hi hz0 hz1 hz2 hcl
  go_enter Try.func93, Try.ntmps93
  go_wp2
  go_loopw [4] (fun i wr => ∃ (j : Nat) (Q : List VtP), j ≤ l.length ∧ i = .int .i64 j ∧ Hid (Q.map VtP.vt = (l.take j).map VtP.vt) ∧ Hid (wr.ownsRow w.heap.size 103 2 (.slice (some ⟨w.heap.size, 0, none⟩) l.length l.length) l.length (Q.flatMap VtP.cells ++ xs.drop (j * 2))) ∧ Hid (∀ q ∈ Q, q.own wr (w.heap.size + 1)) ∧ Hid (w1.grownBy wr (some w.heap.size))) (fun i _ => l.length - (intOf i).toNat)
  case atStart => exact ⟨0, [], Nat.zero_le _, rfl, by simp [Hid], by simpa [Hid] using HO.out, by simp [Hid], World.grownBy.refl _ _⟩
  case round =>
    obtain ⟨j, Q, hj, rfl, hm, ho, hq, hg⟩ := hrel
    have hsr : w.heap.size + 1 ≤ wr.heap.size := by have := hg.out.size; omega
    by_cases hlt : j < l.length
    · obtain ⟨b, off, rfl, ca⟩ := HI.out.1 j hlt
      have keep : ∀ {o : Nat} {u : Value}, w.cell? ⟨b, o, none⟩ = some u → wr.cell? ⟨b, o, none⟩ = some u := fun hc => hg.out.cell (cell_kept HB.out hc) (by have := World.block_lt_of_cell? w _ hc; simp at this ⊢; omega)
      have c0 : wr.cell? ⟨b, off + j * 2, none⟩ = some (.int .i64 l[j].f) := keep (ca 0 _ rfl)
      have c1 : wr.cell? ⟨b, off + j * 2 + 1, none⟩ = some (.slice l[j].A l[j].cl.length l[j].c) := keep (ca 1 _ rfl)
      clear ca keep
      have BW : Below w.heap.size w wr := Below.trans HB.out (Below.of_grown hg.out HB.out.size (by rintro k hk; cases hk; omega))
      have rx := (HI.out.2 l[j] (List.getElem_mem hlt)).below BW
      have lx := HCL.out l[j] (List.getElem_mem hlt)
      have RX := Lib.hid rx
      have i0 : (0 : Int) ≤ (j : Int) := by omega
      have i1 : (j : Int) < (l.length : Int) := by omega
      clear rx BW
      obtain ⟨x, hx⟩ : ∃ x, x = l[j] := ⟨_, rfl⟩
      rw [← hx] at c0 c1 lx RX
      have HXX := Lib.hid hx
      clear hx
      go_wp2_with (fail)
      refine (toVote x wr RX.out lx).mono ?_
      rintro r w2 ⟨y, rfl, hy, oy, h2⟩
      have hs2 := h2.size
      have ho2 := own_below ho.out h2
      have hlen : (Q.flatMap VtP.cells).length = j * 2 := by
        have := congrArg List.length hm.out
        rw [List.length_map, List.length_map, List.length_take, Nat.min_eq_left (by omega)] at this
        rw [rows_length 2 VtP.cells VtP.len, this]
      have hc : ∀ p, p < 2 → ∃ u, w2.cell? ⟨w.heap.size, j * 2 + p, none⟩ = some u := fun p hp => ⟨_, (ho2.cellAt (j * 2 + p) (by omega)).trans (List.getElem?_eq_getElem (by have := HX.out; rw [List.length_append, hlen, List.length_drop]; omega))⟩
      have hf := fun p => ho2.frozenAt p
      obtain ⟨v0, hv0⟩ := hc 0 (by omega)
      obtain ⟨v1, hv1⟩ := hc 1 (by omega)
      rw [Nat.add_zero] at hv0
      obtain ⟨s1, s2⟩ := store_all y.cells (j * 2) hlen (by have := HX.out; rw [VtP.len]; omega) ho2
      have e1 : (Q ++ [y]).flatMap VtP.cells = Q.flatMap VtP.cells ++ y.cells := by simp
      rw [← e1, VtP.len, show j * 2 + 2 = (j + 1) * 2 from by omega] at s1
      have S1 := Lib.hid s1
      have S2 := Lib.hid (grownBy_trans hg.out (grownBy_trans (Below.grownBy h2 _) s2))
      have S3 : Hid (∀ q ∈ Q ++ [y], q.own (storeAll w2 w.heap.size (j * 2) y.cells) (w.heap.size + 1)) := by
        intro q hq'
        simp only [storeAll, VtP.cells]
        rcases List.mem_append.1 hq' with h' | h'
        · exact (((hq.out q h').below h2).set (by omega) _ _).set (by omega) _ _
        · rw [List.mem_singleton.1 h']
          exact ((oy.base (by omega)).set (by omega) _ _).set (by omega) _ _
      have S4 : Hid ((Q ++ [y]).map VtP.vt = (l.take (j + 1)).map VtP.vt) := by
        rw [List.take_succ_eq_append_getElem hlt, List.map_append, List.map_append, hm.out, List.map_cons, List.map_nil, List.map_cons, List.map_nil, hy, HXX.out]
        rfl
      clear s1 s2 hc h2 ho2 e1 hlen c0 c1 oy hy hq
      go_wp2
      go_roundw
      case rel => exact ⟨j + 1, Q ++ [y], by omega, by go_num, S4.out, S1.out, S3.out, S2.out⟩
      case measure => simp [intOf]; omega
    · have hz : j = l.length := by omega
      have HZ := Lib.hid hz
      clear hz
      go_wp2
      go_ret
      have h1 := ho.out
      have h2 := hm.out
      rw [HZ.out, List.drop_of_length_le (by have := HX.out; omega), List.append_nil] at h1
      rw [HZ.out, List.take_length] at h2
      have h3 : Q.length = l.length := by have := congrArg List.length h2; simpa using this
      rw [← h3] at h1
      exact ⟨Q, by rw [h3]; rfl, h2, ⟨h1, hq.out⟩, Below.trans HB.out (Below.of_grown hg.out HB.out.size (by rintro k hk; cases hk; omega))⟩
end Go.Proofs.Ytfelhnchnaggmaa
