/- Players: laid anew, held against their like, sized; as they came in. -/
import Derived.Test.YtdpladihacgobaaNc
import Derived.Test.YtdpladihacgobaaHc
namespace Go.Proofs.Ytdpladihacgobaa
open Go.ChangeShapes Go.WideShapes Go.ChangeAt Go.RowKit
set_option linter.unusedVariables false
set_option linter.unusedSimpArgs false

def OwL (w : World) (lo : Nat) (A : Option Addr) (a : Nat) (L : List Rp) : Prop := w.ownsRow lo 29 4 (.slice A L.length a) L.length (L.flatMap Rp.cells)
theorem OwL.below {w w' : World} {lo : Nat} {A : Option Addr} {a : Nat} {L : List Rp} (h : OwL w lo A a L) (hb : Below w.heap.size w w') : OwL w' lo A a L := own_below (show w.ownsRow _ _ _ _ _ _ from h) hb
theorem OwL.put {w : World} {lo : Nat} {A : Option Addr} {a : Nat} {L : List Rp} (h : OwL w lo A a L) {q : Nat} (hq : q < lo) (o : Nat) (u : Value) : OwL (w.setCell ⟨q, o, none⟩ u) lo A a L := own_put (show w.ownsRow _ _ _ _ _ _ from h) hq o u
theorem OwL.base {w : World} {lo p : Nat} {A : Option Addr} {a : Nat} {L : List Rp} (h : OwL w p A a L) (hl : lo ≤ p) : OwL w lo A a L := own_base (show w.ownsRow _ _ _ _ _ _ from h) hl
theorem OwL.rd {w : World} {lo : Nat} {A : Option Addr} {a : Nat} {L : List Rp} (h : OwL w lo A a L) : Rd 4 Rp.cells w A L := Rd.of_own (f := Rp.cells) (k := 4) (fun _ => rfl) (show w.ownsRow _ _ _ _ _ _ from h) rfl

theorem toReply (r : Rp) (w : World) :
    Calls Try.prog 25 #[r.val] w fun e w' => e = .returned r.val ∧ Below w.heap.size w w' := by
  obtain ⟨f, n, c, s⟩ := r
  go_enter Try.func25, Try.ntmps25
  go_wp2
  exact bodyPost_ret (v := .agg #[.int .i64 f, .int .i64 n, .int .i64 c, .int .i64 s]) (by simp [results, Try.results25, go_sem]) rfl ⟨rfl, (((Below.refl _ _).alloc (Nat.le_refl _) _).alloc (by simp) _).alloc (by simp; omega) _⟩

theorem eqReply (a b : Rp) (w : World) :
    Calls Try.prog 28 #[a.val, b.val] w fun e w' => e = .returned (.bool (decide (a = b))) ∧ Below w.heap.size w w' := by
  obtain ⟨c, n, o, x⟩ := a
  obtain ⟨c', n', o', x'⟩ := b
  go_enter Try.func28, Try.ntmps28
  go_wp2
  all_goals go_light
  all_goals go_ret
  all_goals refine ⟨ret_bool ?_, ((Below.refl _ _).alloc (Nat.le_refl _) _).alloc (by simp) _⟩
  all_goals (simp_all)

set_option maxRecDepth 100000 in
theorem eqReplyS (A B : Option Addr) (c d : Nat) (la lb : List Rp) (w : World) (hA : la.length ≤ maxLen) (ha : Rd 4 Rp.cells w A la) (hb : Rd 4 Rp.cells w B lb) :
    Calls Try.prog 51 #[.slice A la.length c, .slice B lb.length d] w fun e w' => e = .returned (.bool (decide (la = lb))) ∧ Below w.heap.size w w' := by
  unfold maxLen at hA
  have HA := Lib.hid ha
  have HB := Lib.hid hb
  clear ha hb
  by_cases hl : la.length = lb.length
  · have hl1 : ((la.length : Int) != (lb.length : Int)) = false := by simp [hl]
    have HL := Lib.hid hl
    clear hl
    go_enter Try.func51, Try.ntmps51
    go_wp2
    go_loopw [5] (fun i wr => ∃ k : Nat, k ≤ la.length ∧ i = .int .i64 k ∧ Hid (Below w.heap.size w wr) ∧ Hid (la.take k = lb.take k)) (fun i _ => la.length - (intOf i).toNat)
    case atStart => exact ⟨0, Nat.zero_le _, rfl, Below.refl _ _, by simp [Hid]⟩
    case round =>
      obtain ⟨k, hk, rfl, hbw, ht⟩ := hrel
      by_cases hlt : k < la.length
      · have hltb : k < lb.length := by have := HL.out; omega
        obtain ⟨g, o, rfl, ca⟩ := Rd.below HA.out hbw.out k hlt
        obtain ⟨g', o', rfl, cb⟩ := Rd.below HB.out hbw.out k hltb
        obtain ⟨x, hx⟩ : ∃ x, x = la[k] := ⟨_, rfl⟩
        obtain ⟨y, hy⟩ : ∃ y, y = lb[k] := ⟨_, rfl⟩
        rw [← hx] at ca
        rw [← hy] at cb
        have HX := Lib.hid hx
        have HY := Lib.hid hy
        clear hx hy
        have a0 : wr.cell? ⟨g, o + k * 4, none⟩ = some (.int .i64 x.f) := ca 0 _ rfl
        have a1 : wr.cell? ⟨g, o + k * 4 + 1, none⟩ = some (.int .i64 x.n) := ca 1 _ rfl
        have a2 : wr.cell? ⟨g, o + k * 4 + 2, none⟩ = some (.int .i64 x.c) := ca 2 _ rfl
        have a3 : wr.cell? ⟨g, o + k * 4 + 3, none⟩ = some (.int .i64 x.s) := ca 3 _ rfl
        have b0 : wr.cell? ⟨g', o' + k * 4, none⟩ = some (.int .i64 y.f) := cb 0 _ rfl
        have b1 : wr.cell? ⟨g', o' + k * 4 + 1, none⟩ = some (.int .i64 y.n) := cb 1 _ rfl
        have b2 : wr.cell? ⟨g', o' + k * 4 + 2, none⟩ = some (.int .i64 y.c) := cb 2 _ rfl
        have b3 : wr.cell? ⟨g', o' + k * 4 + 3, none⟩ = some (.int .i64 y.s) := cb 3 _ rfl
        clear ca cb
        have i0 : (0 : Int) ≤ (k : Int) := by omega
        have i1 : (k : Int) < (la.length : Int) := by omega
        have i2 : (k : Int) < (lb.length : Int) := by omega
        by_cases hxy : x = y
        · subst hxy
          go_wp2_with (fail)
          refine wp_region_still_tail 8 (by kernel_rfl) (by kernel_rfl) ?_
          change wpStill _ _ (World.drew _) (fun a' => wpList _ _ _ _ a' (World.drew _)) _ _
          simp only [List.take_succ_cons, List.take_zero, List.drop_succ_cons, List.drop_zero]
          repeat still_step
          refine wpStill_nil ?_
          go_wp2_with (fail)
          refine (eqReply x x _).mono ?_
          rintro e w1 ⟨rfl, h1⟩
          rw [decide_eq_true rfl]
          go_wp2
          go_roundw
          case rel => exact ⟨k + 1, by omega, by go_num, Below.and hbw.out (Below.and (Below.refl _ _).drew h1), take_step hlt hltb ht.out (by rw [← HX.out, ← HY.out])⟩
          case measure => simp [intOf]; omega
        · have hd := Lib.hid hxy
          clear hxy
          go_wp2_with (fail)
          refine wp_region_still_tail 8 (by kernel_rfl) (by kernel_rfl) ?_
          change wpStill _ _ (World.drew _) (fun a' => wpList _ _ _ _ a' (World.drew _)) _ _
          simp only [List.take_succ_cons, List.take_zero, List.drop_succ_cons, List.drop_zero]
          repeat still_step
          refine wpStill_nil ?_
          go_wp2_with (fail)
          refine (eqReply x y _).mono ?_
          rintro e w1 ⟨rfl, h1⟩
          rw [decide_eq_false hd.out]
          go_wp2
          go_ret
          exact ⟨ret_bool (decide_eq_false (ne_of_at hlt hltb (by rw [← HX.out, ← HY.out]; exact hd.out))).symm, Below.and hbw.out (Below.and (Below.refl _ _).drew h1)⟩
      · have hz : k = la.length := by omega
        have HZ := Lib.hid hz
        clear hz
        go_wp2
        go_ret
        have h1 := ht.out
        rw [HZ.out, List.take_length, HL.out, List.take_length] at h1
        exact ⟨ret_bool (decide_eq_true h1).symm, hbw.out⟩
  · have hl1 : ((la.length : Int) != (lb.length : Int)) = true := by simp; omega
    have HL := Lib.hid hl
    clear hl
    go_enter Try.func51, Try.ntmps51
    go_wp2
    go_ret
    exact ⟨ret_bool (decide_eq_false (fun e => HL.out (by rw [e]))).symm, Below.refl _ _⟩

theorem szReplyS (A : Option Addr) (n c : Nat) (left : Int) (w : World) (hn : n ≤ maxLen) (h0 : 0 ≤ left) (h1 : left ≤ 1048576) :
    Calls Try.prog 48 #[.slice A n c, .int .i64 left] w fun e w' => e = .returned (.int .i64 (if left - n < 0 then -1 else left - n)) ∧ w = w' := by
  unfold maxLen at hn
  go_enter Try.func48, Try.ntmps48
  by_cases h : left - (n : Int) < 0
  all_goals go_wp2
  all_goals go_ret
  all_goals first | exact ⟨rfl, rfl⟩ | exact ⟨ret_int (if_pos h).symm, rfl⟩ | exact ⟨ret_int (if_neg h).symm, rfl⟩

theorem infoReply : (Try.prog.info? 29).map (fun i => (i.zero, i.size, i.bytes)) = some (some (.agg #[.int .i64 0, .int .i64 0, .int .i64 0, .int .i64 0]), 4, 32) := by kernel_rfl

set_option maxRecDepth 100000 in
theorem toReplyS (A : Option Addr) (c : Nat) (l : List Rp) (w : World) (hl : l.length ≤ 1048576) (h : Rd 4 Rp.cells w A l) :
    Calls Try.prog 49 #[.slice A l.length c] w fun e w' => ∃ g, e = .returned (.slice (some ⟨g, 0, none⟩) l.length l.length) ∧ g = w.heap.size ∧ w'.ownsRow w.heap.size 29 4 (.slice (some ⟨g, 0, none⟩) l.length l.length) l.length (l.flatMap Rp.cells) ∧ Below w.heap.size w w' := by
  obtain ⟨i0, hi, hz0, hz1, hz2⟩ := info_parts infoReply
  obtain ⟨w1, hmk, hown, hg1⟩ := run_make_full (P := Try.prog) w w.heap.size 25 29 i0 _ 4 Try.underlying25 hi hz0 hz1 .i64 .i64 l.length (by rw [hz2]; omega) (by unfold maxLen; omega) (Nat.le_refl _)
  have B1 := Below.of_none hg1
  have hx : l.length * 4 = ((madeCells (Value.agg #[.int .i64 0, .int .i64 0, .int .i64 0, .int .i64 0]).cells (l.length * 4)).toList).length := by have := hown.1; omega
  generalize (madeCells (Value.agg #[.int .i64 0, .int .i64 0, .int .i64 0, .int .i64 0]).cells (l.length * 4)).toList = xs at hown hx
  have HI := Lib.hid h
  have HX := Lib.hid hx
  have HO := Lib.hid hown
  have HB := Lib.hid B1
  clear h hx hown hg1 B1 hi hz0 hz1 hz2
  go_enter Try.func49, Try.ntmps49
  go_wp2
  go_loopw [4] (fun i wr => ∃ j : Nat, j ≤ l.length ∧ i = .int .i64 j ∧ Hid (wr.ownsRow w.heap.size 29 4 (.slice (some ⟨w.heap.size, 0, none⟩) l.length l.length) l.length ((l.take j).flatMap Rp.cells ++ xs.drop (j * 4))) ∧ Hid (w1.grownBy wr (some w.heap.size))) (fun i _ => l.length - (intOf i).toNat)
  case atStart => exact ⟨0, Nat.zero_le _, rfl, by simpa [Hid] using HO.out, World.grownBy.refl _ _⟩
  case round =>
    obtain ⟨j, hj, rfl, ho, hg⟩ := hrel
    by_cases hlt : j < l.length
    · obtain ⟨b, off, rfl, ca⟩ := HI.out j hlt
      have keep : ∀ {o : Nat} {u : Value}, w.cell? ⟨b, o, none⟩ = some u → wr.cell? ⟨b, o, none⟩ = some u := fun hc => hg.out.cell (cell_kept HB.out hc) (by have := World.block_lt_of_cell? w _ hc; simp at this ⊢; omega)
      have cb := fun (p : Nat) (u : Value) hu => keep (ca p u hu)
      clear ca keep
      have c0 : wr.cell? ⟨b, off + j * 4, none⟩ = some (.int .i64 l[j].f) := cb 0 _ rfl
      have c1 : wr.cell? ⟨b, off + j * 4 + 1, none⟩ = some (.int .i64 l[j].n) := cb 1 _ rfl
      have c2 : wr.cell? ⟨b, off + j * 4 + 2, none⟩ = some (.int .i64 l[j].c) := cb 2 _ rfl
      have c3 : wr.cell? ⟨b, off + j * 4 + 3, none⟩ = some (.int .i64 l[j].s) := cb 3 _ rfl
      clear cb
      have i0 : (0 : Int) ≤ (j : Int) := by omega
      have i1 : (j : Int) < (l.length : Int) := by omega
      go_wp2_with (fail)
      refine (toReply l[j] wr).mono ?_
      rintro r w2 ⟨rfl, h2⟩
      have ho2 := own_below ho.out h2
      have hf := fun p => ho2.frozenAt p
      have hlen : ((l.take j).flatMap Rp.cells).length = j * 4 := by rw [rows_length 4 Rp.cells Rp.len, List.length_take, Nat.min_eq_left (by omega)]
      have hc : ∀ p, p < 4 → ∃ u, w2.cell? ⟨w.heap.size, j * 4 + p, none⟩ = some u := fun p hp => ⟨_, (ho2.cellAt (j * 4 + p) (by omega)).trans (List.getElem?_eq_getElem (by have := HX.out; rw [List.length_append, hlen, List.length_drop]; omega))⟩
      obtain ⟨v0, hv0⟩ := hc 0 (by omega)
      obtain ⟨v1, hv1⟩ := hc 1 (by omega)
      obtain ⟨v2, hv2⟩ := hc 2 (by omega)
      obtain ⟨v3, hv3⟩ := hc 3 (by omega)
      rw [Nat.add_zero] at hv0
      obtain ⟨s1, s2⟩ := store_all (l[j].cells) (j * 4) hlen (by have := HX.out; rw [Rp.len]; omega) ho2
      have e1 : (l.take (j + 1)).flatMap Rp.cells = (l.take j).flatMap Rp.cells ++ l[j].cells := by rw [List.take_succ_eq_append_getElem hlt, List.flatMap_append, List.flatMap_cons, List.flatMap_nil, List.append_nil]
      rw [← e1, Rp.len, show j * 4 + 4 = (j + 1) * 4 from by omega] at s1
      have S1 := Lib.hid s1
      have S2 := Lib.hid (grownBy_trans hg.out (grownBy_trans (Below.grownBy h2 _) s2))
      clear s1 s2 hc h2 ho2 e1 hlen c0 c1 c2 c3
      go_wp2
      go_roundw
      case rel => exact ⟨j + 1, by omega, by go_num, S1.out, S2.out⟩
      case measure => simp [intOf]; omega
    · have hz : j = l.length := by omega
      have HZ := Lib.hid hz
      clear hz
      go_wp2
      go_ret
      have := ho.out
      rw [HZ.out, List.take_length, List.drop_of_length_le (by have := HX.out; omega), List.append_nil] at this
      exact ⟨_, rfl, rfl, this, Below.trans HB.out (Below.of_grown hg.out HB.out.size (by rintro k hk; cases hk; omega))⟩

def szOfP (n : Nat) : Int := if n ≤ 1048576 then 1048576 - (n : Int) else -1
theorem szPlayer (q : Rq) (A : Option Addr) (n a : Nat) (w : World) (hn : n ≤ maxLen) :
    Calls Try.prog 22 #[playerV q A n a, .int .i64 1048576] w fun e w' => e = .returned (.int .i64 (szOfP n)) ∧ Below w.heap.size w w' := by
  go_enter Try.func22, Try.ntmps22
  go_wp2_with (fail)
  refine (szReplyS A n a 1048576 _ hn (by omega) (by omega)).mono ?_
  rintro e w1 ⟨rfl, rfl⟩
  by_cases h1 : (1048576 : Int) - n < 0
  · rw [if_pos h1]
    go_wp2
    go_light
    go_ret
    exact ⟨ret_int (by unfold szOfP; rw [if_neg (by omega)]), (Below.refl _ _).alloc (Nat.le_refl _) _⟩
  rw [if_neg h1]
  have d1 : decide ((1048576 : Int) - n < 0) = false := by simp; omega
  go_wp2
  go_light
  go_ret
  exact ⟨ret_int (by unfold szOfP; rw [if_pos (by omega)]), (Below.refl _ _).alloc (Nat.le_refl _) _⟩

set_option maxRecDepth 100000 in
set_option maxHeartbeats 2000000 in
theorem toPlayer (q : Rq) (A : Option Addr) (a : Nat) (L : List Rp) (w : World) (hL : L.length ≤ 1048576) (rL : Rd 4 Rp.cells w A L) :
    Calls Try.prog 23 #[playerV q A L.length a] w fun e w' => ∃ g : Nat, e = .returned (playerV q (some ⟨g, 0, none⟩) L.length L.length) ∧ OwL w' w.heap.size (some ⟨g, 0, none⟩) L.length L ∧ Below w.heap.size w w' := by
  have HL := Lib.hid rL
  have K0 : Hid (Bkk (((w.alloc (.cells #[.int .i64 q.c, .int .i64 q.n, .int .i64 q.o, .int .i64 q.x, .int .i64 q.y, .slice A L.length a] 46)).alloc (.cells #[.int .i64 0, .int .i64 0, .int .i64 0, .int .i64 0, .int .i64 0, .slice none 0 0] 27)).alloc (.cells #[.int .i64 0, .int .i64 0, .int .i64 0, .int .i64 0, .int .i64 0, .slice none 0 0] 27)) w.heap.size 46 #[.int .i64 q.c, .int .i64 q.n, .int .i64 q.o, .int .i64 q.x, .int .i64 q.y, .slice A L.length a]) := ((Bkk.new (cs := #[.int .i64 q.c, .int .i64 q.n, .int .i64 q.o, .int .i64 q.x, .int .i64 q.y, .slice A L.length a]) (t := 46) w).alloc (.cells #[.int .i64 0, .int .i64 0, .int .i64 0, .int .i64 0, .int .i64 0, .slice none 0 0] 27)).alloc (.cells #[.int .i64 0, .int .i64 0, .int .i64 0, .int .i64 0, .int .i64 0, .slice none 0 0] 27)
  have K1 : Hid (Bkk (((w.alloc (.cells #[.int .i64 q.c, .int .i64 q.n, .int .i64 q.o, .int .i64 q.x, .int .i64 q.y, .slice A L.length a] 46)).alloc (.cells #[.int .i64 0, .int .i64 0, .int .i64 0, .int .i64 0, .int .i64 0, .slice none 0 0] 27)).alloc (.cells #[.int .i64 0, .int .i64 0, .int .i64 0, .int .i64 0, .int .i64 0, .slice none 0 0] 27)) (w.heap.size + 1) 27 #[.int .i64 0, .int .i64 0, .int .i64 0, .int .i64 0, .int .i64 0, .slice none 0 0]) := by have := (Bkk.new (cs := #[.int .i64 0, .int .i64 0, .int .i64 0, .int .i64 0, .int .i64 0, .slice none 0 0]) (t := 27) (w.alloc (.cells #[.int .i64 q.c, .int .i64 q.n, .int .i64 q.o, .int .i64 q.x, .int .i64 q.y, .slice A L.length a] 46))).alloc (.cells #[.int .i64 0, .int .i64 0, .int .i64 0, .int .i64 0, .int .i64 0, .slice none 0 0] 27); simpa [Hid] using this
  have K2 : Hid (Bkk (((w.alloc (.cells #[.int .i64 q.c, .int .i64 q.n, .int .i64 q.o, .int .i64 q.x, .int .i64 q.y, .slice A L.length a] 46)).alloc (.cells #[.int .i64 0, .int .i64 0, .int .i64 0, .int .i64 0, .int .i64 0, .slice none 0 0] 27)).alloc (.cells #[.int .i64 0, .int .i64 0, .int .i64 0, .int .i64 0, .int .i64 0, .slice none 0 0] 27)) (w.heap.size + 1 + 1) 27 #[.int .i64 0, .int .i64 0, .int .i64 0, .int .i64 0, .int .i64 0, .slice none 0 0]) := by have := Bkk.new (cs := #[.int .i64 0, .int .i64 0, .int .i64 0, .int .i64 0, .int .i64 0, .slice none 0 0]) (t := 27) ((w.alloc (.cells #[.int .i64 q.c, .int .i64 q.n, .int .i64 q.o, .int .i64 q.x, .int .i64 q.y, .slice A L.length a] 46)).alloc (.cells #[.int .i64 0, .int .i64 0, .int .i64 0, .int .i64 0, .int .i64 0, .slice none 0 0] 27)); simpa [Hid] using this
  have Z : Hid (Below w.heap.size w (((w.alloc (.cells #[.int .i64 q.c, .int .i64 q.n, .int .i64 q.o, .int .i64 q.x, .int .i64 q.y, .slice A L.length a] 46)).alloc (.cells #[.int .i64 0, .int .i64 0, .int .i64 0, .int .i64 0, .int .i64 0, .slice none 0 0] 27)).alloc (.cells #[.int .i64 0, .int .i64 0, .int .i64 0, .int .i64 0, .int .i64 0, .slice none 0 0] 27))) := (below_alloc2 w _ _).alloc (by simp; omega) _
  have HS : Hid (w.heap.size + 3 ≤ (((w.alloc (.cells #[.int .i64 q.c, .int .i64 q.n, .int .i64 q.o, .int .i64 q.x, .int .i64 q.y, .slice A L.length a] 46)).alloc (.cells #[.int .i64 0, .int .i64 0, .int .i64 0, .int .i64 0, .int .i64 0, .slice none 0 0] 27)).alloc (.cells #[.int .i64 0, .int .i64 0, .int .i64 0, .int .i64 0, .int .i64 0, .slice none 0 0] 27)).heap.size) := by show _ ≤ _; simp
  clear rL
  go_enter Try.func23, Try.ntmps23
  go_upto_region 2 with (fail)
  obtain ⟨w0, hw0⟩ : ∃ X, X = (((w.alloc (.cells #[.int .i64 q.c, .int .i64 q.n, .int .i64 q.o, .int .i64 q.x, .int .i64 q.y, .slice A L.length a] 46)).alloc (.cells #[.int .i64 0, .int .i64 0, .int .i64 0, .int .i64 0, .int .i64 0, .slice none 0 0] 27)).alloc (.cells #[.int .i64 0, .int .i64 0, .int .i64 0, .int .i64 0, .int .i64 0, .slice none 0 0] 27)) := ⟨_, rfl⟩
  rw [← hw0] at K0 K1 K2 Z HS ⊢
  clear hw0
  have p0 : w0.cell? ⟨w.heap.size, 0, none⟩ = some (.int .i64 q.c) := K0.out.cell 0
  have p1 : w0.cell? ⟨w.heap.size, 1, none⟩ = some (.int .i64 q.n) := K0.out.cell 1
  have p2 : w0.cell? ⟨w.heap.size, 2, none⟩ = some (.int .i64 q.o) := K0.out.cell 2
  have p3 : w0.cell? ⟨w.heap.size, 3, none⟩ = some (.int .i64 q.x) := K0.out.cell 3
  have p4 : w0.cell? ⟨w.heap.size, 4, none⟩ = some (.int .i64 q.y) := K0.out.cell 4
  have p5 : w0.cell? ⟨w.heap.size, 5, none⟩ = some (.slice A L.length a) := K0.out.cell 5
  have q0 : w0.cell? ⟨w.heap.size + 1 + 1, 0, none⟩ = some (.int .i64 0) := K2.out.cell 0
  have q1 : w0.cell? ⟨w.heap.size + 1 + 1, 1, none⟩ = some (.int .i64 0) := K2.out.cell 1
  have q2 : w0.cell? ⟨w.heap.size + 1 + 1, 2, none⟩ = some (.int .i64 0) := K2.out.cell 2
  have q3 : w0.cell? ⟨w.heap.size + 1 + 1, 3, none⟩ = some (.int .i64 0) := K2.out.cell 3
  have q4 : w0.cell? ⟨w.heap.size + 1 + 1, 4, none⟩ = some (.int .i64 0) := K2.out.cell 4
  have q5 : w0.cell? ⟨w.heap.size + 1 + 1, 5, none⟩ = some (.slice none 0 0) := K2.out.cell 5
  have qf := K2.out.frozen
  have lp := K0.out.lt
  have lq := K2.out.lt
  go_wp2_with (fail)
  refine (toRq q _).mono ?_
  rintro e w1 ⟨rfl, h1⟩
  have HS := Lib.hid (Nat.le_trans HS.out h1.size)
  have K0 := Lib.hid (K0.out.below h1)
  have K1 := Lib.hid (K1.out.below h1)
  have K2 := Lib.hid (K2.out.below h1)
  have Z := Lib.hid (Below.and Z.out h1)
  clear h1
  clear p0 p1 p2 p3 p4 p5 q0 q1 q2 q3 q4 q5 qf lp lq
  have p0 : w1.cell? ⟨w.heap.size, 0, none⟩ = some (.int .i64 q.c) := K0.out.cell 0
  have p1 : w1.cell? ⟨w.heap.size, 1, none⟩ = some (.int .i64 q.n) := K0.out.cell 1
  have p2 : w1.cell? ⟨w.heap.size, 2, none⟩ = some (.int .i64 q.o) := K0.out.cell 2
  have p3 : w1.cell? ⟨w.heap.size, 3, none⟩ = some (.int .i64 q.x) := K0.out.cell 3
  have p4 : w1.cell? ⟨w.heap.size, 4, none⟩ = some (.int .i64 q.y) := K0.out.cell 4
  have p5 : w1.cell? ⟨w.heap.size, 5, none⟩ = some (.slice A L.length a) := K0.out.cell 5
  have q0 : w1.cell? ⟨w.heap.size + 1 + 1, 0, none⟩ = some (.int .i64 0) := K2.out.cell 0
  have q1 : w1.cell? ⟨w.heap.size + 1 + 1, 1, none⟩ = some (.int .i64 0) := K2.out.cell 1
  have q2 : w1.cell? ⟨w.heap.size + 1 + 1, 2, none⟩ = some (.int .i64 0) := K2.out.cell 2
  have q3 : w1.cell? ⟨w.heap.size + 1 + 1, 3, none⟩ = some (.int .i64 0) := K2.out.cell 3
  have q4 : w1.cell? ⟨w.heap.size + 1 + 1, 4, none⟩ = some (.int .i64 0) := K2.out.cell 4
  have q5 : w1.cell? ⟨w.heap.size + 1 + 1, 5, none⟩ = some (.slice none 0 0) := K2.out.cell 5
  have qf := K2.out.frozen
  have lp := K0.out.lt
  have lq := K2.out.lt
  go_upto_region 3 with (fail)
  clear p0 p1 p2 p3 p4 p5 q0 q1 q2 q3 q4 q5 qf lp lq
  have Z : Hid (Below w.heap.size w (w1.setCell ⟨w.heap.size + 1 + 1, 0, none⟩ (.int .i64 q.c))) := Below.setCell Z.out (p := ⟨w.heap.size + 1 + 1, 0, none⟩) (by simp; omega) (.int .i64 q.c)
  have K0 : Hid (Bkk (w1.setCell ⟨w.heap.size + 1 + 1, 0, none⟩ (.int .i64 q.c)) w.heap.size 46 #[.int .i64 q.c, .int .i64 q.n, .int .i64 q.o, .int .i64 q.x, .int .i64 q.y, .slice A L.length a]) := K0.out.far (show w.heap.size ≠ w.heap.size + 1 + 1 by omega) 0 (.int .i64 q.c)
  have K1 : Hid (Bkk (w1.setCell ⟨w.heap.size + 1 + 1, 0, none⟩ (.int .i64 q.c)) (w.heap.size + 1) 27 #[.int .i64 0, .int .i64 0, .int .i64 0, .int .i64 0, .int .i64 0, .slice none 0 0]) := K1.out.far (show w.heap.size + 1 ≠ w.heap.size + 1 + 1 by omega) 0 (.int .i64 q.c)
  have K2 : Hid (Bkk (w1.setCell ⟨w.heap.size + 1 + 1, 0, none⟩ (.int .i64 q.c)) (w.heap.size + 1 + 1) 27 #[.int .i64 q.c, .int .i64 0, .int .i64 0, .int .i64 0, .int .i64 0, .slice none 0 0]) := K2.out.set 0 (.int .i64 q.c)
  have Z : Hid (Below w.heap.size w ((w1.setCell ⟨w.heap.size + 1 + 1, 0, none⟩ (.int .i64 q.c)).setCell ⟨w.heap.size + 1 + 1, 1, none⟩ (.int .i64 q.n))) := Below.setCell Z.out (p := ⟨w.heap.size + 1 + 1, 1, none⟩) (by simp; omega) (.int .i64 q.n)
  have K0 : Hid (Bkk ((w1.setCell ⟨w.heap.size + 1 + 1, 0, none⟩ (.int .i64 q.c)).setCell ⟨w.heap.size + 1 + 1, 1, none⟩ (.int .i64 q.n)) w.heap.size 46 #[.int .i64 q.c, .int .i64 q.n, .int .i64 q.o, .int .i64 q.x, .int .i64 q.y, .slice A L.length a]) := K0.out.far (show w.heap.size ≠ w.heap.size + 1 + 1 by omega) 1 (.int .i64 q.n)
  have K1 : Hid (Bkk ((w1.setCell ⟨w.heap.size + 1 + 1, 0, none⟩ (.int .i64 q.c)).setCell ⟨w.heap.size + 1 + 1, 1, none⟩ (.int .i64 q.n)) (w.heap.size + 1) 27 #[.int .i64 0, .int .i64 0, .int .i64 0, .int .i64 0, .int .i64 0, .slice none 0 0]) := K1.out.far (show w.heap.size + 1 ≠ w.heap.size + 1 + 1 by omega) 1 (.int .i64 q.n)
  have K2 : Hid (Bkk ((w1.setCell ⟨w.heap.size + 1 + 1, 0, none⟩ (.int .i64 q.c)).setCell ⟨w.heap.size + 1 + 1, 1, none⟩ (.int .i64 q.n)) (w.heap.size + 1 + 1) 27 #[.int .i64 q.c, .int .i64 q.n, .int .i64 0, .int .i64 0, .int .i64 0, .slice none 0 0]) := K2.out.set 1 (.int .i64 q.n)
  have Z : Hid (Below w.heap.size w (((w1.setCell ⟨w.heap.size + 1 + 1, 0, none⟩ (.int .i64 q.c)).setCell ⟨w.heap.size + 1 + 1, 1, none⟩ (.int .i64 q.n)).setCell ⟨w.heap.size + 1 + 1, 2, none⟩ (.int .i64 q.o))) := Below.setCell Z.out (p := ⟨w.heap.size + 1 + 1, 2, none⟩) (by simp; omega) (.int .i64 q.o)
  have K0 : Hid (Bkk (((w1.setCell ⟨w.heap.size + 1 + 1, 0, none⟩ (.int .i64 q.c)).setCell ⟨w.heap.size + 1 + 1, 1, none⟩ (.int .i64 q.n)).setCell ⟨w.heap.size + 1 + 1, 2, none⟩ (.int .i64 q.o)) w.heap.size 46 #[.int .i64 q.c, .int .i64 q.n, .int .i64 q.o, .int .i64 q.x, .int .i64 q.y, .slice A L.length a]) := K0.out.far (show w.heap.size ≠ w.heap.size + 1 + 1 by omega) 2 (.int .i64 q.o)
  have K1 : Hid (Bkk (((w1.setCell ⟨w.heap.size + 1 + 1, 0, none⟩ (.int .i64 q.c)).setCell ⟨w.heap.size + 1 + 1, 1, none⟩ (.int .i64 q.n)).setCell ⟨w.heap.size + 1 + 1, 2, none⟩ (.int .i64 q.o)) (w.heap.size + 1) 27 #[.int .i64 0, .int .i64 0, .int .i64 0, .int .i64 0, .int .i64 0, .slice none 0 0]) := K1.out.far (show w.heap.size + 1 ≠ w.heap.size + 1 + 1 by omega) 2 (.int .i64 q.o)
  have K2 : Hid (Bkk (((w1.setCell ⟨w.heap.size + 1 + 1, 0, none⟩ (.int .i64 q.c)).setCell ⟨w.heap.size + 1 + 1, 1, none⟩ (.int .i64 q.n)).setCell ⟨w.heap.size + 1 + 1, 2, none⟩ (.int .i64 q.o)) (w.heap.size + 1 + 1) 27 #[.int .i64 q.c, .int .i64 q.n, .int .i64 q.o, .int .i64 0, .int .i64 0, .slice none 0 0]) := K2.out.set 2 (.int .i64 q.o)
  have Z : Hid (Below w.heap.size w ((((w1.setCell ⟨w.heap.size + 1 + 1, 0, none⟩ (.int .i64 q.c)).setCell ⟨w.heap.size + 1 + 1, 1, none⟩ (.int .i64 q.n)).setCell ⟨w.heap.size + 1 + 1, 2, none⟩ (.int .i64 q.o)).setCell ⟨w.heap.size + 1 + 1, 3, none⟩ (.int .i64 q.x))) := Below.setCell Z.out (p := ⟨w.heap.size + 1 + 1, 3, none⟩) (by simp; omega) (.int .i64 q.x)
  have K0 : Hid (Bkk ((((w1.setCell ⟨w.heap.size + 1 + 1, 0, none⟩ (.int .i64 q.c)).setCell ⟨w.heap.size + 1 + 1, 1, none⟩ (.int .i64 q.n)).setCell ⟨w.heap.size + 1 + 1, 2, none⟩ (.int .i64 q.o)).setCell ⟨w.heap.size + 1 + 1, 3, none⟩ (.int .i64 q.x)) w.heap.size 46 #[.int .i64 q.c, .int .i64 q.n, .int .i64 q.o, .int .i64 q.x, .int .i64 q.y, .slice A L.length a]) := K0.out.far (show w.heap.size ≠ w.heap.size + 1 + 1 by omega) 3 (.int .i64 q.x)
  have K1 : Hid (Bkk ((((w1.setCell ⟨w.heap.size + 1 + 1, 0, none⟩ (.int .i64 q.c)).setCell ⟨w.heap.size + 1 + 1, 1, none⟩ (.int .i64 q.n)).setCell ⟨w.heap.size + 1 + 1, 2, none⟩ (.int .i64 q.o)).setCell ⟨w.heap.size + 1 + 1, 3, none⟩ (.int .i64 q.x)) (w.heap.size + 1) 27 #[.int .i64 0, .int .i64 0, .int .i64 0, .int .i64 0, .int .i64 0, .slice none 0 0]) := K1.out.far (show w.heap.size + 1 ≠ w.heap.size + 1 + 1 by omega) 3 (.int .i64 q.x)
  have K2 : Hid (Bkk ((((w1.setCell ⟨w.heap.size + 1 + 1, 0, none⟩ (.int .i64 q.c)).setCell ⟨w.heap.size + 1 + 1, 1, none⟩ (.int .i64 q.n)).setCell ⟨w.heap.size + 1 + 1, 2, none⟩ (.int .i64 q.o)).setCell ⟨w.heap.size + 1 + 1, 3, none⟩ (.int .i64 q.x)) (w.heap.size + 1 + 1) 27 #[.int .i64 q.c, .int .i64 q.n, .int .i64 q.o, .int .i64 q.x, .int .i64 0, .slice none 0 0]) := K2.out.set 3 (.int .i64 q.x)
  have Z : Hid (Below w.heap.size w (((((w1.setCell ⟨w.heap.size + 1 + 1, 0, none⟩ (.int .i64 q.c)).setCell ⟨w.heap.size + 1 + 1, 1, none⟩ (.int .i64 q.n)).setCell ⟨w.heap.size + 1 + 1, 2, none⟩ (.int .i64 q.o)).setCell ⟨w.heap.size + 1 + 1, 3, none⟩ (.int .i64 q.x)).setCell ⟨w.heap.size + 1 + 1, 4, none⟩ (.int .i64 q.y))) := Below.setCell Z.out (p := ⟨w.heap.size + 1 + 1, 4, none⟩) (by simp; omega) (.int .i64 q.y)
  have K0 : Hid (Bkk (((((w1.setCell ⟨w.heap.size + 1 + 1, 0, none⟩ (.int .i64 q.c)).setCell ⟨w.heap.size + 1 + 1, 1, none⟩ (.int .i64 q.n)).setCell ⟨w.heap.size + 1 + 1, 2, none⟩ (.int .i64 q.o)).setCell ⟨w.heap.size + 1 + 1, 3, none⟩ (.int .i64 q.x)).setCell ⟨w.heap.size + 1 + 1, 4, none⟩ (.int .i64 q.y)) w.heap.size 46 #[.int .i64 q.c, .int .i64 q.n, .int .i64 q.o, .int .i64 q.x, .int .i64 q.y, .slice A L.length a]) := K0.out.far (show w.heap.size ≠ w.heap.size + 1 + 1 by omega) 4 (.int .i64 q.y)
  have K1 : Hid (Bkk (((((w1.setCell ⟨w.heap.size + 1 + 1, 0, none⟩ (.int .i64 q.c)).setCell ⟨w.heap.size + 1 + 1, 1, none⟩ (.int .i64 q.n)).setCell ⟨w.heap.size + 1 + 1, 2, none⟩ (.int .i64 q.o)).setCell ⟨w.heap.size + 1 + 1, 3, none⟩ (.int .i64 q.x)).setCell ⟨w.heap.size + 1 + 1, 4, none⟩ (.int .i64 q.y)) (w.heap.size + 1) 27 #[.int .i64 0, .int .i64 0, .int .i64 0, .int .i64 0, .int .i64 0, .slice none 0 0]) := K1.out.far (show w.heap.size + 1 ≠ w.heap.size + 1 + 1 by omega) 4 (.int .i64 q.y)
  have K2 : Hid (Bkk (((((w1.setCell ⟨w.heap.size + 1 + 1, 0, none⟩ (.int .i64 q.c)).setCell ⟨w.heap.size + 1 + 1, 1, none⟩ (.int .i64 q.n)).setCell ⟨w.heap.size + 1 + 1, 2, none⟩ (.int .i64 q.o)).setCell ⟨w.heap.size + 1 + 1, 3, none⟩ (.int .i64 q.x)).setCell ⟨w.heap.size + 1 + 1, 4, none⟩ (.int .i64 q.y)) (w.heap.size + 1 + 1) 27 #[.int .i64 q.c, .int .i64 q.n, .int .i64 q.o, .int .i64 q.x, .int .i64 q.y, .slice none 0 0]) := K2.out.set 4 (.int .i64 q.y)
  have HS : Hid (w.heap.size + 3 ≤ (((((w1.setCell ⟨w.heap.size + 1 + 1, 0, none⟩ (.int .i64 q.c)).setCell ⟨w.heap.size + 1 + 1, 1, none⟩ (.int .i64 q.n)).setCell ⟨w.heap.size + 1 + 1, 2, none⟩ (.int .i64 q.o)).setCell ⟨w.heap.size + 1 + 1, 3, none⟩ (.int .i64 q.x)).setCell ⟨w.heap.size + 1 + 1, 4, none⟩ (.int .i64 q.y)).heap.size) := by have := HS.out; simpa [Hid] using this
  obtain ⟨w2, hw2⟩ : ∃ X, X = (((((w1.setCell ⟨w.heap.size + 1 + 1, 0, none⟩ (.int .i64 q.c)).setCell ⟨w.heap.size + 1 + 1, 1, none⟩ (.int .i64 q.n)).setCell ⟨w.heap.size + 1 + 1, 2, none⟩ (.int .i64 q.o)).setCell ⟨w.heap.size + 1 + 1, 3, none⟩ (.int .i64 q.x)).setCell ⟨w.heap.size + 1 + 1, 4, none⟩ (.int .i64 q.y)) := ⟨_, rfl⟩
  rw [← hw2] at K0 K1 K2 Z HS ⊢
  clear hw2
  have p0 : w2.cell? ⟨w.heap.size, 0, none⟩ = some (.int .i64 q.c) := K0.out.cell 0
  have p1 : w2.cell? ⟨w.heap.size, 1, none⟩ = some (.int .i64 q.n) := K0.out.cell 1
  have p2 : w2.cell? ⟨w.heap.size, 2, none⟩ = some (.int .i64 q.o) := K0.out.cell 2
  have p3 : w2.cell? ⟨w.heap.size, 3, none⟩ = some (.int .i64 q.x) := K0.out.cell 3
  have p4 : w2.cell? ⟨w.heap.size, 4, none⟩ = some (.int .i64 q.y) := K0.out.cell 4
  have p5 : w2.cell? ⟨w.heap.size, 5, none⟩ = some (.slice A L.length a) := K0.out.cell 5
  have q0 : w2.cell? ⟨w.heap.size + 1 + 1, 0, none⟩ = some (.int .i64 q.c) := K2.out.cell 0
  have q1 : w2.cell? ⟨w.heap.size + 1 + 1, 1, none⟩ = some (.int .i64 q.n) := K2.out.cell 1
  have q2 : w2.cell? ⟨w.heap.size + 1 + 1, 2, none⟩ = some (.int .i64 q.o) := K2.out.cell 2
  have q3 : w2.cell? ⟨w.heap.size + 1 + 1, 3, none⟩ = some (.int .i64 q.x) := K2.out.cell 3
  have q4 : w2.cell? ⟨w.heap.size + 1 + 1, 4, none⟩ = some (.int .i64 q.y) := K2.out.cell 4
  have q5 : w2.cell? ⟨w.heap.size + 1 + 1, 5, none⟩ = some (.slice none 0 0) := K2.out.cell 5
  have qf := K2.out.frozen
  have lp := K0.out.lt
  have lq := K2.out.lt
  go_wp2_with (fail)
  refine (toReplyS A a L _ hL (Rd.below HL.out Z.out)).mono ?_
  rintro e w3 ⟨g1, rfl, hg1, o1, h1⟩
  have O1 : Hid (OwL w3 (w.heap.size + 3) (some ⟨g1, 0, none⟩) L.length L) := own_base o1 HS.out
  have K0 := Lib.hid (K0.out.below h1)
  have K1 := Lib.hid (K1.out.below h1)
  have K2 := Lib.hid (K2.out.below h1)
  have Z := Lib.hid (Below.and Z.out h1)
  clear h1 o1 hg1 HS
  clear p0 p1 p2 p3 p4 p5 q0 q1 q2 q3 q4 q5 qf lp lq
  have p0 : w3.cell? ⟨w.heap.size, 0, none⟩ = some (.int .i64 q.c) := K0.out.cell 0
  have p1 : w3.cell? ⟨w.heap.size, 1, none⟩ = some (.int .i64 q.n) := K0.out.cell 1
  have p2 : w3.cell? ⟨w.heap.size, 2, none⟩ = some (.int .i64 q.o) := K0.out.cell 2
  have p3 : w3.cell? ⟨w.heap.size, 3, none⟩ = some (.int .i64 q.x) := K0.out.cell 3
  have p4 : w3.cell? ⟨w.heap.size, 4, none⟩ = some (.int .i64 q.y) := K0.out.cell 4
  have p5 : w3.cell? ⟨w.heap.size, 5, none⟩ = some (.slice A L.length a) := K0.out.cell 5
  have q0 : w3.cell? ⟨w.heap.size + 1 + 1, 0, none⟩ = some (.int .i64 q.c) := K2.out.cell 0
  have q1 : w3.cell? ⟨w.heap.size + 1 + 1, 1, none⟩ = some (.int .i64 q.n) := K2.out.cell 1
  have q2 : w3.cell? ⟨w.heap.size + 1 + 1, 2, none⟩ = some (.int .i64 q.o) := K2.out.cell 2
  have q3 : w3.cell? ⟨w.heap.size + 1 + 1, 3, none⟩ = some (.int .i64 q.x) := K2.out.cell 3
  have q4 : w3.cell? ⟨w.heap.size + 1 + 1, 4, none⟩ = some (.int .i64 q.y) := K2.out.cell 4
  have q5 : w3.cell? ⟨w.heap.size + 1 + 1, 5, none⟩ = some (.slice none 0 0) := K2.out.cell 5
  have qf := K2.out.frozen
  have lp := K0.out.lt
  have lq := K2.out.lt
  go_upto_region 4 with (fail)
  clear p0 p1 p2 p3 p4 p5 q0 q1 q2 q3 q4 q5 qf lp lq
  have Z : Hid (Below w.heap.size w (w3.setCell ⟨w.heap.size + 1 + 1, 5, none⟩ (.slice (some ⟨g1, 0, none⟩) L.length L.length))) := Below.setCell Z.out (p := ⟨w.heap.size + 1 + 1, 5, none⟩) (by simp; omega) (.slice (some ⟨g1, 0, none⟩) L.length L.length)
  have K0 : Hid (Bkk (w3.setCell ⟨w.heap.size + 1 + 1, 5, none⟩ (.slice (some ⟨g1, 0, none⟩) L.length L.length)) w.heap.size 46 #[.int .i64 q.c, .int .i64 q.n, .int .i64 q.o, .int .i64 q.x, .int .i64 q.y, .slice A L.length a]) := K0.out.far (show w.heap.size ≠ w.heap.size + 1 + 1 by omega) 5 (.slice (some ⟨g1, 0, none⟩) L.length L.length)
  have K1 : Hid (Bkk (w3.setCell ⟨w.heap.size + 1 + 1, 5, none⟩ (.slice (some ⟨g1, 0, none⟩) L.length L.length)) (w.heap.size + 1) 27 #[.int .i64 0, .int .i64 0, .int .i64 0, .int .i64 0, .int .i64 0, .slice none 0 0]) := K1.out.far (show w.heap.size + 1 ≠ w.heap.size + 1 + 1 by omega) 5 (.slice (some ⟨g1, 0, none⟩) L.length L.length)
  have K2 : Hid (Bkk (w3.setCell ⟨w.heap.size + 1 + 1, 5, none⟩ (.slice (some ⟨g1, 0, none⟩) L.length L.length)) (w.heap.size + 1 + 1) 27 #[.int .i64 q.c, .int .i64 q.n, .int .i64 q.o, .int .i64 q.x, .int .i64 q.y, .slice (some ⟨g1, 0, none⟩) L.length L.length]) := K2.out.set 5 (.slice (some ⟨g1, 0, none⟩) L.length L.length)
  have O1 : Hid (OwL (w3.setCell ⟨w.heap.size + 1 + 1, 5, none⟩ (.slice (some ⟨g1, 0, none⟩) L.length L.length)) (w.heap.size + 3) (some ⟨g1, 0, none⟩) L.length L) := O1.out.put (q := w.heap.size + 1 + 1) (by omega) 5 (.slice (some ⟨g1, 0, none⟩) L.length L.length)
  obtain ⟨w4, hw4⟩ : ∃ X, X = (w3.setCell ⟨w.heap.size + 1 + 1, 5, none⟩ (.slice (some ⟨g1, 0, none⟩) L.length L.length)) := ⟨_, rfl⟩
  rw [← hw4] at K0 K1 K2 Z O1 ⊢
  clear hw4
  have p0 : w4.cell? ⟨w.heap.size, 0, none⟩ = some (.int .i64 q.c) := K0.out.cell 0
  have p1 : w4.cell? ⟨w.heap.size, 1, none⟩ = some (.int .i64 q.n) := K0.out.cell 1
  have p2 : w4.cell? ⟨w.heap.size, 2, none⟩ = some (.int .i64 q.o) := K0.out.cell 2
  have p3 : w4.cell? ⟨w.heap.size, 3, none⟩ = some (.int .i64 q.x) := K0.out.cell 3
  have p4 : w4.cell? ⟨w.heap.size, 4, none⟩ = some (.int .i64 q.y) := K0.out.cell 4
  have p5 : w4.cell? ⟨w.heap.size, 5, none⟩ = some (.slice A L.length a) := K0.out.cell 5
  have q0 : w4.cell? ⟨w.heap.size + 1 + 1, 0, none⟩ = some (.int .i64 q.c) := K2.out.cell 0
  have q1 : w4.cell? ⟨w.heap.size + 1 + 1, 1, none⟩ = some (.int .i64 q.n) := K2.out.cell 1
  have q2 : w4.cell? ⟨w.heap.size + 1 + 1, 2, none⟩ = some (.int .i64 q.o) := K2.out.cell 2
  have q3 : w4.cell? ⟨w.heap.size + 1 + 1, 3, none⟩ = some (.int .i64 q.x) := K2.out.cell 3
  have q4 : w4.cell? ⟨w.heap.size + 1 + 1, 4, none⟩ = some (.int .i64 q.y) := K2.out.cell 4
  have q5 : w4.cell? ⟨w.heap.size + 1 + 1, 5, none⟩ = some (.slice (some ⟨g1, 0, none⟩) L.length L.length) := K2.out.cell 5
  have qf := K2.out.frozen
  have lp := K0.out.lt
  have lq := K2.out.lt
  have z0 : w4.cell? ⟨w.heap.size + 1, 0, none⟩ = some (.int .i64 0) := K1.out.cell 0
  have z1 : w4.cell? ⟨w.heap.size + 1, 1, none⟩ = some (.int .i64 0) := K1.out.cell 1
  have z2 : w4.cell? ⟨w.heap.size + 1, 2, none⟩ = some (.int .i64 0) := K1.out.cell 2
  have z3 : w4.cell? ⟨w.heap.size + 1, 3, none⟩ = some (.int .i64 0) := K1.out.cell 3
  have z4 : w4.cell? ⟨w.heap.size + 1, 4, none⟩ = some (.int .i64 0) := K1.out.cell 4
  have z5 : w4.cell? ⟨w.heap.size + 1, 5, none⟩ = some (.slice none 0 0) := K1.out.cell 5
  have zf := K1.out.frozen
  have lz := K1.out.lt
  have OA := Lib.hid (((((((O1.out.put (q := w.heap.size + 1) (by omega) 0 (.int .i64 q.c)).put (q := w.heap.size + 1) (by omega) 1 (.int .i64 q.n)).put (q := w.heap.size + 1) (by omega) 2 (.int .i64 q.o)).put (q := w.heap.size + 1) (by omega) 3 (.int .i64 q.x)).put (q := w.heap.size + 1) (by omega) 4 (.int .i64 q.y)).put (q := w.heap.size + 1) (by omega) 5 (.slice (some ⟨g1, 0, none⟩) L.length L.length)).base (lo := w.heap.size) (by omega))
  have BG := Lib.hid (Below.setCell (Below.setCell (Below.setCell (Below.setCell (Below.setCell (Below.setCell Z.out (p := ⟨w.heap.size + 1, 0, none⟩) (by simp) (.int .i64 q.c)) (p := ⟨w.heap.size + 1, 1, none⟩) (by simp) (.int .i64 q.n)) (p := ⟨w.heap.size + 1, 2, none⟩) (by simp) (.int .i64 q.o)) (p := ⟨w.heap.size + 1, 3, none⟩) (by simp) (.int .i64 q.x)) (p := ⟨w.heap.size + 1, 4, none⟩) (by simp) (.int .i64 q.y)) (p := ⟨w.heap.size + 1, 5, none⟩) (by simp) (.slice (some ⟨g1, 0, none⟩) L.length L.length))
  clear K0 K1 K2 Z O1
  go_wp2
  refine bodyPost_ret (v := playerV q (some ⟨g1, 0, none⟩) L.length L.length) (by simp [results, Try.results23, go_sem, z0, z1, z2, z3, z4, z5]) rfl ⟨g1, rfl, OA.out, BG.out⟩

set_option maxRecDepth 100000 in
set_option maxHeartbeats 2000000 in
theorem eqPlayer_rd (q : Rq) (A B : Option Addr) (a b : Nat) (L : List Rp) (w : World) (hL : L.length ≤ 2097152) (rA : Rd 4 Rp.cells w A L) (rB : Rd 4 Rp.cells w B L) :
    Calls Try.prog 24 #[playerV q A L.length a, playerV q B L.length b] w fun e w' => e = .returned (.bool true) ∧ Below w.heap.size w w' := by
  have K0 : Hid (Bkk ((w.alloc (.cells #[.int .i64 q.c, .int .i64 q.n, .int .i64 q.o, .int .i64 q.x, .int .i64 q.y, .slice A L.length a] 27)).alloc (.cells #[.int .i64 q.c, .int .i64 q.n, .int .i64 q.o, .int .i64 q.x, .int .i64 q.y, .slice B L.length b] 27)) w.heap.size 27 #[.int .i64 q.c, .int .i64 q.n, .int .i64 q.o, .int .i64 q.x, .int .i64 q.y, .slice A L.length a]) := (Bkk.new (cs := #[.int .i64 q.c, .int .i64 q.n, .int .i64 q.o, .int .i64 q.x, .int .i64 q.y, .slice A L.length a]) (t := 27) w).alloc _
  have K1 : Hid (Bkk ((w.alloc (.cells #[.int .i64 q.c, .int .i64 q.n, .int .i64 q.o, .int .i64 q.x, .int .i64 q.y, .slice A L.length a] 27)).alloc (.cells #[.int .i64 q.c, .int .i64 q.n, .int .i64 q.o, .int .i64 q.x, .int .i64 q.y, .slice B L.length b] 27)) (w.heap.size + 1) 27 #[.int .i64 q.c, .int .i64 q.n, .int .i64 q.o, .int .i64 q.x, .int .i64 q.y, .slice B L.length b]) := by have := Bkk.new (cs := #[.int .i64 q.c, .int .i64 q.n, .int .i64 q.o, .int .i64 q.x, .int .i64 q.y, .slice B L.length b]) (t := 27) (w.alloc (.cells #[.int .i64 q.c, .int .i64 q.n, .int .i64 q.o, .int .i64 q.x, .int .i64 q.y, .slice A L.length a] 27)); simpa [Hid] using this
  have Z : Hid (Below w.heap.size w ((w.alloc (.cells #[.int .i64 q.c, .int .i64 q.n, .int .i64 q.o, .int .i64 q.x, .int .i64 q.y, .slice A L.length a] 27)).alloc (.cells #[.int .i64 q.c, .int .i64 q.n, .int .i64 q.o, .int .i64 q.x, .int .i64 q.y, .slice B L.length b] 27))) := below_alloc2 w _ _
  have H1 := Lib.hid rA; have H2 := Lib.hid rB
  clear rA rB
  go_enter Try.func24, Try.ntmps24
  go_upto_region 1 with (fail)
  obtain ⟨w0, hw0⟩ : ∃ X, X = ((w.alloc (.cells #[.int .i64 q.c, .int .i64 q.n, .int .i64 q.o, .int .i64 q.x, .int .i64 q.y, .slice A L.length a] 27)).alloc (.cells #[.int .i64 q.c, .int .i64 q.n, .int .i64 q.o, .int .i64 q.x, .int .i64 q.y, .slice B L.length b] 27)) := ⟨_, rfl⟩
  rw [← hw0] at K0 K1 Z ⊢
  clear hw0
  have p0 : w0.cell? ⟨w.heap.size, 0, none⟩ = some (.int .i64 q.c) := K0.out.cell 0
  have p1 : w0.cell? ⟨w.heap.size, 1, none⟩ = some (.int .i64 q.n) := K0.out.cell 1
  have p2 : w0.cell? ⟨w.heap.size, 2, none⟩ = some (.int .i64 q.o) := K0.out.cell 2
  have p3 : w0.cell? ⟨w.heap.size, 3, none⟩ = some (.int .i64 q.x) := K0.out.cell 3
  have p4 : w0.cell? ⟨w.heap.size, 4, none⟩ = some (.int .i64 q.y) := K0.out.cell 4
  have p5 : w0.cell? ⟨w.heap.size, 5, none⟩ = some (.slice A L.length a) := K0.out.cell 5
  have q0 : w0.cell? ⟨w.heap.size + 1, 0, none⟩ = some (.int .i64 q.c) := K1.out.cell 0
  have q1 : w0.cell? ⟨w.heap.size + 1, 1, none⟩ = some (.int .i64 q.n) := K1.out.cell 1
  have q2 : w0.cell? ⟨w.heap.size + 1, 2, none⟩ = some (.int .i64 q.o) := K1.out.cell 2
  have q3 : w0.cell? ⟨w.heap.size + 1, 3, none⟩ = some (.int .i64 q.x) := K1.out.cell 3
  have q4 : w0.cell? ⟨w.heap.size + 1, 4, none⟩ = some (.int .i64 q.y) := K1.out.cell 4
  have q5 : w0.cell? ⟨w.heap.size + 1, 5, none⟩ = some (.slice B L.length b) := K1.out.cell 5
  go_wp2_with (fail)
  refine (eqReq q q _).mono ?_
  rintro e w1 ⟨rfl, hb⟩
  rw [show decide (q = q) = true from decide_eq_true rfl]
  clear p0 p1 p2 p3 p4 p5 q0 q1 q2 q3 q4 q5
  have K0 := Lib.hid (K0.out.below hb)
  have K1 := Lib.hid (K1.out.below hb)
  have Z := Lib.hid (Below.and Z.out hb)
  clear hb
  have p0 : w1.cell? ⟨w.heap.size, 0, none⟩ = some (.int .i64 q.c) := K0.out.cell 0
  have p1 : w1.cell? ⟨w.heap.size, 1, none⟩ = some (.int .i64 q.n) := K0.out.cell 1
  have p2 : w1.cell? ⟨w.heap.size, 2, none⟩ = some (.int .i64 q.o) := K0.out.cell 2
  have p3 : w1.cell? ⟨w.heap.size, 3, none⟩ = some (.int .i64 q.x) := K0.out.cell 3
  have p4 : w1.cell? ⟨w.heap.size, 4, none⟩ = some (.int .i64 q.y) := K0.out.cell 4
  have p5 : w1.cell? ⟨w.heap.size, 5, none⟩ = some (.slice A L.length a) := K0.out.cell 5
  have q0 : w1.cell? ⟨w.heap.size + 1, 0, none⟩ = some (.int .i64 q.c) := K1.out.cell 0
  have q1 : w1.cell? ⟨w.heap.size + 1, 1, none⟩ = some (.int .i64 q.n) := K1.out.cell 1
  have q2 : w1.cell? ⟨w.heap.size + 1, 2, none⟩ = some (.int .i64 q.o) := K1.out.cell 2
  have q3 : w1.cell? ⟨w.heap.size + 1, 3, none⟩ = some (.int .i64 q.x) := K1.out.cell 3
  have q4 : w1.cell? ⟨w.heap.size + 1, 4, none⟩ = some (.int .i64 q.y) := K1.out.cell 4
  have q5 : w1.cell? ⟨w.heap.size + 1, 5, none⟩ = some (.slice B L.length b) := K1.out.cell 5
  go_wp2_with (fail)
  refine (eqReplyS A B a b L L _ (by unfold maxLen; omega) (Rd.below H1.out Z.out) (Rd.below H2.out Z.out)).mono ?_
  rintro e w2 ⟨rfl, hb⟩
  rw [show decide (L = L) = true from decide_eq_true rfl]
  have Z := Lib.hid (Below.and Z.out hb)
  clear hb p0 p1 p2 p3 p4 p5 q0 q1 q2 q3 q4 q5
  go_wp2
  go_light
  go_ret
  exact ⟨rfl, Z.out⟩

theorem six_of (l : List Value) (h : l.length = 6) : ∃ a b c d e f, l = [a, b, c, d, e, f] := by
  match l, h with
  | [a, b, c, d, e, f], _ => exact ⟨a, b, c, d, e, f, rfl⟩
theorem fourI_of (l : List Int) (h : l.length = 4) : ∃ a b c d, l = [a, b, c, d] := by
  match l, h with
  | [a, b, c, d], _ => exact ⟨a, b, c, d, rfl⟩
section
variable {H : Type} {enc : TypeId × Value → H} {w : World} {base : Nat} {spare : Nat → Bool} {held : Bool}
set_option maxRecDepth 100000 in
theorem cells_replyH {n : Nat} {cl : List Value} {y : DataW H × List MemPlace} (hl : cl.length = 4) (h : DataW.trod enc Try.prog w base spare held n 50 cl = some y) : ∃ r : Rp, cl = r.cells := by
  obtain ⟨l, rfl⟩ := ints_of_cells Try.underlying50 (by kernel_rfl) (by rw [hl]; kernel_rfl) (by kernel_rfl) h
  obtain ⟨a, b, c, d, rfl⟩ := fourI_of l (by simpa using hl)
  exact ⟨⟨a, b, c, d⟩, rfl⟩
set_option maxRecDepth 100000 in
theorem in_repliesG {fuel : Nat} {cs : List Value} {x : DataW H × List MemPlace} (h : DataW.trod enc Try.prog w base spare held fuel 44 cs = some x) :
    ∃ (A : Option Addr) (c : Nat) (l : List Rp), cs = [.slice A l.length c] ∧ l.length ≤ maxLen ∧ Rd 4 Rp.cells w A l := by
  obtain ⟨A, c, l, h1, h2, h3, h4, _⟩ := in_rowsH (f := Rp.cells) (Q := fun _ => True) (k := 4) Try.underlying44 (by kernel_rfl) (by omega) (fun _ => rfl) (fun n cl y hl h => by
    obtain ⟨r, hr⟩ := cells_replyH hl h
    exact ⟨r, hr, trivial⟩) h
  exact ⟨A, c, l, h1, h2, h4⟩
set_option maxRecDepth 100000 in
theorem in_player {r : Reach} {b0 : Nat} {v : Value} {d : DataW H} {p : List MemPlace} (hv : Value.okWide Try.prog w r b0 46 v) (h : DataW.Trod enc Try.prog w base spare held 46 v d p) :
    ∃ (q : Rq) (A : Option Addr) (a : Nat) (L : List Rp), v = playerV q A L.length a ∧ L.length ≤ maxLen ∧ Rd 4 Rp.cells w A L := by
  obtain ⟨cs, rfl, hsz⟩ := okWide_struct Try.underlying46 hv
  obtain ⟨cl⟩ := cs
  obtain ⟨fuel, hf⟩ := h
  have h6 : Try.prog.cellsOf 46 = 6 := by kernel_rfl
  rw [h6] at hsz
  obtain ⟨c0, c1, c2, c3, c4, c5, rfl⟩ := six_of cl (by simpa using hsz)
  have hf : DataW.trod enc Try.prog w base spare held fuel 46 [c0, c1, c2, c3, c4, c5] = some _ := hf
  obtain ⟨n0, y0, h0⟩ := fieldOf Try.underlying46 hf 0 (tp := 43) (off := 0) (k := 5) rfl rfl (by kernel_rfl)
  obtain ⟨q, hq⟩ := cells_reqH rfl h0
  obtain ⟨n1, y1, h1⟩ := fieldOf Try.underlying46 hf 1 (tp := 44) (off := 5) (k := 1) rfl rfl (by kernel_rfl)
  obtain ⟨A, a, L, ha, ma, ra⟩ := in_repliesG h1
  obtain rfl : c5 = .slice A L.length a := by simpa using ha
  have hq' : [c0, c1, c2, c3, c4] = q.cells := hq
  simp only [Rq.cells, List.cons.injEq, and_true] at hq'
  obtain ⟨rfl, rfl, rfl, rfl, rfl⟩ := hq'
  exact ⟨q, A, a, L, rfl, ma, ra⟩
set_option maxRecDepth 100000 in
theorem in_reply {r : Reach} {b0 : Nat} {v : Value} {d : DataW H} {p : List MemPlace} (hv : Value.okWide Try.prog w r b0 50 v) (h : DataW.Trod enc Try.prog w base spare held 50 v d p) : ∃ r : Rp, v = r.val := by
  obtain ⟨cs, rfl, hsz⟩ := okWide_struct Try.underlying50 hv
  obtain ⟨cl⟩ := cs
  obtain ⟨fuel, hf⟩ := h
  have h4 : Try.prog.cellsOf 50 = 4 := by kernel_rfl
  rw [h4] at hsz
  have hl : cl.length = 4 := by simpa using hsz
  obtain ⟨r, rfl⟩ := cells_replyH hl (show DataW.trod enc Try.prog w base spare held fuel 50 cl = some _ from hf)
  exact ⟨r, rfl⟩
end

end Go.Proofs.Ytdpladihacgobaa
