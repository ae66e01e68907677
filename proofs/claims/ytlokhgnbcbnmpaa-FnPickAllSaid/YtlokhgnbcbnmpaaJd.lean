/- What votes make a leader offer: all picks, both ways. -/
import Derived.Test.YtlokhgnbcbnmpaaJb
import Derived.Test.YtlokhgnbcbnmpaaZb
import Derived.OwnWalk
namespace Go.Proofs.Ytlokhgnbcbnmpaa
open Go.ChangeShapes Go.WideShapes Go.ChangeAt Go.RowKit
set_option linter.unusedVariables false
set_option linter.unusedSimpArgs false

theorem cls_mem (l : List Cl) : ∀ p, clsB p l = true → ∀ c ∈ l, clB c = true := by
  induction l with
  | nil => intro p h c hc; cases hc
  | cons a l ih =>
    intro p h c hc
    simp only [clsB, Bool.and_eq_true] at h
    rcases List.mem_cons.1 hc with rfl | h'
    · exact h.2.1
    · exact ih _ h.2.2 c h'
theorem vts_mem (P : List VtP) : ∀ p, vtsB p P = true → ∀ v ∈ P, clsB 0 v.cl = true := by
  induction P with
  | nil => intro p h c hc; cases hc
  | cons a l ih =>
    intro p h c hc
    simp only [vtsB, Bool.and_eq_true] at h
    rcases List.mem_cons.1 hc with rfl | h'
    · exact h.2.2.1
    · exact ih _ h.2.2.2 c h'
theorem top_bd (l : List Cl) : ∀ t, 0 ≤ t → t ≤ 5 → (∀ c ∈ l, c.s ≤ 5) → 0 ≤ topC t l ∧ topC t l ≤ 5 := by
  induction l with
  | nil => intro t h0 h5 _; exact ⟨h0, h5⟩
  | cons a l ih =>
    intro t h0 h5 h
    have ha := h a (by simp)
    refine ih _ ?_ ?_ fun c hc => h c (by simp [hc])
    all_goals split <;> omega
theorem top_ok {P : List VtP} (h : vtsB (-1) P = true) : 0 ≤ topC 0 (allC P) ∧ topC 0 (allC P) ≤ 5 := by
  refine top_bd _ 0 (by omega) (by omega) fun c hc => ?_
  obtain ⟨v, hv, hcv⟩ := List.mem_flatMap.1 hc
  have := cls_mem _ _ (vts_mem _ _ h v hv) c hcv
  simp only [clB, inB, Bool.and_eq_true, decide_eq_true_eq] at this
  omega

def picksN (k : Nat) (P : List VtP) : List Rq := (List.range k).map fun i : Nat => pckR ((i : Int) + 1) P
theorem picksN_len (k : Nat) (P : List VtP) : (picksN k P).length = k := by simp [picksN]
theorem picksN_succ (k : Nat) (P : List VtP) : picksN (k + 1) P = picksN k P ++ [pckR ((k : Int) + 1) P] := by simp [picksN, List.range_succ]
theorem picksN_cells (k : Nat) (P : List VtP) : (picksN (k + 1) P).flatMap Rq.cells = (picksN k P).flatMap Rq.cells ++ (pckR ((k : Int) + 1) P).cells := by rw [picksN_succ]; simp
def picks (P : List VtP) : List Rq := if vtsB (-1) P = true then picksN (topC 0 (allC P)).toNat P else []
theorem picks_congr {P Q : List VtP} (h : P.map VtP.vt = Q.map VtP.vt) : picks P = picks Q := by
  have e := allC_congr h
  have v : vtsB (-1) P = vtsB (-1) Q := by
    have key : ∀ (A : List VtP) (B : List VtP) (p : Int), A.map VtP.vt = B.map VtP.vt → vtsB p A = vtsB p B := by
      intro A
      induction A with
      | nil => intro B p h; cases B with
        | nil => rfl
        | cons b B => simp at h
      | cons a A ih => intro B p h; cases B with
        | nil => simp at h
        | cons b B =>
          simp only [List.map_cons, List.cons.injEq, VtP.vt, Vt.mk.injEq] at h
          rw [vtsB, vtsB, h.1.1, h.1.2, ih B _ h.2]
    exact key P Q (-1) h
  unfold picks picksN pckR
  rw [v, e]

set_option maxRecDepth 100000 in
set_option maxHeartbeats 4000000 in
theorem l4Picks (A : Option Addr) (c : Nat) (P : List VtP) (w : World) (hn : P.length ≤ maxLen) (hr : RdV w A P) (T : Nat) (hT : topC 0 (allC P) = T) (h5 : T ≤ 5) :
    Calls Try.prog 49 #[.slice A P.length c] w fun e w' => ∃ B d, e = .returned (.slice B T d) ∧ w'.ownsRow w.heap.size 30 5 (.slice B T d) T ((picksN T P).flatMap Rq.cells) ∧ Below w.heap.size w w' := by
  obtain ⟨i0, hi, hz0, hz1, hz2⟩ := info_parts infoReq
  have I1 := Lib.hid hi
  have I2 := Lib.hid hz0
  have I3 := Lib.hid hz1
  have I4 := Lib.hid hz2
  have HR := Lib.hid hr
  have HT := Lib.hid hT
  have HN := Lib.hid hn
  have S0 : Hid ((w.alloc (.cells #[] 30)).ownsRow w.heap.size 30 5 (.slice (some ⟨w.heap.size, 0, none⟩) 0 0) 0 []) := World.ownsRow_lit (size := 5) w #[] 0 (Nat.le_refl _) (by unfold maxLen; omega) rfl
  have S1 : Hid (Below w.heap.size w (w.alloc (.cells #[] 30))) := (Below.refl _ _).alloc (Nat.le_refl _) _
  clear hr hT hn hi hz0 hz1 hz2
  go_enter Try.func49, Try.ntmps49
  go_wp2
  go_loopw [3, 4] (fun v i wr => ∃ k : Nat, k ≤ T ∧ i = .int .i64 ((k : Int) + 1) ∧ Hid (wr.ownsRow w.heap.size 30 5 v k ((picksN k P).flatMap Rq.cells)) ∧ Hid (Below w.heap.size w wr)) (fun _ i _ => T + 1 - (intOf i).toNat)
  case atStart => exact ⟨0, Nat.zero_le _, rfl, S0, S1⟩
  case round =>
    clear S0 S1
    obtain ⟨k, hk, rfl, ho, hb⟩ := hrel
    obtain ⟨B, d, hv, hm⟩ := own_form ho.out
    subst hv
    go_wp2_with (fail)
    refine (l4Top A c P _ HN.out (HR.out.below hb.out)).mono ?_
    rintro e w1 ⟨rfl, hb1⟩
    rw [HT.out]
    have ho := Lib.hid (own_below ho.out hb1)
    have hb := Lib.hid (Below.and hb.out hb1)
    clear hb1 hm
    by_cases hlt : k < T
    · go_wp2_with (fail)
      refine (l4Pick A c P _ _ HN.out (HR.out.below hb.out)).mono ?_
      rintro e w2 ⟨rfl, hb2⟩
      have ho := Lib.hid (own_below ho.out hb2)
      have hb := Lib.hid (Below.and hb.out hb2)
      have HC := Lib.hid (picksN_cells k P)
      clear hb2
      generalize pckR ((k : Int) + 1) P = r at HC
      go_wp2_with (at_builtin; refine wpList_append_own _ rfl _ _ 39 rfl w.heap.size 30 i0 (.agg #[.int .i64 0, .int .i64 0, .int .i64 0, .int .i64 0, .int .i64 0]) 5 40 Try.underlying39 I1.out I2.out I3.out I4.out rfl (by decide) _ _ _ rfl (ho.out.alloc _) ⟨w2.heap.size, 0, none⟩ 1 1 [.int .i64 r.c, .int .i64 r.n, .int .i64 r.o, .int .i64 r.x, .int .i64 r.y] rfl rfl ?c1 ?c2 ?c3 ?c4 ?c5 ?_)
      case c1 =>
        intro j u hu
        have h := (Blk.new (t := 30) (cs := #[.int .i64 r.c, .int .i64 r.n, .int .i64 r.o, .int .i64 r.x, .int .i64 r.y]) w2).cell j
        rw [show Addr.add ⟨w2.heap.size, 0, none⟩ j = ⟨w2.heap.size, j, none⟩ by simp [Addr.add]; intro h; exact h.symm, h]
        simpa using hu
      case c2 => intro u hu; simp at hu; rcases hu with rfl | rfl | rfl | rfl | rfl <;> rfl
      case c3 => unfold maxLen; omega
      case c4 => omega
      case c5 => have := hb.out.size; simp; omega
      intro v' w3 ho3 hg3 _
      have hb := Lib.hid (Below.trans (hb.out.alloc hb.out.size (.cells #[.int .i64 r.c, .int .i64 r.n, .int .i64 r.o, .int .i64 r.x, .int .i64 r.y] 30)) (Below.of_grown hg3 (by have := hb.out.size; simp; omega) fun q hq => (own_block_ge ho.out q hq).1))
      have ho : Hid (w3.ownsRow w.heap.size 30 5 v' (k + 1) ((picksN (k + 1) P).flatMap Rq.cells)) := by
        have h := ho3
        show w3.ownsRow _ _ _ _ _ _
        rw [HC.out]
        exact h
      clear ho3 hg3 HC
      go_wp2
      go_roundw
      case rel => exact ⟨k + 1, by omega, by go_num, ho, hb⟩
      case measure => simp [intOf]; omega
    · obtain rfl : k = T := by omega
      go_wp2
      go_ret
      exact ⟨B, d, rfl, ho.out, hb.out⟩

set_option maxRecDepth 100000 in
set_option maxHeartbeats 4000000 in
theorem specPickAll (A : Option Addr) (c : Nat) (P : List VtP) (w : World) (hn : P.length ≤ maxLen) (hr : RdV w A P) :
    Calls Try.prog 16 #[.slice A P.length c] w fun e w' => ∃ B d, e = .returned (.slice B (picks P).length d) ∧ w'.ownsRow w.heap.size 30 5 (.slice B (picks P).length d) (picks P).length ((picks P).flatMap Rq.cells) ∧ Below w.heap.size w w' := by
  have HR := Lib.hid hr
  have HN := Lib.hid hn
  clear hr hn
  rcases hv : vtsB (-1) P with _ | _
  · have HP := Lib.hid (show picks P = [] by unfold picks; rw [hv]; rfl)
    go_enter Try.func16, Try.ntmps16
    go_wp2_with (fail)
    refine (l3VotesOk A c P _ HN.out HR.out).mono ?_
    rintro e w1 ⟨rfl, hb⟩
    rw [hv]
    go_wp2
    go_ret
    refine ⟨none, 0, by rw [HP.out]; rfl, ?_, hb⟩
    rw [HP.out]
    exact World.ownsRow_nil _ _ _ _
  · obtain ⟨h0, h5⟩ := top_ok hv
    obtain ⟨T, hT⟩ : ∃ T : Nat, topC 0 (allC P) = T := ⟨(topC 0 (allC P)).toNat, by omega⟩
    have HP := Lib.hid (show picks P = picksN T P by unfold picks; rw [hv, hT]; rfl)
    have HL := Lib.hid (show (picksN T P).length = T from picksN_len T P)
    have t5 : T ≤ 5 := by omega
    have HT := Lib.hid hT
    clear hT h0 h5
    go_enter Try.func16, Try.ntmps16
    go_wp2_with (fail)
    refine (l3VotesOk A c P _ HN.out HR.out).mono ?_
    rintro e w1 ⟨rfl, hb⟩
    rw [hv]
    have hr1 := Lib.hid (HR.out.below hb)
    have hz := hb.size
    have hb := Lib.hid hb
    go_wp2_with (fail)
    refine (l4Picks A c P _ HN.out hr1.out T HT.out t5).mono ?_
    rintro e w2 ⟨B, d, rfl, ho, hb2⟩
    have ho := Lib.hid ho
    have hb := Lib.hid (Below.and hb.out hb2)
    clear hb2
    go_wp2
    go_ret
    refine ⟨B, d, by rw [HP.out, HL.out]; rfl, ?_, hb.out⟩
    rw [HP.out, HL.out]
    exact own_base ho.out hz

set_option maxRecDepth 100000 in
set_option maxHeartbeats 4000000 in
theorem implPickAll (A : Option Addr) (c : Nat) (P : List VtP) (w : World) (hn : P.length ≤ maxLen) (hr : RdV w A P) :
    Calls Try.prog 18 #[.slice A P.length c] w fun e w' => ∃ B d, e = .returned (.slice B (picks P).length d) ∧ w'.ownsRow w.heap.size 30 5 (.slice B (picks P).length d) (picks P).length ((picks P).flatMap Rq.cells) ∧ Below w.heap.size w w' := by
  have HR := Lib.hid hr
  have HN := Lib.hid hn
  clear hr hn
  rcases hv : vtsB (-1) P with _ | _
  · have HP := Lib.hid (show picks P = [] by unfold picks; rw [hv]; rfl)
    go_enter Try.func18, Try.ntmps18
    go_wp2_with (fail)
    refine (votesValid A c P _ HN.out HR.out).mono ?_
    rintro e w1 ⟨rfl, hb⟩
    rw [hv]
    go_wp2
    go_ret
    refine ⟨none, 0, by rw [HP.out]; rfl, ?_, hb⟩
    rw [HP.out]
    exact World.ownsRow_nil _ _ _ _
  · obtain ⟨h0, h5⟩ := top_ok hv
    obtain ⟨T, hT⟩ : ∃ T : Nat, topC 0 (allC P) = T := ⟨(topC 0 (allC P)).toNat, by omega⟩
    have HP := Lib.hid (show picks P = picksN T P by unfold picks; rw [hv, hT]; rfl)
    have HL := Lib.hid (show (picksN T P).length = T from picksN_len T P)
    have t5 : T ≤ 5 := by omega
    have HT := Lib.hid hT
    clear hT h0 h5
    go_enter Try.func18, Try.ntmps18
    go_wp2_with (fail)
    refine (votesValid A c P _ HN.out HR.out).mono ?_
    rintro e w1 ⟨rfl, hb⟩
    rw [hv]
    have hr1 := Lib.hid (HR.out.below hb)
    have hz := hb.size
    have hb := Lib.hid hb
    go_wp2_with (fail)
    refine (lastSeq A c P _ HN.out hr1.out).mono ?_
    rintro e w2 ⟨rfl, hb2⟩
    rw [HT.out]
    have HR := Lib.hid (hr1.out.below hb2)
    have hz2 := hb2.size
    have hb := Lib.hid (Below.and hb.out hb2)
    clear hb2 hr1
    obtain ⟨i0, hi, hz0, hz1, hz2'⟩ := info_parts infoReq
    obtain ⟨w3, hmk, hown, hg1⟩ := run_make_full (P := Try.prog) w2 w2.heap.size 39 30 i0 _ 5 Try.underlying39 hi hz0 hz1 .i64 .i64 T (by rw [hz2']; omega) (by unfold maxLen; omega) (Nat.le_refl _)
    have B1 := Below.of_none hg1
    have hx : T * 5 = ((madeCells (Value.agg #[.int .i64 0, .int .i64 0, .int .i64 0, .int .i64 0, .int .i64 0]).cells (T * 5)).toList).length := by have := hown.1; omega
    generalize (madeCells (Value.agg #[.int .i64 0, .int .i64 0, .int .i64 0, .int .i64 0, .int .i64 0]).cells (T * 5)).toList = xs at hown hx
    have HX := Lib.hid hx
    have HO := Lib.hid hown
    have HB := Lib.hid B1
    have hb := Lib.hid (Below.and hb.out B1)
    have hs1 : w2.heap.size + 1 ≤ w3.heap.size := by have := (hown.lt w2.heap.size rfl).2; omega
    have hs0 : w.heap.size ≤ w2.heap.size := by omega
    clear hx hown hg1 B1 hi hz0 hz1 hz2' hz hz2
    go_wp2
    go_loopw [13] (fun i wr => ∃ j : Nat, j ≤ T ∧ i = .int .i64 j ∧ Hid (wr.ownsRow w2.heap.size 30 5 (.slice (some ⟨w2.heap.size, 0, none⟩) T T) T ((picksN j P).flatMap Rq.cells ++ xs.drop (j * 5))) ∧ Hid (w3.grownBy wr (some w2.heap.size))) (fun i _ => T - (intOf i).toNat)
    case atStart => exact ⟨0, Nat.zero_le _, rfl, by simpa [Hid, picksN] using HO.out, World.grownBy.refl _ _⟩
    case round =>
      obtain ⟨j, hj, rfl, ho, hg⟩ := hrel
      have BW := Lib.hid (Below.of_grown (B := w2.heap.size) hg.out (by omega) (by rintro k hk; cases hk; omega))
      by_cases hlt : j < T
      · have hrr : RdV wr A P := HR.out.below (Below.trans HB.out BW.out)
        have i0 : (0 : Int) ≤ (j : Int) := by omega
        have i1 : (j : Int) < (T : Int) := by omega
        go_wp2_with (fail)
        refine (pickAt A c P _ _ HN.out hrr).mono ?_
        rintro r w4 ⟨rfl, h2⟩
        have HC := picksN_cells j P
        generalize pckR ((j : Int) + 1) P = r at HC
        have ho2 := own_below ho.out h2
        have hf := fun p => ho2.frozenAt p
        have hlen : ((picksN j P).flatMap Rq.cells).length = j * 5 := by rw [rows_length 5 Rq.cells Rq.len, picksN_len]
        have hc : ∀ p, p < 5 → ∃ u, w4.cell? ⟨w2.heap.size, j * 5 + p, none⟩ = some u := fun p hp => ⟨_, (ho2.cellAt (j * 5 + p) (by omega)).trans (List.getElem?_eq_getElem (by have := HX.out; rw [List.length_append, hlen, List.length_drop]; omega))⟩
        obtain ⟨v0, hv0⟩ := hc 0 (by omega)
        obtain ⟨v1, hv1⟩ := hc 1 (by omega)
        obtain ⟨v2, hv2⟩ := hc 2 (by omega)
        obtain ⟨v3, hv3⟩ := hc 3 (by omega)
        obtain ⟨v4, hv4⟩ := hc 4 (by omega)
        rw [Nat.add_zero] at hv0
        obtain ⟨s1, s2⟩ := store_all (r.cells) (j * 5) hlen (by have := HX.out; rw [Rq.len]; omega) ho2
        rw [← HC, Rq.len, show j * 5 + 5 = (j + 1) * 5 from by omega] at s1
        have S1 := Lib.hid s1
        have S2 := Lib.hid (grownBy_trans hg.out (grownBy_trans (Below.grownBy h2 _) s2))
        clear s1 s2 hc h2 ho2 hlen HC
        go_wp2
        go_roundw
        case rel => exact ⟨j + 1, by omega, by go_num, S1.out, S2.out⟩
        case measure => simp [intOf]; omega
      · obtain rfl : j = T := by omega
        have HG := Lib.hid (Below.of_grown (B := w.heap.size) hg.out (by omega) (by rintro k hk; cases hk; omega))
        go_wp2
        go_ret
        refine ⟨some ⟨w2.heap.size, 0, none⟩, j, by rw [HP.out, HL.out]; rfl, ?_, Below.trans hb.out HG.out⟩
        rw [HP.out, HL.out]
        have h := ho.out
        rw [List.drop_of_length_le (by have := HX.out; omega), List.append_nil] at h
        exact own_base h hs0

end Go.Proofs.Ytlokhgnbcbnmpaa
