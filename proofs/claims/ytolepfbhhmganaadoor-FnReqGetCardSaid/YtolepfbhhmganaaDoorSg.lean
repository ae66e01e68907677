/- Numbers read: strconv.Atoi by its contract, and the program's own readNumbers. -/
import Derived.Test.YtolepfbhhmganaaDoorSf
import Derived.Test.YtolepfbhhmganaaDoorShelf2
import Derived.Lib.SmallJoins
import Derived.Laws.AppendOwn
import Derived.Maps.AppendAt
namespace Go.Proofs.YtolepfbhhmganaaDoor
open Go.ChangeShapes Go.WideShapes Go.ChangeAt Go.RowKit
set_option linter.unusedVariables false
set_option linter.unusedSimpArgs false

/-- What the library's variables hold. -/
structure Env (w : World) : Prop where
  tab : Tab w
  syn : ∃ tp p, w.var? Tryd.prog "strconv.ErrSyntax" = some #[.iface tp p]
  rng : ∃ tp p, w.var? Tryd.prog "strconv.ErrRange" = some #[.iface tp p]
  max : ∃ m, w.cell? ⟨1, 0, none⟩ = some (.int .i64 m)
theorem gSyn0 : (Tryd.prog.globalNamed "strconv.ErrSyntax").isSome = true := by kernel_rfl
theorem gRng0 : (Tryd.prog.globalNamed "strconv.ErrRange").isSome = true := by kernel_rfl
theorem Env.below {w w' : World} (h : Env w) (hb : Below w.heap.size w w') : Env w' := by
  obtain ⟨g1, h1⟩ := Option.isSome_iff_exists.1 gSyn0
  obtain ⟨g2, h2⟩ := Option.isSome_iff_exists.1 gRng0
  obtain ⟨tp, p, hs⟩ := h.syn
  obtain ⟨tp', p', hr⟩ := h.rng
  obtain ⟨m, hm⟩ := h.max
  exact ⟨h.tab.below hb, ⟨tp, p, Joins.var_stays h1 hs hb (Nat.le_refl _)⟩, ⟨tp', p', Joins.var_stays h2 hr hb (Nat.le_refl _)⟩, ⟨m, cell_kept hb hm⟩⟩
theorem atoiOk (s : ByteArray) (v : Int) (w : World) (hs : s.size ≤ 1048577) (h : Lib.atoiAll s.data.toList = .ok v) :
    Calls Tryd.prog 44 #[.string s] w fun e w' => e = .returned (.tuple #[.int .i64 v, .nilIface]) ∧ Below w.heap.size w w' :=
  (Tryd.strconv_Atoi_ok s (by omega) v h w).mono fun e w' ⟨he, hw⟩ => ⟨he, by
    rcases hw with rfl | ⟨t, rfl⟩
    · exact Below.refl _ _
    · exact Joins.below_bytesWorld _ _ _ _ (Nat.le_refl _)⟩
/-- An error that is not nil. -/
def BadN (w : World) (e : Ending) (w' : World) : Prop := ∃ (v : Int) (t : TypeId) (N : Nat), e = .returned (.tuple #[.int .i64 v, .iface t (.pointer (some ⟨N, 0, none⟩))]) ∧ Below w.heap.size w w'
theorem atoiNo (s : ByteArray) (w : World) (E : Env w) (hs : s.size ≤ 1048577) (h : ∀ v, Lib.atoiAll s.data.toList ≠ .ok v) :
    Calls Tryd.prog 44 #[.string s] w (BadN w) := by
  rcases hq : Lib.atoiAll s.data.toList with v | _ | _
  · exact absurd hq (h v)
  · obtain ⟨tp, p, hv⟩ := E.syn
    exact (Tryd.strconv_Atoi_syntax_var s (by omega) hq tp p w hv).mono fun e w' ⟨N, he, _, _, hb⟩ => ⟨_, _, N, he, hb⟩
  · obtain ⟨tp, p, hv⟩ := E.rng
    exact (Tryd.strconv_Atoi_range_var s (by omega) hq tp p w hv).mono fun e w' ⟨N, he, _, _, hb⟩ => ⟨_, _, N, he, hb⟩

/-- The numbers that texts spell. -/
def Nums (ss : List ByteArray) (L : List Int) : Prop := L.length = ss.length ∧ ∀ i (h : i < ss.length) (h' : i < L.length), Lib.atoiAll (ss[i]'h).data.toList = .ok (L[i]'h')
def NoNums (ss : List ByteArray) : Prop := ∃ i, ∃ h : i < ss.length, ∀ v, Lib.atoiAll (ss[i]'h).data.toList ≠ .ok v
theorem Nums.snoc {ss : List ByteArray} {L : List Int} {k : Nat} {v : Int} (hk : k < ss.length) (h : Nums (ss.take k) L) (hv : Lib.atoiAll ss[k].data.toList = .ok v) : Nums (ss.take (k + 1)) (L ++ [v]) := by
  obtain ⟨h1, h2⟩ := h
  have hl : L.length = k := by rw [h1, List.length_take]; omega
  refine ⟨by simp [hl]; omega, fun i hi hi' => ?_⟩
  rw [List.getElem_take]
  by_cases hik : i < k
  · have := h2 i (by rw [List.length_take]; omega) (by omega)
    rw [List.getElem_take] at this
    rw [List.getElem_append_left (by omega)]
    exact this
  · obtain rfl : i = k := by rw [List.length_take] at hi; omega
    rw [List.getElem_append_right (by omega)]
    simpa [hl] using hv
def ReadN (ss : List ByteArray) (w : World) (e : Ending) (w' : World) : Prop := Below w.heap.size w w' ∧
  ((∃ (L : List Int) (B : Option Addr) (d : Nat), Nums ss L ∧ e = .returned (.tuple #[.slice B L.length d, .bool true]) ∧ w'.ownsRow w.heap.size 3 1 (.slice B L.length d) L.length (ints L)) ∨
   (NoNums ss ∧ e = .returned (.tuple #[.slice none 0 0, .bool false])))
theorem infoInt' : (Tryd.prog.info? 3).map (fun i => (i.zero, i.size, i.bytes)) = some (some (.int .i64 0), 1, 8) := by kernel_rfl
/-- The slice at g reads as these texts. -/
def RdS (w : World) (g : Nat) (ss : List ByteArray) : Prop := ∀ i (h : i < ss.length), w.cell? ⟨g, i, none⟩ = some (.string (ss[i]'h))
theorem RdS.below {w w' : World} {g : Nat} {ss : List ByteArray} (h : RdS w g ss) (hb : Below w.heap.size w w') : RdS w' g ss := fun i hi => cell_kept hb (h i hi)

set_option maxRecDepth 100000 in
set_option maxHeartbeats 4000000 in
theorem readNumbers (g c : Nat) (ss : List ByteArray) (w : World) (hn : ss.length ≤ 1048577) (hr : RdS w g ss) (hs : ∀ x ∈ ss, x.size ≤ 1048577) (E : Env w) :
    Calls Tryd.prog 28 #[.slice (some ⟨g, 0, none⟩) ss.length c] w (ReadN ss w) := by
  obtain ⟨ii, hi, hz0, hz1, hz2⟩ := info_parts infoInt'
  have I1 := Lib.hid hi
  have I2 := Lib.hid hz0
  have I3 := Lib.hid hz1
  have I4 := Lib.hid hz2
  obtain ⟨w1, hmk, hown, hg1⟩ := run_make_own (P := Tryd.prog) w w.heap.size 51 3 ii (.int .i64 0) 1 Tryd.underlying51 hi hz0 hz1 .i64 .i64 ss.length (by rw [hz2]; omega) (by unfold maxLen; omega) (Nat.le_refl _)
  have HB := Lib.hid (Below.of_grown hg1 (Nat.le_refl _) (by rintro k hk; cases hk))
  have HO1 := Lib.hid hown
  have R0 := Lib.hid hr
  have E0 := Lib.hid E
  have HS := Lib.hid hs
  clear hi hz0 hz1 hz2 hg1 hown hr E hs
  go_enter Tryd.func28, Tryd.ntmps28
  go_wp2
  go_loopw [4, 14] (fun vv i wr => ∃ (k : Nat) (L : List Int), k ≤ ss.length ∧ i = .int .i64 k ∧ L.length = k ∧ Hid (Nums (ss.take k) L) ∧ Hid (wr.ownsRow w.heap.size 3 1 vv L.length (ints L)) ∧ Hid (Below w.heap.size w wr)) (fun _ i _ => ss.length - (intOf i).toNat)
  case atStart => exact ⟨0, [], Nat.zero_le _, rfl, rfl, ⟨rfl, (fun i h => absurd h (by simp))⟩, HO1.out, HB.out⟩
  case round =>
    clear HB HO1 hmk
    obtain ⟨k, L, hk, rfl, hLk, hG, OO, hb⟩ := hrel
    have RR := Lib.hid (R0.out.below hb.out)
    have EE := Lib.hid (E0.out.below hb.out)
    obtain ⟨B, d, hv, hm⟩ := own_form OO.out
    subst hv
    by_cases hlt : k < ss.length
    · have hc := RR.out k hlt
      have hsz := HS.out _ (List.getElem_mem hlt)
      have HY := Lib.hid (fun v (h : Lib.atoiAll ss[k].data.toList = .ok v) => Nums.snoc hlt hG.out h)
      have HN := Lib.hid (fun (h : ∀ v, Lib.atoiAll ss[k].data.toList ≠ .ok v) => (⟨k, hlt, h⟩ : NoNums ss))
      generalize ss[k] = x at hc hsz HY HN
      have i0 : (0 : Int) ≤ (k : Int) := by omega
      have i1 : (k : Int) < (ss.length : Int) := by omega
      have HLK := Lib.hid hLk
      clear hLk
      by_cases hq : ∃ v, Lib.atoiAll x.data.toList = .ok v
      · obtain ⟨v, hq⟩ := hq
        have HV := Lib.hid hq
        have HG := Lib.hid (HY.out v hq)
        clear hq
        have hLb : L.length ≤ 1048577 := by have := HLK.out; omega
        go_wp2_with (fail)
        refine (atoiOk x v _ hsz HV.out).mono ?_
        rintro e w2 ⟨rfl, hb2⟩
        have BN := Lib.hid (Below.trans hb.out (hb2.mono hb.out.size))
        have OO := Lib.hid (own_below OO.out hb2)
        have HBS := Lib.hid BN.out.size
        clear hb2 hc
        go_wp2_with (at_builtin; refine wpList_append_own _ rfl _ _ 51 rfl w.heap.size 3 ii (.int .i64 0) 1 8 Tryd.underlying51 I1.out I2.out I3.out I4.out rfl (by decide) _ _ _ rfl (OO.out.alloc _) ⟨w2.heap.size, 0, none⟩ 1 1 [.int .i64 v] rfl rfl ?c1 ?c2 ?c3 ?c4 ?c5 ?_)
        case c1 =>
          intro j u hu
          have h := (Bkk.new (t := 3) (cs := #[.int .i64 v]) w2).cell j
          rw [show Addr.add ⟨w2.heap.size, 0, none⟩ j = ⟨w2.heap.size, j, none⟩ by simp [Addr.add]; intro h; exact h.symm, h]
          simpa using hu
        case c2 => intro u hu; simp at hu; rcases hu with rfl; rfl
        case c3 => unfold maxLen; omega
        case c4 => omega
        case c5 => have := HBS.out; simp; omega
        intro v' w3 ho3 hg3 _
        have BN2 := Lib.hid (Below.trans (BN.out.alloc BN.out.size (.cells #[.int .i64 v] 3)) (Below.of_grown hg3 (by have := HBS.out; simp; omega) fun q hq => (own_block_ge OO.out q hq).1))
        have HO : Hid (w3.ownsRow w.heap.size 3 1 v' (L ++ [v]).length (ints (L ++ [v]))) := by
          have h := ho3
          show w3.ownsRow _ _ _ _ _ _
          rw [List.length_append, List.length_singleton]
          simpa [ints] using h
        have HL2 : Hid ((L ++ [v]).length = k + 1) := by show (L ++ [v]).length = k + 1; rw [List.length_append, HLK.out]; rfl
        clear ho3 hg3
        go_wp2
        go_roundw
        case rel => exact ⟨k + 1, L ++ [v], by omega, by go_num, HL2.out, HG, HO, BN2⟩
        case measure => simp [intOf]; omega
      · have HX := Lib.hid (HN.out (fun v h => hq ⟨v, h⟩))
        have HQ := Lib.hid (fun v h => hq ⟨v, h⟩ : ∀ v, Lib.atoiAll x.data.toList ≠ .ok v)
        clear hq
        go_wp2_with (fail)
        refine (atoiNo x _ EE.out hsz HQ.out).mono ?_
        rintro e w2 ⟨v, t, N, rfl, hb2⟩
        have BN := Lib.hid (Below.trans hb.out (hb2.mono hb.out.size))
        clear hb2 hc
        go_wp2
        go_ret2
        exact ⟨BN.out, .inr ⟨HX.out, rfl⟩⟩
    · have HF : Hid (Nums ss L) := by
        have h := hG.out
        rw [List.take_of_length_le (by omega)] at h
        exact h
      go_wp2
      go_ret2
      exact ⟨hb.out, .inl ⟨L, B, d, HF.out, rfl, OO.out⟩⟩

end Go.Proofs.YtolepfbhhmganaaDoor
