/- Whether keepers agree: the program's way, a map of what is done at each place. -/
import Derived.Test.YtfelhnchnaggmaaWd
import Derived.Test.YtfelhnchnaggmaaML
import Derived.Test.YtfelhnchnaggmaaMP
namespace Go.Proofs.Ytfelhnchnaggmaa
open Go.Maps Go.ChangeShapes Go.WideShapes Go.ChangeAt Go.RowKit
set_option linter.unusedVariables false
set_option linter.unusedSimpArgs false

/-- How an element of type Req reads. -/
def rqD (r : Rq) : DataW Unit := .agg [.lit (.int .i64 r.c), .lit (.int .i64 r.n), .lit (.int .i64 r.o), .lit (.int .i64 r.x), .lit (.int .i64 r.y)]
def rqElem (v : Value) : Option (DataW Unit × List MemPlace) :=
  match v with
  | .agg cs => match cs.toList with
    | [.int .i64 c, .int .i64 n, .int .i64 o, .int .i64 x, .int .i64 y] => some (rqD ⟨c, n, o, x, y⟩, [])
    | _ => none
  | _ => none
theorem rqElem_mk (r : Rq) : rqElem r.val = some (rqD r, []) := rfl
theorem rqElem_inv {v : Value} {z : DataW Unit × List MemPlace} (h : rqElem v = some z) : ∃ r : Rq, v = r.val ∧ z = (rqD r, []) := by
  unfold rqElem at h
  split at h
  · rename_i cs
    split at h
    · rename_i c n o x y hc
      cases h
      refine ⟨⟨c, n, o, x, y⟩, ?_, rfl⟩
      obtain ⟨l⟩ := cs
      simp only at hc
      rw [hc]
    · cases h
  · cases h
theorem rqD_inj {a b : Rq} (h : rqD a = rqD b) : a = b := by
  obtain ⟨a1, a2, a3, a4, a5⟩ := a
  obtain ⟨b1, b2, b3, b4, b5⟩ := b
  simp [rqD] at h
  obtain ⟨rfl, rfl, rfl, rfl, rfl⟩ := h
  rfl
abbrev OwQ (w : World) (b n : Nat) (D : DataW Unit) : Prop := w.ownsMap Try.prog 3 rqElem b n D
theorem keyS {x : Int} (h : 1 ≤ x ∧ x ≤ 5) : keyOf Try.prog 3 (.int .i64 x) = some (.int .i64 x) := by
  refine keyOf_int_mk Try.underlying3 ?_
  have : x = 1 ∨ x = 2 ∨ x = 3 ∨ x = 4 ∨ x = 5 := by omega
  rcases this with rfl | rfl | rfl | rfl | rfl <;> rfl
theorem litS {x : Int} (h : 1 ≤ x ∧ x ≤ 5) : WideAt.IsKeyLit (.int .i64 x) := lawInt.key (keyS h)
theorem zeroReq (w : World) : (zeroValue 69).run Try.prog w = .ok (.agg #[.int .i64 0, .int .i64 0, .int .i64 0, .int .i64 0, .int .i64 0]) w := by kernel_rfl

/-- What is done at one place is one thing. -/
def agreeP (L : List Cl) : Prop := ∀ c ∈ L, ∀ d ∈ L, c.s = d.s → c.r = d.r
instance (L : List Cl) : Decidable (agreeP L) := inferInstanceAs (Decidable (∀ c ∈ L, ∀ d ∈ L, c.s = d.s → c.r = d.r))
theorem agreeP.left {L M : List Cl} (h : agreeP (L ++ M)) : agreeP L := fun c hc d hd => h c (List.mem_append_left _ hc) d (List.mem_append_left _ hd)
def agD (L : List Cl) : DataW Unit := L.foldl (fun D c => D.put (.int .i64 c.s) (rqD c.r)) (.map [])
theorem agD_snoc (L : List Cl) (c : Cl) : agD (L ++ [c]) = (agD L).put (.int .i64 c.s) (rqD c.r) := by unfold agD; rw [List.foldl_append]; rfl
theorem agD_facts : ∀ L : List Cl, (∀ c ∈ L, clB c = true) → agreeP L → IsMap (agD L) ∧ (∀ s, (1 ≤ s ∧ s ≤ 5) → (Maps.has (agD L) (.int .i64 s) = true ↔ ∃ c ∈ L, c.s = s)) ∧ ∀ c ∈ L, ∀ z, (agD L).atKey (.int .i64 c.s) z = rqD c.r := by
  refine snoc_ind ?_ ?_
  · intro _ _
    exact ⟨⟨[], rfl⟩, fun s _ => by simp [agD, Maps.has], fun c hc => by cases hc⟩
  · intro L a ih hl ha
    obtain ⟨t, hm, hv⟩ := ih (fun c hc => hl c (by simp [hc])) ha.left
    have hk := litS (cl_bd (hl a (by simp))).1
    rw [agD_snoc]
    refine ⟨t.put _ _, fun s hs => ?_, fun c hc z => ?_⟩
    · by_cases hq : s = a.s
      · subst hq
        rw [has_put_same t hk]
        simp
      · have hne : (Lit.int .i64 s) ≠ Lit.int .i64 a.s := fun e => hq (by simpa using e)
        rw [has_put_other hne, hm s hs]
        constructor
        · rintro ⟨c, hc, he⟩
          exact ⟨c, by simp [hc], he⟩
        · rintro ⟨c, hc, he⟩
          rcases List.mem_append.1 hc with hc | hc
          · exact ⟨c, hc, he⟩
          · rw [List.mem_singleton.1 hc] at he
            exact absurd he.symm hq
    · by_cases hq : c.s = a.s
      · rw [hq, atKey_put_same t hk, ha c hc a (by simp) hq]
      · have hne : (Lit.int .i64 c.s) ≠ Lit.int .i64 a.s := fun e => hq (by simpa using e)
        rw [atKey_put_other hne]
        rcases List.mem_append.1 hc with hc | hc
        · exact hv c hc z
        · exact absurd (by rw [List.mem_singleton.1 hc]) hq
theorem agree_snoc_no {L : List Cl} {x : Cl} (h : agreeP L) (hn : ¬ ∃ c ∈ L, c.s = x.s) : agreeP (L ++ [x]) := by
  intro c hc d hd e
  rcases List.mem_append.1 hc with hc | hc <;> rcases List.mem_append.1 hd with hd | hd
  · exact h c hc d hd e
  · rw [List.mem_singleton.1 hd] at e; exact absurd ⟨c, hc, e⟩ hn
  · rw [List.mem_singleton.1 hc] at e; exact absurd ⟨d, hd, e.symm⟩ hn
  · rw [List.mem_singleton.1 hc, List.mem_singleton.1 hd]
theorem agree_snoc_yes {L : List Cl} {x y : Cl} (h : agreeP L) (hy : y ∈ L) (hs : y.s = x.s) (hr : y.r = x.r) : agreeP (L ++ [x]) := by
  intro c hc d hd e
  rcases List.mem_append.1 hc with hc | hc <;> rcases List.mem_append.1 hd with hd | hd
  · exact h c hc d hd e
  · rw [List.mem_singleton.1 hd] at e ⊢; rw [← hr]; exact h c hc y hy (e.trans hs.symm)
  · rw [List.mem_singleton.1 hc] at e ⊢; rw [← hr]; exact h y hy d hd (hs.trans e)
  · rw [List.mem_singleton.1 hc, List.mem_singleton.1 hd]
theorem not_agree {L M : List Cl} {x y : Cl} (hy : y ∈ L) (hs : y.s = x.s) (hr : y.r ≠ x.r) (hx : x ∈ M) : ¬ agreeP (L ++ M) := fun h => hr (h y (List.mem_append_left _ hy) x (List.mem_append_right _ hx) hs)

section
variable {P : Program} (w : World) {ops : Array Oper} {rest : List Oper} {o : Oper} {a : Act} {Q : Exit → Act → World → Prop}
theorem wpList_lookup_rq (hg : o.guard = none) (m x : Operand) (t : TypeId) (hop : o.op = Op.lookup t m x true)
    (k e : TypeId) (K : Keyed P k) (ht : P.underlying t = some (.map k e)) (hz : (zeroValue e).run P w = .ok (.agg #[.int .i64 0, .int .i64 0, .int .i64 0, .int .i64 0, .int .i64 0]) w) (b n : Nat) (D : DataW Unit)
    (hm : a.eval m = .map (some b)) (hown : w.ownsMap P k rqElem b n D) (key : Value) (kl : Lit) (hx : a.eval x = key) (hkey : keyOf P k key = some kl)
    (r : Rq) (hat : D.atKey kl (rqD ⟨0, 0, 0, 0, 0⟩) = rqD r) (q : Bool) (hh : Maps.has D kl = q)
    (hK : wpList P ops Q rest (a.put o.dst (.tuple #[.agg #[.int .i64 r.c, .int .i64 r.n, .int .i64 r.o, .int .i64 r.x, .int .i64 r.y], .bool q])) w) :
    wpList P ops Q (o :: rest) a w :=
  wpList_lookup_own_ok w hg m x t hop k e K ht rqElem hz (rqD ⟨0, 0, 0, 0, 0⟩) [] (rqElem_mk ⟨0, 0, 0, 0, 0⟩) b n D hm hown key kl hx hkey (fun v ps hv => by
    obtain ⟨r', rfl, hz'⟩ := rqElem_inv hv
    have h1 : D.atKey kl (rqD ⟨0, 0, 0, 0, 0⟩) = rqD r' := congrArg Prod.fst hz'
    obtain rfl : r' = r := rqD_inj (h1.symm.trans hat)
    rw [hh]
    exact hK)
end

set_option maxRecDepth 100000 in
set_option maxHeartbeats 4000000 in
theorem agreesWith (b n : Nat) (L : List Cl) (A : Option Addr) (a : Nat) (dn : List Cl) (W0 w : World) (hown : OwQ w b n (agD L)) (hn : n + dn.length < maxLen) (hL : ∀ c ∈ L ++ dn, clB c = true) (hc : agreeP L) (hr : RdC W0 A dn) (hb0 : Below W0.heap.size W0 w) (hbb : W0.heap.size ≤ b) :
    Calls Try.prog 30 #[.map (some b), .slice A dn.length a] w fun e w' => e = .returned (.bool (decide (agreeP (L ++ dn)))) ∧ (agreeP (L ++ dn) → OwQ w' b (n + dn.length) (agD (L ++ dn))) ∧ w.grownBy w' (some b) := by
  unfold maxLen at hn
  have HR := Lib.hid hr
  have HB0 := Lib.hid hb0
  have HL := Lib.hid hL
  have O0 : Hid (OwQ w b (n + 0) (agD (L ++ dn.take 0))) := by show OwQ _ _ _ _; simpa using hown
  have A0 : Hid (agreeP (L ++ dn.take 0)) := by show agreeP _; simpa using hc
  clear hr hb0 hL hown hc
  go_enter Try.func30, Try.ntmps30
  go_wp2
  go_loopw [11] (fun i wr => ∃ k : Nat, k ≤ dn.length ∧ i = .int .i64 (k : Int) ∧ Hid (agreeP (L ++ dn.take k)) ∧ Hid (OwQ wr b (n + k) (agD (L ++ dn.take k))) ∧ Hid (w.grownBy wr (some b))) (fun i _ => dn.length - (intOf i).toNat)
  case atStart => exact ⟨0, Nat.zero_le _, rfl, A0, O0, World.grownBy.refl _ _⟩
  case round =>
    clear O0 A0
    obtain ⟨k, hk, rfl, ha, ho, hg⟩ := hrel
    have HBW := Lib.hid (Below.trans HB0.out (Below.of_grown hg.out HB0.out.size (fun q hq => by cases hq; exact hbb)))
    by_cases hlt : k < dn.length
    · obtain ⟨g, o, rfl, ca⟩ := Rd.below HR.out HBW.out k hlt
      have hxm : dn[k] ∈ dn := List.getElem_mem hlt
      have hx5 := (cl_bd (HL.out dn[k] (List.mem_append_right _ hxm))).1
      have HTK := Lib.hid (List.take_succ_eq_append_getElem hlt)
      have HXM := Lib.hid hxm
      have HF := Lib.hid (agD_facts (L ++ dn.take k) (fun c hc => by
        rcases List.mem_append.1 hc with hc | hc
        · exact HL.out c (List.mem_append_left _ hc)
        · exact HL.out c (List.mem_append_right _ (List.mem_of_mem_take hc))) ha.out)
      have HSUB := Lib.hid (fun h : agreeP (L ++ dn) => (show agreeP (L ++ dn.take k ++ dn.drop k) by rw [List.append_assoc, List.take_append_drop]; exact h))
      have HDR := Lib.hid (show dn[k] ∈ dn.drop k by
        have h1 : dn[k] ∈ dn[k] :: dn.drop (k + 1) := List.Mem.head _
        rwa [← List.drop_eq_getElem_cons hlt] at h1)
      generalize dn[k] = x at ca hx5 HTK HXM HDR
      clear hxm
      have a0 : wr.cell? ⟨g, o + k * 7, none⟩ = some (.int .i64 x.s) := ca 0 _ rfl
      have a1 : wr.cell? ⟨g, o + k * 7 + 1, none⟩ = some (.int .i64 x.v) := ca 1 _ rfl
      have a2 : wr.cell? ⟨g, o + k * 7 + 2, none⟩ = some (.int .i64 x.r.c) := ca 2 _ rfl
      have a3 : wr.cell? ⟨g, o + k * 7 + 3, none⟩ = some (.int .i64 x.r.n) := ca 3 _ rfl
      have a4 : wr.cell? ⟨g, o + k * 7 + 4, none⟩ = some (.int .i64 x.r.o) := ca 4 _ rfl
      have a5 : wr.cell? ⟨g, o + k * 7 + 5, none⟩ = some (.int .i64 x.r.x) := ca 5 _ rfl
      have a6 : wr.cell? ⟨g, o + k * 7 + 6, none⟩ = some (.int .i64 x.r.y) := ca 6 _ rfl
      clear ca
      have HKEY := Lib.hid (keyS hx5)
      have GR := Lib.hid (grownBy_trans hg.out (World.grownBy_alloc wr (.cells #[.int .i64 x.s, .int .i64 x.v, .int .i64 x.r.c, .int .i64 x.r.n, .int .i64 x.r.o, .int .i64 x.r.x, .int .i64 x.r.y] 77) (some b)))
      have OD : Hid (OwQ (wr.alloc (.cells #[.int .i64 x.s, .int .i64 x.v, .int .i64 x.r.c, .int .i64 x.r.n, .int .i64 x.r.o, .int .i64 x.r.x, .int .i64 x.r.y] 77)) b (n + k) (agD (L ++ dn.take k))) := ho.out.alloc _
      have HX5 := Lib.hid hx5
      clear hx5
      have i0 : (0 : Int) ≤ (k : Int) := by omega
      have i1 : (k : Int) < (dn.length : Int) := by omega
      rcases hh : Maps.has (agD (L ++ dn.take k)) (.int .i64 x.s) with _ | _
      · have HNO := Lib.hid (show ¬ ∃ c ∈ L ++ dn.take k, c.s = x.s from fun h => by have := (HF.out.2.1 x.s HX5.out).2 h; rw [hh] at this; cases this)
        have HAT : Hid ((agD (L ++ dn.take k)).atKey (.int .i64 x.s) (rqD ⟨0, 0, 0, 0, 0⟩) = rqD ⟨0, 0, 0, 0, 0⟩) := atKey_of_not_has hh _
        have HA := Lib.hid (agree_snoc_no ha.out HNO.out)
        have HS := Lib.hid (show agD (L ++ dn.take (k + 1)) = (agD (L ++ dn.take k)).put (.int .i64 x.s) (rqD x.r) by rw [HTK.out, ← List.append_assoc, agD_snoc])
        have HA2 := Lib.hid (show agreeP (L ++ dn.take (k + 1)) by rw [HTK.out, ← List.append_assoc]; exact HA.out)
        have OD2 : Hid (OwQ ((wr.alloc (.cells #[.int .i64 x.s, .int .i64 x.v, .int .i64 x.r.c, .int .i64 x.r.n, .int .i64 x.r.o, .int .i64 x.r.x, .int .i64 x.r.y] 77)).alloc (.cells #[.int .i64 0, .int .i64 0, .int .i64 0, .int .i64 0, .int .i64 0] 69)) b (n + k) (agD (L ++ dn.take k))) := OD.out.alloc _
        have GR2 := Lib.hid (grownBy_trans GR.out (World.grownBy_alloc (wr.alloc (.cells #[.int .i64 x.s, .int .i64 x.v, .int .i64 x.r.c, .int .i64 x.r.n, .int .i64 x.r.o, .int .i64 x.r.x, .int .i64 x.r.y] 77)) (.cells #[.int .i64 0, .int .i64 0, .int .i64 0, .int .i64 0, .int .i64 0] 69) (some b)))
        go_wp2_with (first | (at_lookup; refine wpList_lookup_rq _ rfl _ _ 54 rfl 3 69 lawInt Try.underlying54 (zeroReq _) b _ _ rfl OD.out _ _ rfl HKEY.out _ HAT.out _ hh ?_) | (at_mapUpdate; refine wpList_mapUpdate_own _ rfl _ _ _ 54 rfl 3 69 lawInt Try.underlying54 rqElem b _ _ rfl OD2.out (by unfold maxLen; omega) _ _ _ rfl rfl HKEY.out _ [] (rqElem_mk x.r) ?_; intro w5 hown5 hgrow5))
        have ON : Hid (OwQ w5 b (n + (k + 1)) (agD (L ++ dn.take (k + 1)))) := by
          show OwQ _ _ _ _
          rw [HS.out]
          exact hown5
        have GN := Lib.hid (grownBy_trans GR2.out hgrow5)
        clear hown5 hgrow5
        go_wp2
        go_roundw
        case rel => exact ⟨k + 1, by omega, by go_num, HA2, ON, GN⟩
        case measure => simp [intOf]; omega
      · obtain ⟨y, hy, hys⟩ := (HF.out.2.1 x.s HX5.out).1 hh
        have HAT : Hid ((agD (L ++ dn.take k)).atKey (.int .i64 x.s) (rqD ⟨0, 0, 0, 0, 0⟩) = rqD y.r) := by
          have := HF.out.2.2 y hy (rqD ⟨0, 0, 0, 0, 0⟩)
          rwa [hys] at this
        have HY := Lib.hid hy
        have HYS := Lib.hid hys
        clear hy hys
        have hq : ∀ W, (binOp .neq 69 (.agg #[.int .i64 y.r.c, .int .i64 y.r.n, .int .i64 y.r.o, .int .i64 y.r.x, .int .i64 y.r.y]) (.agg #[.int .i64 x.r.c, .int .i64 x.r.n, .int .i64 x.r.o, .int .i64 x.r.x, .int .i64 x.r.y])).run Try.prog W = .ok (.bool (!decide (y.r = x.r))) W := fun W => neqReq y.r x.r W
        have OD2 : Hid (OwQ ((wr.alloc (.cells #[.int .i64 x.s, .int .i64 x.v, .int .i64 x.r.c, .int .i64 x.r.n, .int .i64 x.r.o, .int .i64 x.r.x, .int .i64 x.r.y] 77)).alloc (.cells #[.int .i64 y.r.c, .int .i64 y.r.n, .int .i64 y.r.o, .int .i64 y.r.x, .int .i64 y.r.y] 69)) b (n + k) (agD (L ++ dn.take k))) := OD.out.alloc _
        have GR2 := Lib.hid (grownBy_trans GR.out (World.grownBy_alloc (wr.alloc (.cells #[.int .i64 x.s, .int .i64 x.v, .int .i64 x.r.c, .int .i64 x.r.n, .int .i64 x.r.o, .int .i64 x.r.x, .int .i64 x.r.y] 77)) (.cells #[.int .i64 y.r.c, .int .i64 y.r.n, .int .i64 y.r.o, .int .i64 y.r.x, .int .i64 y.r.y] 69) (some b)))
        rcases he : decide (y.r = x.r) with _ | _
        · have hne : ¬ y.r = x.r := of_decide_eq_false he
          have HN := Lib.hid (show ¬ agreeP (L ++ dn) from fun h => not_agree HY.out HYS.out hne HDR.out (HSUB.out h))
          clear hne
          go_wp2_with (at_lookup; refine wpList_lookup_rq _ rfl _ _ 54 rfl 3 69 lawInt Try.underlying54 (zeroReq _) b _ _ rfl OD.out _ _ rfl HKEY.out _ HAT.out _ hh ?_)
          go_light
          go_ret
          exact ⟨ret_bool (decide_eq_false HN.out).symm, fun h => absurd h HN.out, GR2.out⟩
        · have heq : y.r = x.r := of_decide_eq_true he
          have HA := Lib.hid (agree_snoc_yes ha.out HY.out HYS.out heq)
          have HS := Lib.hid (show agD (L ++ dn.take (k + 1)) = (agD (L ++ dn.take k)).put (.int .i64 x.s) (rqD x.r) by rw [HTK.out, ← List.append_assoc, agD_snoc])
          have HA2 := Lib.hid (show agreeP (L ++ dn.take (k + 1)) by rw [HTK.out, ← List.append_assoc]; exact HA.out)
          clear heq
          go_wp2_with (first | (at_lookup; refine wpList_lookup_rq _ rfl _ _ 54 rfl 3 69 lawInt Try.underlying54 (zeroReq _) b _ _ rfl OD.out _ _ rfl HKEY.out _ HAT.out _ hh ?_) | (at_mapUpdate; refine wpList_mapUpdate_own _ rfl _ _ _ 54 rfl 3 69 lawInt Try.underlying54 rqElem b _ _ rfl OD2.out (by unfold maxLen; omega) _ _ _ rfl rfl HKEY.out _ [] (rqElem_mk x.r) ?_; intro w5 hown5 hgrow5))
          have ON : Hid (OwQ w5 b (n + (k + 1)) (agD (L ++ dn.take (k + 1)))) := by
            show OwQ _ _ _ _
            rw [HS.out]
            exact hown5
          have GN := Lib.hid (grownBy_trans GR2.out hgrow5)
          clear hown5 hgrow5
          go_wp2
          go_roundw
          case rel => exact ⟨k + 1, by omega, by go_num, HA2, ON, GN⟩
          case measure => simp [intOf]; omega
    · obtain rfl : k = dn.length := by omega
      have ha := ha.out
      have ho := ho.out
      rw [List.take_length] at ha ho
      have HA := Lib.hid ha
      have HO := Lib.hid ho
      clear ha ho
      go_wp2
      go_light
      go_ret
      exact ⟨ret_bool (decide_eq_true HA.out).symm, fun _ => HO.out, hg.out⟩

end Go.Proofs.Ytfelhnchnaggmaa
