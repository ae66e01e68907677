/- What is done at the first places: both ways. -/
import Derived.Test.YtjpbflehedbijaaRd
import Derived.Test.YtjpbflehedbijaaJd
namespace Go.Proofs.Ytjpbflehedbijaa
open Go.ChangeShapes Go.WideShapes Go.ChangeAt Go.RowKit
set_option linter.unusedVariables false
set_option linter.unusedSimpArgs false

theorem Blk.gr {w w' : World} {g : Nat} {t : TypeId} {cs : Array Value} {row : Option Nat} (h : Blk w g t cs) (hg : w.grownBy w' row) (hr : row ≠ some g) : Blk w' g t cs := (hg.block g h.lt (fun e => hr e.symm)).trans h
/-- The first claims whose places go on from i, one by one: their requests. -/
def goodN : Int → List Cl → List Rq
  | _, [] => []
  | i, c :: l => if c.s = i + 1 then c.r :: goodN (i + 1) l else []
def listR (r : RpP) : List Rq := if repB r = true then goodN 0 r.dn else []
theorem goodN_len (l : List Cl) : ∀ i, (goodN i l).length ≤ l.length := by
  induction l with
  | nil => intro i; simp [goodN]
  | cons c l ih =>
    intro i
    rw [goodN]
    split
    · have := ih (i + 1)
      simp only [List.length_cons]
      omega
    · simp
theorem cls_len (l : List Cl) : ∀ p : Int, p ≤ 5 → clsB p l = true → (l.length : Int) ≤ 5 - p := by
  induction l with
  | nil => intro p h _; simp; omega
  | cons c l ih =>
    intro p h hc
    simp only [clsB, Bool.and_eq_true, decide_eq_true_eq] at hc
    have h1 := (cl_bd hc.2.1).1
    have := ih c.s (by omega) hc.2.2
    simp only [List.length_cons]
    omega
theorem rep_len {r : RpP} (h : repB r = true) : r.dn.length ≤ 5 := by
  rw [repB_eq] at h
  simp only [Bool.and_eq_true] at h
  have := cls_len r.dn 0 (by omega) h.2.2.2.2.2
  omega
theorem goodN_yes {l : List Cl} {k : Nat} (h : k < l.length) (hs : l[k].s = (k : Int) + 1) : goodN (k : Int) (l.drop k) = l[k].r :: goodN ((k : Int) + 1) (l.drop (k + 1)) := by
  rw [List.drop_eq_getElem_cons h, goodN, if_pos hs]
theorem goodN_no {l : List Cl} {k : Nat} (h : k < l.length) (hs : ¬ l[k].s = (k : Int) + 1) : goodN (k : Int) (l.drop k) = [] := by
  rw [List.drop_eq_getElem_cons h, goodN, if_neg hs]
theorem goodN_end {l : List Cl} {k : Nat} (h : l.length ≤ k) : goodN (k : Int) (l.drop k) = [] := by
  rw [List.drop_of_length_le h]; rfl

set_option maxRecDepth 100000 in
set_option maxHeartbeats 8000000 in
theorem l5List (r : RpP) (w : World) (hr : r.rd w) (hl : r.dn.length ≤ 1048576) :
    Calls Try.prog 64 #[r.val] w fun e w' => ∃ B d, e = .returned (.slice B (goodN 0 r.dn).length d) ∧ w'.ownsRow w.heap.size 24 5 (.slice B (goodN 0 r.dn).length d) (goodN 0 r.dn).length ((goodN 0 r.dn).flatMap Rq.cells) ∧ Below w.heap.size w w' := by
  obtain ⟨me, v, lv, nx, TA, ta, tk, HA, ha, hd, DA, da, dn⟩ := r
  change Calls Try.prog 64 #[.agg #[.int .i64 me, .int .i64 v, .bool lv, .int .i64 nx, .slice TA tk.length ta, .slice HA hd.length ha, .slice DA dn.length da]] w fun e w' => ∃ B d, e = .returned (.slice B (goodN 0 dn).length d) ∧ w'.ownsRow w.heap.size 24 5 (.slice B (goodN 0 dn).length d) (goodN 0 dn).length ((goodN 0 dn).flatMap Rq.cells) ∧ Below w.heap.size w w'
  replace hl : dn.length ≤ 1048576 := hl
  have RN : Hid (RdC w DA dn) := hr.rdn
  clear hr
  obtain ⟨ii, hi, hz0, hz1, hz2⟩ := info_parts infoReq
  have I1 := Lib.hid hi
  have I2 := Lib.hid hz0
  have I3 := Lib.hid hz1
  have I4 := Lib.hid hz2
  clear hi hz0 hz1 hz2
  have Z0 : Hid (Below w.heap.size w (w.alloc (.cells #[.int .i64 me, .int .i64 v, .bool lv, .int .i64 nx, .slice TA tk.length ta, .slice HA hd.length ha, .slice DA dn.length da] 37))) := (Below.refl _ _).alloc (Nat.le_refl _) _
  have K0 : Hid (Blk ((w.alloc (.cells #[.int .i64 me, .int .i64 v, .bool lv, .int .i64 nx, .slice TA tk.length ta, .slice HA hd.length ha, .slice DA dn.length da] 37)).alloc (.cells #[] 24)) w.heap.size 37 #[.int .i64 me, .int .i64 v, .bool lv, .int .i64 nx, .slice TA tk.length ta, .slice HA hd.length ha, .slice DA dn.length da]) := (Blk.new w).alloc _
  have S0 : Hid (((w.alloc (.cells #[.int .i64 me, .int .i64 v, .bool lv, .int .i64 nx, .slice TA tk.length ta, .slice HA hd.length ha, .slice DA dn.length da] 37)).alloc (.cells #[] 24)).ownsRow (w.heap.size + 1) 24 5 (.slice (some ⟨w.heap.size + 1, 0, none⟩) 0 0) 0 []) := by
    have h := World.ownsRow_lit (size := 5) (w.alloc (.cells #[.int .i64 me, .int .i64 v, .bool lv, .int .i64 nx, .slice TA tk.length ta, .slice HA hd.length ha, .slice DA dn.length da] 37)) (e := 24) #[] 0 (Nat.le_refl _) (by unfold maxLen; omega) rfl
    simpa [Hid] using h
  have S1 : Hid (Below w.heap.size w ((w.alloc (.cells #[.int .i64 me, .int .i64 v, .bool lv, .int .i64 nx, .slice TA tk.length ta, .slice HA hd.length ha, .slice DA dn.length da] 37)).alloc (.cells #[] 24))) := Z0.out.alloc (by simp) _
  go_enter Try.func64, Try.ntmps64
  go_wp2
  go_loopw [3, 4] (fun vv i wr => ∃ (k : Nat) (L : List Rq), k ≤ dn.length ∧ i = .int .i64 k ∧ L.length = k ∧ Hid (goodN 0 dn = L ++ goodN k (dn.drop k)) ∧ Hid (wr.ownsRow (w.heap.size + 1) 24 5 vv L.length (L.flatMap Rq.cells)) ∧ Hid (Blk wr w.heap.size 37 #[.int .i64 me, .int .i64 v, .bool lv, .int .i64 nx, .slice TA tk.length ta, .slice HA hd.length ha, .slice DA dn.length da]) ∧ Hid (Below w.heap.size w wr)) (fun _ i _ => dn.length - (intOf i).toNat)
  case atStart => exact ⟨0, [], Nat.zero_le _, rfl, rfl, by simp [Hid], S0, K0, S1⟩
  case round =>
    clear S0 S1 K0 Z0
    obtain ⟨k, L, hk, rfl, hLk, hG, OO, K0, hb⟩ := hrel
    obtain ⟨B, d, hv, hm⟩ := own_form OO.out
    subst hv
    have lk := K0.out.lt
    have x6 : wr.cell? ⟨w.heap.size, 6, none⟩ = some (.slice DA dn.length da) := K0.out.cell 6
    by_cases hlt : k < dn.length
    · obtain ⟨g, o, rfl, ca⟩ := Rd.below RN.out hb.out k hlt
      have HY := Lib.hid (fun h => goodN_yes hlt h)
      have HN := Lib.hid (fun h => goodN_no hlt h)
      generalize dn[k] = x at ca HY HN
      have a0 : wr.cell? ⟨g, o + k * 7, none⟩ = some (.int .i64 x.s) := ca 0 _ rfl
      have a1 : wr.cell? ⟨g, o + k * 7 + 1, none⟩ = some (.int .i64 x.v) := ca 1 _ rfl
      have a2 : wr.cell? ⟨g, o + k * 7 + 2, none⟩ = some (.int .i64 x.r.c) := ca 2 _ rfl
      have a3 : wr.cell? ⟨g, o + k * 7 + 3, none⟩ = some (.int .i64 x.r.n) := ca 3 _ rfl
      have a4 : wr.cell? ⟨g, o + k * 7 + 4, none⟩ = some (.int .i64 x.r.o) := ca 4 _ rfl
      have a5 : wr.cell? ⟨g, o + k * 7 + 5, none⟩ = some (.int .i64 x.r.x) := ca 5 _ rfl
      have a6 : wr.cell? ⟨g, o + k * 7 + 6, none⟩ = some (.int .i64 x.r.y) := ca 6 _ rfl
      clear ca
      have i0 : (0 : Int) ≤ (k : Int) := by omega
      have i1 : (k : Int) < (dn.length : Int) := by omega
      have HLK := Lib.hid hLk
      clear hLk
      rcases e1 : (x.s == (k : Int) + 1) with _ | _
      · have HE := Lib.hid (show goodN 0 dn = L by rw [hG.out, HN.out (by simpa using e1), List.append_nil])
        go_wp2
        go_ret
        rw [HE.out]
        exact ⟨B, d, rfl, own_base OO.out (by omega), hb.out⟩
      · have HE := Lib.hid (show goodN 0 dn = (L ++ [x.r]) ++ goodN ((k + 1 : Nat) : Int) (dn.drop (k + 1)) by rw [hG.out, HY.out (by simpa using e1), List.append_assoc]; rfl)
        have hLb : L.length ≤ 1048576 := by have := HLK.out; omega
        go_wp2_with (at_builtin; refine wpList_append_own _ rfl _ _ 41 rfl (w.heap.size + 1) 24 ii (.agg #[.int .i64 0, .int .i64 0, .int .i64 0, .int .i64 0, .int .i64 0]) 5 40 Try.underlying41 I1.out I2.out I3.out I4.out rfl (by decide) _ _ _ rfl (OO.out.alloc _) ⟨wr.heap.size, 0, none⟩ 1 1 [.int .i64 x.r.c, .int .i64 x.r.n, .int .i64 x.r.o, .int .i64 x.r.x, .int .i64 x.r.y] rfl rfl ?c1 ?c2 ?c3 ?c4 ?c5 ?_)
        case c1 =>
          intro j u hu
          have h := (Blk.new (t := 24) (cs := #[.int .i64 x.r.c, .int .i64 x.r.n, .int .i64 x.r.o, .int .i64 x.r.x, .int .i64 x.r.y]) wr).cell j
          (try rw [show (wr).heap.size = wr.heap.size by simp] at h)
          rw [show Addr.add ⟨wr.heap.size, 0, none⟩ j = ⟨wr.heap.size, j, none⟩ by simp [Addr.add]; intro h; exact h.symm, h]
          simpa using hu
        case c2 => intro u hu; simp at hu; rcases hu with rfl | rfl | rfl | rfl | rfl <;> rfl
        case c3 => unfold maxLen; omega
        case c4 => omega
        case c5 => have := hb.out.size; have := K0.out.lt; simp; omega
        intro v' w3 ho3 hg3 _
        have BN := Lib.hid (Below.trans (hb.out.alloc hb.out.size (.cells #[.int .i64 x.r.c, .int .i64 x.r.n, .int .i64 x.r.o, .int .i64 x.r.x, .int .i64 x.r.y] 24)) (Below.of_grown hg3 (by have := hb.out.size; simp; omega) fun q hq => by have := (own_block_ge OO.out q hq).1; omega))
        have HO : Hid (w3.ownsRow (w.heap.size + 1) 24 5 v' (L ++ [x.r]).length ((L ++ [x.r]).flatMap Rq.cells)) := by
          have h := ho3
          show w3.ownsRow _ _ _ _ _ _
          rw [List.length_append, List.length_singleton, List.flatMap_append]
          simpa [Rq.cells] using h
        have K1 := Lib.hid (Blk.gr (K0.out.alloc (.cells #[.int .i64 x.r.c, .int .i64 x.r.n, .int .i64 x.r.o, .int .i64 x.r.x, .int .i64 x.r.y] 24)) hg3 (fun e => by have := (own_block_ge OO.out _ e).1; omega))
        have HL2 : Hid ((L ++ [x.r]).length = k + 1) := by show (L ++ [x.r]).length = k + 1; rw [List.length_append, HLK.out]; rfl
        clear ho3 hg3
        go_wp2
        go_roundw
        case rel => exact ⟨k + 1, L ++ [x.r], by omega, by go_num, HL2.out, HE, HO, K1, BN⟩
        case measure => simp [intOf]; omega
    · have HE := Lib.hid (show goodN 0 dn = L by rw [hG.out, goodN_end (by omega), List.append_nil])
      go_wp2
      go_ret
      rw [HE.out]
      exact ⟨B, d, rfl, own_base OO.out (by omega), hb.out⟩

set_option maxRecDepth 100000 in
set_option maxHeartbeats 8000000 in
theorem implRepList (r : RpP) (w : World) (hr : r.rd w) :
    Calls Try.prog 18 #[r.val] w fun e w' => ∃ B d, e = .returned (.slice B (listR r).length d) ∧ w'.ownsRow w.heap.size 24 5 (.slice B (listR r).length d) (listR r).length ((listR r).flatMap Rq.cells) ∧ Below w.heap.size w w' := by
  rcases hq : repB r with _ | _
  · have HQ := Lib.hid hq
    have HE := Lib.hid (show listR r = [] by unfold listR; rw [hq]; rfl)
    have BW : Hid (Below w.heap.size w (w.alloc (.cells #[.int .i64 r.me, .int .i64 r.v, .bool r.lv, .int .i64 r.nx, .slice r.TA r.tk.length r.ta, .slice r.HA r.hd.length r.ha, .slice r.DA r.dn.length r.da] 37))) := (Below.refl _ _).alloc (Nat.le_refl _) _
    have HR := Lib.hid (hr.below BW.out)
    clear hr hq
    go_enter Try.func18, Try.ntmps18
    go_wp2_with (fail)
    refine (implRepOk r _ HR.out).mono ?_
    rintro e w1 ⟨rfl, hb⟩
    rw [HQ.out]
    have BW := Lib.hid (Below.and BW.out hb)
    clear hb
    go_wp2
    go_ret
    rw [HE.out]
    exact ⟨none, 0, rfl, World.ownsRow_nil _ _ _ _, BW.out⟩
  have hl0 := rep_len hq
  have HE := Lib.hid (show listR r = goodN 0 r.dn by unfold listR; rw [if_pos hq])
  generalize listR r = LL at HE
  obtain ⟨me, v, lv, nx, TA, ta, tk, HA, ha, hd, DA, da, dn⟩ := r
  replace HE : Hid (LL = goodN 0 dn) := HE
  change Calls Try.prog 18 #[.agg #[.int .i64 me, .int .i64 v, .bool lv, .int .i64 nx, .slice TA tk.length ta, .slice HA hd.length ha, .slice DA dn.length da]] w fun e w' => ∃ B d, e = .returned (.slice B LL.length d) ∧ w'.ownsRow w.heap.size 24 5 (.slice B LL.length d) LL.length (LL.flatMap Rq.cells) ∧ Below w.heap.size w w'
  have hl : dn.length ≤ 5 := hl0
  have HQ := Lib.hid hq
  have Z0 : Hid (Below w.heap.size w (w.alloc (.cells #[.int .i64 me, .int .i64 v, .bool lv, .int .i64 nx, .slice TA tk.length ta, .slice HA hd.length ha, .slice DA dn.length da] 37))) := (Below.refl _ _).alloc (Nat.le_refl _) _
  have K0 : Hid (Blk (w.alloc (.cells #[.int .i64 me, .int .i64 v, .bool lv, .int .i64 nx, .slice TA tk.length ta, .slice HA hd.length ha, .slice DA dn.length da] 37)) w.heap.size 37 #[.int .i64 me, .int .i64 v, .bool lv, .int .i64 nx, .slice TA tk.length ta, .slice HA hd.length ha, .slice DA dn.length da]) := Blk.new w
  have HR := Lib.hid (hr.below Z0.out)
  clear hr hl0 hq
  obtain ⟨ii, hi, hz0, hz1, hz2⟩ := info_parts infoReq
  have I1 := Lib.hid hi
  have I2 := Lib.hid hz0
  have I3 := Lib.hid hz1
  have I4 := Lib.hid hz2
  clear hi hz0 hz1 hz2
  go_enter Try.func18, Try.ntmps18
  go_wp2_with (fail)
  refine (implRepOk (⟨me, v, lv, nx, TA, ta, tk, HA, ha, hd, DA, da, dn⟩ : RpP) _ HR.out).mono ?_
  rintro e w1 ⟨rfl, hb⟩
  rw [HQ.out]
  have Z1 := Lib.hid (Below.and Z0.out hb)
  have K1 := Lib.hid (K0.out.below hb)
  have RN : Hid (RdC w1 DA dn) := (HR.out.below hb).rdn
  have x6 : w1.cell? ⟨w.heap.size, 6, none⟩ = some (.slice DA dn.length da) := K1.out.cell 6
  clear hb HR HQ Z0 K0 K1
  go_wp2
  go_loopw [3, 12] (fun vv i wr => ∃ (k : Nat) (L : List Rq), k ≤ dn.length ∧ i = .int .i64 k ∧ L.length = k ∧ Hid (goodN 0 dn = L ++ goodN k (dn.drop k)) ∧ Hid (wr.ownsRow w1.heap.size 24 5 vv L.length (L.flatMap Rq.cells)) ∧ Hid (Below w1.heap.size w1 wr)) (fun _ i _ => dn.length - (intOf i).toNat)
  case atStart => exact ⟨0, [], Nat.zero_le _, rfl, rfl, by simp [Hid], World.ownsRow_nil _ _ _ _, Below.refl _ _⟩
  case round =>
    clear x6
    obtain ⟨k, L, hk, rfl, hLk, hG, OO, hb⟩ := hrel
    obtain ⟨B, d, hv, hm⟩ := own_form OO.out
    subst hv
    by_cases hlt : k < dn.length
    · obtain ⟨g, o, rfl, ca⟩ := Rd.below RN.out hb.out k hlt
      have HY := Lib.hid (fun h => goodN_yes hlt h)
      have HN := Lib.hid (fun h => goodN_no hlt h)
      generalize dn[k] = x at ca HY HN
      have a0 : wr.cell? ⟨g, o + k * 7, none⟩ = some (.int .i64 x.s) := ca 0 _ rfl
      have a1 : wr.cell? ⟨g, o + k * 7 + 1, none⟩ = some (.int .i64 x.v) := ca 1 _ rfl
      have a2 : wr.cell? ⟨g, o + k * 7 + 2, none⟩ = some (.int .i64 x.r.c) := ca 2 _ rfl
      have a3 : wr.cell? ⟨g, o + k * 7 + 3, none⟩ = some (.int .i64 x.r.n) := ca 3 _ rfl
      have a4 : wr.cell? ⟨g, o + k * 7 + 4, none⟩ = some (.int .i64 x.r.o) := ca 4 _ rfl
      have a5 : wr.cell? ⟨g, o + k * 7 + 5, none⟩ = some (.int .i64 x.r.x) := ca 5 _ rfl
      have a6 : wr.cell? ⟨g, o + k * 7 + 6, none⟩ = some (.int .i64 x.r.y) := ca 6 _ rfl
      clear ca
      have BB := Lib.hid (Below.and Z1.out (hb.out.alloc hb.out.size (.cells #[.int .i64 x.s, .int .i64 x.v, .int .i64 x.r.c, .int .i64 x.r.n, .int .i64 x.r.o, .int .i64 x.r.x, .int .i64 x.r.y] 60)))
      have HBS := Lib.hid hb.out.size
      have BX := Lib.hid (hb.out.alloc hb.out.size (.cells #[.int .i64 x.s, .int .i64 x.v, .int .i64 x.r.c, .int .i64 x.r.n, .int .i64 x.r.o, .int .i64 x.r.x, .int .i64 x.r.y] 60))
      have OO : Hid ((wr.alloc (.cells #[.int .i64 x.s, .int .i64 x.v, .int .i64 x.r.c, .int .i64 x.r.n, .int .i64 x.r.o, .int .i64 x.r.x, .int .i64 x.r.y] 60)).ownsRow w1.heap.size 24 5 (.slice B L.length d) L.length (L.flatMap Rq.cells)) := OO.out.alloc _
      have i0 : (0 : Int) ≤ (k : Int) := by omega
      have i1 : (k : Int) < (dn.length : Int) := by omega
      have HLK := Lib.hid hLk
      clear hLk
      rcases e1 : (x.s != (k : Int) + 1) with _ | _
      · have HG := Lib.hid (show goodN 0 dn = (L ++ [x.r]) ++ goodN ((k + 1 : Nat) : Int) (dn.drop (k + 1)) by rw [hG.out, HY.out (by simpa using e1), List.append_assoc]; rfl)
        have hLb : L.length ≤ 1048576 := by have := HLK.out; omega
        go_wp2_with (at_builtin; refine wpList_append_own _ rfl _ _ 41 rfl w1.heap.size 24 ii (.agg #[.int .i64 0, .int .i64 0, .int .i64 0, .int .i64 0, .int .i64 0]) 5 40 Try.underlying41 I1.out I2.out I3.out I4.out rfl (by decide) _ _ _ rfl (OO.out.alloc _) ⟨wr.heap.size + 1, 0, none⟩ 1 1 [.int .i64 x.r.c, .int .i64 x.r.n, .int .i64 x.r.o, .int .i64 x.r.x, .int .i64 x.r.y] rfl rfl ?c1 ?c2 ?c3 ?c4 ?c5 ?_)
        case c1 =>
          intro j u hu
          have h := (Blk.new (t := 24) (cs := #[.int .i64 x.r.c, .int .i64 x.r.n, .int .i64 x.r.o, .int .i64 x.r.x, .int .i64 x.r.y]) (wr.alloc (.cells #[.int .i64 x.s, .int .i64 x.v, .int .i64 x.r.c, .int .i64 x.r.n, .int .i64 x.r.o, .int .i64 x.r.x, .int .i64 x.r.y] 60))).cell j
          (try rw [show ((wr.alloc (.cells #[.int .i64 x.s, .int .i64 x.v, .int .i64 x.r.c, .int .i64 x.r.n, .int .i64 x.r.o, .int .i64 x.r.x, .int .i64 x.r.y] 60))).heap.size = wr.heap.size + 1 by simp] at h)
          rw [show Addr.add ⟨wr.heap.size + 1, 0, none⟩ j = ⟨wr.heap.size + 1, j, none⟩ by simp [Addr.add]; intro h; exact h.symm, h]
          simpa using hu
        case c2 => intro u hu; simp at hu; rcases hu with rfl | rfl | rfl | rfl | rfl <;> rfl
        case c3 => unfold maxLen; omega
        case c4 => omega
        case c5 => have := HBS.out; simp; omega
        intro v' w3 ho3 hg3 _
        have BN := Lib.hid (Below.trans (BX.out.alloc BX.out.size (.cells #[.int .i64 x.r.c, .int .i64 x.r.n, .int .i64 x.r.o, .int .i64 x.r.x, .int .i64 x.r.y] 24)) (Below.of_grown hg3 (by have := HBS.out; simp; omega) fun q hq => (own_block_ge OO.out q hq).1))
        have HO : Hid (w3.ownsRow w1.heap.size 24 5 v' (L ++ [x.r]).length ((L ++ [x.r]).flatMap Rq.cells)) := by
          have h := ho3
          show w3.ownsRow _ _ _ _ _ _
          rw [List.length_append, List.length_singleton, List.flatMap_append]
          simpa [Rq.cells] using h
        have HL2 : Hid ((L ++ [x.r]).length = k + 1) := by show (L ++ [x.r]).length = k + 1; rw [List.length_append, HLK.out]; rfl
        clear ho3 hg3
        go_wp2
        go_roundw
        case rel => exact ⟨k + 1, L ++ [x.r], by omega, by go_num, HL2.out, HG, HO, BN⟩
        case measure => simp [intOf]; omega
      · have HF := Lib.hid (show goodN 0 dn = L by rw [hG.out, HN.out (by simpa using e1), List.append_nil])
        go_wp2
        go_ret
        rw [HE.out, HF.out]
        exact ⟨B, d, rfl, own_base OO.out Z1.out.size, BB.out⟩
    · have HF := Lib.hid (show goodN 0 dn = L by rw [hG.out, goodN_end (by omega), List.append_nil])
      go_wp2
      go_ret
      rw [HE.out, HF.out]
      exact ⟨B, d, rfl, own_base OO.out Z1.out.size, Below.and Z1.out hb.out⟩

end Go.Proofs.Ytjpbflehedbijaa
