/- Whether a keeper is ok: both ways. -/
import Derived.Test.YtfelhnchnaggmaaRb
import Derived.Test.YtfelhnchnaggmaaZb
import Derived.Test.YtfelhnchnaggmaaMI
namespace Go.Proofs.Ytfelhnchnaggmaa
open Go.ChangeShapes Go.WideShapes Go.ChangeAt Go.RowKit
set_option linter.unusedVariables false
set_option linter.unusedSimpArgs false

def repB (r : RpP) : Bool := tkB r.tk && (hdB r.hd && (inB r.me 0 3 && (inB r.v 0 6 && (inB r.nx 1 6 && (clsB 0 r.dn && (decide (r.tk.length ≤ 40) && decide (r.hd.length ≤ 120)))))))
theorem repB_eq (r : RpP) : repB r = (inB r.me 0 3 && (inB r.v 0 6 && (inB r.nx 1 6 && ((decide (r.tk.length ≤ 40) && tkB r.tk) && ((decide (r.hd.length ≤ 120) && hdB r.hd) && clsB 0 r.dn))))) := by
  unfold repB
  ac_rfl

set_option maxRecDepth 100000 in
set_option maxHeartbeats 2000000 in
theorem implRepOk (r : RpP) (w : World) (hr : r.rd w) :
    Calls Try.prog 50 #[r.val] w fun e w' => e = .returned (.bool (repB r)) ∧ Below w.heap.size w w' := by
  have BW : Hid (Below w.heap.size w (w.alloc (.cells #[.int .i64 r.me, .int .i64 r.v, .bool r.lv, .int .i64 r.nx, .slice r.TA r.tk.length r.ta, .slice r.HA r.hd.length r.ha, .slice r.DA r.dn.length r.da] 47))) := (Below.refl _ _).alloc (Nat.le_refl _) _
  have K0 : Hid (Blk (w.alloc (.cells #[.int .i64 r.me, .int .i64 r.v, .bool r.lv, .int .i64 r.nx, .slice r.TA r.tk.length r.ta, .slice r.HA r.hd.length r.ha, .slice r.DA r.dn.length r.da] 47)) w.heap.size 47 #[.int .i64 r.me, .int .i64 r.v, .bool r.lv, .int .i64 r.nx, .slice r.TA r.tk.length r.ta, .slice r.HA r.hd.length r.ha, .slice r.DA r.dn.length r.da]) := Blk.new w
  have HR := Lib.hid (hr.below BW.out)
  have HE := Lib.hid (repB_eq r)
  clear hr
  rcases ha : inB r.me 0 3 with _ | _
  · have HN := Lib.hid (show repB r = false by rw [HE.out, ha]; rfl)
    go_enter Try.func50, Try.ntmps50
    go_wp2_with (go_at_call 22; refine (isKeeper _ _).mono ?_; rintro e w' ⟨rfl, rfl⟩; rw [ha])
    go_light
    go_ret
    exact ⟨ret_bool (HN.out.symm), BW.out⟩
  rcases hb : inB r.v 0 6 with _ | _
  · have HN := Lib.hid (show repB r = false by rw [HE.out, hb]; simp)
    go_enter Try.func50, Try.ntmps50
    go_wp2_with (first | (go_at_call 22; refine (isKeeper _ _).mono ?_; rintro e w' ⟨rfl, rfl⟩; rw [ha]) | (go_at_call 76; refine (isView _ _).mono ?_; rintro e w' ⟨rfl, rfl⟩; rw [hb]))
    go_light
    go_ret
    exact ⟨ret_bool (HN.out.symm), BW.out⟩
  rcases hc : inB r.nx 1 6 with _ | _
  · have HN := Lib.hid (show repB r = false by rw [HE.out, hc]; simp)
    go_enter Try.func50, Try.ntmps50
    go_wp2_with (first | (go_at_call 22; refine (isKeeper _ _).mono ?_; rintro e w' ⟨rfl, rfl⟩; rw [ha]) | (go_at_call 76; refine (isView _ _).mono ?_; rintro e w' ⟨rfl, rfl⟩; rw [hb]) | (go_at_call 45; refine (implIn _ _ _ _).mono ?_; rintro e w' ⟨rfl, rfl⟩; rw [hc]))
    go_light
    go_ret
    exact ⟨ret_bool (HN.out.symm), BW.out⟩
  have HE := Lib.hid (show repB r = ((decide (r.tk.length ≤ 40) && tkB r.tk) && ((decide (r.hd.length ≤ 120) && hdB r.hd) && clsB 0 r.dn)) by rw [HE.out, ha, hb, hc]; rfl)
  go_enter Try.func50, Try.ntmps50
  go_wp2_with (first | (go_at_call 22; refine (isKeeper _ _).mono ?_; rintro e w' ⟨rfl, rfl⟩; rw [ha]) | (go_at_call 76; refine (isView _ _).mono ?_; rintro e w' ⟨rfl, rfl⟩; rw [hb]) | (go_at_call 45; refine (implIn _ _ _ _).mono ?_; rintro e w' ⟨rfl, rfl⟩; rw [hc]))
  refine (tookOk r.TA r.ta r.tk _ HR.out.nt HR.out.rt).mono ?_
  rintro e w1 ⟨rfl, hb1⟩
  have BW := Lib.hid (Below.and BW.out hb1)
  have K0 := Lib.hid (K0.out.below hb1)
  have HR := Lib.hid (HR.out.below hb1)
  clear hb1 ha hb hc
  have x5 : w1.cell? ⟨w.heap.size, 5, none⟩ = some (.slice r.HA r.hd.length r.ha) := K0.out.cell 5
  have x6 : w1.cell? ⟨w.heap.size, 6, none⟩ = some (.slice r.DA r.dn.length r.da) := K0.out.cell 6
  rcases h1 : (decide (r.tk.length ≤ 40) && tkB r.tk) with _ | _
  · have HN := Lib.hid (show repB r = false by rw [HE.out, h1]; rfl)
    go_wp2
    go_light
    go_ret
    exact ⟨ret_bool (HN.out.symm), BW.out⟩
  have HE := Lib.hid (show repB r = ((decide (r.hd.length ≤ 120) && hdB r.hd) && clsB 0 r.dn) by rw [HE.out, h1]; rfl)
  clear h1
  go_wp2_with (fail)
  refine (heardOk r.HA r.ha r.hd _ HR.out.nh HR.out.rh).mono ?_
  rintro e w2 ⟨rfl, hb1⟩
  have BW := Lib.hid (Below.and BW.out hb1)
  have K0 := Lib.hid (K0.out.below hb1)
  have HR := Lib.hid (HR.out.below hb1)
  clear hb1 x5 x6
  have x6 : w2.cell? ⟨w.heap.size, 6, none⟩ = some (.slice r.DA r.dn.length r.da) := K0.out.cell 6
  rcases h1 : (decide (r.hd.length ≤ 120) && hdB r.hd) with _ | _
  · have HN := Lib.hid (show repB r = false by rw [HE.out, h1]; rfl)
    go_wp2
    go_light
    go_ret
    exact ⟨ret_bool (HN.out.symm), BW.out⟩
  have HE := Lib.hid (show repB r = clsB 0 r.dn by rw [HE.out, h1]; rfl)
  clear h1
  go_wp2_with (fail)
  refine (claimsValid r.DA r.da r.dn _ HR.out.nd HR.out.rdn).mono ?_
  rintro e w3 ⟨rfl, hb1⟩
  have BW := Lib.hid (Below.and BW.out hb1)
  clear hb1 x6
  go_wp2
  go_light
  go_ret
  exact ⟨ret_bool (HE.out.symm), BW.out⟩

theorem tk_next {l : List Cl} {k : Nat} (h : k < l.length) (ht : TK (l.take k)) (hc : clB l[k] = true) (hn : pl l[k] ∉ (l.take k).map pl) : TK (l.take (k + 1)) := by
  refine ⟨all_take h ht.1 hc, ?_⟩
  rw [List.take_succ_eq_append_getElem h, List.map_append, List.nodup_append]
  refine ⟨ht.2, by simp, fun x hx y hy e => hn ?_⟩
  simp only [List.map_cons, List.map_nil, List.mem_singleton] at hy
  rw [← hy, ← e]
  exact hx
theorem not_tk_twice {l : List Cl} {k : Nat} (h : k < l.length) (hn : pl l[k] ∈ (l.take k).map pl) : tkB l = false := decide_eq_false fun t => by
  have := (t.take (k + 1)).2
  rw [List.take_succ_eq_append_getElem h, List.map_append, List.nodup_append] at this
  exact this.2.2 _ hn _ (by simp) rfl
theorem not_in_next {l : List Cl} {q : Nat} {x : Int × Int} (h : q < l.length) (hn : x ∉ (l.take q).map pl) (hx : x ≠ pl l[q]) : x ∉ (l.take (q + 1)).map pl := by
  rw [List.take_succ_eq_append_getElem h, List.map_append, List.mem_append]
  simp only [List.map_cons, List.map_nil, List.mem_singleton]
  rintro (h' | h')
  · exact hn h'
  · exact hx h'
theorem in_take {l : List Cl} {q k : Nat} {x : Int × Int} (h : q < l.length) (hq : q < k) (hx : x = pl l[q]) : x ∈ (l.take k).map pl := by
  rw [hx]
  exact List.mem_map.2 ⟨l[q], List.mem_take_iff_getElem.2 ⟨q, by omega, rfl⟩, rfl⟩

set_option maxRecDepth 100000 in
set_option maxHeartbeats 8000000 in
theorem l5Ok (r : RpP) (w : World) (hr : r.rd w) (hs : ∀ p ∈ r.hd, p.cl.length ≤ 1048576 ∧ p.vt.length ≤ 1048576) :
    Calls Try.prog 59 #[r.val] w fun e w' => e = .returned (.bool (repB r)) ∧ Below w.heap.size w w' := by
  obtain ⟨me, v, lv, nx, TA, ta, tk, HA, ha, hd, DA, da, dn⟩ := r
  change Calls Try.prog 59 #[.agg #[.int .i64 me, .int .i64 v, .bool lv, .int .i64 nx, .slice TA tk.length ta, .slice HA hd.length ha, .slice DA dn.length da]] w fun e w' => e = .returned (.bool (repB (⟨me, v, lv, nx, TA, ta, tk, HA, ha, hd, DA, da, dn⟩ : RpP))) ∧ Below w.heap.size w w'
  have n1 : tk.length ≤ maxLen := hr.nt
  have n2 : hd.length ≤ maxLen := hr.nh
  have n3 : dn.length ≤ maxLen := hr.nd
  unfold maxLen at n1 n2 n3
  have RT : Hid (RdC w TA tk) := hr.rt
  have RH : Hid (RdMs w HA hd) := hr.rh
  have RN : Hid (RdC w DA dn) := hr.rdn
  have HS : Hid (∀ p ∈ hd, p.cl.length ≤ 1048576 ∧ p.vt.length ≤ 1048576) := hs
  have HE : Hid (repB (⟨me, v, lv, nx, TA, ta, tk, HA, ha, hd, DA, da, dn⟩ : RpP) = (tkB tk && (hdB hd && (inB me 0 3 && (inB v 0 6 && (inB nx 1 6 && (clsB 0 dn && (decide (tk.length ≤ 40) && decide (hd.length ≤ 120))))))))) := rfl
  generalize repB (⟨me, v, lv, nx, TA, ta, tk, HA, ha, hd, DA, da, dn⟩ : RpP) = RB at HE
  clear hr hs
  have Z0 : Hid (Below w.heap.size w (w.alloc (.cells #[.int .i64 me, .int .i64 v, .bool lv, .int .i64 nx, .slice TA tk.length ta, .slice HA hd.length ha, .slice DA dn.length da] 47))) := (Below.refl _ _).alloc (Nat.le_refl _) _
  have K0 : Hid (Blk (w.alloc (.cells #[.int .i64 me, .int .i64 v, .bool lv, .int .i64 nx, .slice TA tk.length ta, .slice HA hd.length ha, .slice DA dn.length da] 47)) w.heap.size 47 #[.int .i64 me, .int .i64 v, .bool lv, .int .i64 nx, .slice TA tk.length ta, .slice HA hd.length ha, .slice DA dn.length da]) := Blk.new w
  go_enter Try.func59, Try.ntmps59
  go_wp2
  go_loopw [3] (fun i wr => ∃ k : Nat, k ≤ tk.length ∧ i = .int .i64 k ∧ Hid (TK (tk.take k)) ∧ Hid (Blk wr w.heap.size 47 #[.int .i64 me, .int .i64 v, .bool lv, .int .i64 nx, .slice TA tk.length ta, .slice HA hd.length ha, .slice DA dn.length da]) ∧ Hid (Below w.heap.size w wr)) (fun i _ => tk.length - (intOf i).toNat)
  case atStart => exact ⟨0, Nat.zero_le _, rfl, ⟨by simp, by simp⟩, K0, Z0⟩
  case round =>
    clear Z0 K0
    obtain ⟨k, hk, rfl, ht, K0, hb⟩ := hrel
    have lk := K0.out.lt
    by_cases hlt : k < tk.length
    · have x4 : wr.cell? ⟨w.heap.size, 4, none⟩ = some (.slice TA tk.length ta) := K0.out.cell 4
      obtain ⟨g, o, rfl, ca⟩ := Rd.below RT.out hb.out k hlt
      have HX := Lib.hid (fun h1 h2 => tk_next hlt ht.out h1 h2)
      have HB := Lib.hid (fun h1 => not_tk_bad hlt h1)
      have HT := Lib.hid (fun h1 => not_tk_twice hlt h1)
      generalize hxe : tk[k] = x at ca HX HB HT
      have HXE := Lib.hid hxe
      clear hxe
      have a0 : wr.cell? ⟨g, o + k * 7, none⟩ = some (.int .i64 x.s) := ca 0 _ rfl
      have a1 : wr.cell? ⟨g, o + k * 7 + 1, none⟩ = some (.int .i64 x.v) := ca 1 _ rfl
      have a2 : wr.cell? ⟨g, o + k * 7 + 2, none⟩ = some (.int .i64 x.r.c) := ca 2 _ rfl
      have a3 : wr.cell? ⟨g, o + k * 7 + 3, none⟩ = some (.int .i64 x.r.n) := ca 3 _ rfl
      have a4 : wr.cell? ⟨g, o + k * 7 + 4, none⟩ = some (.int .i64 x.r.o) := ca 4 _ rfl
      have a5 : wr.cell? ⟨g, o + k * 7 + 5, none⟩ = some (.int .i64 x.r.x) := ca 5 _ rfl
      have a6 : wr.cell? ⟨g, o + k * 7 + 6, none⟩ = some (.int .i64 x.r.y) := ca 6 _ rfl
      clear ca
      have i0 : (0 : Int) ≤ (k : Int) := by omega
      have i1 : (k : Int) < (tk.length : Int) := by omega
      go_wp2_with (fail)
      refine (l3ClaimOk x _).mono ?_
      rintro e w1 ⟨rfl, h1⟩
      have BB := Lib.hid (Below.and hb.out h1)
      have K1 := Lib.hid (K0.out.below h1)
      clear h1 x4 a0 a1 a2 a3 a4 a5 a6
      rcases hc : clB x with _ | _
      · have HN := Lib.hid (show RB = false by rw [HE.out, HB.out hc]; rfl)
        go_wp2
        go_light
        go_ret
        exact ⟨ret_bool HN.out.symm, BB.out⟩
      have HC := Lib.hid hc
      clear hc
      go_wp2
      go_loopw [4] (fun j wi => ∃ q : Nat, q ≤ k ∧ j = .int .i64 q ∧ Hid (pl x ∉ (tk.take q).map pl) ∧ Hid (Below w1.heap.size w1 wi)) (fun j _ => k - (intOf j).toNat)
      case atStart => exact ⟨0, Nat.zero_le _, rfl, by simp [Hid], Below.refl _ _⟩
      case round =>
        obtain ⟨q, hq, rfl, hn, hbi⟩ := hrel
        have BWI := Lib.hid (Below.and BB.out hbi.out)
        have K2 := Lib.hid (K1.out.below hbi.out)
        by_cases hlq : q < k
        · have hlq2 : q < tk.length := by omega
          obtain ⟨g', o', hA', cb⟩ := Rd.below RT.out BWI.out q hlq2
          cases hA'
          obtain ⟨g', o', hA', cc⟩ := Rd.below RT.out BWI.out k hlt
          cases hA'
          rw [HXE.out] at cc
          have HNX := Lib.hid (fun h => not_in_next hlq2 hn.out h)
          have HIN := Lib.hid (fun h => in_take (k := k) (x := pl x) hlq2 hlq h)
          generalize tk[q] = y at cb HNX HIN
          have b0 : wr.cell? ⟨g, o + q * 7, none⟩ = some (.int .i64 y.s) := cb 0 _ rfl
          have b1 : wr.cell? ⟨g, o + q * 7 + 1, none⟩ = some (.int .i64 y.v) := cb 1 _ rfl
          have b2 : wr.cell? ⟨g, o + q * 7 + 2, none⟩ = some (.int .i64 y.r.c) := cb 2 _ rfl
          have b3 : wr.cell? ⟨g, o + q * 7 + 3, none⟩ = some (.int .i64 y.r.n) := cb 3 _ rfl
          have b4 : wr.cell? ⟨g, o + q * 7 + 4, none⟩ = some (.int .i64 y.r.o) := cb 4 _ rfl
          have b5 : wr.cell? ⟨g, o + q * 7 + 5, none⟩ = some (.int .i64 y.r.x) := cb 5 _ rfl
          have b6 : wr.cell? ⟨g, o + q * 7 + 6, none⟩ = some (.int .i64 y.r.y) := cb 6 _ rfl
          have c0 : wr.cell? ⟨g, o + k * 7, none⟩ = some (.int .i64 x.s) := cc 0 _ rfl
          have c1 : wr.cell? ⟨g, o + k * 7 + 1, none⟩ = some (.int .i64 x.v) := cc 1 _ rfl
          have c2 : wr.cell? ⟨g, o + k * 7 + 2, none⟩ = some (.int .i64 x.r.c) := cc 2 _ rfl
          have c3 : wr.cell? ⟨g, o + k * 7 + 3, none⟩ = some (.int .i64 x.r.n) := cc 3 _ rfl
          have c4 : wr.cell? ⟨g, o + k * 7 + 4, none⟩ = some (.int .i64 x.r.o) := cc 4 _ rfl
          have c5 : wr.cell? ⟨g, o + k * 7 + 5, none⟩ = some (.int .i64 x.r.x) := cc 5 _ rfl
          have c6 : wr.cell? ⟨g, o + k * 7 + 6, none⟩ = some (.int .i64 x.r.y) := cc 6 _ rfl
          clear cb cc
          have x4 : wr.cell? ⟨w.heap.size, 4, none⟩ = some (.slice (some ⟨g, o, none⟩) tk.length ta) := K2.out.cell 4
          have l2 := K2.out.lt
          have hg : g < wr.heap.size := by have := World.block_lt_of_cell? wr _ b0; simpa using this
          have j0 : (0 : Int) ≤ (q : Int) := by omega
          have j1 : (q : Int) < (tk.length : Int) := by omega
          rcases e1 : (y.v == x.v) with _ | _
          · have HNQ := Lib.hid (HNX.out (fun e => by have := congrArg Prod.snd e; simp [pl] at this e1; omega))
            go_wp2_with (fail)
            refine wp_region_held_drew (S := fun w1 => Below wr.heap.size wr w1) (by kernel_rfl) ((Below.refl _ _).drew) (fun hq => ?_)
            refine takeD 0 25 (v := ?_) rfl rfl (by kernel_rfl) (by kernel_rfl) (by kernel_rfl) (fun _ _ _ h => h) (Or.inl ⟨by rfl, ?_⟩) (by assumption) ?_
            rotate_left
            · intro w1 hSw; obtain ⟨hcS, hfS⟩ := bcell hSw; go_simp; (try with_reducible rfl)
            (try simp only [Act.put, List.setIfInBounds_toArray, List.set_cons_zero, List.set_cons_succ])
            refine takeD 1 26 (v := ?_) rfl rfl (by kernel_rfl) (by kernel_rfl) (by kernel_rfl) (fun _ _ _ h => h) (Or.inl ⟨by rfl, ?_⟩) (by assumption) ?_
            rotate_left
            · intro w1 hSw; obtain ⟨hcS, hfS⟩ := bcell hSw; go_simp; (try with_reducible rfl)
            (try simp only [Act.put, List.setIfInBounds_toArray, List.set_cons_zero, List.set_cons_succ])
            refine takeD 2 27 (v := ?_) rfl rfl (by kernel_rfl) (by kernel_rfl) (by kernel_rfl) (fun _ _ _ h => h) (Or.inl ⟨by rfl, ?_⟩) (by assumption) ?_
            rotate_left
            · intro w1 hSw; obtain ⟨hcS, hfS⟩ := bcell hSw; go_simp; (try with_reducible rfl)
            (try simp only [Act.put, List.setIfInBounds_toArray, List.set_cons_zero, List.set_cons_succ])
            refine takeD 3 28 (v := ?_) rfl rfl (by kernel_rfl) (by kernel_rfl) (by kernel_rfl) (fun _ _ _ h => h) (Or.inl ⟨by rfl, ?_⟩) (by assumption) ?_
            rotate_left
            · intro w1 hSw; obtain ⟨hcS, hfS⟩ := bcell hSw; go_simp; (try with_reducible rfl)
            (try simp only [Act.put, List.setIfInBounds_toArray, List.set_cons_zero, List.set_cons_succ])
            refine takeD 4 29 (v := ?_) rfl rfl (by kernel_rfl) (by kernel_rfl) (by kernel_rfl) (fun _ _ _ h => h) (Or.inl ⟨by rfl, ?_⟩) (by assumption) ?_
            rotate_left
            · intro w1 hSw; obtain ⟨hcS, hfS⟩ := bcell hSw; go_simp; (try with_reducible rfl)
            (try simp only [Act.put, List.setIfInBounds_toArray, List.set_cons_zero, List.set_cons_succ])
            refine takeD 5 30 (v := ?_) rfl rfl (by kernel_rfl) (by kernel_rfl) (by kernel_rfl) (fun _ _ _ h => h) (Or.inl ⟨by rfl, ?_⟩) (by assumption) ?_
            rotate_left
            · intro w1 hSw; obtain ⟨hcS, hfS⟩ := bcell hSw; go_simp; (try with_reducible rfl)
            (try simp only [Act.put, List.setIfInBounds_toArray, List.set_cons_zero, List.set_cons_succ])
            refine takeD 6 31 (v := ?_) rfl rfl (by kernel_rfl) (by kernel_rfl) (by kernel_rfl) (fun _ _ _ h => h) (Or.inl ⟨by rfl, ?_⟩) (by assumption) ?_
            rotate_left
            · intro w1 hSw; obtain ⟨hcS, hfS⟩ := bcell hSw; go_simp; (try with_reducible rfl)
            (try simp only [Act.put, List.setIfInBounds_toArray, List.set_cons_zero, List.set_cons_succ])
            refine takeD 7 32 (v := ?_) rfl rfl (by kernel_rfl) (by kernel_rfl) (by kernel_rfl) (fun _ _ _ h => h) (Or.inl ⟨by rfl, ?_⟩) (by assumption) ?_
            rotate_left
            · intro w1 hSw; obtain ⟨hcS, hfS⟩ := bcell hSw; go_simp; (try with_reducible rfl)
            (try simp only [Act.put, List.setIfInBounds_toArray, List.set_cons_zero, List.set_cons_succ])
            refine takeD 8 33 (v := ?_) rfl rfl (by kernel_rfl) (by kernel_rfl) (by kernel_rfl) (fun _ _ _ h => h) (Or.inl ⟨by rfl, ?_⟩) (by assumption) ?_
            rotate_left
            · intro w1 hSw; obtain ⟨hcS, hfS⟩ := bcell hSw; go_simp; (try with_reducible rfl)
            (try simp only [Act.put, List.setIfInBounds_toArray, List.set_cons_zero, List.set_cons_succ])
            refine takeD 9 34 (v := ?_) rfl rfl (by kernel_rfl) (by kernel_rfl) (by kernel_rfl) (fun _ _ _ h => h) (Or.inl ⟨by rfl, ?_⟩) (by assumption) ?_
            rotate_left
            · intro w1 hSw; obtain ⟨hcS, hfS⟩ := bcell hSw; go_simp; (try with_reducible rfl)
            (try simp only [Act.put, List.setIfInBounds_toArray, List.set_cons_zero, List.set_cons_succ])
            refine takeD 10 35 (v := ?_) rfl rfl (by kernel_rfl) (by kernel_rfl) (by kernel_rfl) (fun _ _ _ h => h) (Or.inl ⟨by rfl, ?_⟩) (by assumption) ?_
            rotate_left
            · intro w1 hSw; obtain ⟨hcS, hfS⟩ := bcell hSw; go_simp; (try with_reducible rfl)
            (try simp only [Act.put, List.setIfInBounds_toArray, List.set_cons_zero, List.set_cons_succ])
            refine takeD 11 36 (v := ?_) rfl rfl (by kernel_rfl) (by kernel_rfl) (by kernel_rfl) (fun _ _ _ h => h) (Or.inl ⟨by rfl, ?_⟩) (by assumption) ?_
            rotate_left
            · intro w1 hSw; obtain ⟨hcS, hfS⟩ := bcell hSw; go_simp; (try with_reducible rfl)
            (try simp only [Act.put, List.setIfInBounds_toArray, List.set_cons_zero, List.set_cons_succ])
            refine takeD 12 37 (v := ?_) rfl rfl (by kernel_rfl) (by kernel_rfl) (by kernel_rfl) (fun _ _ _ h => h) (Or.inl ⟨by rfl, ?_⟩) (by assumption) ?_
            rotate_left
            · intro w1 hSw; obtain ⟨hcS, hfS⟩ := bcell hSw; go_simp; (try with_reducible rfl)
            (try simp only [Act.put, List.setIfInBounds_toArray, List.set_cons_zero, List.set_cons_succ])
            refine takeD 13 38 (v := ?_) rfl rfl (by kernel_rfl) (by kernel_rfl) (by kernel_rfl) (fun _ _ _ h => h) (Or.inl ⟨by rfl, ?_⟩) (by assumption) ?_
            rotate_left
            · intro w1 hSw; obtain ⟨hcS, hfS⟩ := bcell hSw; go_simp; (try with_reducible rfl)
            (try simp only [Act.put, List.setIfInBounds_toArray, List.set_cons_zero, List.set_cons_succ])
            refine takeD 14 39 (v := undef) rfl rfl (by kernel_rfl) (by kernel_rfl) (by kernel_rfl) (fun _ _ _ h => h) (Or.inr ⟨by rfl, rfl⟩) (by assumption) ?_
            (try simp only [Act.put, List.setIfInBounds_toArray, List.set_cons_zero, List.set_cons_succ])
            refine takeD 15 40 (v := undef) rfl rfl (by kernel_rfl) (by kernel_rfl) (by kernel_rfl) (fun _ _ _ h => h) (Or.inr ⟨by rfl, rfl⟩) (by assumption) ?_
            (try simp only [Act.put, List.setIfInBounds_toArray, List.set_cons_zero, List.set_cons_succ])
            refine takeD 16 41 (v := undef) rfl rfl (by kernel_rfl) (by kernel_rfl) (by kernel_rfl) (fun _ _ _ h => h) (Or.inr ⟨by rfl, rfl⟩) (by assumption) ?_
            (try simp only [Act.put, List.setIfInBounds_toArray, List.set_cons_zero, List.set_cons_succ])
            refine takeD 17 42 (v := undef) rfl rfl (by kernel_rfl) (by kernel_rfl) (by kernel_rfl) (fun _ _ _ h => h) (Or.inr ⟨by rfl, rfl⟩) (by assumption) ?_
            (try simp only [Act.put, List.setIfInBounds_toArray, List.set_cons_zero, List.set_cons_succ])
            refine takeD 18 43 (v := undef) rfl rfl (by kernel_rfl) (by kernel_rfl) (by kernel_rfl) (fun _ _ _ h => h) (Or.inr ⟨by rfl, rfl⟩) (by assumption) ?_
            (try simp only [Act.put, List.setIfInBounds_toArray, List.set_cons_zero, List.set_cons_succ])
            refine takeD 19 44 (v := undef) rfl rfl (by kernel_rfl) (by kernel_rfl) (by kernel_rfl) (fun _ _ _ h => h) (Or.inr ⟨by rfl, rfl⟩) (by assumption) ?_
            (try simp only [Act.put, List.setIfInBounds_toArray, List.set_cons_zero, List.set_cons_succ])
            refine takeD 20 45 (v := undef) rfl rfl (by kernel_rfl) (by kernel_rfl) (by kernel_rfl) (fun _ _ _ h => h) (Or.inr ⟨by rfl, rfl⟩) (by assumption) ?_
            (try simp only [Act.put, List.setIfInBounds_toArray, List.set_cons_zero, List.set_cons_succ])
            refine takeD 21 46 (v := undef) rfl rfl (by kernel_rfl) (by kernel_rfl) (by kernel_rfl) (fun _ _ _ h => h) (Or.inr ⟨by rfl, rfl⟩) (by assumption) ?_
            (try simp only [Act.put, List.setIfInBounds_toArray, List.set_cons_zero, List.set_cons_succ])
            refine takeD 22 47 (v := undef) rfl rfl (by kernel_rfl) (by kernel_rfl) (by kernel_rfl) (fun _ _ _ h => h) (Or.inr ⟨by rfl, rfl⟩) (by assumption) ?_
            (try simp only [Act.put, List.setIfInBounds_toArray, List.set_cons_zero, List.set_cons_succ])
            refine takeD 23 48 (v := undef) rfl rfl (by kernel_rfl) (by kernel_rfl) (by kernel_rfl) (fun _ _ _ h => h) (Or.inr ⟨by rfl, rfl⟩) (by assumption) ?_
            (try simp only [Act.put, List.setIfInBounds_toArray, List.set_cons_zero, List.set_cons_succ])
            refine takeD 24 49 (v := undef) rfl rfl (by kernel_rfl) (by kernel_rfl) (by kernel_rfl) (fun _ _ _ h => h) (Or.inr ⟨by rfl, rfl⟩) (by assumption) ?_
            (try simp only [Act.put, List.setIfInBounds_toArray, List.set_cons_zero, List.set_cons_succ])
            refine takeD 25 50 (v := undef) rfl rfl (by kernel_rfl) (by kernel_rfl) (by kernel_rfl) (fun _ _ _ h => h) (Or.inr ⟨by rfl, rfl⟩) (by assumption) ?_
            (try simp only [Act.put, List.setIfInBounds_toArray, List.set_cons_zero, List.set_cons_succ])
            refine takeD 26 51 (v := undef) rfl rfl (by kernel_rfl) (by kernel_rfl) (by kernel_rfl) (fun _ _ _ h => h) (Or.inr ⟨by rfl, rfl⟩) (by assumption) ?_
            (try simp only [Act.put, List.setIfInBounds_toArray, List.set_cons_zero, List.set_cons_succ])
            refine takeD 27 52 (v := ?_) rfl rfl (by kernel_rfl) (by kernel_rfl) (by kernel_rfl) (fun _ _ _ h => h) (Or.inl ⟨by rfl, ?_⟩) (by assumption) ?_
            rotate_left
            · intro w1 hSw; obtain ⟨hcS, hfS⟩ := bcell hSw; go_simp; (try with_reducible rfl)
            (try simp only [Act.put, List.setIfInBounds_toArray, List.set_cons_zero, List.set_cons_succ])
            refine wpAnyH_done (by kernel_rfl) ?_ _
            have BI := Lib.hid (Below.and hbi.out hq)
            clear hq b0 b1 b2 b3 b4 b5 b6 c0 c1 c2 c3 c4 c5 c6 x4
            go_wp2
            go_roundw
            case rel => exact ⟨q + 1, by omega, by go_num, HNQ, BI⟩
            case measure => simp [intOf]; omega
          rcases e2 : (y.s == x.s) with _ | _
          · have HNQ := Lib.hid (HNX.out (fun e => by have := congrArg Prod.fst e; simp [pl] at this e2; omega))
            go_wp2_with (fail)
            refine wp_region_held_drew (S := fun w1 => Below wr.heap.size wr w1) (by kernel_rfl) ((Below.refl _ _).drew) (fun hq => ?_)
            refine takeD 0 25 (v := ?_) rfl rfl (by kernel_rfl) (by kernel_rfl) (by kernel_rfl) (fun _ _ _ h => h) (Or.inl ⟨by rfl, ?_⟩) (by assumption) ?_
            rotate_left
            · intro w1 hSw; obtain ⟨hcS, hfS⟩ := bcell hSw; go_simp; (try with_reducible rfl)
            (try simp only [Act.put, List.setIfInBounds_toArray, List.set_cons_zero, List.set_cons_succ])
            refine takeD 1 26 (v := ?_) rfl rfl (by kernel_rfl) (by kernel_rfl) (by kernel_rfl) (fun _ _ _ h => h) (Or.inl ⟨by rfl, ?_⟩) (by assumption) ?_
            rotate_left
            · intro w1 hSw; obtain ⟨hcS, hfS⟩ := bcell hSw; go_simp; (try with_reducible rfl)
            (try simp only [Act.put, List.setIfInBounds_toArray, List.set_cons_zero, List.set_cons_succ])
            refine takeD 2 27 (v := ?_) rfl rfl (by kernel_rfl) (by kernel_rfl) (by kernel_rfl) (fun _ _ _ h => h) (Or.inl ⟨by rfl, ?_⟩) (by assumption) ?_
            rotate_left
            · intro w1 hSw; obtain ⟨hcS, hfS⟩ := bcell hSw; go_simp; (try with_reducible rfl)
            (try simp only [Act.put, List.setIfInBounds_toArray, List.set_cons_zero, List.set_cons_succ])
            refine takeD 3 28 (v := ?_) rfl rfl (by kernel_rfl) (by kernel_rfl) (by kernel_rfl) (fun _ _ _ h => h) (Or.inl ⟨by rfl, ?_⟩) (by assumption) ?_
            rotate_left
            · intro w1 hSw; obtain ⟨hcS, hfS⟩ := bcell hSw; go_simp; (try with_reducible rfl)
            (try simp only [Act.put, List.setIfInBounds_toArray, List.set_cons_zero, List.set_cons_succ])
            refine takeD 4 29 (v := ?_) rfl rfl (by kernel_rfl) (by kernel_rfl) (by kernel_rfl) (fun _ _ _ h => h) (Or.inl ⟨by rfl, ?_⟩) (by assumption) ?_
            rotate_left
            · intro w1 hSw; obtain ⟨hcS, hfS⟩ := bcell hSw; go_simp; (try with_reducible rfl)
            (try simp only [Act.put, List.setIfInBounds_toArray, List.set_cons_zero, List.set_cons_succ])
            refine takeD 5 30 (v := ?_) rfl rfl (by kernel_rfl) (by kernel_rfl) (by kernel_rfl) (fun _ _ _ h => h) (Or.inl ⟨by rfl, ?_⟩) (by assumption) ?_
            rotate_left
            · intro w1 hSw; obtain ⟨hcS, hfS⟩ := bcell hSw; go_simp; (try with_reducible rfl)
            (try simp only [Act.put, List.setIfInBounds_toArray, List.set_cons_zero, List.set_cons_succ])
            refine takeD 6 31 (v := ?_) rfl rfl (by kernel_rfl) (by kernel_rfl) (by kernel_rfl) (fun _ _ _ h => h) (Or.inl ⟨by rfl, ?_⟩) (by assumption) ?_
            rotate_left
            · intro w1 hSw; obtain ⟨hcS, hfS⟩ := bcell hSw; go_simp; (try with_reducible rfl)
            (try simp only [Act.put, List.setIfInBounds_toArray, List.set_cons_zero, List.set_cons_succ])
            refine takeD 7 32 (v := ?_) rfl rfl (by kernel_rfl) (by kernel_rfl) (by kernel_rfl) (fun _ _ _ h => h) (Or.inl ⟨by rfl, ?_⟩) (by assumption) ?_
            rotate_left
            · intro w1 hSw; obtain ⟨hcS, hfS⟩ := bcell hSw; go_simp; (try with_reducible rfl)
            (try simp only [Act.put, List.setIfInBounds_toArray, List.set_cons_zero, List.set_cons_succ])
            refine takeD 8 33 (v := ?_) rfl rfl (by kernel_rfl) (by kernel_rfl) (by kernel_rfl) (fun _ _ _ h => h) (Or.inl ⟨by rfl, ?_⟩) (by assumption) ?_
            rotate_left
            · intro w1 hSw; obtain ⟨hcS, hfS⟩ := bcell hSw; go_simp; (try with_reducible rfl)
            (try simp only [Act.put, List.setIfInBounds_toArray, List.set_cons_zero, List.set_cons_succ])
            refine takeD 9 34 (v := ?_) rfl rfl (by kernel_rfl) (by kernel_rfl) (by kernel_rfl) (fun _ _ _ h => h) (Or.inl ⟨by rfl, ?_⟩) (by assumption) ?_
            rotate_left
            · intro w1 hSw; obtain ⟨hcS, hfS⟩ := bcell hSw; go_simp; (try with_reducible rfl)
            (try simp only [Act.put, List.setIfInBounds_toArray, List.set_cons_zero, List.set_cons_succ])
            refine takeD 10 35 (v := ?_) rfl rfl (by kernel_rfl) (by kernel_rfl) (by kernel_rfl) (fun _ _ _ h => h) (Or.inl ⟨by rfl, ?_⟩) (by assumption) ?_
            rotate_left
            · intro w1 hSw; obtain ⟨hcS, hfS⟩ := bcell hSw; go_simp; (try with_reducible rfl)
            (try simp only [Act.put, List.setIfInBounds_toArray, List.set_cons_zero, List.set_cons_succ])
            refine takeD 11 36 (v := ?_) rfl rfl (by kernel_rfl) (by kernel_rfl) (by kernel_rfl) (fun _ _ _ h => h) (Or.inl ⟨by rfl, ?_⟩) (by assumption) ?_
            rotate_left
            · intro w1 hSw; obtain ⟨hcS, hfS⟩ := bcell hSw; go_simp; (try with_reducible rfl)
            (try simp only [Act.put, List.setIfInBounds_toArray, List.set_cons_zero, List.set_cons_succ])
            refine takeD 12 37 (v := ?_) rfl rfl (by kernel_rfl) (by kernel_rfl) (by kernel_rfl) (fun _ _ _ h => h) (Or.inl ⟨by rfl, ?_⟩) (by assumption) ?_
            rotate_left
            · intro w1 hSw; obtain ⟨hcS, hfS⟩ := bcell hSw; go_simp; (try with_reducible rfl)
            (try simp only [Act.put, List.setIfInBounds_toArray, List.set_cons_zero, List.set_cons_succ])
            refine takeD 13 38 (v := ?_) rfl rfl (by kernel_rfl) (by kernel_rfl) (by kernel_rfl) (fun _ _ _ h => h) (Or.inl ⟨by rfl, ?_⟩) (by assumption) ?_
            rotate_left
            · intro w1 hSw; obtain ⟨hcS, hfS⟩ := bcell hSw; go_simp; (try with_reducible rfl)
            (try simp only [Act.put, List.setIfInBounds_toArray, List.set_cons_zero, List.set_cons_succ])
            refine takeD 14 39 (v := ?_) rfl rfl (by kernel_rfl) (by kernel_rfl) (by kernel_rfl) (fun _ _ _ h => h) (Or.inl ⟨by rfl, ?_⟩) (by assumption) ?_
            rotate_left
            · intro w1 hSw; obtain ⟨hcS, hfS⟩ := bcell hSw; go_simp; (try with_reducible rfl)
            (try simp only [Act.put, List.setIfInBounds_toArray, List.set_cons_zero, List.set_cons_succ])
            refine takeD 15 40 (v := ?_) rfl rfl (by kernel_rfl) (by kernel_rfl) (by kernel_rfl) (fun _ _ _ h => h) (Or.inl ⟨by rfl, ?_⟩) (by assumption) ?_
            rotate_left
            · intro w1 hSw; obtain ⟨hcS, hfS⟩ := bcell hSw; go_simp; (try with_reducible rfl)
            (try simp only [Act.put, List.setIfInBounds_toArray, List.set_cons_zero, List.set_cons_succ])
            refine takeD 16 41 (v := ?_) rfl rfl (by kernel_rfl) (by kernel_rfl) (by kernel_rfl) (fun _ _ _ h => h) (Or.inl ⟨by rfl, ?_⟩) (by assumption) ?_
            rotate_left
            · intro w1 hSw; obtain ⟨hcS, hfS⟩ := bcell hSw; go_simp; (try with_reducible rfl)
            (try simp only [Act.put, List.setIfInBounds_toArray, List.set_cons_zero, List.set_cons_succ])
            refine takeD 17 42 (v := ?_) rfl rfl (by kernel_rfl) (by kernel_rfl) (by kernel_rfl) (fun _ _ _ h => h) (Or.inl ⟨by rfl, ?_⟩) (by assumption) ?_
            rotate_left
            · intro w1 hSw; obtain ⟨hcS, hfS⟩ := bcell hSw; go_simp; (try with_reducible rfl)
            (try simp only [Act.put, List.setIfInBounds_toArray, List.set_cons_zero, List.set_cons_succ])
            refine takeD 18 43 (v := ?_) rfl rfl (by kernel_rfl) (by kernel_rfl) (by kernel_rfl) (fun _ _ _ h => h) (Or.inl ⟨by rfl, ?_⟩) (by assumption) ?_
            rotate_left
            · intro w1 hSw; obtain ⟨hcS, hfS⟩ := bcell hSw; go_simp; (try with_reducible rfl)
            (try simp only [Act.put, List.setIfInBounds_toArray, List.set_cons_zero, List.set_cons_succ])
            refine takeD 19 44 (v := ?_) rfl rfl (by kernel_rfl) (by kernel_rfl) (by kernel_rfl) (fun _ _ _ h => h) (Or.inl ⟨by rfl, ?_⟩) (by assumption) ?_
            rotate_left
            · intro w1 hSw; obtain ⟨hcS, hfS⟩ := bcell hSw; go_simp; (try with_reducible rfl)
            (try simp only [Act.put, List.setIfInBounds_toArray, List.set_cons_zero, List.set_cons_succ])
            refine takeD 20 45 (v := ?_) rfl rfl (by kernel_rfl) (by kernel_rfl) (by kernel_rfl) (fun _ _ _ h => h) (Or.inl ⟨by rfl, ?_⟩) (by assumption) ?_
            rotate_left
            · intro w1 hSw; obtain ⟨hcS, hfS⟩ := bcell hSw; go_simp; (try with_reducible rfl)
            (try simp only [Act.put, List.setIfInBounds_toArray, List.set_cons_zero, List.set_cons_succ])
            refine takeD 21 46 (v := ?_) rfl rfl (by kernel_rfl) (by kernel_rfl) (by kernel_rfl) (fun _ _ _ h => h) (Or.inl ⟨by rfl, ?_⟩) (by assumption) ?_
            rotate_left
            · intro w1 hSw; obtain ⟨hcS, hfS⟩ := bcell hSw; go_simp; (try with_reducible rfl)
            (try simp only [Act.put, List.setIfInBounds_toArray, List.set_cons_zero, List.set_cons_succ])
            refine takeD 22 47 (v := ?_) rfl rfl (by kernel_rfl) (by kernel_rfl) (by kernel_rfl) (fun _ _ _ h => h) (Or.inl ⟨by rfl, ?_⟩) (by assumption) ?_
            rotate_left
            · intro w1 hSw; obtain ⟨hcS, hfS⟩ := bcell hSw; go_simp; (try with_reducible rfl)
            (try simp only [Act.put, List.setIfInBounds_toArray, List.set_cons_zero, List.set_cons_succ])
            refine takeD 23 48 (v := ?_) rfl rfl (by kernel_rfl) (by kernel_rfl) (by kernel_rfl) (fun _ _ _ h => h) (Or.inl ⟨by rfl, ?_⟩) (by assumption) ?_
            rotate_left
            · intro w1 hSw; obtain ⟨hcS, hfS⟩ := bcell hSw; go_simp; (try with_reducible rfl)
            (try simp only [Act.put, List.setIfInBounds_toArray, List.set_cons_zero, List.set_cons_succ])
            refine takeD 24 49 (v := ?_) rfl rfl (by kernel_rfl) (by kernel_rfl) (by kernel_rfl) (fun _ _ _ h => h) (Or.inl ⟨by rfl, ?_⟩) (by assumption) ?_
            rotate_left
            · intro w1 hSw; obtain ⟨hcS, hfS⟩ := bcell hSw; go_simp; (try with_reducible rfl)
            (try simp only [Act.put, List.setIfInBounds_toArray, List.set_cons_zero, List.set_cons_succ])
            refine takeD 25 50 (v := ?_) rfl rfl (by kernel_rfl) (by kernel_rfl) (by kernel_rfl) (fun _ _ _ h => h) (Or.inl ⟨by rfl, ?_⟩) (by assumption) ?_
            rotate_left
            · intro w1 hSw; obtain ⟨hcS, hfS⟩ := bcell hSw; go_simp; (try with_reducible rfl)
            (try simp only [Act.put, List.setIfInBounds_toArray, List.set_cons_zero, List.set_cons_succ])
            refine takeD 26 51 (v := ?_) rfl rfl (by kernel_rfl) (by kernel_rfl) (by kernel_rfl) (fun _ _ _ h => h) (Or.inl ⟨by rfl, ?_⟩) (by assumption) ?_
            rotate_left
            · intro w1 hSw; obtain ⟨hcS, hfS⟩ := bcell hSw; go_simp; (try with_reducible rfl)
            (try simp only [Act.put, List.setIfInBounds_toArray, List.set_cons_zero, List.set_cons_succ])
            refine takeD 27 52 (v := ?_) rfl rfl (by kernel_rfl) (by kernel_rfl) (by kernel_rfl) (fun _ _ _ h => h) (Or.inl ⟨by rfl, ?_⟩) (by assumption) ?_
            rotate_left
            · intro w1 hSw; obtain ⟨hcS, hfS⟩ := bcell hSw; go_simp; (try with_reducible rfl)
            (try simp only [Act.put, List.setIfInBounds_toArray, List.set_cons_zero, List.set_cons_succ])
            refine wpAnyH_done (by kernel_rfl) ?_ _
            have BI := Lib.hid (Below.and hbi.out hq)
            clear hq b0 b1 b2 b3 b4 b5 b6 c0 c1 c2 c3 c4 c5 c6 x4
            go_wp2
            go_roundw
            case rel => exact ⟨q + 1, by omega, by go_num, HNQ, BI⟩
            case measure => simp [intOf]; omega
          · have HN := Lib.hid (show RB = false by rw [HE.out, HT.out (HIN.out (by simp only [beq_iff_eq] at e1 e2; simp [pl, e1, e2]))]; rfl)
            go_wp2_with (fail)
            refine wp_region_held_drew (S := fun w1 => Below wr.heap.size wr w1) (by kernel_rfl) ((Below.refl _ _).drew) (fun hq => ?_)
            refine takeD 0 25 (v := ?_) rfl rfl (by kernel_rfl) (by kernel_rfl) (by kernel_rfl) (fun _ _ _ h => h) (Or.inl ⟨by rfl, ?_⟩) (by assumption) ?_
            rotate_left
            · intro w1 hSw; obtain ⟨hcS, hfS⟩ := bcell hSw; go_simp; (try with_reducible rfl)
            (try simp only [Act.put, List.setIfInBounds_toArray, List.set_cons_zero, List.set_cons_succ])
            refine takeD 1 26 (v := ?_) rfl rfl (by kernel_rfl) (by kernel_rfl) (by kernel_rfl) (fun _ _ _ h => h) (Or.inl ⟨by rfl, ?_⟩) (by assumption) ?_
            rotate_left
            · intro w1 hSw; obtain ⟨hcS, hfS⟩ := bcell hSw; go_simp; (try with_reducible rfl)
            (try simp only [Act.put, List.setIfInBounds_toArray, List.set_cons_zero, List.set_cons_succ])
            refine takeD 2 27 (v := ?_) rfl rfl (by kernel_rfl) (by kernel_rfl) (by kernel_rfl) (fun _ _ _ h => h) (Or.inl ⟨by rfl, ?_⟩) (by assumption) ?_
            rotate_left
            · intro w1 hSw; obtain ⟨hcS, hfS⟩ := bcell hSw; go_simp; (try with_reducible rfl)
            (try simp only [Act.put, List.setIfInBounds_toArray, List.set_cons_zero, List.set_cons_succ])
            refine takeD 3 28 (v := ?_) rfl rfl (by kernel_rfl) (by kernel_rfl) (by kernel_rfl) (fun _ _ _ h => h) (Or.inl ⟨by rfl, ?_⟩) (by assumption) ?_
            rotate_left
            · intro w1 hSw; obtain ⟨hcS, hfS⟩ := bcell hSw; go_simp; (try with_reducible rfl)
            (try simp only [Act.put, List.setIfInBounds_toArray, List.set_cons_zero, List.set_cons_succ])
            refine takeD 4 29 (v := ?_) rfl rfl (by kernel_rfl) (by kernel_rfl) (by kernel_rfl) (fun _ _ _ h => h) (Or.inl ⟨by rfl, ?_⟩) (by assumption) ?_
            rotate_left
            · intro w1 hSw; obtain ⟨hcS, hfS⟩ := bcell hSw; go_simp; (try with_reducible rfl)
            (try simp only [Act.put, List.setIfInBounds_toArray, List.set_cons_zero, List.set_cons_succ])
            refine takeD 5 30 (v := ?_) rfl rfl (by kernel_rfl) (by kernel_rfl) (by kernel_rfl) (fun _ _ _ h => h) (Or.inl ⟨by rfl, ?_⟩) (by assumption) ?_
            rotate_left
            · intro w1 hSw; obtain ⟨hcS, hfS⟩ := bcell hSw; go_simp; (try with_reducible rfl)
            (try simp only [Act.put, List.setIfInBounds_toArray, List.set_cons_zero, List.set_cons_succ])
            refine takeD 6 31 (v := ?_) rfl rfl (by kernel_rfl) (by kernel_rfl) (by kernel_rfl) (fun _ _ _ h => h) (Or.inl ⟨by rfl, ?_⟩) (by assumption) ?_
            rotate_left
            · intro w1 hSw; obtain ⟨hcS, hfS⟩ := bcell hSw; go_simp; (try with_reducible rfl)
            (try simp only [Act.put, List.setIfInBounds_toArray, List.set_cons_zero, List.set_cons_succ])
            refine takeD 7 32 (v := ?_) rfl rfl (by kernel_rfl) (by kernel_rfl) (by kernel_rfl) (fun _ _ _ h => h) (Or.inl ⟨by rfl, ?_⟩) (by assumption) ?_
            rotate_left
            · intro w1 hSw; obtain ⟨hcS, hfS⟩ := bcell hSw; go_simp; (try with_reducible rfl)
            (try simp only [Act.put, List.setIfInBounds_toArray, List.set_cons_zero, List.set_cons_succ])
            refine takeD 8 33 (v := ?_) rfl rfl (by kernel_rfl) (by kernel_rfl) (by kernel_rfl) (fun _ _ _ h => h) (Or.inl ⟨by rfl, ?_⟩) (by assumption) ?_
            rotate_left
            · intro w1 hSw; obtain ⟨hcS, hfS⟩ := bcell hSw; go_simp; (try with_reducible rfl)
            (try simp only [Act.put, List.setIfInBounds_toArray, List.set_cons_zero, List.set_cons_succ])
            refine takeD 9 34 (v := ?_) rfl rfl (by kernel_rfl) (by kernel_rfl) (by kernel_rfl) (fun _ _ _ h => h) (Or.inl ⟨by rfl, ?_⟩) (by assumption) ?_
            rotate_left
            · intro w1 hSw; obtain ⟨hcS, hfS⟩ := bcell hSw; go_simp; (try with_reducible rfl)
            (try simp only [Act.put, List.setIfInBounds_toArray, List.set_cons_zero, List.set_cons_succ])
            refine takeD 10 35 (v := ?_) rfl rfl (by kernel_rfl) (by kernel_rfl) (by kernel_rfl) (fun _ _ _ h => h) (Or.inl ⟨by rfl, ?_⟩) (by assumption) ?_
            rotate_left
            · intro w1 hSw; obtain ⟨hcS, hfS⟩ := bcell hSw; go_simp; (try with_reducible rfl)
            (try simp only [Act.put, List.setIfInBounds_toArray, List.set_cons_zero, List.set_cons_succ])
            refine takeD 11 36 (v := ?_) rfl rfl (by kernel_rfl) (by kernel_rfl) (by kernel_rfl) (fun _ _ _ h => h) (Or.inl ⟨by rfl, ?_⟩) (by assumption) ?_
            rotate_left
            · intro w1 hSw; obtain ⟨hcS, hfS⟩ := bcell hSw; go_simp; (try with_reducible rfl)
            (try simp only [Act.put, List.setIfInBounds_toArray, List.set_cons_zero, List.set_cons_succ])
            refine takeD 12 37 (v := ?_) rfl rfl (by kernel_rfl) (by kernel_rfl) (by kernel_rfl) (fun _ _ _ h => h) (Or.inl ⟨by rfl, ?_⟩) (by assumption) ?_
            rotate_left
            · intro w1 hSw; obtain ⟨hcS, hfS⟩ := bcell hSw; go_simp; (try with_reducible rfl)
            (try simp only [Act.put, List.setIfInBounds_toArray, List.set_cons_zero, List.set_cons_succ])
            refine takeD 13 38 (v := ?_) rfl rfl (by kernel_rfl) (by kernel_rfl) (by kernel_rfl) (fun _ _ _ h => h) (Or.inl ⟨by rfl, ?_⟩) (by assumption) ?_
            rotate_left
            · intro w1 hSw; obtain ⟨hcS, hfS⟩ := bcell hSw; go_simp; (try with_reducible rfl)
            (try simp only [Act.put, List.setIfInBounds_toArray, List.set_cons_zero, List.set_cons_succ])
            refine takeD 14 39 (v := ?_) rfl rfl (by kernel_rfl) (by kernel_rfl) (by kernel_rfl) (fun _ _ _ h => h) (Or.inl ⟨by rfl, ?_⟩) (by assumption) ?_
            rotate_left
            · intro w1 hSw; obtain ⟨hcS, hfS⟩ := bcell hSw; go_simp; (try with_reducible rfl)
            (try simp only [Act.put, List.setIfInBounds_toArray, List.set_cons_zero, List.set_cons_succ])
            refine takeD 15 40 (v := ?_) rfl rfl (by kernel_rfl) (by kernel_rfl) (by kernel_rfl) (fun _ _ _ h => h) (Or.inl ⟨by rfl, ?_⟩) (by assumption) ?_
            rotate_left
            · intro w1 hSw; obtain ⟨hcS, hfS⟩ := bcell hSw; go_simp; (try with_reducible rfl)
            (try simp only [Act.put, List.setIfInBounds_toArray, List.set_cons_zero, List.set_cons_succ])
            refine takeD 16 41 (v := ?_) rfl rfl (by kernel_rfl) (by kernel_rfl) (by kernel_rfl) (fun _ _ _ h => h) (Or.inl ⟨by rfl, ?_⟩) (by assumption) ?_
            rotate_left
            · intro w1 hSw; obtain ⟨hcS, hfS⟩ := bcell hSw; go_simp; (try with_reducible rfl)
            (try simp only [Act.put, List.setIfInBounds_toArray, List.set_cons_zero, List.set_cons_succ])
            refine takeD 17 42 (v := ?_) rfl rfl (by kernel_rfl) (by kernel_rfl) (by kernel_rfl) (fun _ _ _ h => h) (Or.inl ⟨by rfl, ?_⟩) (by assumption) ?_
            rotate_left
            · intro w1 hSw; obtain ⟨hcS, hfS⟩ := bcell hSw; go_simp; (try with_reducible rfl)
            (try simp only [Act.put, List.setIfInBounds_toArray, List.set_cons_zero, List.set_cons_succ])
            refine takeD 18 43 (v := ?_) rfl rfl (by kernel_rfl) (by kernel_rfl) (by kernel_rfl) (fun _ _ _ h => h) (Or.inl ⟨by rfl, ?_⟩) (by assumption) ?_
            rotate_left
            · intro w1 hSw; obtain ⟨hcS, hfS⟩ := bcell hSw; go_simp; (try with_reducible rfl)
            (try simp only [Act.put, List.setIfInBounds_toArray, List.set_cons_zero, List.set_cons_succ])
            refine takeD 19 44 (v := ?_) rfl rfl (by kernel_rfl) (by kernel_rfl) (by kernel_rfl) (fun _ _ _ h => h) (Or.inl ⟨by rfl, ?_⟩) (by assumption) ?_
            rotate_left
            · intro w1 hSw; obtain ⟨hcS, hfS⟩ := bcell hSw; go_simp; (try with_reducible rfl)
            (try simp only [Act.put, List.setIfInBounds_toArray, List.set_cons_zero, List.set_cons_succ])
            refine takeD 20 45 (v := ?_) rfl rfl (by kernel_rfl) (by kernel_rfl) (by kernel_rfl) (fun _ _ _ h => h) (Or.inl ⟨by rfl, ?_⟩) (by assumption) ?_
            rotate_left
            · intro w1 hSw; obtain ⟨hcS, hfS⟩ := bcell hSw; go_simp; (try with_reducible rfl)
            (try simp only [Act.put, List.setIfInBounds_toArray, List.set_cons_zero, List.set_cons_succ])
            refine takeD 21 46 (v := ?_) rfl rfl (by kernel_rfl) (by kernel_rfl) (by kernel_rfl) (fun _ _ _ h => h) (Or.inl ⟨by rfl, ?_⟩) (by assumption) ?_
            rotate_left
            · intro w1 hSw; obtain ⟨hcS, hfS⟩ := bcell hSw; go_simp; (try with_reducible rfl)
            (try simp only [Act.put, List.setIfInBounds_toArray, List.set_cons_zero, List.set_cons_succ])
            refine takeD 22 47 (v := ?_) rfl rfl (by kernel_rfl) (by kernel_rfl) (by kernel_rfl) (fun _ _ _ h => h) (Or.inl ⟨by rfl, ?_⟩) (by assumption) ?_
            rotate_left
            · intro w1 hSw; obtain ⟨hcS, hfS⟩ := bcell hSw; go_simp; (try with_reducible rfl)
            (try simp only [Act.put, List.setIfInBounds_toArray, List.set_cons_zero, List.set_cons_succ])
            refine takeD 23 48 (v := ?_) rfl rfl (by kernel_rfl) (by kernel_rfl) (by kernel_rfl) (fun _ _ _ h => h) (Or.inl ⟨by rfl, ?_⟩) (by assumption) ?_
            rotate_left
            · intro w1 hSw; obtain ⟨hcS, hfS⟩ := bcell hSw; go_simp; (try with_reducible rfl)
            (try simp only [Act.put, List.setIfInBounds_toArray, List.set_cons_zero, List.set_cons_succ])
            refine takeD 24 49 (v := ?_) rfl rfl (by kernel_rfl) (by kernel_rfl) (by kernel_rfl) (fun _ _ _ h => h) (Or.inl ⟨by rfl, ?_⟩) (by assumption) ?_
            rotate_left
            · intro w1 hSw; obtain ⟨hcS, hfS⟩ := bcell hSw; go_simp; (try with_reducible rfl)
            (try simp only [Act.put, List.setIfInBounds_toArray, List.set_cons_zero, List.set_cons_succ])
            refine takeD 25 50 (v := ?_) rfl rfl (by kernel_rfl) (by kernel_rfl) (by kernel_rfl) (fun _ _ _ h => h) (Or.inl ⟨by rfl, ?_⟩) (by assumption) ?_
            rotate_left
            · intro w1 hSw; obtain ⟨hcS, hfS⟩ := bcell hSw; go_simp; (try with_reducible rfl)
            (try simp only [Act.put, List.setIfInBounds_toArray, List.set_cons_zero, List.set_cons_succ])
            refine takeD 26 51 (v := ?_) rfl rfl (by kernel_rfl) (by kernel_rfl) (by kernel_rfl) (fun _ _ _ h => h) (Or.inl ⟨by rfl, ?_⟩) (by assumption) ?_
            rotate_left
            · intro w1 hSw; obtain ⟨hcS, hfS⟩ := bcell hSw; go_simp; (try with_reducible rfl)
            (try simp only [Act.put, List.setIfInBounds_toArray, List.set_cons_zero, List.set_cons_succ])
            refine takeD 27 52 (v := ?_) rfl rfl (by kernel_rfl) (by kernel_rfl) (by kernel_rfl) (fun _ _ _ h => h) (Or.inl ⟨by rfl, ?_⟩) (by assumption) ?_
            rotate_left
            · intro w1 hSw; obtain ⟨hcS, hfS⟩ := bcell hSw; go_simp; (try with_reducible rfl)
            (try simp only [Act.put, List.setIfInBounds_toArray, List.set_cons_zero, List.set_cons_succ])
            refine wpAnyH_done (by kernel_rfl) ?_ _
            have BI := Lib.hid (Below.and BWI.out hq)
            go_wp2
            go_light
            go_ret
            exact ⟨ret_bool HN.out.symm, BI.out⟩
        · obtain rfl : q = k := by omega
          have HN := Lib.hid (HX.out HC.out hn.out)
          go_wp2
          go_roundw
          case rel => exact ⟨q + 1, by omega, by go_num, HN, K2, BWI⟩
          case measure => simp [intOf]; omega
    · obtain rfl : k = tk.length := by omega
      have ht1 := ht.out
      rw [List.take_length] at ht1
      have HE := Lib.hid (show RB = (hdB hd && (inB me 0 3 && (inB v 0 6 && (inB nx 1 6 && (clsB 0 dn && (decide (tk.length ≤ 40) && decide (hd.length ≤ 120))))))) by rw [HE.out, show tkB tk = true from decide_eq_true ht1]; rfl)
      clear ht1 ht RT
      have x4 : wr.cell? ⟨w.heap.size, 4, none⟩ = some (.slice TA tk.length ta) := K0.out.cell 4
      go_wp2
      clear x4 hlt hk
      go_loopw [5] (fun i wi => ∃ k : Nat, k ≤ hd.length ∧ i = .int .i64 k ∧ Hid (hdB hd = hdB (hd.drop k)) ∧ Hid (Below wr.heap.size wr wi)) (fun i _ => hd.length - (intOf i).toNat)
      case atStart => exact ⟨0, Nat.zero_le _, rfl, by simp [Hid], Below.refl _ _⟩
      case round =>
        obtain ⟨k, hk, rfl, ht, hbi⟩ := hrel
        have BW := Lib.hid (Below.and hb.out hbi.out)
        have K2 := Lib.hid (K0.out.below hbi.out)
        have l2 := K2.out.lt
        by_cases hlt : k < hd.length
        · have x5 : wr.cell? ⟨w.heap.size, 5, none⟩ = some (.slice HA hd.length ha) := K2.out.cell 5
          obtain ⟨g, o, rfl, ca⟩ := Rd.below RH.out.1 BW.out k hlt
          have rx := (RH.out.2 hd[k] (List.getElem_mem hlt)).below BW.out
          have HSX := HS.out hd[k] (List.getElem_mem hlt)
          have HD := Lib.hid (ht.out.trans (hdB_step hlt))
          clear ht
          generalize hd[k] = x at ca rx HD HSX
          obtain ⟨s1, s2⟩ := HSX
          have a0 : wr.cell? ⟨g, o + k * 11, none⟩ = some (.int .i64 x.k) := ca 0 _ rfl
          have a1 : wr.cell? ⟨g, o + k * 11 + 1, none⟩ = some (.int .i64 x.f) := ca 1 _ rfl
          have a2 : wr.cell? ⟨g, o + k * 11 + 2, none⟩ = some (.int .i64 x.v) := ca 2 _ rfl
          have a3 : wr.cell? ⟨g, o + k * 11 + 3, none⟩ = some (.int .i64 x.s) := ca 3 _ rfl
          have a4 : wr.cell? ⟨g, o + k * 11 + 4, none⟩ = some (.int .i64 x.r.c) := ca 4 _ rfl
          have a5 : wr.cell? ⟨g, o + k * 11 + 5, none⟩ = some (.int .i64 x.r.n) := ca 5 _ rfl
          have a6 : wr.cell? ⟨g, o + k * 11 + 6, none⟩ = some (.int .i64 x.r.o) := ca 6 _ rfl
          have a7 : wr.cell? ⟨g, o + k * 11 + 7, none⟩ = some (.int .i64 x.r.x) := ca 7 _ rfl
          have a8 : wr.cell? ⟨g, o + k * 11 + 8, none⟩ = some (.int .i64 x.r.y) := ca 8 _ rfl
          have a9 : wr.cell? ⟨g, o + k * 11 + 9, none⟩ = some (.slice x.A x.cl.length x.a) := ca 9 _ rfl
          have a10 : wr.cell? ⟨g, o + k * 11 + 10, none⟩ = some (.slice x.B x.vt.length x.b) := ca 10 _ rfl
          clear ca
          have RX := Lib.hid rx
          have hg : g < wr.heap.size := by have := World.block_lt_of_cell? wr _ a0; simpa using this
          clear rx
          have i0 : (0 : Int) ≤ (k : Int) := by omega
          have i1 : (k : Int) < (hd.length : Int) := by omega
          go_wp2_with (fail)
          refine (l3Ok x _ s1 s2 RX.out).mono ?_
          rintro e w1 ⟨rfl, h1⟩
          have BB := Lib.hid (Below.and BW.out h1)
          have BI := Lib.hid (Below.and hbi.out h1)
          have y0 : w1.cell? ⟨g, o + k * 11, none⟩ = some (.int .i64 x.k) := cell_kept h1 a0
          have y5 : w1.cell? ⟨w.heap.size, 5, none⟩ = some (.slice (some ⟨g, o, none⟩) hd.length ha) := cell_kept h1 x5
          clear h1 x5 a0 a1 a2 a3 a4 a5 a6 a7 a8 a9 a10 RX
          rcases h2 : okP x with _ | _
          · have HN := Lib.hid (show RB = false by rw [HE.out, HD.out, h2]; simp)
            go_wp2
            go_light
            go_ret
            exact ⟨ret_bool HN.out.symm, BB.out⟩
          rcases h3 : inB x.k 3 5 with _ | _
          · have HN := Lib.hid (show RB = false by rw [HE.out, HD.out, h3]; simp)
            go_wp2_with (go_at_call 26; refine (specIn _ _ _ _).mono ?_; rintro e w' ⟨rfl, rfl⟩; rw [h3])
            go_light
            go_ret
            exact ⟨ret_bool HN.out.symm, BB.out⟩
          · have HN := Lib.hid (show hdB hd = hdB (hd.drop (k + 1)) by rw [HD.out, h2, h3]; rfl)
            clear h2
            go_wp2_with (go_at_call 26; refine (specIn _ _ _ _).mono ?_; rintro e w' ⟨rfl, rfl⟩; rw [h3])
            go_roundw
            case rel => exact ⟨k + 1, by omega, by go_num, HN, BI⟩
            case measure => simp [intOf]; omega
        · have HE := Lib.hid (show RB = (inB me 0 3 && (inB v 0 6 && (inB nx 1 6 && (clsB 0 dn && (decide (tk.length ≤ 40) && decide (hd.length ≤ 120)))))) by rw [HE.out, ht.out, List.drop_of_length_le (by omega)]; rfl)
          clear ht HS
          have x0 : wr.cell? ⟨w.heap.size, 0, none⟩ = some (.int .i64 me) := K2.out.cell 0
          have x1 : wr.cell? ⟨w.heap.size, 1, none⟩ = some (.int .i64 v) := K2.out.cell 1
          have x3 : wr.cell? ⟨w.heap.size, 3, none⟩ = some (.int .i64 nx) := K2.out.cell 3
          have x5 : wr.cell? ⟨w.heap.size, 5, none⟩ = some (.slice HA hd.length ha) := K2.out.cell 5
          have x6 : wr.cell? ⟨w.heap.size, 6, none⟩ = some (.slice DA dn.length da) := K2.out.cell 6
          rcases ha : inB me 0 3 with _ | _
          · have HN := Lib.hid (show RB = false by rw [HE.out, ha]; simp)
            go_wp2_with (go_at_call 26; refine (specIn _ _ _ _).mono ?_; rintro e w' ⟨rfl, rfl⟩; first | rw [ha] | rw [hb] | rw [hc])
            go_light
            go_ret
            exact ⟨ret_bool (HN.out.symm), BW.out⟩
          rcases hb : inB v 0 6 with _ | _
          · have HN := Lib.hid (show RB = false by rw [HE.out, hb]; simp)
            go_wp2_with (go_at_call 26; refine (specIn _ _ _ _).mono ?_; rintro e w' ⟨rfl, rfl⟩; first | rw [ha] | rw [hb] | rw [hc])
            go_light
            go_ret
            exact ⟨ret_bool (HN.out.symm), BW.out⟩
          rcases hc : inB nx 1 6 with _ | _
          · have HN := Lib.hid (show RB = false by rw [HE.out, hc]; simp)
            go_wp2_with (go_at_call 26; refine (specIn _ _ _ _).mono ?_; rintro e w' ⟨rfl, rfl⟩; first | rw [ha] | rw [hb] | rw [hc])
            go_light
            go_ret
            exact ⟨ret_bool (HN.out.symm), BW.out⟩
          have HE := Lib.hid (show RB = (clsB 0 dn && (decide (tk.length ≤ 40) && decide (hd.length ≤ 120))) by rw [HE.out, ha, hb, hc]; rfl)
          go_wp2_with (go_at_call 26; refine (specIn _ _ _ _).mono ?_; rintro e w' ⟨rfl, rfl⟩; first | rw [ha] | rw [hb] | rw [hc])
          refine (l3ClaimsOk DA da dn _ n3 (RN.out.below BW.out)).mono ?_
          rintro e w1 ⟨rfl, h1⟩
          have BB := Lib.hid (Below.and BW.out h1)
          have K3 := Lib.hid (K2.out.below h1)
          clear h1 x0 x1 x3 x5 x6 ha hb hc
          have x4 : w1.cell? ⟨w.heap.size, 4, none⟩ = some (.slice TA tk.length ta) := K3.out.cell 4
          have x5 : w1.cell? ⟨w.heap.size, 5, none⟩ = some (.slice HA hd.length ha) := K3.out.cell 5
          rcases h2 : clsB 0 dn with _ | _
          · have HN := Lib.hid (show RB = false by rw [HE.out, h2]; simp)
            go_wp2
            go_light
            go_ret
            exact ⟨ret_bool (HN.out.symm), BB.out⟩
          have HE := Lib.hid (show RB = (decide (tk.length ≤ 40) && decide (hd.length ≤ 120)) by rw [HE.out, h2]; rfl)
          clear h2
          by_cases h40 : tk.length ≤ 40
          · have e40 : decide ((tk.length : Int) ≤ 40) = true := by simp; omega
            have HE := Lib.hid (show RB = decide (hd.length ≤ 120) by rw [HE.out, decide_eq_true h40]; rfl)
            by_cases h120 : hd.length ≤ 120
            · have e120 : decide ((hd.length : Int) ≤ 120) = true := by simp; omega
              have HN := Lib.hid (show RB = true by rw [HE.out]; exact decide_eq_true h120)
              go_wp2
              go_light
              go_ret
              exact ⟨ret_bool (HN.out.symm), BB.out⟩
            · have e120 : decide ((hd.length : Int) ≤ 120) = false := by simp; omega
              have HN := Lib.hid (show RB = false by rw [HE.out]; exact decide_eq_false h120)
              go_wp2
              go_light
              go_ret
              exact ⟨ret_bool (HN.out.symm), BB.out⟩
          · have e40 : decide ((tk.length : Int) ≤ 40) = false := by simp; omega
            have HN := Lib.hid (show RB = false by rw [HE.out, decide_eq_false h40]; rfl)
            go_wp2
            go_light
            go_ret
            exact ⟨ret_bool (HN.out.symm), BB.out⟩

end Go.Proofs.Ytfelhnchnaggmaa
