/- Gfe, Gff -/
import Derived.Test.YtagjkngiijmokaaMQ
import Derived.Test.YtagjkngiijmokaaMC
/- Requests that came in; marks over requests; the exact law of GameFold, walked. -/
namespace Go.Proofs.Ytagjkngiijmokaa
open Go.ChangeShapes Go.WideShapes Go.ChangeAt Go.RowKit
set_option linter.unusedVariables false
set_option linter.unusedSimpArgs false

section
variable {H : Type} {enc : TypeId × Value → H} {w : World} {base : Nat} {spare : Nat → Bool} {held : Bool}

/-- A slice of structs that came in. -/
theorem in_rowsG {P : Program} {α : Type} {f : α → List Value} {Q : α → Prop} {k : Nat} {t e : TypeId} {fuel : Nat} {cs : List Value} {x : DataW H × List MemPlace} (ht : P.underlying t = some (.slice e)) (hC : P.cellsOf e = k)
 (hk : 0 < k) (hf : ∀ p, (f p).length = k) (hq : ∀ (n : Nat) (cl : List Value) (y : DataW H × List MemPlace), cl.length = k → DataW.trod enc P w base spare held n e cl = some y → ∃ p, cl = f p ∧ Q p)
 (h : DataW.trod enc P w base spare held fuel t cs = some x) : ∃ (A : Option Addr) (c : Nat) (l : List α), cs = [.slice A l.length c] ∧ l.length ≤ maxLen ∧ l.length ≤ c ∧ Rd k f w A l ∧ ∀ p ∈ l, Q p := by
 rcases Go.Deep.open_slice ht h with ⟨rfl, _⟩ | ⟨a, len, cap, m, n, D, Pl, rfl, _, hl, hm, hmm, _, hi⟩
 · exact ⟨none, 0, [], rfl, Nat.zero_le _, Nat.zero_le _, fun i hi => absurd hi (by simp), fun p hp => by cases hp⟩
 · have hml : len ≤ m := by rw [hmm]; split <;> omega
   have each : ∀ i, i < len → ∃ p : α, Q p ∧ ∀ (j : Nat) (u : Value), (f p)[j]? = some u → w.cell? (a.add (i * k + j)) = some u := by
    intro i hilt
    obtain ⟨cs', hcs, htr⟩ := hi i (by omega)
    rw [hC] at hcs
    obtain ⟨_, hlen, hat⟩ := World.cells?_some hcs
    obtain ⟨p, rfl, hp⟩ := hq _ _ _ hlen htr
    refine ⟨p, hp, fun j u hu => ?_⟩
    have hj : j < k := by have := (List.getElem?_eq_some_iff.1 hu).1; rw [hf] at this; exact this
    have := hat j hj
    rw [Go.Deep.add_add] at this
    rw [this]
    exact hu
   have hc0 : 0 < len → a = ⟨a.block, a.off, none⟩ := by
    intro h0
    obtain ⟨p, _, hp⟩ := each 0 h0
    have h1 : (f p)[0]? = some ((f p)[0]'(by rw [hf]; exact hk)) := List.getElem?_eq_getElem _
    have := hp 0 _ h1
    rw [show a.add (0 * k + 0) = a from by simp [Addr.add]] at this
    exact addr_of this
   obtain ⟨E, hE, hat⟩ := pick_list len each
   refine ⟨some a, cap, E, by rw [hE], by omega, by omega, fun i hi' => ?_, fun p hp => ?_⟩
   · have ha := hc0 (by omega)
     refine ⟨a.block, a.off, by rw [← ha], fun j u hu => ?_⟩
     have := (hat i hi').2 j u hu
     rw [ha, add_eq] at this
     rw [Nat.add_assoc]
     exact this
   · obtain ⟨i, hi', rfl⟩ := List.getElem_of_mem hp
     exact (hat i hi').1

set_option maxRecDepth 100000 in
theorem cells_reqG {n : Nat} {cl : List Value} {y : DataW H × List MemPlace} (hl : cl.length = 5) (h : DataW.trod enc Try.prog w base spare held n 41 cl = some y) : ∃ r : Rq, cl = r.cells := by
 obtain ⟨l, rfl⟩ := ints_of_cells Try.underlying41 (by kernel_rfl) (by rw [hl]; kernel_rfl) (by kernel_rfl) h
 obtain ⟨a, b, c, d, e, rfl⟩ := five_of l (by simpa using hl)
 exact ⟨⟨a, b, c, d, e⟩, rfl⟩

set_option maxRecDepth 100000 in
theorem reqs_in {r : Reach} {b0 : Nat} {v : Value} {d : DataW H} {p : List MemPlace} (hv : Value.okWide Try.prog w r b0 47 v) (h : DataW.Trod enc Try.prog w base spare held 47 v d p) :
 ∃ (A : Option Addr) (c : Nat) (l : List Rq), v = .slice A l.length c ∧ l.length ≤ maxLen ∧ l.length ≤ c ∧ Rd 5 Rq.cells w A l := by
 obtain ⟨a0, len, cap, rfl⟩ := okWide_slice Try.underlying47 hv
 obtain ⟨fuel, hf⟩ := h
 obtain ⟨A, c, l, h1, h2, h3, h4, _⟩ := in_rowsG (f := Rq.cells) (Q := fun _ => True) (k := 5) Try.underlying47 (by kernel_rfl) (by omega) (fun _ => rfl) (fun n cl y hl h => by
  obtain ⟨r, hr⟩ := cells_reqG hl h
  exact ⟨r, hr, trivial⟩) hf
 exact ⟨A, c, l, by simpa [Value.cells] using h1, h2, h3, h4⟩
end

set_option maxRecDepth 100000 in
set_option maxHeartbeats 1000000 in
theorem markReqG (base : Nat) (A : Option Addr) (c n : Nat) (xs : List Value) (k : Int) (w : World) (h0 : 0 ≤ k) (h1 : k + 5 * n ≤ 4611686018427387904) (hn : n ≤ maxLen) (hown : w.ownsRow base 35 5 (.slice A n c) n xs) :
 Calls Try.prog 24 #[.slice A n c, .int .i64 k] w fun e w' => e = .returned (.int .i64 (k + 5 * n)) ∧ w'.ownsRow base 35 5 (.slice A n c) n (ints (marks k (n * 5))) ∧ w.grownBy w' (Value.slice A n c).ownBlock := by
 unfold maxLen at hn
 have HO := Lib.hid hown
 have hxl : n * 5 = xs.length := by have := hown.1; omega
 have HX := Lib.hid hxl
 clear hown hxl
 go_enter Try.func24, Try.ntmps24
 go_wp2
 go_loopw [1, 5] (fun kk i wr => ∃ j : Nat, j ≤ n ∧ i = .int .i64 j ∧ kk = .int .i64 (k + 5 * j) ∧ Hid (wr.ownsRow base 35 5 (.slice A n c) n (ints (marks k (j * 5)) ++ xs.drop (j * 5))) ∧ Hid (w.grownBy wr (Value.slice A n c).ownBlock)) (fun _ i _ => n - (intOf i).toNat)
 case atStart => exact ⟨0, Nat.zero_le _, rfl, by simp, by simpa [Hid, marks] using HO.out, World.grownBy.refl _ _⟩
 case round =>
  obtain ⟨j, hj, rfl, rfl, ho, hg⟩ := hrel
  by_cases hlt : j < n
  · obtain ⟨g, rfl, hb, _⟩ := own_some ho.out (by omega)
    have hf := fun p => ho.out.frozenAt p
    have hc : ∀ p, p < 5 → ∃ u, wr.cell? ⟨g, j * 5 + p, none⟩ = some u := fun p hp => ⟨_, (ho.out.cellAt (j * 5 + p) (by omega)).trans (List.getElem?_eq_getElem (by have := HX.out; simp; omega))⟩
    obtain ⟨u0, hu0⟩ := hc 0 (by omega)
    obtain ⟨u1, hu1⟩ := hc 1 (by omega)
    obtain ⟨u2, hu2⟩ := hc 2 (by omega)
    obtain ⟨u3, hu3⟩ := hc 3 (by omega)
    obtain ⟨u4, hu4⟩ := hc 4 (by omega)
    rw [Nat.add_zero] at hu0
    clear hc
    have i0 : (0 : Int) ≤ (j : Int) := by omega
    have i1 : (j : Int) < (n : Int) := by omega
    obtain ⟨m1, m2⟩ := mark5 (k := k) (xs := xs) j hlt HX.out ho.out
    have M1 := Lib.hid m1
    have M2 := Lib.hid (grownBy_trans hg.out m2)
    clear m1 m2
    go_wp2
    go_roundw
    case rel => exact ⟨j + 1, by omega, by go_num, by go_num, M1.out, M2.out⟩
    case measure => simp [intOf]; omega
  · have hz : j = n := by omega
    have HZ := Lib.hid hz
    clear hz
    go_wp2
    go_ret
    have := ho.out
    rw [HZ.out] at this ⊢
    rw [List.drop_of_length_le (by have := HX.out; omega), List.append_nil] at this
    exact ⟨rfl, this, hg.out⟩


end Go.Proofs.Ytagjkngiijmokaa

/- The exact law of GameFold, walked. -/
namespace Go.Proofs.Ytagjkngiijmokaa
open Go.ChangeShapes Go.WideShapes Go.ChangeAt Go.RowKit
set_option linter.unusedVariables false
set_option linter.unusedSimpArgs false

theorem foldR_len (P : List Rq) : (foldR P).1.length ≤ 4 ∧ (foldR P).2.1.length ≤ 16 ∧ (foldR P).2.2.length ≤ 4 := by
 unfold foldR
 split
 · rename_i h
   have := okG_of (foldG_ok P g0 g0_ok (List.all_eq_true.1 h.1))
   exact ⟨this.e.len, Nat.le_of_eq this.f, Nat.le_of_eq this.l⟩
 · simp

set_option maxRecDepth 100000 in
set_option maxHeartbeats 8000000 in
theorem exactFold (A : Option Addr) (c : Nat) (P : List Rq) (w : World) (hm : P.length ≤ maxLen) (hc : P.length ≤ c) (hr : Rd 5 Rq.cells w A P) (E1 : List Fig) (F1 L1 : List Int) (hX : (E1, F1, L1) = foldR P) :
 Calls Try.prog 5 #[.slice A P.length c] w fun e w' => e = .returned (.bool true) ∧ Below w.heap.size w w' := by
 have H1 := Lib.hid hr
 have Z : Hid (Below w.heap.size w w) := Below.refl _ _
 clear hr
 go_enter Try.func5, Try.ntmps5
 go_wp2_with (fail)
 refine (szReqS A P.length c 1048576 w hm (by omega) (by omega)).mono ?_
 rintro e w1 ⟨rfl, rfl⟩
 by_cases hsz : (1048576 : Int) - (P.length : Int) < 0
 · rw [if_pos hsz]
   go_wp2
   go_light
   go_ret
   exact ⟨rfl, Z.out⟩
 rw [if_neg hsz]
 have d0 : decide ((1048576 : Int) - (P.length : Int) < 0) = false := by simpa using hsz
 have hl := foldR_len P
 rw [← hX] at hl
 have HE1 : Hid (E1.length ≤ 4) := hl.1
 have HF1 : Hid (F1.length ≤ 16) := hl.2.1
 have HL1 : Hid (L1.length ≤ 4) := hl.2.2
 have HS : Hid (∀ (wx : World) (A' : Option Addr) (a' : Nat), P.length ≤ a' → Rd 5 Rq.cells wx A' P → Calls Try.prog 9 #[.slice A' P.length a'] wx
  fun e w' => ∃ A' a' B' b' C' d', e = .returned (gameV A' E1.length a' B' F1.length b' C' L1.length d') ∧ GmR w' A' a' B' b' C' d' E1 F1 L1 ∧ Below wx.heap.size wx w') :=
  fun wx A' a' h1 h2 => by have := specGameFold A' a' P wx (by omega) h1 h2; rw [← hX] at this; exact this
 have HI : Hid (∀ (wx : World) (A' : Option Addr) (a' : Nat), P.length ≤ a' → Rd 5 Rq.cells wx A' P → Calls Try.prog 7 #[.slice A' P.length a'] wx
  fun e w' => ∃ A' a' B' b' C' d', e = .returned (gameV A' E1.length a' B' F1.length b' C' L1.length d') ∧ OwG w' wx.heap.size A' a' B' b' C' d' E1 F1 L1 ∧ Below wx.heap.size wx w') :=
  fun wx A' a' h1 h2 => by have := implGameFold A' a' P wx (by omega) h1 h2; rw [← hX] at this; exact this
 have hsz' : P.length ≤ 1048576 := by omega
 clear hl hX hm hsz
 go_wp2_with (fail)
 -- the model's answer
 refine (toReqS A c P _ hsz' H1.out).mono ?_
 rintro e wa ⟨g1, rfl, rfl, o1, hb⟩
 have Z := Lib.hid (Below.and Z.out hb)
 have R1 := Lib.hid (Rd.of_own (f := Rq.cells) (k := 5) (fun _ => rfl) o1 rfl)
 clear hb o1
 go_wp2_with (fail)
 refine (HS.out _ _ _ (Nat.le_refl _) R1.out).mono ?_
 rintro e wb ⟨A3, a3, B3, b3, C3, c3, rfl, g3, hb⟩
 have hba : Below wb.heap.size wb (wb.alloc (.cells #[.slice A3 E1.length a3, .slice B3 F1.length b3, .slice C3 L1.length c3] 28)) := (Below.refl _ _).alloc (Nat.le_refl _) _
 have T6 := Lib.hid (Three.new (u0 := .slice A3 E1.length a3) (u1 := .slice B3 F1.length b3) (u2 := .slice C3 L1.length c3) (t := 28) wb)
 have G6 := Lib.hid (g3.below hba).rd
 have Z := Lib.hid (Below.and Z.out hb)
 have Z := Lib.hid (Below.and Z.out hba)
 clear hb hba g3 R1 HS
 unfold gameV
 go_wp2_with (fail)
 -- what comes in
 refine (toReqS A c P _ hsz' (Rd.below H1.out Z.out)).mono ?_
 rintro e wc ⟨g2, rfl, hg2, o2, hb⟩
 have Z0s := Lib.hid (show w.heap.size ≤ (wb.alloc (.cells #[.slice A3 E1.length a3, .slice B3 F1.length b3, .slice C3 L1.length c3] 28)).heap.size from Z.out.size)
 have L6 := Lib.hid (show (wb.alloc (.cells #[.slice A3 E1.length a3, .slice B3 F1.length b3, .slice C3 L1.length c3] 28)).heap.size ≤ g2 by omega)
 have O5 := Lib.hid o2
 have L5 := Lib.hid (show g2 < wc.heap.size from (own_block_ge o2 g2 rfl).2)
 have T6 := Lib.hid (Three.below T6.out hb T6.out.lt)
 have G6 := Lib.hid (G6.out.below hb)
 have Z := Lib.hid (Below.and Z.out hb)
 obtain ⟨W6, hW6⟩ : ∃ X, X = (wb.alloc (.cells #[.slice A3 E1.length a3, .slice B3 F1.length b3, .slice C3 L1.length c3] 28)).heap.size := ⟨_, rfl⟩
 have PB6 := Lib.hid (show wb.heap.size < W6 by rw [hW6]; simp)
 have ZS := Lib.hid (show w.heap.size ≤ W6 by rw [hW6]; exact Z0s.out)
 rw [← hW6] at L6 G6
 obtain ⟨p6, hp6⟩ : ∃ X, X = wb.heap.size := ⟨_, rfl⟩
 rw [← hp6] at T6 PB6 ⊢
 clear hb o2 hg2 hW6 hp6
 go_wp2_with (fail)
 refine (HI.out _ _ _ (Nat.le_refl _) (Rd.of_own (f := Rq.cells) (k := 5) (fun _ => rfl) O5.out rfl)).mono ?_
 rintro e wd ⟨A7, a7, B7, b7, C7, c7, rfl, g7, hb⟩
 have L7 := Lib.hid (Nat.le_trans (Nat.le_of_lt L5.out) hb.size)
 have hba : Below wd.heap.size wd (wd.alloc (.cells #[.slice A7 E1.length a7, .slice B7 F1.length b7, .slice C7 L1.length c7] 28)) := (Below.refl _ _).alloc (Nat.le_refl _) _
 have T9 := Lib.hid (Three.new (u0 := .slice A7 E1.length a7) (u1 := .slice B7 F1.length b7) (u2 := .slice C7 L1.length c7) (t := 28) wd)
 have G7 := Lib.hid (g7.game.below hba)
 have L9 := Lib.hid (show g2 < wd.heap.size by have := L5.out; have := hb.size; omega)
 have T6 := Lib.hid (Three.below T6.out hb T6.out.lt)
 have G6 := Lib.hid (G6.out.below hb)
 have Z := Lib.hid (Below.and Z.out hb)
 have O5 := Lib.hid (own_below O5.out hb)
 have T6 := Lib.hid (Three.below T6.out hba T6.out.lt)
 have G6 := Lib.hid (G6.out.below hba)
 have Z := Lib.hid (Below.and Z.out hba)
 have O5 := Lib.hid (own_below O5.out hba)
 have LS := Lib.hid (show wd.heap.size < (wd.alloc (.cells #[.slice A7 E1.length a7, .slice B7 F1.length b7, .slice C7 L1.length c7] 28)).heap.size by simp)
 clear hb hba g7
 unfold gameV
 go_upto_region 8 with (fail)
 obtain ⟨p9, hp9⟩ : ∃ X, X = wd.heap.size := ⟨_, rfl⟩
 obtain ⟨lo7, hlo⟩ : ∃ X, X = wc.heap.size := ⟨_, rfl⟩
 obtain ⟨wE, hwE⟩ : ∃ X, X = wd.alloc (.cells #[.slice A7 E1.length a7, .slice B7 F1.length b7, .slice C7 L1.length c7] 28) := ⟨_, rfl⟩
 rw [← hwE] at T6 G6 Z O5 T9 G7 LS ⊢
 rw [← hp9] at T9 G7 LS L9 L7 ⊢
 rw [← hlo] at G7 L5
 clear hwE hp9 hlo
 have SE := Lib.hid (show p9 < wE.heap.size from LS.out)
 have G7r := Lib.hid (G7.out.rd)
 obtain ⟨p0, p1, p2⟩ := T9.out.cells
 obtain ⟨q0, q1, q2⟩ := T6.out.cells
 go_wp2_with (fail)
 refine (eqGame_rd G7r.out G6.out (by have := HE1.out; omega) (by have := HF1.out; omega) (by have := HL1.out; omega)).mono ?_
 rintro e wh ⟨rfl, hb⟩
 have T6 := Lib.hid (Three.below T6.out hb T6.out.lt)
 have T9 := Lib.hid (Three.below T9.out hb T9.out.lt)
 have G6 := Lib.hid (G6.out.below hb)
 have G7 := Lib.hid (G7.out.below hb)
 have Z := Lib.hid (Below.and Z.out hb)
 have O5 := Lib.hid (own_below O5.out hb)
 have SE := Lib.hid (Nat.le_trans SE.out (hb).size)
 clear hb p0 p1 p2 q0 q1 q2 G7r
 go_wp2_with (fail)
 refine (toReqS A c P _ hsz' (Rd.below H1.out Z.out)).mono ?_
 rintro e wi ⟨g4, rfl, rfl, o4, hb⟩
 have T6 := Lib.hid (Three.below T6.out hb T6.out.lt)
 have T9 := Lib.hid (Three.below T9.out hb T9.out.lt)
 have G6 := Lib.hid (G6.out.below hb)
 have G7 := Lib.hid (G7.out.below hb)
 have Z := Lib.hid (Below.and Z.out hb)
 have O5 := Lib.hid (own_below O5.out hb)
 have SE := Lib.hid (Nat.le_trans SE.out (hb).size)
 have R4 := Lib.hid (Rd.of_own (f := Rq.cells) (k := 5) (fun _ => rfl) o4 rfl)
 clear hb o4
 go_wp2_with (fail)
 refine (eqReqS _ _ _ _ P P _ (by unfold maxLen; omega) (Rd.of_own (f := Rq.cells) (k := 5) (fun _ => rfl) O5.out rfl) R4.out).mono ?_
 rintro e wk ⟨rfl, hb⟩
 have T6 := Lib.hid (Three.below T6.out hb T6.out.lt)
 have T9 := Lib.hid (Three.below T9.out hb T9.out.lt)
 have G6 := Lib.hid (G6.out.below hb)
 have G7 := Lib.hid (G7.out.below hb)
 have Z := Lib.hid (Below.and Z.out hb)
 have O5 := Lib.hid (own_below O5.out hb)
 have SE := Lib.hid (Nat.le_trans SE.out (hb).size)
 have dp : decide (P = P) = true := by simp
 clear hb R4
 go_wp2_with (fail)
 refine (markReqG _ _ _ P.length _ 1 _ (by omega) (by omega) (by unfold maxLen; omega) O5.out).mono ?_
 rintro e wm ⟨rfl, _, hgr⟩
 have hk : Keeps g2 (g2 + 1) wk wm := Keeps.of_grown hgr (fun k hk => by simp [Value.ownBlock] at hk; omega)
 have v0 : decide ((1 : Int) + 5 * (P.length : Int) < 0) = false := by simp; omega
 have T6 := Lib.hid (hk.three T6.out (.inl (by have := PB6.out; have := L6.out; omega)))
 have T9 := Lib.hid (hk.three T9.out (.inr (by have := L9.out; omega)))
 have G6 := Lib.hid (G6.out.keeps (by have := SE.out; have := L6.out; have := L9.out; omega) hk L6.out)
 have G7 := Lib.hid (G7.out.keeps hk (.inr (by have := L5.out; omega)))
 have Z := Lib.hid (Z.out.trans (hk.below (B := w.heap.size) (by have := ZS.out; have := L6.out; omega) Z.out.size))
 have SE := Lib.hid (Nat.le_trans SE.out hk.size)
 clear hk hgr O5 dp
 have G7r := Lib.hid (G7.out.rd)
 obtain ⟨p0, p1, p2⟩ := T9.out.cells
 obtain ⟨q0, q1, q2⟩ := T6.out.cells
 go_wp2_with (fail)
 refine (eqGame_rd G7r.out G6.out (by have := HE1.out; omega) (by have := HF1.out; omega) (by have := HL1.out; omega)).mono ?_
 rintro e wn ⟨rfl, hb⟩
 have T6 := Lib.hid (Three.below T6.out hb T6.out.lt)
 have T9 := Lib.hid (Three.below T9.out hb T9.out.lt)
 have G6 := Lib.hid (G6.out.below hb)
 have G7 := Lib.hid (G7.out.below hb)
 have Z := Lib.hid (Below.and Z.out hb)
 have SE := Lib.hid (Nat.le_trans SE.out (hb).size)
 clear hb p0 p1 p2 q0 q1 q2 G7r v0
 obtain ⟨p0, p1, p2⟩ := T9.out.cells
 go_wp2_with (fail)
 obtain ⟨v, hv⟩ : ∃ v : Int, v = 1 + 5 * (E1.length : Int) + (F1.length : Int) + (L1.length : Int) := ⟨_, rfl⟩
 have HV := Lib.hid hv
 have v0 : decide (v < 0) = false := by simp; omega
 have v1 : (v != v) = false := by simp
 refine (mark_game G7.out E1.length F1.length L1.length rfl rfl rfl v hv (by have := HE1.out; omega) (by have := HF1.out; omega) (by have := HL1.out; omega) (by have := SE.out; omega)).mono ?_
 clear hv
 rintro e wo ⟨rfl, hk, M⟩
 have T6 := Lib.hid (hk.three T6.out (.inl (by have := PB6.out; have := L6.out; have := L5.out; omega)))
 have T9 := Lib.hid (hk.three T9.out (.inr (Nat.le_refl _)))
 have G6 := Lib.hid (G6.out.keeps (by have := SE.out; have := L6.out; have := L9.out; omega) hk (by have := L6.out; have := L5.out; omega))
 have Z := Lib.hid (Z.out.trans (hk.below (B := w.heap.size) (by have := ZS.out; have := L6.out; have := L5.out; omega) Z.out.size))
 have M := Lib.hid M
 clear hk p0 p1 p2 G7 SE
 obtain ⟨p0, p1, p2⟩ := T9.out.cells
 go_wp2_with (fail)
 refine (held_game E1.length F1.length L1.length M.out v HV.out (by have := HE1.out; omega) (by have := HF1.out; omega) (by have := HL1.out; omega)).mono ?_
 rintro e wp ⟨rfl, hb⟩
 have T6 := Lib.hid (Three.below T6.out hb T6.out.lt)
 have T9 := Lib.hid (Three.below T9.out hb T9.out.lt)
 have G6 := Lib.hid (G6.out.below hb)
 have Z := Lib.hid (Below.and Z.out hb)
 have M := Lib.hid (M.out.below hb)
 clear hb p0 p1 p2
 go_wp2_with (fail)
 refine (toReqS A c P _ hsz' (Rd.below H1.out Z.out)).mono ?_
 rintro e wq ⟨g4, rfl, rfl, o4, hb⟩
 have T6 := Lib.hid (Three.below T6.out hb T6.out.lt)
 have T9 := Lib.hid (Three.below T9.out hb T9.out.lt)
 have G6 := Lib.hid (G6.out.below hb)
 have Z := Lib.hid (Below.and Z.out hb)
 have M := Lib.hid (M.out.below hb)
 have R4 := Lib.hid (Rd.of_own (f := Rq.cells) (k := 5) (fun _ => rfl) o4 rfl)
 clear hb o4
 go_wp2_with (fail)
 refine (HI.out _ _ _ (Nat.le_refl _) R4.out).mono ?_
 rintro e wr ⟨A8, a8, B8, b8, C8, c8, rfl, g8, hb⟩
 have hba : Below wr.heap.size wr (wr.alloc (.cells #[.slice A8 E1.length a8, .slice B8 F1.length b8, .slice C8 L1.length c8] 28)) := (Below.refl _ _).alloc (Nat.le_refl _) _
 have T8 := Lib.hid (Three.new (u0 := .slice A8 E1.length a8) (u1 := .slice B8 F1.length b8) (u2 := .slice C8 L1.length c8) (t := 28) wr)
 have G8 := Lib.hid ((g8.game.below hba).rd)
 have T6 := Lib.hid (Three.below T6.out hb T6.out.lt)
 have T9 := Lib.hid (Three.below T9.out hb T9.out.lt)
 have G6 := Lib.hid (G6.out.below hb)
 have Z := Lib.hid (Below.and Z.out hb)
 have M := Lib.hid (M.out.below hb)
 have T6 := Lib.hid (Three.below T6.out hba T6.out.lt)
 have T9 := Lib.hid (Three.below T9.out hba T9.out.lt)
 have G6 := Lib.hid (G6.out.below hba)
 have Z := Lib.hid (Below.and Z.out hba)
 have M := Lib.hid (M.out.below hba)
 clear hb hba g8 R4
 unfold gameV
 go_upto_region 25 with (fail)
 obtain ⟨p8, hp8⟩ : ∃ X, X = wr.heap.size := ⟨_, rfl⟩
 obtain ⟨wS, hwS⟩ : ∃ X, X = wr.alloc (.cells #[.slice A8 E1.length a8, .slice B8 F1.length b8, .slice C8 L1.length c8] 28) := ⟨_, rfl⟩
 rw [← hwS] at T6 T9 G6 Z M T8 G8 ⊢
 rw [← hp8] at T8 ⊢
 clear hwS hp8
 obtain ⟨p0, p1, p2⟩ := T8.out.cells
 obtain ⟨q0, q1, q2⟩ := T6.out.cells
 go_wp2_with (fail)
 refine (eqGame_rd G8.out G6.out (by have := HE1.out; omega) (by have := HF1.out; omega) (by have := HL1.out; omega)).mono ?_
 rintro e wt ⟨rfl, hb⟩
 have T9 := Lib.hid (Three.below T9.out hb T9.out.lt)
 have Z := Lib.hid (Below.and Z.out hb)
 have M := Lib.hid (M.out.below hb)
 clear hb p0 p1 p2 q0 q1 q2 G8 T6 T8 G6
 obtain ⟨p0, p1, p2⟩ := T9.out.cells
 go_wp2_with (fail)
 refine (held_game E1.length F1.length L1.length M.out v HV.out (by have := HE1.out; omega) (by have := HF1.out; omega) (by have := HL1.out; omega)).mono ?_
 rintro e wu ⟨rfl, hb⟩
 have Z := Lib.hid (Below.and Z.out hb)
 clear hb p0 p1 p2 T9 M HV
 go_wp2
 go_light
 go_ret
 exact ⟨rfl, Z.out⟩

theorem exactGameFold (A : Option Addr) (c : Nat) (P : List Rq) (w : World) (hm : P.length ≤ maxLen) (hc : P.length ≤ c) (hr : Rd 5 Rq.cells w A P) :
 Calls Try.prog 5 #[.slice A P.length c] w fun e w' => e = .returned (.bool true) ∧ Below w.heap.size w w' := by
 obtain ⟨⟨E1, F1, L1⟩, hX⟩ : ∃ X, X = foldR P := ⟨_, rfl⟩
 exact exactFold A c P w hm hc hr E1 F1 L1 hX

end Go.Proofs.Ytagjkngiijmokaa
