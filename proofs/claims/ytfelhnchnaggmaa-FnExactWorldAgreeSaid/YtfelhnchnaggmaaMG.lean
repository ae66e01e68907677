/- Uo, Up -/
import Derived.Test.YtfelhnchnaggmaaUm
import Derived.Test.YtfelhnchnaggmaaMD
/- Lists of letters that came in, made the program's own. -/
namespace Go.Proofs.Ytfelhnchnaggmaa
open Go.ChangeShapes Go.WideShapes Go.ChangeAt Go.RowKit
set_option linter.unusedVariables false

theorem infoMsg : (Try.prog.info? 72).map (fun i => (i.zero, i.size, i.bytes)) = some (some (.agg #[.int .i64 0, .int .i64 0, .int .i64 0, .int .i64 0, .int .i64 0, .int .i64 0, .int .i64 0, .int .i64 0, .int .i64 0, .slice none 0 0, .slice none 0 0]), 11, 120) := by kernel_rfl

/-- The letters Q lie in the row g, and what they hold behind it. -/
def OwM (w : World) (g : Nat) (Q : List MgP) : Prop := w.ownsRow g 72 11 (.slice (some ⟨g, 0, none⟩) Q.length Q.length) Q.length (Q.flatMap MgP.cells) ∧ ∀ q ∈ Q, q.own w (g + 1)
theorem OwM.below {w w' : World} {g : Nat} {Q : List MgP} (h : OwM w g Q) (hb : Below w.heap.size w w') : OwM w' g Q := ⟨own_below h.1 hb, fun q hq => (h.2 q hq).below hb⟩
theorem OwM.rd {w : World} {g : Nat} {Q : List MgP} (h : OwM w g Q) : RdMs w (some ⟨g, 0, none⟩) Q := ⟨Rd.of_own MgP.len h.1 rfl, fun q hq => (h.2 q hq).rd⟩
theorem OwM.len {w : World} {g : Nat} {Q : List MgP} (h : OwM w g Q) : Q.length ≤ maxLen := by
  obtain ⟨A, c, hv, hm⟩ := own_form h.1
  exact hm
theorem szMs_mem {P : List MgP} {p : MgP} (h : p ∈ P) : p.sz ≤ szMs P := by
  have := sz_mem (f := MgP.sz) h
  unfold szMs
  omega

set_option maxRecDepth 100000 in
set_option maxHeartbeats 2000000 in
theorem toMsgS (A : Option Addr) (c : Nat) (l : List MgP) (w : World) (hsz : szMs l ≤ 1048576) (h : RdMs w A l) :
    Calls Try.prog 36 #[.slice A l.length c] w fun e w' => ∃ Q : List MgP, e = .returned (.slice (some ⟨w.heap.size, 0, none⟩) Q.length Q.length) ∧ Q.map MgP.mg = l.map MgP.mg ∧ OwM w' w.heap.size Q ∧ Below w.heap.size w w' := by
  have hl : l.length ≤ 1048576 := by unfold szMs at hsz; omega
  have HCL := Lib.hid (fun p (hp : p ∈ l) => Nat.le_trans (szMs_mem hp) hsz)
  clear hsz
  obtain ⟨i0, hi, hz0, hz1, hz2⟩ := info_parts infoMsg
  obtain ⟨w1, hmk, hown, hg1⟩ := run_make_full (P := Try.prog) w w.heap.size 25 72 i0 _ 11 Try.underlying25 hi hz0 hz1 .i64 .i64 l.length (by rw [hz2]; omega) (by unfold maxLen; omega) (Nat.le_refl _)
  have B1 := Below.of_none hg1
  have hx : l.length * 11 = ((madeCells (Value.agg #[.int .i64 0, .int .i64 0, .int .i64 0, .int .i64 0, .int .i64 0, .int .i64 0, .int .i64 0, .int .i64 0, .int .i64 0, .slice none 0 0, .slice none 0 0]).cells (l.length * 11)).toList).length := by have := hown.1; omega
  generalize (madeCells (Value.agg #[.int .i64 0, .int .i64 0, .int .i64 0, .int .i64 0, .int .i64 0, .int .i64 0, .int .i64 0, .int .i64 0, .int .i64 0, .slice none 0 0, .slice none 0 0]).cells (l.length * 11)).toList = xs at hown hx
  have HI := Lib.hid h
  have HX := Lib.hid hx
  have HO := Lib.hid hown
  have HB := Lib.hid B1
  have hs1 : w.heap.size + 1 ≤ w1.heap.size := by have := (hown.lt w.heap.size rfl).2; omega
  clear h hx hown hg1 B1 hi hz0 hz1 hz2
  go_enter Try.func36, Try.ntmps36
  go_wp2
  go_loopw [4] (fun i wr => ∃ (j : Nat) (Q : List MgP), j ≤ l.length ∧ i = .int .i64 j ∧ Hid (Q.map MgP.mg = (l.take j).map MgP.mg) ∧ Hid (wr.ownsRow w.heap.size 72 11 (.slice (some ⟨w.heap.size, 0, none⟩) l.length l.length) l.length (Q.flatMap MgP.cells ++ xs.drop (j * 11))) ∧ Hid (∀ q ∈ Q, q.own wr (w.heap.size + 1)) ∧ Hid (w1.grownBy wr (some w.heap.size))) (fun i _ => l.length - (intOf i).toNat)
  case atStart => exact ⟨0, [], Nat.zero_le _, rfl, by simp [Hid], by simpa [Hid] using HO.out, by simp [Hid], World.grownBy.refl _ _⟩
  case round =>
    obtain ⟨j, Q, hj, rfl, hm, ho, hq, hg⟩ := hrel
    have hsr : w.heap.size + 1 ≤ wr.heap.size := by have := hg.out.size; omega
    by_cases hlt : j < l.length
    · obtain ⟨b, off, rfl, ca⟩ := HI.out.1 j hlt
      have keep : ∀ {o : Nat} {u : Value}, w.cell? ⟨b, o, none⟩ = some u → wr.cell? ⟨b, o, none⟩ = some u := fun hc => hg.out.cell (cell_kept HB.out hc) (by have := World.block_lt_of_cell? w _ hc; simp at this ⊢; omega)
      have c0 : wr.cell? ⟨b, off + j * 11, none⟩ = some (.int .i64 l[j].k) := keep (ca 0 _ rfl)
      have c1 : wr.cell? ⟨b, off + j * 11 + 1, none⟩ = some (.int .i64 l[j].f) := keep (ca 1 _ rfl)
      have c2 : wr.cell? ⟨b, off + j * 11 + 2, none⟩ = some (.int .i64 l[j].v) := keep (ca 2 _ rfl)
      have c3 : wr.cell? ⟨b, off + j * 11 + 3, none⟩ = some (.int .i64 l[j].s) := keep (ca 3 _ rfl)
      have c4 : wr.cell? ⟨b, off + j * 11 + 4, none⟩ = some (.int .i64 l[j].r.c) := keep (ca 4 _ rfl)
      have c5 : wr.cell? ⟨b, off + j * 11 + 5, none⟩ = some (.int .i64 l[j].r.n) := keep (ca 5 _ rfl)
      have c6 : wr.cell? ⟨b, off + j * 11 + 6, none⟩ = some (.int .i64 l[j].r.o) := keep (ca 6 _ rfl)
      have c7 : wr.cell? ⟨b, off + j * 11 + 7, none⟩ = some (.int .i64 l[j].r.x) := keep (ca 7 _ rfl)
      have c8 : wr.cell? ⟨b, off + j * 11 + 8, none⟩ = some (.int .i64 l[j].r.y) := keep (ca 8 _ rfl)
      have c9 : wr.cell? ⟨b, off + j * 11 + 9, none⟩ = some (.slice l[j].A l[j].cl.length l[j].a) := keep (ca 9 _ rfl)
      have c10 : wr.cell? ⟨b, off + j * 11 + 10, none⟩ = some (.slice l[j].B l[j].vt.length l[j].b) := keep (ca 10 _ rfl)
      clear ca keep
      have BW : Below w.heap.size w wr := Below.trans HB.out (Below.of_grown hg.out HB.out.size (by rintro k hk; cases hk; omega))
      have rx := (HI.out.2 l[j] (List.getElem_mem hlt)).below BW
      have lx := HCL.out l[j] (List.getElem_mem hlt)
      have RX := Lib.hid rx
      have i0 : (0 : Int) ≤ (j : Int) := by omega
      have i1 : (j : Int) < (l.length : Int) := by omega
      clear rx BW
      obtain ⟨x, hx⟩ : ∃ x, x = l[j] := ⟨_, rfl⟩
      rw [← hx] at c0 c1 c2 c3 c4 c5 c6 c7 c8 c9 c10 lx RX
      have HXX := Lib.hid hx
      clear hx
      go_wp2_with (fail)
      refine (toMsg x wr RX.out lx).mono ?_
      rintro r w2 ⟨y, rfl, hy, oy, h2⟩
      have hs2 := h2.size
      have ho2 := own_below ho.out h2
      have hlen : (Q.flatMap MgP.cells).length = j * 11 := by
        have := congrArg List.length hm.out
        rw [List.length_map, List.length_map, List.length_take, Nat.min_eq_left (by omega)] at this
        rw [rows_length 11 MgP.cells MgP.len, this]
      have hc : ∀ p, p < 11 → ∃ u, w2.cell? ⟨w.heap.size, j * 11 + p, none⟩ = some u := fun p hp => ⟨_, (ho2.cellAt (j * 11 + p) (by omega)).trans (List.getElem?_eq_getElem (by have := HX.out; rw [List.length_append, hlen, List.length_drop]; omega))⟩
      have hf := fun p => ho2.frozenAt p
      obtain ⟨v0, hv0⟩ := hc 0 (by omega)
      obtain ⟨v1, hv1⟩ := hc 1 (by omega)
      obtain ⟨v2, hv2⟩ := hc 2 (by omega)
      obtain ⟨v3, hv3⟩ := hc 3 (by omega)
      obtain ⟨v4, hv4⟩ := hc 4 (by omega)
      obtain ⟨v5, hv5⟩ := hc 5 (by omega)
      obtain ⟨v6, hv6⟩ := hc 6 (by omega)
      obtain ⟨v7, hv7⟩ := hc 7 (by omega)
      obtain ⟨v8, hv8⟩ := hc 8 (by omega)
      obtain ⟨v9, hv9⟩ := hc 9 (by omega)
      obtain ⟨v10, hv10⟩ := hc 10 (by omega)
      rw [Nat.add_zero] at hv0
      obtain ⟨s1, s2⟩ := store_all y.cells (j * 11) hlen (by have := HX.out; rw [MgP.len]; omega) ho2
      have e1 : (Q ++ [y]).flatMap MgP.cells = Q.flatMap MgP.cells ++ y.cells := by simp
      rw [← e1, MgP.len, show j * 11 + 11 = (j + 1) * 11 from by omega] at s1
      have S1 := Lib.hid s1
      have S2 := Lib.hid (grownBy_trans hg.out (grownBy_trans (Below.grownBy h2 _) s2))
      have S3 : Hid (∀ q ∈ Q ++ [y], q.own (storeAll w2 w.heap.size (j * 11) y.cells) (w.heap.size + 1)) := by
        intro q hq'
        simp only [storeAll, MgP.cells]
        rcases List.mem_append.1 hq' with h' | h'
        · exact (((((((((((((hq.out q h').below h2).set (by omega) _ _).set (by omega) _ _).set (by omega) _ _).set (by omega) _ _).set (by omega) _ _).set (by omega) _ _).set (by omega) _ _).set (by omega) _ _).set (by omega) _ _).set (by omega) _ _).set (by omega) _ _)
        · rw [List.mem_singleton.1 h']
          exact ((((((((((((oy.base (lo' := w.heap.size + 1) (by omega)).set (by omega) _ _).set (by omega) _ _).set (by omega) _ _).set (by omega) _ _).set (by omega) _ _).set (by omega) _ _).set (by omega) _ _).set (by omega) _ _).set (by omega) _ _).set (by omega) _ _).set (by omega) _ _)
      have S4 : Hid ((Q ++ [y]).map MgP.mg = (l.take (j + 1)).map MgP.mg) := by
        rw [List.take_succ_eq_append_getElem hlt, List.map_append, List.map_append, hm.out, List.map_cons, List.map_nil, List.map_cons, List.map_nil, hy, HXX.out]
        rfl
      clear s1 s2 hc h2 ho2 e1 hlen c0 c1 c2 c3 c4 c5 c6 c7 c8 c9 c10 oy hy hq
      go_wp2
      go_roundw
      case rel => exact ⟨j + 1, Q ++ [y], by omega, by go_num, S4.out, S1.out, S3.out, S2.out⟩
      case measure => simp [intOf]; omega
    · have hz : j = l.length := by omega
      have HZ := Lib.hid hz
      clear hz
      go_wp2
      go_ret
      have h1 := ho.out
      have h2 := hm.out
      rw [HZ.out, List.drop_of_length_le (by have := HX.out; omega), List.append_nil] at h1
      rw [HZ.out, List.take_length] at h2
      have h3 : Q.length = l.length := by have := congrArg List.length h2; simpa using this
      rw [← h3] at h1
      exact ⟨Q, by rw [h3]; rfl, h2, ⟨h1, hq.out⟩, Below.trans HB.out (Below.of_grown hg.out HB.out.size (by rintro k hk; cases hk; omega))⟩
end Go.Proofs.Ytfelhnchnaggmaa

/- Letters that came in, opened. -/
namespace Go.Proofs.Ytfelhnchnaggmaa
open Go.ChangeShapes Go.WideShapes Go.ChangeAt Go.RowKit
set_option linter.unusedVariables false

section
variable {H : Type} {enc : TypeId × Value → H} {w : World} {base : Nat} {spare : Nat → Bool} {held : Bool}

theorem struct_field {P : Program} {t : TypeId} {fs : Array Field} {fuel : Nat} {cl : List Value} {x : DataW H × List MemPlace} (hs : P.underlying t = some (.struct fs)) (h : DataW.trod enc P w base spare held fuel t cl = some x)
    (i : Nat) {tp off k : Nat} (ht : (fs[i]?).map (fun f => f.type) = some tp) (ho : (fs[i]?).map (fun f => f.offset) = some off) (hk : P.cellsOf tp = k) : ∃ n y, DataW.trod enc P w base spare held n tp ((cl.drop off).take k) = some y := by
  obtain ⟨xs, n, _, _, _, hlen, hg⟩ := DataW.trod_struct hs h
  rcases hf : fs[i]? with _ | f
  · rw [hf] at ht; cases ht
  · rw [hf] at ht ho
    simp only [Option.map_some, Option.some.injEq] at ht ho
    have h1 := hg i f hf
    have hi : i < fs.size := (Array.getElem?_eq_some_iff.1 hf).1
    rw [ht, ho, hk, List.getElem?_eq_getElem (by omega)] at h1
    exact ⟨n, _, h1⟩

/-- A slice of structs that came in. -/
theorem in_rows {P : Program} {α : Type} {f : α → List Value} {Q : α → Prop} {k : Nat} {t e : TypeId} {fuel : Nat} {cs : List Value} {x : DataW H × List MemPlace} (ht : P.underlying t = some (.slice e)) (hC : P.cellsOf e = k)
    (hk : 0 < k) (hf : ∀ p, (f p).length = k) (hq : ∀ (n : Nat) (cl : List Value) (y : DataW H × List MemPlace), cl.length = k → DataW.trod enc P w base spare held n e cl = some y → ∃ p, cl = f p ∧ Q p)
    (h : DataW.trod enc P w base spare held fuel t cs = some x) : ∃ (A : Option Addr) (c : Nat) (l : List α), cs = [.slice A l.length c] ∧ l.length ≤ maxLen ∧ l.length ≤ c ∧ Rd k f w A l ∧ ∀ p ∈ l, Q p := by
  rcases Go.Deep.open_slice ht h with ⟨rfl, _⟩ | ⟨a, len, cap, m, n, D, Pl, rfl, _, hl, hm, hmm, _, hi⟩
  · exact ⟨none, 0, [], rfl, Nat.zero_le _, Nat.zero_le _, fun i hi => absurd hi (by simp), fun p hp => by cases hp⟩
  · have hml : len ≤ m := by rw [hmm]; split <;> omega
    have each : ∀ i, i < len → ∃ p : α, Q p ∧ ∀ (j : Nat) (u : Value), (f p)[j]? = some u → w.cell? (a.add (i * k + j)) = some u := by
      intro i hilt
      obtain ⟨cs', hcs, htr⟩ := hi i (by omega)
      rw [hC] at hcs
      obtain ⟨_, hlen, hat⟩ := World.cells?_some hcs
      obtain ⟨p, rfl, hp⟩ := hq _ _ _ hlen htr
      refine ⟨p, hp, fun j u hu => ?_⟩
      have hj : j < k := by have := (List.getElem?_eq_some_iff.1 hu).1; rw [hf] at this; exact this
      have := hat j hj
      rw [Go.Deep.add_add] at this
      rw [this]
      exact hu
    have hc0 : 0 < len → a = ⟨a.block, a.off, none⟩ := by
      intro h0
      obtain ⟨p, _, hp⟩ := each 0 h0
      have h1 : (f p)[0]? = some ((f p)[0]'(by rw [hf]; exact hk)) := List.getElem?_eq_getElem _
      have := hp 0 _ h1
      rw [show a.add (0 * k + 0) = a from by simp [Addr.add]] at this
      exact addr_of this
    obtain ⟨E, hE, hat⟩ := pick_list len each
    refine ⟨some a, cap, E, by rw [hE], by omega, by omega, fun i hi' => ?_, fun p hp => ?_⟩
    · have ha := hc0 (by omega)
      refine ⟨a.block, a.off, by rw [← ha], fun j u hu => ?_⟩
      have := (hat i hi').2 j u hu
      rw [ha, add_eq] at this
      rw [Nat.add_assoc]
      exact this
    · obtain ⟨i, hi', rfl⟩ := List.getElem_of_mem hp
      exact (hat i hi').1

theorem len7 {α : Type} (l : List α) (h : l.length = 7) : ∃ a b c d e f g, l = [a, b, c, d, e, f, g] :=
  match l, h with
  | [a, b, c, d, e, f, g], _ => ⟨a, b, c, d, e, f, g, rfl⟩
theorem len2 {α : Type} (l : List α) (h : l.length = 2) : ∃ a b, l = [a, b] :=
  match l, h with
  | [a, b], _ => ⟨a, b, rfl⟩
theorem len11 {α : Type} (l : List α) (h : l.length = 11) : ∃ a0 a1 a2 a3 a4 a5 a6 a7 a8 a9 a10, l = [a0, a1, a2, a3, a4, a5, a6, a7, a8, a9, a10] :=
  match l, h with
  | [a0, a1, a2, a3, a4, a5, a6, a7, a8, a9, a10], _ => ⟨a0, a1, a2, a3, a4, a5, a6, a7, a8, a9, a10, rfl⟩

set_option maxRecDepth 100000 in
theorem cells_req {n : Nat} {cl : List Value} {y : DataW H × List MemPlace} (hl : cl.length = 5) (h : DataW.trod enc Try.prog w base spare held n 91 cl = some y) : ∃ r : Rq, cl = r.cells := by
  obtain ⟨l, rfl⟩ := ints_of_cells Try.underlying91 (by kernel_rfl) (by rw [hl]; kernel_rfl) (by kernel_rfl) h
  obtain ⟨a, b, c, d, e, rfl⟩ := five_of l (by simpa using hl)
  exact ⟨⟨a, b, c, d, e⟩, rfl⟩

set_option maxRecDepth 100000 in
theorem cells_claim {n : Nat} {cl : List Value} {y : DataW H × List MemPlace} (hl : cl.length = 7) (h : DataW.trod enc Try.prog w base spare held n 140 cl = some y) : ∃ c : Cl, cl = c.cells := by
  obtain ⟨c0, c1, c2, c3, c4, c5, c6, rfl⟩ := len7 cl hl
  obtain ⟨n0, y0, h0⟩ := struct_field Try.underlying140 h 0 (tp := 3) (off := 0) (k := 1) rfl rfl (by kernel_rfl)
  obtain ⟨m0, e0, _, _⟩ := DataW.trod_int Try.underlying3 (show DataW.trod enc Try.prog w base spare held n0 3 [c0] = some y0 from h0)
  obtain rfl : c0 = .int .i64 m0 := by simpa using e0
  obtain ⟨n1, y1, h1⟩ := struct_field Try.underlying140 h 1 (tp := 3) (off := 1) (k := 1) rfl rfl (by kernel_rfl)
  obtain ⟨m1, e1, _, _⟩ := DataW.trod_int Try.underlying3 (show DataW.trod enc Try.prog w base spare held n1 3 [c1] = some y1 from h1)
  obtain rfl : c1 = .int .i64 m1 := by simpa using e1
  obtain ⟨n2, y2, h2⟩ := struct_field Try.underlying140 h 2 (tp := 91) (off := 2) (k := 5) rfl rfl (by kernel_rfl)
  obtain ⟨r, hr⟩ := cells_req (cl := [c2, c3, c4, c5, c6]) rfl h2
  refine ⟨⟨m0, m1, r⟩, ?_⟩
  simp only [Rq.cells, List.cons.injEq] at hr
  obtain ⟨rfl, rfl, rfl, rfl, rfl, _⟩ := hr
  rfl

set_option maxRecDepth 100000 in
theorem in_claims {fuel : Nat} {cs : List Value} {x : DataW H × List MemPlace} (h : DataW.trod enc Try.prog w base spare held fuel 87 cs = some x) :
    ∃ (A : Option Addr) (c : Nat) (l : List Cl), cs = [.slice A l.length c] ∧ l.length ≤ maxLen ∧ RdC w A l := by
  obtain ⟨A, c, l, h1, h2, _, h3, _⟩ := in_rows (f := Cl.cells) (Q := fun _ => True) (k := 7) Try.underlying87 (by kernel_rfl) (by omega) Cl.len (fun n cl y hl h => by
    obtain ⟨c, hc⟩ := cells_claim hl h
    exact ⟨c, hc, trivial⟩) h
  exact ⟨A, c, l, h1, h2, h3⟩

set_option maxRecDepth 100000 in
theorem cells_vote {n : Nat} {cl : List Value} {y : DataW H × List MemPlace} (hl : cl.length = 2) (h : DataW.trod enc Try.prog w base spare held n 137 cl = some y) : ∃ v : VtP, cl = v.cells ∧ v.rd w := by
  obtain ⟨c0, c1, rfl⟩ := len2 cl hl
  obtain ⟨n0, y0, h0⟩ := struct_field Try.underlying137 h 0 (tp := 3) (off := 0) (k := 1) rfl rfl (by kernel_rfl)
  obtain ⟨m0, e0, _, _⟩ := DataW.trod_int Try.underlying3 (show DataW.trod enc Try.prog w base spare held n0 3 [c0] = some y0 from h0)
  obtain rfl : c0 = .int .i64 m0 := by simpa using e0
  obtain ⟨n1, y1, h1⟩ := struct_field Try.underlying137 h 1 (tp := 87) (off := 1) (k := 1) rfl rfl (by kernel_rfl)
  obtain ⟨A, c, l, hc, hm, hr⟩ := in_claims h1
  obtain rfl : c1 = .slice A l.length c := by simpa using hc
  exact ⟨⟨m0, A, c, l⟩, rfl, hm, hr⟩

set_option maxRecDepth 100000 in
theorem in_votes {fuel : Nat} {cs : List Value} {x : DataW H × List MemPlace} (h : DataW.trod enc Try.prog w base spare held fuel 92 cs = some x) :
    ∃ (A : Option Addr) (c : Nat) (l : List VtP), cs = [.slice A l.length c] ∧ l.length ≤ maxLen ∧ RdV w A l := by
  obtain ⟨A, c, l, h1, h2, _, h3, h4⟩ := in_rows (f := VtP.cells) (Q := fun v => v.rd w) (k := 2) Try.underlying92 (by kernel_rfl) (by omega) VtP.len (fun n cl y hl h => cells_vote hl h) h
  exact ⟨A, c, l, h1, h2, h3, h4⟩

set_option maxRecDepth 100000 in
theorem cells_msg {n : Nat} {cl : List Value} {y : DataW H × List MemPlace} (hl : cl.length = 11) (h : DataW.trod enc Try.prog w base spare held n 94 cl = some y) : ∃ v : MgP, cl = v.cells ∧ v.rd w := by
  obtain ⟨c0, c1, c2, c3, c4, c5, c6, c7, c8, c9, c10, rfl⟩ := len11 cl hl
  obtain ⟨n0, y0, h0⟩ := struct_field Try.underlying94 h 0 (tp := 3) (off := 0) (k := 1) rfl rfl (by kernel_rfl)
  obtain ⟨m0, e0, _, _⟩ := DataW.trod_int Try.underlying3 (show DataW.trod enc Try.prog w base spare held n0 3 [c0] = some y0 from h0)
  obtain rfl : c0 = .int .i64 m0 := by simpa using e0
  obtain ⟨n1, y1, h1⟩ := struct_field Try.underlying94 h 1 (tp := 3) (off := 1) (k := 1) rfl rfl (by kernel_rfl)
  obtain ⟨m1, e1, _, _⟩ := DataW.trod_int Try.underlying3 (show DataW.trod enc Try.prog w base spare held n1 3 [c1] = some y1 from h1)
  obtain rfl : c1 = .int .i64 m1 := by simpa using e1
  obtain ⟨n2, y2, h2⟩ := struct_field Try.underlying94 h 2 (tp := 3) (off := 2) (k := 1) rfl rfl (by kernel_rfl)
  obtain ⟨m2, e2, _, _⟩ := DataW.trod_int Try.underlying3 (show DataW.trod enc Try.prog w base spare held n2 3 [c2] = some y2 from h2)
  obtain rfl : c2 = .int .i64 m2 := by simpa using e2
  obtain ⟨n3, y3, h3⟩ := struct_field Try.underlying94 h 3 (tp := 3) (off := 3) (k := 1) rfl rfl (by kernel_rfl)
  obtain ⟨m3, e3, _, _⟩ := DataW.trod_int Try.underlying3 (show DataW.trod enc Try.prog w base spare held n3 3 [c3] = some y3 from h3)
  obtain rfl : c3 = .int .i64 m3 := by simpa using e3
  obtain ⟨n4, y4, h4⟩ := struct_field Try.underlying94 h 4 (tp := 91) (off := 4) (k := 5) rfl rfl (by kernel_rfl)
  obtain ⟨r, hr⟩ := cells_req (cl := [c4, c5, c6, c7, c8]) rfl h4
  obtain ⟨n5, y5, h5⟩ := struct_field Try.underlying94 h 5 (tp := 87) (off := 9) (k := 1) rfl rfl (by kernel_rfl)
  obtain ⟨A, a, l, ha, ma, ra⟩ := in_claims h5
  obtain ⟨n6, y6, h6⟩ := struct_field Try.underlying94 h 6 (tp := 92) (off := 10) (k := 1) rfl rfl (by kernel_rfl)
  obtain ⟨B, b, v, hb, mb, rb⟩ := in_votes h6
  obtain rfl : c9 = .slice A l.length a := by simpa using ha
  obtain rfl : c10 = .slice B v.length b := by simpa using hb
  simp only [Rq.cells, List.cons.injEq] at hr
  obtain ⟨rfl, rfl, rfl, rfl, rfl, _⟩ := hr
  exact ⟨⟨m0, m1, m2, m3, r, A, a, l, B, b, v⟩, rfl, ma, mb, ra, rb⟩

set_option maxRecDepth 100000 in
/-- A letter that came in. -/
theorem in_msg {r : Reach} {b0 : Nat} {v : Value} {d : DataW H} {p : List MemPlace} (hv : Value.okWide Try.prog w r b0 94 v) (h : DataW.Trod enc Try.prog w base spare held 94 v d p) : ∃ m : MgP, v = m.val ∧ m.rd w := by
  obtain ⟨cs, rfl, hsz⟩ := okWide_struct Try.underlying94 hv
  obtain ⟨cl⟩ := cs
  obtain ⟨fuel, hf⟩ := h
  obtain ⟨m, hm, hr⟩ := cells_msg (cl := cl) (by have : Try.prog.cellsOf 94 = 11 := by kernel_rfl
                                                 rw [this] at hsz; simpa using hsz) hf
  exact ⟨m, by rw [hm]; rfl, hr⟩

set_option maxRecDepth 100000 in
theorem in_msgs {r : Reach} {b0 : Nat} {v : Value} {d : DataW H} {p : List MemPlace} (hv : Value.okWide Try.prog w r b0 33 v) (h : DataW.Trod enc Try.prog w base spare held 33 v d p) :
    ∃ (A : Option Addr) (c : Nat) (l : List MgP), v = .slice A l.length c ∧ l.length ≤ maxLen ∧ RdMs w A l := by
  obtain ⟨a0, len, cap, rfl⟩ := okWide_slice Try.underlying33 hv
  obtain ⟨fuel, hf⟩ := h
  obtain ⟨A, c, l, h1, h2, _, h3, h4⟩ := in_rows (f := MgP.cells) (Q := fun v => v.rd w) (k := 11) Try.underlying33 (by kernel_rfl) (by omega) MgP.len (fun n cl y hl h => cells_msg hl h) hf
  exact ⟨A, c, l, by simpa [Value.cells] using h1, h2, h3, h4⟩
end
end Go.Proofs.Ytfelhnchnaggmaa
