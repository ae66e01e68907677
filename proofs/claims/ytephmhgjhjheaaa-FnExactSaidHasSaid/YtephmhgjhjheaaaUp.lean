/- Letters that came in, opened. -/
import Derived.Test.YtephmhgjhjheaaaUo
import Derived.Test.YtephmhgjhjheaaaBy
namespace Go.Proofs.Ytephmhgjhjheaaa
open Go.ChangeShapes Go.WideShapes Go.ChangeAt Go.RowKit
set_option linter.unusedVariables false

section
variable {H : Type} {enc : TypeId × Value → H} {w : World} {base : Nat} {spare : Nat → Bool} {held : Bool}

theorem struct_field {P : Program} {t : TypeId} {fs : Array Field} {fuel : Nat} {cl : List Value} {x : DataW H × List MemPlace} (hs : P.underlying t = some (.struct fs)) (h : DataW.trod enc P w base spare held fuel t cl = some x)
    (i : Nat) {tp off k : Nat} (ht : (fs[i]?).map (fun f => f.type) = some tp) (ho : (fs[i]?).map (fun f => f.offset) = some off) (hk : P.cellsOf tp = k) : ∃ n y, DataW.trod enc P w base spare held n tp ((cl.drop off).take k) = some y := by
  obtain ⟨xs, n, _, _, _, hlen, hg⟩ := DataW.trod_struct hs h
  rcases hf : fs[i]? with _ | f
  · rw [hf] at ht; cases ht
  · rw [hf] at ht ho
    simp only [Option.map_some, Option.some.injEq] at ht ho
    have h1 := hg i f hf
    have hi : i < fs.size := (Array.getElem?_eq_some_iff.1 hf).1
    rw [ht, ho, hk, List.getElem?_eq_getElem (by omega)] at h1
    exact ⟨n, _, h1⟩

/-- A slice of structs that came in. -/
theorem in_rows {P : Program} {α : Type} {f : α → List Value} {Q : α → Prop} {k : Nat} {t e : TypeId} {fuel : Nat} {cs : List Value} {x : DataW H × List MemPlace} (ht : P.underlying t = some (.slice e)) (hC : P.cellsOf e = k)
    (hk : 0 < k) (hf : ∀ p, (f p).length = k) (hq : ∀ (n : Nat) (cl : List Value) (y : DataW H × List MemPlace), cl.length = k → DataW.trod enc P w base spare held n e cl = some y → ∃ p, cl = f p ∧ Q p)
    (h : DataW.trod enc P w base spare held fuel t cs = some x) : ∃ (A : Option Addr) (c : Nat) (l : List α), cs = [.slice A l.length c] ∧ l.length ≤ maxLen ∧ l.length ≤ c ∧ Rd k f w A l ∧ ∀ p ∈ l, Q p := by
  rcases Go.Deep.open_slice ht h with ⟨rfl, _⟩ | ⟨a, len, cap, m, n, D, Pl, rfl, _, hl, hm, hmm, _, hi⟩
  · exact ⟨none, 0, [], rfl, Nat.zero_le _, Nat.zero_le _, fun i hi => absurd hi (by simp), fun p hp => by cases hp⟩
  · have hml : len ≤ m := by rw [hmm]; split <;> omega
    have each : ∀ i, i < len → ∃ p : α, Q p ∧ ∀ (j : Nat) (u : Value), (f p)[j]? = some u → w.cell? (a.add (i * k + j)) = some u := by
      intro i hilt
      obtain ⟨cs', hcs, htr⟩ := hi i (by omega)
      rw [hC] at hcs
      obtain ⟨_, hlen, hat⟩ := World.cells?_some hcs
      obtain ⟨p, rfl, hp⟩ := hq _ _ _ hlen htr
      refine ⟨p, hp, fun j u hu => ?_⟩
      have hj : j < k := by have := (List.getElem?_eq_some_iff.1 hu).1; rw [hf] at this; exact this
      have := hat j hj
      rw [Go.Deep.add_add] at this
      rw [this]
      exact hu
    have hc0 : 0 < len → a = ⟨a.block, a.off, none⟩ := by
      intro h0
      obtain ⟨p, _, hp⟩ := each 0 h0
      have h1 : (f p)[0]? = some ((f p)[0]'(by rw [hf]; exact hk)) := List.getElem?_eq_getElem _
      have := hp 0 _ h1
      rw [show a.add (0 * k + 0) = a from by simp [Addr.add]] at this
      exact addr_of this
    obtain ⟨E, hE, hat⟩ := pick_list len each
    refine ⟨some a, cap, E, by rw [hE], by omega, by omega, fun i hi' => ?_, fun p hp => ?_⟩
    · have ha := hc0 (by omega)
      refine ⟨a.block, a.off, by rw [← ha], fun j u hu => ?_⟩
      have := (hat i hi').2 j u hu
      rw [ha, add_eq] at this
      rw [Nat.add_assoc]
      exact this
    · obtain ⟨i, hi', rfl⟩ := List.getElem_of_mem hp
      exact (hat i hi').1

theorem len7 {α : Type} (l : List α) (h : l.length = 7) : ∃ a b c d e f g, l = [a, b, c, d, e, f, g] :=
  match l, h with
  | [a, b, c, d, e, f, g], _ => ⟨a, b, c, d, e, f, g, rfl⟩
theorem len2 {α : Type} (l : List α) (h : l.length = 2) : ∃ a b, l = [a, b] :=
  match l, h with
  | [a, b], _ => ⟨a, b, rfl⟩
theorem len11 {α : Type} (l : List α) (h : l.length = 11) : ∃ a0 a1 a2 a3 a4 a5 a6 a7 a8 a9 a10, l = [a0, a1, a2, a3, a4, a5, a6, a7, a8, a9, a10] :=
  match l, h with
  | [a0, a1, a2, a3, a4, a5, a6, a7, a8, a9, a10], _ => ⟨a0, a1, a2, a3, a4, a5, a6, a7, a8, a9, a10, rfl⟩

set_option maxRecDepth 100000 in
theorem cells_req {n : Nat} {cl : List Value} {y : DataW H × List MemPlace} (hl : cl.length = 5) (h : DataW.trod enc Try.prog w base spare held n 64 cl = some y) : ∃ r : Rq, cl = r.cells := by
  obtain ⟨l, rfl⟩ := ints_of_cells Try.underlying64 (by kernel_rfl) (by rw [hl]; kernel_rfl) (by kernel_rfl) h
  obtain ⟨a, b, c, d, e, rfl⟩ := five_of l (by simpa using hl)
  exact ⟨⟨a, b, c, d, e⟩, rfl⟩

set_option maxRecDepth 100000 in
theorem cells_claim {n : Nat} {cl : List Value} {y : DataW H × List MemPlace} (hl : cl.length = 7) (h : DataW.trod enc Try.prog w base spare held n 97 cl = some y) : ∃ c : Cl, cl = c.cells := by
  obtain ⟨c0, c1, c2, c3, c4, c5, c6, rfl⟩ := len7 cl hl
  obtain ⟨n0, y0, h0⟩ := struct_field Try.underlying97 h 0 (tp := 3) (off := 0) (k := 1) rfl rfl (by kernel_rfl)
  obtain ⟨m0, e0, _, _⟩ := DataW.trod_int Try.underlying3 (show DataW.trod enc Try.prog w base spare held n0 3 [c0] = some y0 from h0)
  obtain rfl : c0 = .int .i64 m0 := by simpa using e0
  obtain ⟨n1, y1, h1⟩ := struct_field Try.underlying97 h 1 (tp := 3) (off := 1) (k := 1) rfl rfl (by kernel_rfl)
  obtain ⟨m1, e1, _, _⟩ := DataW.trod_int Try.underlying3 (show DataW.trod enc Try.prog w base spare held n1 3 [c1] = some y1 from h1)
  obtain rfl : c1 = .int .i64 m1 := by simpa using e1
  obtain ⟨n2, y2, h2⟩ := struct_field Try.underlying97 h 2 (tp := 64) (off := 2) (k := 5) rfl rfl (by kernel_rfl)
  obtain ⟨r, hr⟩ := cells_req (cl := [c2, c3, c4, c5, c6]) rfl h2
  refine ⟨⟨m0, m1, r⟩, ?_⟩
  simp only [Rq.cells, List.cons.injEq] at hr
  obtain ⟨rfl, rfl, rfl, rfl, rfl, _⟩ := hr
  rfl

set_option maxRecDepth 100000 in
theorem in_claims {fuel : Nat} {cs : List Value} {x : DataW H × List MemPlace} (h : DataW.trod enc Try.prog w base spare held fuel 76 cs = some x) :
    ∃ (A : Option Addr) (c : Nat) (l : List Cl), cs = [.slice A l.length c] ∧ l.length ≤ maxLen ∧ RdC w A l := by
  obtain ⟨A, c, l, h1, h2, _, h3, _⟩ := in_rows (f := Cl.cells) (Q := fun _ => True) (k := 7) Try.underlying76 (by kernel_rfl) (by omega) Cl.len (fun n cl y hl h => by
    obtain ⟨c, hc⟩ := cells_claim hl h
    exact ⟨c, hc, trivial⟩) h
  exact ⟨A, c, l, h1, h2, h3⟩

set_option maxRecDepth 100000 in
theorem cells_vote {n : Nat} {cl : List Value} {y : DataW H × List MemPlace} (hl : cl.length = 2) (h : DataW.trod enc Try.prog w base spare held n 150 cl = some y) : ∃ v : VtP, cl = v.cells ∧ v.rd w := by
  obtain ⟨c0, c1, rfl⟩ := len2 cl hl
  obtain ⟨n0, y0, h0⟩ := struct_field Try.underlying150 h 0 (tp := 3) (off := 0) (k := 1) rfl rfl (by kernel_rfl)
  obtain ⟨m0, e0, _, _⟩ := DataW.trod_int Try.underlying3 (show DataW.trod enc Try.prog w base spare held n0 3 [c0] = some y0 from h0)
  obtain rfl : c0 = .int .i64 m0 := by simpa using e0
  obtain ⟨n1, y1, h1⟩ := struct_field Try.underlying150 h 1 (tp := 76) (off := 1) (k := 1) rfl rfl (by kernel_rfl)
  obtain ⟨A, c, l, hc, hm, hr⟩ := in_claims h1
  obtain rfl : c1 = .slice A l.length c := by simpa using hc
  exact ⟨⟨m0, A, c, l⟩, rfl, hm, hr⟩

set_option maxRecDepth 100000 in
theorem in_votes {fuel : Nat} {cs : List Value} {x : DataW H × List MemPlace} (h : DataW.trod enc Try.prog w base spare held fuel 77 cs = some x) :
    ∃ (A : Option Addr) (c : Nat) (l : List VtP), cs = [.slice A l.length c] ∧ l.length ≤ maxLen ∧ RdV w A l := by
  obtain ⟨A, c, l, h1, h2, _, h3, h4⟩ := in_rows (f := VtP.cells) (Q := fun v => v.rd w) (k := 2) Try.underlying77 (by kernel_rfl) (by omega) VtP.len (fun n cl y hl h => cells_vote hl h) h
  exact ⟨A, c, l, h1, h2, h3, h4⟩

set_option maxRecDepth 100000 in
theorem cells_msg {n : Nat} {cl : List Value} {y : DataW H × List MemPlace} (hl : cl.length = 11) (h : DataW.trod enc Try.prog w base spare held n 79 cl = some y) : ∃ v : MgP, cl = v.cells ∧ v.rd w := by
  obtain ⟨c0, c1, c2, c3, c4, c5, c6, c7, c8, c9, c10, rfl⟩ := len11 cl hl
  obtain ⟨n0, y0, h0⟩ := struct_field Try.underlying79 h 0 (tp := 3) (off := 0) (k := 1) rfl rfl (by kernel_rfl)
  obtain ⟨m0, e0, _, _⟩ := DataW.trod_int Try.underlying3 (show DataW.trod enc Try.prog w base spare held n0 3 [c0] = some y0 from h0)
  obtain rfl : c0 = .int .i64 m0 := by simpa using e0
  obtain ⟨n1, y1, h1⟩ := struct_field Try.underlying79 h 1 (tp := 3) (off := 1) (k := 1) rfl rfl (by kernel_rfl)
  obtain ⟨m1, e1, _, _⟩ := DataW.trod_int Try.underlying3 (show DataW.trod enc Try.prog w base spare held n1 3 [c1] = some y1 from h1)
  obtain rfl : c1 = .int .i64 m1 := by simpa using e1
  obtain ⟨n2, y2, h2⟩ := struct_field Try.underlying79 h 2 (tp := 3) (off := 2) (k := 1) rfl rfl (by kernel_rfl)
  obtain ⟨m2, e2, _, _⟩ := DataW.trod_int Try.underlying3 (show DataW.trod enc Try.prog w base spare held n2 3 [c2] = some y2 from h2)
  obtain rfl : c2 = .int .i64 m2 := by simpa using e2
  obtain ⟨n3, y3, h3⟩ := struct_field Try.underlying79 h 3 (tp := 3) (off := 3) (k := 1) rfl rfl (by kernel_rfl)
  obtain ⟨m3, e3, _, _⟩ := DataW.trod_int Try.underlying3 (show DataW.trod enc Try.prog w base spare held n3 3 [c3] = some y3 from h3)
  obtain rfl : c3 = .int .i64 m3 := by simpa using e3
  obtain ⟨n4, y4, h4⟩ := struct_field Try.underlying79 h 4 (tp := 64) (off := 4) (k := 5) rfl rfl (by kernel_rfl)
  obtain ⟨r, hr⟩ := cells_req (cl := [c4, c5, c6, c7, c8]) rfl h4
  obtain ⟨n5, y5, h5⟩ := struct_field Try.underlying79 h 5 (tp := 76) (off := 9) (k := 1) rfl rfl (by kernel_rfl)
  obtain ⟨A, a, l, ha, ma, ra⟩ := in_claims h5
  obtain ⟨n6, y6, h6⟩ := struct_field Try.underlying79 h 6 (tp := 77) (off := 10) (k := 1) rfl rfl (by kernel_rfl)
  obtain ⟨B, b, v, hb, mb, rb⟩ := in_votes h6
  obtain rfl : c9 = .slice A l.length a := by simpa using ha
  obtain rfl : c10 = .slice B v.length b := by simpa using hb
  simp only [Rq.cells, List.cons.injEq] at hr
  obtain ⟨rfl, rfl, rfl, rfl, rfl, _⟩ := hr
  exact ⟨⟨m0, m1, m2, m3, r, A, a, l, B, b, v⟩, rfl, ma, mb, ra, rb⟩

set_option maxRecDepth 100000 in
/-- A letter that came in. -/
theorem in_msg {r : Reach} {b0 : Nat} {v : Value} {d : DataW H} {p : List MemPlace} (hv : Value.okWide Try.prog w r b0 79 v) (h : DataW.Trod enc Try.prog w base spare held 79 v d p) : ∃ m : MgP, v = m.val ∧ m.rd w := by
  obtain ⟨cs, rfl, hsz⟩ := okWide_struct Try.underlying79 hv
  obtain ⟨cl⟩ := cs
  obtain ⟨fuel, hf⟩ := h
  obtain ⟨m, hm, hr⟩ := cells_msg (cl := cl) (by have : Try.prog.cellsOf 79 = 11 := by kernel_rfl
                                                 rw [this] at hsz; simpa using hsz) hf
  exact ⟨m, by rw [hm]; rfl, hr⟩

set_option maxRecDepth 100000 in
theorem in_msgs {r : Reach} {b0 : Nat} {v : Value} {d : DataW H} {p : List MemPlace} (hv : Value.okWide Try.prog w r b0 84 v) (h : DataW.Trod enc Try.prog w base spare held 84 v d p) :
    ∃ (A : Option Addr) (c : Nat) (l : List MgP), v = .slice A l.length c ∧ l.length ≤ maxLen ∧ RdMs w A l := by
  obtain ⟨a0, len, cap, rfl⟩ := okWide_slice Try.underlying84 hv
  obtain ⟨fuel, hf⟩ := h
  obtain ⟨A, c, l, h1, h2, _, h3, h4⟩ := in_rows (f := MgP.cells) (Q := fun v => v.rd w) (k := 11) Try.underlying84 (by kernel_rfl) (by omega) MgP.len (fun n cl y hl h => cells_msg hl h) hf
  exact ⟨A, c, l, by simpa [Value.cells] using h1, h2, h3, h4⟩
end
end Go.Proofs.Ytephmhgjhjheaaa
