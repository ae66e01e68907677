import Derived.Test.YtameldhdegcpoaaGk
namespace Go.Proofs.Ytameldhdegcpoaa
open Go.ChangeShapes Go.WideShapes Go.ChangeAt Go.RowKit
set_option linter.unusedVariables false
set_option linter.unusedSimpArgs false
structure GmR (w : World) (A : Option Addr) (a : Nat) (B : Option Addr) (b : Nat) (C : Option Addr) (d : Nat) (E : List Fig) (F L : List Int) : Prop where
 rE : RdF w A E
 rF : RdI w B F
 rL : RdI w C L
 cA : E.length ≤ a
 cB : F.length ≤ b
 cC : L.length ≤ d
 nA : (A = none ∧ a = 0) ∨ ∃ g, A = some ⟨g, 0, none⟩
 nB : (B = none ∧ b = 0) ∨ ∃ g, B = some ⟨g, 0, none⟩
 nC : (C = none ∧ d = 0) ∨ ∃ g, C = some ⟨g, 0, none⟩
 lA : ∀ x, A = some ⟨x, 0, none⟩ → x < w.heap.size
 lB : ∀ x, B = some ⟨x, 0, none⟩ → x < w.heap.size
 lC : ∀ x, C = some ⟨x, 0, none⟩ → x < w.heap.size
structure GmL (w : World) (A B C : Option Addr) (E : List Fig) (F L : List Int) : Prop where
 rE : RdF w A E
 rF : RdI w B F
 rL : RdJ w C L
 r4 : L.length = 4 → RdI w C L
theorem GmL.below {w w' : World} {A B C : Option Addr} {E : List Fig} {F L : List Int} (h : GmL w A B C E F L) (hb : Below w.heap.size w w') : GmL w' A B C E F L :=
 ⟨RdF.below h.rE hb, RdI.below h.rF hb, RdJ.below h.rL hb, fun e => RdI.below (h.r4 e) hb⟩
theorem GmR.gl {w : World} {A : Option Addr} {a : Nat} {B : Option Addr} {b : Nat} {C : Option Addr} {d : Nat} {E : List Fig} {F L : List Int} (h : GmR w A a B b C d E F L) : GmL w A B C E F L := ⟨h.rE, h.rF, h.rL.j, fun _ => h.rL⟩
theorem GmR.below {w w' : World} {A : Option Addr} {a : Nat} {B : Option Addr} {b : Nat} {C : Option Addr} {d : Nat} {E : List Fig} {F L : List Int} (h : GmR w A a B b C d E F L) (hb : Below w.heap.size w w') : GmR w' A a B b C d E F L :=
 ⟨RdF.below h.rE hb, RdI.below h.rF hb, RdI.below h.rL hb, h.cA, h.cB, h.cC, h.nA, h.nB, h.nC, fun x hx => Nat.lt_of_lt_of_le (h.lA x hx) hb.size, fun x hx => Nat.lt_of_lt_of_le (h.lB x hx) hb.size, fun x hx => Nat.lt_of_lt_of_le (h.lC x hx) hb.size⟩
theorem own_cap {w : World} {base : Nat} {e : TypeId} {size : Nat} {A : Option Addr} {c n : Nat} {xs : List Value} (h : w.ownsRow base e size (.slice A n c) n xs) : n ≤ c ∧ ((A = none ∧ c = 0) ∨ ∃ g, A = some ⟨g, 0, none⟩) := by
 rcases h.2 with ⟨h1, h2⟩ | ⟨g, cap, cur, h1, _, _, h4, _⟩
 · simp only [Value.slice.injEq] at h1
   exact ⟨by omega, .inl ⟨h1.1, h1.2.2⟩⟩
 · simp only [Value.slice.injEq] at h1
   exact ⟨by omega, .inr ⟨g, h1.1⟩⟩
theorem own_at {w : World} {base : Nat} {e : TypeId} {size : Nat} {A : Option Addr} {c n : Nat} {xs : List Value} (h : w.ownsRow base e size (.slice A n c) n xs) : ∀ x, A = some ⟨x, 0, none⟩ → base ≤ x ∧ x < w.heap.size := fun x hx => by
 subst hx
 exact own_block_ge h x rfl
theorem cell_far {w : World} {g j p o : Nat} {u v : Value} (h : w.cell? ⟨g, j, none⟩ = some u) (hp : g ≠ p) : (w.setCell ⟨p, o, none⟩ v).cell? ⟨g, j, none⟩ = some u := by
 have : (w.setCell ⟨p, o, none⟩ v).heap[g]? = w.heap[g]? := heap_setCell_other w ⟨p, o, none⟩ g v (by simpa using hp)
 unfold World.cell? at h ⊢
 simp only [this]
 exact h
theorem GmR.put {w : World} {A : Option Addr} {a : Nat} {B : Option Addr} {b : Nat} {C : Option Addr} {d : Nat} {E : List Fig} {F L : List Int} (h : GmR w A a B b C d E F L) (p o : Nat) (v : Value)
 (hA : ∀ x, A = some ⟨x, 0, none⟩ → x ≠ p) (hB : ∀ x, B = some ⟨x, 0, none⟩ → x ≠ p) (hC : ∀ x, C = some ⟨x, 0, none⟩ → x ≠ p) : GmR (w.setCell ⟨p, o, none⟩ v) A a B b C d E F L := by
 refine ⟨fun i hi => ?_, fun i hi => ?_, fun i hi => ?_, h.cA, h.cB, h.cC, h.nA, h.nB, h.nC, fun x hx => by simpa using h.lA x hx, fun x hx => by simpa using h.lB x hx, fun x hx => by simpa using h.lC x hx⟩
 · obtain ⟨g, hg, a0, a1, a2, a3, a4⟩ := h.rE i hi
   exact ⟨g, hg, cell_far a0 (hA g hg), cell_far a1 (hA g hg), cell_far a2 (hA g hg), cell_far a3 (hA g hg), cell_far a4 (hA g hg)⟩
 · obtain ⟨g, hg, a0⟩ := h.rF i hi
   exact ⟨g, hg, cell_far a0 (hB g hg)⟩
 · obtain ⟨g, hg, a0⟩ := h.rL i hi
   exact ⟨g, hg, cell_far a0 (hC g hg)⟩
theorem nil_cap {A : Option Addr} {a : Nat} (h : (A = none ∧ a = 0) ∨ ∃ g, A = some ⟨g, 0, none⟩) : A = none → a = 0 := fun e => by
 rcases h with h | ⟨g, h⟩
 · exact h.2
 · rw [h] at e; cases e
section
variable {α : Type} {f : α → List Value} {k : Nat}
theorem Rd.upto {w : World} {A : Option Addr} {L : List α} {c s : Nat} (h : Rd k f w A L) (i : Nat) : Rd k f w (if c = 0 then A else A.map (·.add (0 * s))) (L.take i) := by
 have : (if c = 0 then A else A.map (·.add (0 * s))) = A := by
  split
  · rfl
  · cases A <;> simp [Addr.add]
 rw [this]
 exact h.take i
theorem Rd.from_ {w : World} {A : Option Addr} {L : List α} {c : Nat} (h : Rd k f w A L) (hc : L.length ≤ c) (i : Nat) : Rd k f w (if c = i then A else A.map (·.add (i * k))) (L.drop i) := by
 intro j hj
 have hij : i + j < L.length := by simp at hj; omega
 obtain ⟨b, off, hA, _⟩ := h (i + j) hij
 rw [if_neg (by omega), hA]
 subst hA
 have hd := Rd.drop h i j hj
 obtain ⟨b', off', hA', hc'⟩ := hd
 refine ⟨b', off', ?_, hc'⟩
 rw [← hA']
 simp only [Option.map_some, Addr.add]
 split
 · rename_i h0; simp [h0]
 · rfl
end
theorem rd_one (w : World) (t : TypeId) (e : Fig) : Rd 5 Fig.cells (w.alloc (.cells #[.int .i64 e.c, .int .i64 e.x, .int .i64 e.y, .int .i64 e.l, .int .i64 e.g] t)) (some ⟨w.heap.size, 0, none⟩) [e] := by
 intro i h
 have hi : i = 0 := by simpa using h
 subst hi
 refine ⟨w.heap.size, 0, rfl, fun j u hu => ?_⟩
 have hb := cell_of_row _ _ j _ t (0, 0) (heap_alloc_new w (.cells #[.int .i64 e.c, .int .i64 e.x, .int .i64 e.y, .int .i64 e.l, .int .i64 e.g] t))
 rw [show 0 + 0 * 5 + j = j by omega, hb]
 simpa [Fig.cells] using hu
set_option maxRecDepth 100000 in
set_option maxHeartbeats 8000000 in
theorem l2JoinS (g : Nat) (a : Nat) (B : Option Addr) (b : Nat) (C : Option Addr) (d : Nat) (E : List Fig) (F L : List Int) (c : Int) (w : World) (hE : E.length ≤ 4) (hc : 1 ≤ c ∧ c ≤ 4) (hg : GmR w (some ⟨g, 0, none⟩) a B b C d E F L) :
 Calls Try.prog 87 #[gameV (some ⟨g, 0, none⟩) E.length a B F.length b C L.length d, .int .i64 c] w fun e w' => ∃ A' a', e = .returned (gameV A' (E.take (ltF c E) ++ ⟨c, c - 1, c - 1, 3, 0⟩ :: E.drop (ltF c E)).length a' B F.length b C L.length d) ∧
  GmR w' A' a' B b C d (E.take (ltF c E) ++ ⟨c, c - 1, c - 1, 3, 0⟩ :: E.drop (ltF c E)) F L ∧ (∀ x, A' = some ⟨x, 0, none⟩ → w.heap.size ≤ x) ∧ Below w.heap.size w w' := by
 obtain ⟨I, hi, hz0, hz1, hz2⟩ := parts_of infoEnt'
 have I1 := Lib.hid hi
 have I2 := Lib.hid hz0
 have I3 := Lib.hid hz1
 have I4 := Lib.hid hz2
 clear hi hz0 hz1 hz2
 have BW : Hid (Below w.heap.size w ((w.alloc (.cells #[.slice (some ⟨g, 0, none⟩) E.length a, .slice B F.length b, .slice C L.length d] 29)).alloc (.cells #[.slice none 0 0, .slice none 0 0, .slice none 0 0] 29))) := below_alloc2 w _ _
 have K0 : Hid (Three ((w.alloc (.cells #[.slice (some ⟨g, 0, none⟩) E.length a, .slice B F.length b, .slice C L.length d] 29)).alloc (.cells #[.slice none 0 0, .slice none 0 0, .slice none 0 0] 29)) w.heap.size 29 (.slice (some ⟨g, 0, none⟩) E.length a) (.slice B F.length b) (.slice C L.length d)) := (Three.new w).alloc _
 have K1 : Hid (Three ((w.alloc (.cells #[.slice (some ⟨g, 0, none⟩) E.length a, .slice B F.length b, .slice C L.length d] 29)).alloc (.cells #[.slice none 0 0, .slice none 0 0, .slice none 0 0] 29)) (w.heap.size + 1) 29 (.slice none 0 0) (.slice none 0 0) (.slice none 0 0)) := by have := Three.new (t := 29) (u0 := .slice none 0 0) (u1 := .slice none 0 0) (u2 := .slice none 0 0) (w.alloc (.cells #[.slice (some ⟨g, 0, none⟩) E.length a, .slice B F.length b, .slice C L.length d] 29)); simpa [Hid] using this
 have HG := Lib.hid (hg.below BW.out)
 have HG0 := Lib.hid hg
 have HSW : Hid (((w.alloc (.cells #[.slice (some ⟨g, 0, none⟩) E.length a, .slice B F.length b, .slice C L.length d] 29)).alloc (.cells #[.slice none 0 0, .slice none 0 0, .slice none 0 0] 29)).heap.size = w.heap.size + 2) := by show _ = _; simp
 have q1 : IntKind.i64.wrap (c - 1) = c - 1 := IntWalk.i64_in _ (by omega)
 have hca := hg.cA
 have HL0 := Lib.hid (ltF_le c (E : List Fig))
 clear hg
 unfold gameV
 go_enter Try.func87, Try.ntmps87
 go_wp2
 go_loopw [5] (fun v wr => ∃ k : Nat, k ≤ E.length ∧ v = .int .i64 (k : Int) ∧ Hid (∀ j (hj : j < E.length), j < k → (E[j]'hj).c < c) ∧ Hid (Below ((w.alloc (.cells #[.slice (some ⟨g, 0, none⟩) E.length a, .slice B F.length b, .slice C L.length d] 29)).alloc (.cells #[.slice none 0 0, .slice none 0 0, .slice none 0 0] 29)).heap.size ((w.alloc (.cells #[.slice (some ⟨g, 0, none⟩) E.length a, .slice B F.length b, .slice C L.length d] 29)).alloc (.cells #[.slice none 0 0, .slice none 0 0, .slice none 0 0] 29)) wr)) (fun v _ => E.length - (intOf v).toNat)
 case atStart => exact ⟨0, Nat.zero_le _, rfl, fun j hj h => by omega, Below.refl _ _⟩
 case round =>
  obtain ⟨k, hk, rfl, hn, hb⟩ := hrel
  have fin : (∀ hk : k < E.length, ¬ (E[k]'hk).c < c) → ltF c E = k := fun h => ltF_of c E k hk hn.out h
  have HFIN := Lib.hid fin
  clear fin
  have KK0 := Lib.hid (K0.out.below hb.out (by simp; omega))
  have KK1 := Lib.hid (K1.out.below hb.out (by simp))
  obtain ⟨x0, _, _⟩ := KK0.out.cells
  have l0 : w.heap.size + 2 ≤ wr.heap.size := by have := hb.out.size; simp at this; omega
  have l1 : w.heap.size < wr.heap.size := by omega
  have l2 : w.heap.size + 1 < wr.heap.size := by omega
  have BB := Lib.hid (Below.and BW.out hb.out)
  have RR := Lib.hid (HG.out.below hb.out)
  by_cases hlt : k < E.length
  · obtain ⟨g', hg', a0, a1, a2, a3, a4⟩ := RR.out.rE k hlt
    cases hg'
    have i0 : (0 : Int) ≤ (k : Int) := by omega
    have i1 : (k : Int) < (E.length : Int) := by omega
    by_cases hcc : (E[k]'hlt).c < c
    · have HN : Hid (∀ q (hq : q < E.length), q < k + 1 → (E[q]'hq).c < c) := fun q hq h => by
       rcases Nat.lt_or_ge q k with h1 | h1
       · exact hn.out q hq h1
       · obtain rfl : q = k := by omega
         exact hcc
      go_wp2
      go_roundw
      case rel => exact ⟨k + 1, by omega, by go_num, HN.out, hb.out⟩
      case measure => simp [intOf]; omega
    · have HP := Lib.hid (HFIN.out (fun _ => hcc))
      have RD0 : Hid (Rd 5 Fig.cells wr (some ⟨g, 0, none⟩) E) := RR.out.rE.rd
      go_wp2_with (at_builtin; go_loud (refine list_app Fig.len rfl _ _ 26 rfl (w.heap.size + 2) 72 I (.agg #[.int .i64 0, .int .i64 0, .int .i64 0, .int .i64 0, .int .i64 0]) 40 Try.underlying26 I1.out I2.out I3.out I4.out rfl (by decide) _ 0 [] rfl ?o1s1 _ _ k (E.take k) ?m1s1 rfl ?r1s1 ?n1s1 (figs_one _) ?b1s1 ?c1s1 ?d1s1 ?_))
      try case o1s1 => (exact own_base (own_nil_new wr 72 5 rfl) (by omega))
      try case m1s1 => (simp; omega)
      try case r1s1 => (refine Rd.below ?_ ((Below.refl _ _).alloc (Nat.le_refl _) _); first | exact Rd.take RD0.out k | exact Rd.upto RD0.out k)
      try case r1s1.inl => (refine Rd.below ?_ ((Below.refl _ _).alloc (Nat.le_refl _) _); first | exact Rd.take RD0.out k | exact Rd.upto RD0.out k)
      try case r1s1.inr => (refine Rd.below ?_ ((Below.refl _ _).alloc (Nat.le_refl _) _); first | exact Rd.take RD0.out k | exact Rd.upto RD0.out k)
      try case n1s1 => (intro e; cases e)
      try case b1s1 => (unfold maxLen; omega)
      try case c1s1 => (omega)
      try case d1s1 => (first | omega | (simp; omega))
      intro v1 w1 ho1 hg1 hp1
      obtain ⟨A1, c1, hv1, _⟩ := own_form ho1
      subst hv1
      have HB1 : Hid (Below ((w.alloc (.cells #[.slice (some ⟨g, 0, none⟩) E.length a, .slice B F.length b, .slice C L.length d] 29)).alloc (.cells #[.slice none 0 0, .slice none 0 0, .slice none 0 0] 29)).heap.size ((w.alloc (.cells #[.slice (some ⟨g, 0, none⟩) E.length a, .slice B F.length b, .slice C L.length d] 29)).alloc (.cells #[.slice none 0 0, .slice none 0 0, .slice none 0 0] 29)) w1) := Below.trans (hb.out.alloc hb.out.size (.cells #[] 72)) (Below.of_grown hg1 (by rw [HSW.out]; simp; omega) (fun q hq => by rw [HSW.out]; simp [Value.ownBlock] at hq; omega))
      have SZ1 := Lib.hid (show w.heap.size + 2 ≤ w1.heap.size by have := HB1.out.size; rw [HSW.out] at this; omega)
      have OB1 : Hid ((w1.alloc (.cells #[.int .i64 c, .int .i64 (c - 1), .int .i64 (c - 1), .int .i64 3, .int .i64 0] 72)).ownsRow (w.heap.size + 2) 72 5 (.slice A1 k c1) k ((E.take k).flatMap Fig.cells)) := World.ownsRow.alloc (by simpa using ho1) _
      have RN1 : Hid (Rd 5 Fig.cells (w1.alloc (.cells #[.int .i64 c, .int .i64 (c - 1), .int .i64 (c - 1), .int .i64 3, .int .i64 0] 72)) (some ⟨w1.heap.size, 0, none⟩) [(⟨c, c - 1, c - 1, 3, 0⟩ : Fig)]) := rd_one w1 72 ⟨c, c - 1, c - 1, 3, 0⟩
      clear ho1 hg1 hp1
      go_wp2_with (at_builtin; go_loud (refine list_app Fig.len rfl _ _ 26 rfl (w.heap.size + 2) 72 I (.agg #[.int .i64 0, .int .i64 0, .int .i64 0, .int .i64 0, .int .i64 0]) 40 Try.underlying26 I1.out I2.out I3.out I4.out rfl (by decide) (.slice A1 k c1) k ((E.take k).flatMap Fig.cells) rfl ?o2s2 _ _ 1 [(⟨c, c - 1, c - 1, 3, 0⟩ : Fig)] ?m2s2 rfl ?r2s2 ?n2s2 (figs_one _) ?b2s2 ?c2s2 ?d2s2 ?_))
      try case o2s2 => (exact OB1.out)
      try case m2s2 => (rfl)
      try case r2s2 => (exact RN1.out)
      try case r2s2.inl => (exact RN1.out)
      try case r2s2.inr => (exact RN1.out)
      try case n2s2 => (intro e; cases e)
      try case b2s2 => (unfold maxLen; omega)
      try case c2s2 => (omega)
      try case d2s2 => (have := SZ1.out; first | omega | (simp; omega))
      intro v2 w2 ho2 hg2 hp2
      obtain ⟨A2, c2, hv2, _⟩ := own_form ho2
      subst hv2
      have HB2 : Hid (Below ((w.alloc (.cells #[.slice (some ⟨g, 0, none⟩) E.length a, .slice B F.length b, .slice C L.length d] 29)).alloc (.cells #[.slice none 0 0, .slice none 0 0, .slice none 0 0] 29)).heap.size ((w.alloc (.cells #[.slice (some ⟨g, 0, none⟩) E.length a, .slice B F.length b, .slice C L.length d] 29)).alloc (.cells #[.slice none 0 0, .slice none 0 0, .slice none 0 0] 29)) w2) := Below.trans (HB1.out.alloc HB1.out.size (.cells #[.int .i64 c, .int .i64 (c - 1), .int .i64 (c - 1), .int .i64 3, .int .i64 0] 72)) (Below.of_grown hg2 (by rw [HSW.out]; have := SZ1.out; simp; omega) (fun q hq => by rw [HSW.out]; exact (own_block_ge OB1.out q hq).1))
      have SZ2 := Lib.hid (show w.heap.size + 2 ≤ w2.heap.size by have := HB2.out.size; rw [HSW.out] at this; omega)
      have OB2 : Hid (w2.ownsRow (w.heap.size + 2) 72 5 (.slice A2 (k + 1) c2) (k + 1) ((E.take k).flatMap Fig.cells ++ (⟨c, c - 1, c - 1, 3, 0⟩ : Fig).cells)) := ho2
      have RB2 : Hid (Rd 5 Fig.cells w2 (some ⟨g, 0, none⟩) E) := (HG.out.below HB2.out).rE.rd
      have T2 := Lib.hid (K0.out.below HB2.out (by rw [HSW.out]; omega))
      obtain ⟨u0, _, _⟩ := T2.out.cells
      have CA := Lib.hid hca
      clear ho2 hg2 hp2
      go_wp2_with (at_builtin; go_loud (refine list_app Fig.len rfl _ _ 26 rfl (w.heap.size + 2) 72 I (.agg #[.int .i64 0, .int .i64 0, .int .i64 0, .int .i64 0, .int .i64 0]) 40 Try.underlying26 I1.out I2.out I3.out I4.out rfl (by decide) (.slice A2 (k + 1) c2) (k + 1) ((E.take k).flatMap Fig.cells ++ (⟨c, c - 1, c - 1, 3, 0⟩ : Fig).cells) rfl ?o3s3 _ _ (E.length - k) (E.drop k) ?m3s3 rfl ?r3s3 ?n3s3 (figs_one _) ?b3s3 ?c3s3 ?d3s3 ?_))
      try case o3s3 => (exact OB2.out)
      try case m3s3 => (simp)
      try case r3s3 => (first | exact Rd.from_ RB2.out CA.out k | (simpa using Rd.drop RB2.out k) | exact (fun i h => absurd h (by simp; omega)))
      try case r3s3.inl => (first | exact Rd.from_ RB2.out CA.out k | (simpa using Rd.drop RB2.out k) | exact (fun i h => absurd h (by simp; omega)))
      try case r3s3.inr => (first | exact Rd.from_ RB2.out CA.out k | (simpa using Rd.drop RB2.out k) | exact (fun i h => absurd h (by simp; omega)))
      try case n3s3 => (intro e; (first | (split at e <;> cases e) | cases e | (simp at e)))
      try case b3s3 => (unfold maxLen; omega)
      try case c3s3 => (omega)
      try case d3s3 => (have := SZ2.out; first | omega | (simp; omega))
      intro v3 w3 ho3 hg3 hp3
      have hn3 : k + 1 + (E.length - k) = (E.take k ++ ⟨c, c - 1, c - 1, 3, 0⟩ :: E.drop k).length := by simp; omega
      have ho3' : w3.ownsRow (w.heap.size + 2) 72 5 v3 (E.take k ++ ⟨c, c - 1, c - 1, 3, 0⟩ :: E.drop k).length (figs (E.take k ++ ⟨c, c - 1, c - 1, 3, 0⟩ :: E.drop k)) := by
       rw [← hn3]
       have : figs (E.take k ++ ⟨c, c - 1, c - 1, 3, 0⟩ :: E.drop k) = ((E.take k).flatMap Fig.cells ++ (⟨c, c - 1, c - 1, 3, 0⟩ : Fig).cells) ++ (E.drop k).flatMap Fig.cells := by simp [figs, List.flatMap_append]
       rw [this]
       simpa using ho3
      obtain ⟨N3, hN3⟩ : ∃ N3, N3 = (E.take k ++ ⟨c, c - 1, c - 1, 3, 0⟩ :: E.drop k).length := ⟨_, rfl⟩
      rw [← hN3] at ho3'
      have HN3 := Lib.hid hN3
      clear hN3 hn3
      obtain ⟨A3, c3, hv3, _⟩ := own_form ho3'
      subst hv3
      have HB3 : Hid (Below ((w.alloc (.cells #[.slice (some ⟨g, 0, none⟩) E.length a, .slice B F.length b, .slice C L.length d] 29)).alloc (.cells #[.slice none 0 0, .slice none 0 0, .slice none 0 0] 29)).heap.size ((w.alloc (.cells #[.slice (some ⟨g, 0, none⟩) E.length a, .slice B F.length b, .slice C L.length d] 29)).alloc (.cells #[.slice none 0 0, .slice none 0 0, .slice none 0 0] 29)) w3) := Below.trans HB2.out (Below.of_grown hg3 HB2.out.size (fun q hq => by rw [HSW.out]; exact (own_block_ge OB2.out q hq).1))
      have OB3 := Lib.hid ho3'
      have T0 := Lib.hid (K0.out.below HB3.out (by rw [HSW.out]; omega))
      have T1 := Lib.hid (K1.out.below HB3.out (by rw [HSW.out]; omega))
      have BF := Lib.hid (Below.and BW.out HB3.out)
      clear ho3 hg3 hp3 ho3' u0 x0 hb
      obtain ⟨y0, y1, y2⟩ := T0.out.cells
      obtain ⟨z0, z1, z2⟩ := T1.out.cells
      have yf := T0.out.frozen
      have zf := T1.out.frozen
      go_wp2
      refine bodyPost_ret (v := .agg #[.slice A3 N3 c3, .slice B F.length b, .slice C L.length d]) (by simp [results, Try.results87, go_sem, y0, y1, y2, z0, z1, z2]) rfl ?_
      rw [HP.out, ← HN3.out]
      have BFF : Below w.heap.size w ((((w3.setCell ⟨w.heap.size, 0, none⟩ (.slice A3 N3 c3)).setCell ⟨w.heap.size + 1, 0, none⟩ (.slice A3 N3 c3)).setCell ⟨w.heap.size + 1, 1, none⟩ (.slice B F.length b)).setCell ⟨w.heap.size + 1, 2, none⟩ (.slice C L.length d)) := by
       iterate 4 (refine Below.setCell ?_ (by first | (simp; done) | (simp; omega)) _)
       exact BF.out
      have OFF : ((((w3.setCell ⟨w.heap.size, 0, none⟩ (.slice A3 N3 c3)).setCell ⟨w.heap.size + 1, 0, none⟩ (.slice A3 N3 c3)).setCell ⟨w.heap.size + 1, 1, none⟩ (.slice B F.length b)).setCell ⟨w.heap.size + 1, 2, none⟩ (.slice C L.length d)).ownsRow (w.heap.size + 2) 72 5 (.slice A3 N3 c3) N3 (figs (E.take k ++ ⟨c, c - 1, c - 1, 3, 0⟩ :: E.drop k)) := by
       iterate 4 (refine own_put ?_ (by omega) _ _)
       exact OB3.out
      exact ⟨A3, c3, rfl, ⟨RdF.of_own OFF, RdI.below HG0.out.rF BFF, RdI.below HG0.out.rL BFF, (by rw [← HN3.out]; exact (own_cap OFF).1), HG0.out.cB, HG0.out.cC, (own_cap OFF).2, HG0.out.nB, HG0.out.nC, (fun x hx => (own_at OFF x hx).2), (fun x hx => Nat.lt_of_lt_of_le (HG0.out.lB x hx) BFF.size), (fun x hx => Nat.lt_of_lt_of_le (HG0.out.lC x hx) BFF.size)⟩, (fun x hx => by have := (own_at OFF x hx).1; omega), BFF⟩
  · have i1 : ¬ (k : Int) < (E.length : Int) := by omega
    have HP := Lib.hid (HFIN.out (fun h => absurd h hlt))
    by_cases hak : a = k
    · have hak2 := hak
      have RD0 : Hid (Rd 5 Fig.cells wr (some ⟨g, 0, none⟩) E) := RR.out.rE.rd
      go_wp2_with (at_builtin; go_loud (refine list_app Fig.len rfl _ _ 26 rfl (w.heap.size + 2) 72 I (.agg #[.int .i64 0, .int .i64 0, .int .i64 0, .int .i64 0, .int .i64 0]) 40 Try.underlying26 I1.out I2.out I3.out I4.out rfl (by decide) _ 0 [] rfl ?o1s4 _ _ k (E.take k) ?m1s4 rfl ?r1s4 ?n1s4 (figs_one _) ?b1s4 ?c1s4 ?d1s4 ?_))
      try case o1s4 => (exact own_base (own_nil_new wr 72 5 rfl) (by omega))
      try case m1s4 => (simp; omega)
      try case r1s4 => (refine Rd.below ?_ ((Below.refl _ _).alloc (Nat.le_refl _) _); first | exact Rd.take RD0.out k | exact Rd.upto RD0.out k)
      try case r1s4.inl => (refine Rd.below ?_ ((Below.refl _ _).alloc (Nat.le_refl _) _); first | exact Rd.take RD0.out k | exact Rd.upto RD0.out k)
      try case r1s4.inr => (refine Rd.below ?_ ((Below.refl _ _).alloc (Nat.le_refl _) _); first | exact Rd.take RD0.out k | exact Rd.upto RD0.out k)
      try case n1s4 => (intro e; cases e)
      try case b1s4 => (unfold maxLen; omega)
      try case c1s4 => (omega)
      try case d1s4 => (first | omega | (simp; omega))
      intro v1 w1 ho1 hg1 hp1
      obtain ⟨A1, c1, hv1, _⟩ := own_form ho1
      subst hv1
      have HB1 : Hid (Below ((w.alloc (.cells #[.slice (some ⟨g, 0, none⟩) E.length a, .slice B F.length b, .slice C L.length d] 29)).alloc (.cells #[.slice none 0 0, .slice none 0 0, .slice none 0 0] 29)).heap.size ((w.alloc (.cells #[.slice (some ⟨g, 0, none⟩) E.length a, .slice B F.length b, .slice C L.length d] 29)).alloc (.cells #[.slice none 0 0, .slice none 0 0, .slice none 0 0] 29)) w1) := Below.trans (hb.out.alloc hb.out.size (.cells #[] 72)) (Below.of_grown hg1 (by rw [HSW.out]; simp; omega) (fun q hq => by rw [HSW.out]; simp [Value.ownBlock] at hq; omega))
      have SZ1 := Lib.hid (show w.heap.size + 2 ≤ w1.heap.size by have := HB1.out.size; rw [HSW.out] at this; omega)
      have OB1 : Hid ((w1.alloc (.cells #[.int .i64 c, .int .i64 (c - 1), .int .i64 (c - 1), .int .i64 3, .int .i64 0] 72)).ownsRow (w.heap.size + 2) 72 5 (.slice A1 k c1) k ((E.take k).flatMap Fig.cells)) := World.ownsRow.alloc (by simpa using ho1) _
      have RN1 : Hid (Rd 5 Fig.cells (w1.alloc (.cells #[.int .i64 c, .int .i64 (c - 1), .int .i64 (c - 1), .int .i64 3, .int .i64 0] 72)) (some ⟨w1.heap.size, 0, none⟩) [(⟨c, c - 1, c - 1, 3, 0⟩ : Fig)]) := rd_one w1 72 ⟨c, c - 1, c - 1, 3, 0⟩
      clear ho1 hg1 hp1
      go_wp2_with (at_builtin; go_loud (refine list_app Fig.len rfl _ _ 26 rfl (w.heap.size + 2) 72 I (.agg #[.int .i64 0, .int .i64 0, .int .i64 0, .int .i64 0, .int .i64 0]) 40 Try.underlying26 I1.out I2.out I3.out I4.out rfl (by decide) (.slice A1 k c1) k ((E.take k).flatMap Fig.cells) rfl ?o2s5 _ _ 1 [(⟨c, c - 1, c - 1, 3, 0⟩ : Fig)] ?m2s5 rfl ?r2s5 ?n2s5 (figs_one _) ?b2s5 ?c2s5 ?d2s5 ?_))
      try case o2s5 => (exact OB1.out)
      try case m2s5 => (rfl)
      try case r2s5 => (exact RN1.out)
      try case r2s5.inl => (exact RN1.out)
      try case r2s5.inr => (exact RN1.out)
      try case n2s5 => (intro e; cases e)
      try case b2s5 => (unfold maxLen; omega)
      try case c2s5 => (omega)
      try case d2s5 => (have := SZ1.out; first | omega | (simp; omega))
      intro v2 w2 ho2 hg2 hp2
      obtain ⟨A2, c2, hv2, _⟩ := own_form ho2
      subst hv2
      have HB2 : Hid (Below ((w.alloc (.cells #[.slice (some ⟨g, 0, none⟩) E.length a, .slice B F.length b, .slice C L.length d] 29)).alloc (.cells #[.slice none 0 0, .slice none 0 0, .slice none 0 0] 29)).heap.size ((w.alloc (.cells #[.slice (some ⟨g, 0, none⟩) E.length a, .slice B F.length b, .slice C L.length d] 29)).alloc (.cells #[.slice none 0 0, .slice none 0 0, .slice none 0 0] 29)) w2) := Below.trans (HB1.out.alloc HB1.out.size (.cells #[.int .i64 c, .int .i64 (c - 1), .int .i64 (c - 1), .int .i64 3, .int .i64 0] 72)) (Below.of_grown hg2 (by rw [HSW.out]; have := SZ1.out; simp; omega) (fun q hq => by rw [HSW.out]; exact (own_block_ge OB1.out q hq).1))
      have SZ2 := Lib.hid (show w.heap.size + 2 ≤ w2.heap.size by have := HB2.out.size; rw [HSW.out] at this; omega)
      have OB2 : Hid (w2.ownsRow (w.heap.size + 2) 72 5 (.slice A2 (k + 1) c2) (k + 1) ((E.take k).flatMap Fig.cells ++ (⟨c, c - 1, c - 1, 3, 0⟩ : Fig).cells)) := ho2
      have RB2 : Hid (Rd 5 Fig.cells w2 (some ⟨g, 0, none⟩) E) := (HG.out.below HB2.out).rE.rd
      have T2 := Lib.hid (K0.out.below HB2.out (by rw [HSW.out]; omega))
      obtain ⟨u0, _, _⟩ := T2.out.cells
      have CA := Lib.hid hca
      clear ho2 hg2 hp2
      go_wp2_with (at_builtin; go_loud (refine list_app Fig.len rfl _ _ 26 rfl (w.heap.size + 2) 72 I (.agg #[.int .i64 0, .int .i64 0, .int .i64 0, .int .i64 0, .int .i64 0]) 40 Try.underlying26 I1.out I2.out I3.out I4.out rfl (by decide) (.slice A2 (k + 1) c2) (k + 1) ((E.take k).flatMap Fig.cells ++ (⟨c, c - 1, c - 1, 3, 0⟩ : Fig).cells) rfl ?o3s6 _ _ (E.length - k) (E.drop k) ?m3s6 rfl ?r3s6 ?n3s6 (figs_one _) ?b3s6 ?c3s6 ?d3s6 ?_))
      try case o3s6 => (exact OB2.out)
      try case m3s6 => (simp)
      try case r3s6 => (first | exact Rd.from_ RB2.out CA.out k | (simpa using Rd.drop RB2.out k) | exact (fun i h => absurd h (by simp; omega)))
      try case r3s6.inl => (first | exact Rd.from_ RB2.out CA.out k | (simpa using Rd.drop RB2.out k) | exact (fun i h => absurd h (by simp; omega)))
      try case r3s6.inr => (first | exact Rd.from_ RB2.out CA.out k | (simpa using Rd.drop RB2.out k) | exact (fun i h => absurd h (by simp; omega)))
      try case n3s6 => (intro e; (first | (split at e <;> cases e) | cases e | (simp at e)))
      try case b3s6 => (unfold maxLen; omega)
      try case c3s6 => (omega)
      try case d3s6 => (have := SZ2.out; first | omega | (simp; omega))
      intro v3 w3 ho3 hg3 hp3
      have hn3 : k + 1 + (E.length - k) = (E.take k ++ ⟨c, c - 1, c - 1, 3, 0⟩ :: E.drop k).length := by simp; omega
      have ho3' : w3.ownsRow (w.heap.size + 2) 72 5 v3 (E.take k ++ ⟨c, c - 1, c - 1, 3, 0⟩ :: E.drop k).length (figs (E.take k ++ ⟨c, c - 1, c - 1, 3, 0⟩ :: E.drop k)) := by
       rw [← hn3]
       have : figs (E.take k ++ ⟨c, c - 1, c - 1, 3, 0⟩ :: E.drop k) = ((E.take k).flatMap Fig.cells ++ (⟨c, c - 1, c - 1, 3, 0⟩ : Fig).cells) ++ (E.drop k).flatMap Fig.cells := by simp [figs, List.flatMap_append]
       rw [this]
       simpa using ho3
      obtain ⟨N3, hN3⟩ : ∃ N3, N3 = (E.take k ++ ⟨c, c - 1, c - 1, 3, 0⟩ :: E.drop k).length := ⟨_, rfl⟩
      rw [← hN3] at ho3'
      have HN3 := Lib.hid hN3
      clear hN3 hn3
      obtain ⟨A3, c3, hv3, _⟩ := own_form ho3'
      subst hv3
      have HB3 : Hid (Below ((w.alloc (.cells #[.slice (some ⟨g, 0, none⟩) E.length a, .slice B F.length b, .slice C L.length d] 29)).alloc (.cells #[.slice none 0 0, .slice none 0 0, .slice none 0 0] 29)).heap.size ((w.alloc (.cells #[.slice (some ⟨g, 0, none⟩) E.length a, .slice B F.length b, .slice C L.length d] 29)).alloc (.cells #[.slice none 0 0, .slice none 0 0, .slice none 0 0] 29)) w3) := Below.trans HB2.out (Below.of_grown hg3 HB2.out.size (fun q hq => by rw [HSW.out]; exact (own_block_ge OB2.out q hq).1))
      have OB3 := Lib.hid ho3'
      have T0 := Lib.hid (K0.out.below HB3.out (by rw [HSW.out]; omega))
      have T1 := Lib.hid (K1.out.below HB3.out (by rw [HSW.out]; omega))
      have BF := Lib.hid (Below.and BW.out HB3.out)
      clear ho3 hg3 hp3 ho3' u0 x0 hb
      obtain ⟨y0, y1, y2⟩ := T0.out.cells
      obtain ⟨z0, z1, z2⟩ := T1.out.cells
      have yf := T0.out.frozen
      have zf := T1.out.frozen
      go_wp2
      refine bodyPost_ret (v := .agg #[.slice A3 N3 c3, .slice B F.length b, .slice C L.length d]) (by simp [results, Try.results87, go_sem, y0, y1, y2, z0, z1, z2]) rfl ?_
      rw [HP.out, ← HN3.out]
      have BFF : Below w.heap.size w ((((w3.setCell ⟨w.heap.size, 0, none⟩ (.slice A3 N3 c3)).setCell ⟨w.heap.size + 1, 0, none⟩ (.slice A3 N3 c3)).setCell ⟨w.heap.size + 1, 1, none⟩ (.slice B F.length b)).setCell ⟨w.heap.size + 1, 2, none⟩ (.slice C L.length d)) := by
       iterate 4 (refine Below.setCell ?_ (by first | (simp; done) | (simp; omega)) _)
       exact BF.out
      have OFF : ((((w3.setCell ⟨w.heap.size, 0, none⟩ (.slice A3 N3 c3)).setCell ⟨w.heap.size + 1, 0, none⟩ (.slice A3 N3 c3)).setCell ⟨w.heap.size + 1, 1, none⟩ (.slice B F.length b)).setCell ⟨w.heap.size + 1, 2, none⟩ (.slice C L.length d)).ownsRow (w.heap.size + 2) 72 5 (.slice A3 N3 c3) N3 (figs (E.take k ++ ⟨c, c - 1, c - 1, 3, 0⟩ :: E.drop k)) := by
       iterate 4 (refine own_put ?_ (by omega) _ _)
       exact OB3.out
      exact ⟨A3, c3, rfl, ⟨RdF.of_own OFF, RdI.below HG0.out.rF BFF, RdI.below HG0.out.rL BFF, (by rw [← HN3.out]; exact (own_cap OFF).1), HG0.out.cB, HG0.out.cC, (own_cap OFF).2, HG0.out.nB, HG0.out.nC, (fun x hx => (own_at OFF x hx).2), (fun x hx => Nat.lt_of_lt_of_le (HG0.out.lB x hx) BFF.size), (fun x hx => Nat.lt_of_lt_of_le (HG0.out.lC x hx) BFF.size)⟩, (fun x hx => by have := (own_at OFF x hx).1; omega), BFF⟩
    · have hak2 := hak
      have RD0 : Hid (Rd 5 Fig.cells wr (some ⟨g, 0, none⟩) E) := RR.out.rE.rd
      go_wp2_with (at_builtin; go_loud (refine list_app Fig.len rfl _ _ 26 rfl (w.heap.size + 2) 72 I (.agg #[.int .i64 0, .int .i64 0, .int .i64 0, .int .i64 0, .int .i64 0]) 40 Try.underlying26 I1.out I2.out I3.out I4.out rfl (by decide) _ 0 [] rfl ?o1s7 _ _ k (E.take k) ?m1s7 rfl ?r1s7 ?n1s7 (figs_one _) ?b1s7 ?c1s7 ?d1s7 ?_))
      try case o1s7 => (exact own_base (own_nil_new wr 72 5 rfl) (by omega))
      try case m1s7 => (simp; omega)
      try case r1s7 => (refine Rd.below ?_ ((Below.refl _ _).alloc (Nat.le_refl _) _); first | exact Rd.take RD0.out k | exact Rd.upto RD0.out k)
      try case r1s7.inl => (refine Rd.below ?_ ((Below.refl _ _).alloc (Nat.le_refl _) _); first | exact Rd.take RD0.out k | exact Rd.upto RD0.out k)
      try case r1s7.inr => (refine Rd.below ?_ ((Below.refl _ _).alloc (Nat.le_refl _) _); first | exact Rd.take RD0.out k | exact Rd.upto RD0.out k)
      try case n1s7 => (intro e; cases e)
      try case b1s7 => (unfold maxLen; omega)
      try case c1s7 => (omega)
      try case d1s7 => (first | omega | (simp; omega))
      intro v1 w1 ho1 hg1 hp1
      obtain ⟨A1, c1, hv1, _⟩ := own_form ho1
      subst hv1
      have HB1 : Hid (Below ((w.alloc (.cells #[.slice (some ⟨g, 0, none⟩) E.length a, .slice B F.length b, .slice C L.length d] 29)).alloc (.cells #[.slice none 0 0, .slice none 0 0, .slice none 0 0] 29)).heap.size ((w.alloc (.cells #[.slice (some ⟨g, 0, none⟩) E.length a, .slice B F.length b, .slice C L.length d] 29)).alloc (.cells #[.slice none 0 0, .slice none 0 0, .slice none 0 0] 29)) w1) := Below.trans (hb.out.alloc hb.out.size (.cells #[] 72)) (Below.of_grown hg1 (by rw [HSW.out]; simp; omega) (fun q hq => by rw [HSW.out]; simp [Value.ownBlock] at hq; omega))
      have SZ1 := Lib.hid (show w.heap.size + 2 ≤ w1.heap.size by have := HB1.out.size; rw [HSW.out] at this; omega)
      have OB1 : Hid ((w1.alloc (.cells #[.int .i64 c, .int .i64 (c - 1), .int .i64 (c - 1), .int .i64 3, .int .i64 0] 72)).ownsRow (w.heap.size + 2) 72 5 (.slice A1 k c1) k ((E.take k).flatMap Fig.cells)) := World.ownsRow.alloc (by simpa using ho1) _
      have RN1 : Hid (Rd 5 Fig.cells (w1.alloc (.cells #[.int .i64 c, .int .i64 (c - 1), .int .i64 (c - 1), .int .i64 3, .int .i64 0] 72)) (some ⟨w1.heap.size, 0, none⟩) [(⟨c, c - 1, c - 1, 3, 0⟩ : Fig)]) := rd_one w1 72 ⟨c, c - 1, c - 1, 3, 0⟩
      clear ho1 hg1 hp1
      go_wp2_with (at_builtin; go_loud (refine list_app Fig.len rfl _ _ 26 rfl (w.heap.size + 2) 72 I (.agg #[.int .i64 0, .int .i64 0, .int .i64 0, .int .i64 0, .int .i64 0]) 40 Try.underlying26 I1.out I2.out I3.out I4.out rfl (by decide) (.slice A1 k c1) k ((E.take k).flatMap Fig.cells) rfl ?o2s8 _ _ 1 [(⟨c, c - 1, c - 1, 3, 0⟩ : Fig)] ?m2s8 rfl ?r2s8 ?n2s8 (figs_one _) ?b2s8 ?c2s8 ?d2s8 ?_))
      try case o2s8 => (exact OB1.out)
      try case m2s8 => (rfl)
      try case r2s8 => (exact RN1.out)
      try case r2s8.inl => (exact RN1.out)
      try case r2s8.inr => (exact RN1.out)
      try case n2s8 => (intro e; cases e)
      try case b2s8 => (unfold maxLen; omega)
      try case c2s8 => (omega)
      try case d2s8 => (have := SZ1.out; first | omega | (simp; omega))
      intro v2 w2 ho2 hg2 hp2
      obtain ⟨A2, c2, hv2, _⟩ := own_form ho2
      subst hv2
      have HB2 : Hid (Below ((w.alloc (.cells #[.slice (some ⟨g, 0, none⟩) E.length a, .slice B F.length b, .slice C L.length d] 29)).alloc (.cells #[.slice none 0 0, .slice none 0 0, .slice none 0 0] 29)).heap.size ((w.alloc (.cells #[.slice (some ⟨g, 0, none⟩) E.length a, .slice B F.length b, .slice C L.length d] 29)).alloc (.cells #[.slice none 0 0, .slice none 0 0, .slice none 0 0] 29)) w2) := Below.trans (HB1.out.alloc HB1.out.size (.cells #[.int .i64 c, .int .i64 (c - 1), .int .i64 (c - 1), .int .i64 3, .int .i64 0] 72)) (Below.of_grown hg2 (by rw [HSW.out]; have := SZ1.out; simp; omega) (fun q hq => by rw [HSW.out]; exact (own_block_ge OB1.out q hq).1))
      have SZ2 := Lib.hid (show w.heap.size + 2 ≤ w2.heap.size by have := HB2.out.size; rw [HSW.out] at this; omega)
      have OB2 : Hid (w2.ownsRow (w.heap.size + 2) 72 5 (.slice A2 (k + 1) c2) (k + 1) ((E.take k).flatMap Fig.cells ++ (⟨c, c - 1, c - 1, 3, 0⟩ : Fig).cells)) := ho2
      have RB2 : Hid (Rd 5 Fig.cells w2 (some ⟨g, 0, none⟩) E) := (HG.out.below HB2.out).rE.rd
      have T2 := Lib.hid (K0.out.below HB2.out (by rw [HSW.out]; omega))
      obtain ⟨u0, _, _⟩ := T2.out.cells
      have CA := Lib.hid hca
      clear ho2 hg2 hp2
      go_wp2_with (at_builtin; go_loud (refine list_app Fig.len rfl _ _ 26 rfl (w.heap.size + 2) 72 I (.agg #[.int .i64 0, .int .i64 0, .int .i64 0, .int .i64 0, .int .i64 0]) 40 Try.underlying26 I1.out I2.out I3.out I4.out rfl (by decide) (.slice A2 (k + 1) c2) (k + 1) ((E.take k).flatMap Fig.cells ++ (⟨c, c - 1, c - 1, 3, 0⟩ : Fig).cells) rfl ?o3s9 _ _ (E.length - k) (E.drop k) ?m3s9 rfl ?r3s9 ?n3s9 (figs_one _) ?b3s9 ?c3s9 ?d3s9 ?_))
      try case o3s9 => (exact OB2.out)
      try case m3s9 => (simp)
      try case r3s9 => (first | exact Rd.from_ RB2.out CA.out k | (simpa using Rd.drop RB2.out k) | exact (fun i h => absurd h (by simp; omega)))
      try case r3s9.inl => (first | exact Rd.from_ RB2.out CA.out k | (simpa using Rd.drop RB2.out k) | exact (fun i h => absurd h (by simp; omega)))
      try case r3s9.inr => (first | exact Rd.from_ RB2.out CA.out k | (simpa using Rd.drop RB2.out k) | exact (fun i h => absurd h (by simp; omega)))
      try case n3s9 => (intro e; (first | (split at e <;> cases e) | cases e | (simp at e)))
      try case b3s9 => (unfold maxLen; omega)
      try case c3s9 => (omega)
      try case d3s9 => (have := SZ2.out; first | omega | (simp; omega))
      intro v3 w3 ho3 hg3 hp3
      have hn3 : k + 1 + (E.length - k) = (E.take k ++ ⟨c, c - 1, c - 1, 3, 0⟩ :: E.drop k).length := by simp; omega
      have ho3' : w3.ownsRow (w.heap.size + 2) 72 5 v3 (E.take k ++ ⟨c, c - 1, c - 1, 3, 0⟩ :: E.drop k).length (figs (E.take k ++ ⟨c, c - 1, c - 1, 3, 0⟩ :: E.drop k)) := by
       rw [← hn3]
       have : figs (E.take k ++ ⟨c, c - 1, c - 1, 3, 0⟩ :: E.drop k) = ((E.take k).flatMap Fig.cells ++ (⟨c, c - 1, c - 1, 3, 0⟩ : Fig).cells) ++ (E.drop k).flatMap Fig.cells := by simp [figs, List.flatMap_append]
       rw [this]
       simpa using ho3
      obtain ⟨N3, hN3⟩ : ∃ N3, N3 = (E.take k ++ ⟨c, c - 1, c - 1, 3, 0⟩ :: E.drop k).length := ⟨_, rfl⟩
      rw [← hN3] at ho3'
      have HN3 := Lib.hid hN3
      clear hN3 hn3
      obtain ⟨A3, c3, hv3, _⟩ := own_form ho3'
      subst hv3
      have HB3 : Hid (Below ((w.alloc (.cells #[.slice (some ⟨g, 0, none⟩) E.length a, .slice B F.length b, .slice C L.length d] 29)).alloc (.cells #[.slice none 0 0, .slice none 0 0, .slice none 0 0] 29)).heap.size ((w.alloc (.cells #[.slice (some ⟨g, 0, none⟩) E.length a, .slice B F.length b, .slice C L.length d] 29)).alloc (.cells #[.slice none 0 0, .slice none 0 0, .slice none 0 0] 29)) w3) := Below.trans HB2.out (Below.of_grown hg3 HB2.out.size (fun q hq => by rw [HSW.out]; exact (own_block_ge OB2.out q hq).1))
      have OB3 := Lib.hid ho3'
      have T0 := Lib.hid (K0.out.below HB3.out (by rw [HSW.out]; omega))
      have T1 := Lib.hid (K1.out.below HB3.out (by rw [HSW.out]; omega))
      have BF := Lib.hid (Below.and BW.out HB3.out)
      clear ho3 hg3 hp3 ho3' u0 x0 hb
      obtain ⟨y0, y1, y2⟩ := T0.out.cells
      obtain ⟨z0, z1, z2⟩ := T1.out.cells
      have yf := T0.out.frozen
      have zf := T1.out.frozen
      go_wp2
      refine bodyPost_ret (v := .agg #[.slice A3 N3 c3, .slice B F.length b, .slice C L.length d]) (by simp [results, Try.results87, go_sem, y0, y1, y2, z0, z1, z2]) rfl ?_
      rw [HP.out, ← HN3.out]
      have BFF : Below w.heap.size w ((((w3.setCell ⟨w.heap.size, 0, none⟩ (.slice A3 N3 c3)).setCell ⟨w.heap.size + 1, 0, none⟩ (.slice A3 N3 c3)).setCell ⟨w.heap.size + 1, 1, none⟩ (.slice B F.length b)).setCell ⟨w.heap.size + 1, 2, none⟩ (.slice C L.length d)) := by
       iterate 4 (refine Below.setCell ?_ (by first | (simp; done) | (simp; omega)) _)
       exact BF.out
      have OFF : ((((w3.setCell ⟨w.heap.size, 0, none⟩ (.slice A3 N3 c3)).setCell ⟨w.heap.size + 1, 0, none⟩ (.slice A3 N3 c3)).setCell ⟨w.heap.size + 1, 1, none⟩ (.slice B F.length b)).setCell ⟨w.heap.size + 1, 2, none⟩ (.slice C L.length d)).ownsRow (w.heap.size + 2) 72 5 (.slice A3 N3 c3) N3 (figs (E.take k ++ ⟨c, c - 1, c - 1, 3, 0⟩ :: E.drop k)) := by
       iterate 4 (refine own_put ?_ (by omega) _ _)
       exact OB3.out
      exact ⟨A3, c3, rfl, ⟨RdF.of_own OFF, RdI.below HG0.out.rF BFF, RdI.below HG0.out.rL BFF, (by rw [← HN3.out]; exact (own_cap OFF).1), HG0.out.cB, HG0.out.cC, (own_cap OFF).2, HG0.out.nB, HG0.out.nC, (fun x hx => (own_at OFF x hx).2), (fun x hx => Nat.lt_of_lt_of_le (HG0.out.lB x hx) BFF.size), (fun x hx => Nat.lt_of_lt_of_le (HG0.out.lC x hx) BFF.size)⟩, (fun x hx => by have := (own_at OFF x hx).1; omega), BFF⟩
set_option maxRecDepth 100000 in
set_option maxHeartbeats 8000000 in
theorem l2JoinN  (B : Option Addr) (b : Nat) (C : Option Addr) (d : Nat)  (F L : List Int) (c : Int) (w : World)  (hc : 1 ≤ c ∧ c ≤ 4) (hg : GmR w none 0 B b C d ([] : List Fig) F L) :
 Calls Try.prog 87 #[gameV none ([] : List Fig).length 0 B F.length b C L.length d, .int .i64 c] w fun e w' => ∃ A' a', e = .returned (gameV A' (([] : List Fig).take (ltF c ([] : List Fig)) ++ ⟨c, c - 1, c - 1, 3, 0⟩ :: ([] : List Fig).drop (ltF c ([] : List Fig))).length a' B F.length b C L.length d) ∧
  GmR w' A' a' B b C d (([] : List Fig).take (ltF c ([] : List Fig)) ++ ⟨c, c - 1, c - 1, 3, 0⟩ :: ([] : List Fig).drop (ltF c ([] : List Fig))) F L ∧ (∀ x, A' = some ⟨x, 0, none⟩ → w.heap.size ≤ x) ∧ Below w.heap.size w w' := by
 obtain ⟨I, hi, hz0, hz1, hz2⟩ := parts_of infoEnt'
 have I1 := Lib.hid hi
 have I2 := Lib.hid hz0
 have I3 := Lib.hid hz1
 have I4 := Lib.hid hz2
 clear hi hz0 hz1 hz2
 have BW : Hid (Below w.heap.size w ((w.alloc (.cells #[.slice none ([] : List Fig).length 0, .slice B F.length b, .slice C L.length d] 29)).alloc (.cells #[.slice none 0 0, .slice none 0 0, .slice none 0 0] 29))) := below_alloc2 w _ _
 have K0 : Hid (Three ((w.alloc (.cells #[.slice none ([] : List Fig).length 0, .slice B F.length b, .slice C L.length d] 29)).alloc (.cells #[.slice none 0 0, .slice none 0 0, .slice none 0 0] 29)) w.heap.size 29 (.slice none ([] : List Fig).length 0) (.slice B F.length b) (.slice C L.length d)) := (Three.new w).alloc _
 have K1 : Hid (Three ((w.alloc (.cells #[.slice none ([] : List Fig).length 0, .slice B F.length b, .slice C L.length d] 29)).alloc (.cells #[.slice none 0 0, .slice none 0 0, .slice none 0 0] 29)) (w.heap.size + 1) 29 (.slice none 0 0) (.slice none 0 0) (.slice none 0 0)) := by have := Three.new (t := 29) (u0 := .slice none 0 0) (u1 := .slice none 0 0) (u2 := .slice none 0 0) (w.alloc (.cells #[.slice none ([] : List Fig).length 0, .slice B F.length b, .slice C L.length d] 29)); simpa [Hid] using this
 have HG := Lib.hid (hg.below BW.out)
 have HG0 := Lib.hid hg
 have HSW : Hid (((w.alloc (.cells #[.slice none ([] : List Fig).length 0, .slice B F.length b, .slice C L.length d] 29)).alloc (.cells #[.slice none 0 0, .slice none 0 0, .slice none 0 0] 29)).heap.size = w.heap.size + 2) := by show _ = _; simp
 have q1 : IntKind.i64.wrap (c - 1) = c - 1 := IntWalk.i64_in _ (by omega)
 have hca := hg.cA
 have HL0 := Lib.hid (ltF_le c (([] : List Fig) : List Fig))
 clear hg
 unfold gameV
 go_enter Try.func87, Try.ntmps87
 go_wp2
 go_loopw [5] (fun v wr => v = .int .i64 0 ∧ Hid (Below ((w.alloc (.cells #[.slice none ([] : List Fig).length 0, .slice B F.length b, .slice C L.length d] 29)).alloc (.cells #[.slice none 0 0, .slice none 0 0, .slice none 0 0] 29)).heap.size ((w.alloc (.cells #[.slice none ([] : List Fig).length 0, .slice B F.length b, .slice C L.length d] 29)).alloc (.cells #[.slice none 0 0, .slice none 0 0, .slice none 0 0] 29)) wr)) (fun _ _ => 0)
 case atStart => exact ⟨rfl, Below.refl _ _⟩
 case round =>
  obtain ⟨rfl, hb⟩ := hrel
  have KK0 := Lib.hid (K0.out.below hb.out (by simp; omega))
  have KK1 := Lib.hid (K1.out.below hb.out (by simp))
  obtain ⟨x0, _, _⟩ := KK0.out.cells
  have l0 : w.heap.size + 2 ≤ wr.heap.size := by have := hb.out.size; simp at this; omega
  have l1 : w.heap.size < wr.heap.size := by omega
  have l2 : w.heap.size + 1 < wr.heap.size := by omega
  have BB := Lib.hid (Below.and BW.out hb.out)
  have RR := Lib.hid (HG.out.below hb.out)
  have HP : Hid (ltF c [] = 0) := rfl
  have RD0 : Hid (Rd 5 Fig.cells wr none ([] : List Fig)) := RR.out.rE.rd
  go_wp2_with (at_builtin; go_loud (refine list_app Fig.len rfl _ _ 26 rfl (w.heap.size + 2) 72 I (.agg #[.int .i64 0, .int .i64 0, .int .i64 0, .int .i64 0, .int .i64 0]) 40 Try.underlying26 I1.out I2.out I3.out I4.out rfl (by decide) _ 0 [] rfl ?o1s19 _ _ 0 ([] : List Fig) ?m1s19 rfl ?r1s19 ?n1s19 (figs_one _) ?b1s19 ?c1s19 ?d1s19 ?_))
  try case o1s19 => (exact own_base (own_nil_new wr 72 5 rfl) (by omega))
  try case m1s19 => (rfl)
  try case r1s19 => (exact fun i h => by cases h)
  try case r1s19.inl => (exact fun i h => by cases h)
  try case r1s19.inr => (exact fun i h => by cases h)
  try case n1s19 => (intro _; rfl)
  try case b1s19 => (unfold maxLen; omega)
  try case c1s19 => (omega)
  try case d1s19 => (first | omega | (simp; omega))
  intro v1 w1 ho1 hg1 hp1
  obtain ⟨A1, c1, hv1, _⟩ := own_form ho1
  subst hv1
  have HB1 : Hid (Below ((w.alloc (.cells #[.slice none ([] : List Fig).length 0, .slice B F.length b, .slice C L.length d] 29)).alloc (.cells #[.slice none 0 0, .slice none 0 0, .slice none 0 0] 29)).heap.size ((w.alloc (.cells #[.slice none ([] : List Fig).length 0, .slice B F.length b, .slice C L.length d] 29)).alloc (.cells #[.slice none 0 0, .slice none 0 0, .slice none 0 0] 29)) w1) := Below.trans (hb.out.alloc hb.out.size (.cells #[] 72)) (Below.of_grown hg1 (by rw [HSW.out]; simp; omega) (fun q hq => by rw [HSW.out]; simp [Value.ownBlock] at hq; omega))
  have SZ1 := Lib.hid (show w.heap.size + 2 ≤ w1.heap.size by have := HB1.out.size; rw [HSW.out] at this; omega)
  have OB1 : Hid ((w1.alloc (.cells #[.int .i64 c, .int .i64 (c - 1), .int .i64 (c - 1), .int .i64 3, .int .i64 0] 72)).ownsRow (w.heap.size + 2) 72 5 (.slice A1 0 c1) 0 []) := World.ownsRow.alloc (by simpa using ho1) _
  have RN1 : Hid (Rd 5 Fig.cells (w1.alloc (.cells #[.int .i64 c, .int .i64 (c - 1), .int .i64 (c - 1), .int .i64 3, .int .i64 0] 72)) (some ⟨w1.heap.size, 0, none⟩) [(⟨c, c - 1, c - 1, 3, 0⟩ : Fig)]) := rd_one w1 72 ⟨c, c - 1, c - 1, 3, 0⟩
  clear ho1 hg1 hp1
  go_wp2_with (at_builtin; go_loud (refine list_app Fig.len rfl _ _ 26 rfl (w.heap.size + 2) 72 I (.agg #[.int .i64 0, .int .i64 0, .int .i64 0, .int .i64 0, .int .i64 0]) 40 Try.underlying26 I1.out I2.out I3.out I4.out rfl (by decide) (.slice A1 0 c1) 0 [] rfl ?o2s20 _ _ 1 [(⟨c, c - 1, c - 1, 3, 0⟩ : Fig)] ?m2s20 rfl ?r2s20 ?n2s20 (figs_one _) ?b2s20 ?c2s20 ?d2s20 ?_))
  try case o2s20 => (exact OB1.out)
  try case m2s20 => (rfl)
  try case r2s20 => (exact RN1.out)
  try case r2s20.inl => (exact RN1.out)
  try case r2s20.inr => (exact RN1.out)
  try case n2s20 => (intro e; cases e)
  try case b2s20 => (unfold maxLen; omega)
  try case c2s20 => (omega)
  try case d2s20 => (have := SZ1.out; first | omega | (simp; omega))
  intro v2 w2 ho2 hg2 hp2
  obtain ⟨A2, c2, hv2, _⟩ := own_form ho2
  subst hv2
  have HB2 : Hid (Below ((w.alloc (.cells #[.slice none ([] : List Fig).length 0, .slice B F.length b, .slice C L.length d] 29)).alloc (.cells #[.slice none 0 0, .slice none 0 0, .slice none 0 0] 29)).heap.size ((w.alloc (.cells #[.slice none ([] : List Fig).length 0, .slice B F.length b, .slice C L.length d] 29)).alloc (.cells #[.slice none 0 0, .slice none 0 0, .slice none 0 0] 29)) w2) := Below.trans (HB1.out.alloc HB1.out.size (.cells #[.int .i64 c, .int .i64 (c - 1), .int .i64 (c - 1), .int .i64 3, .int .i64 0] 72)) (Below.of_grown hg2 (by rw [HSW.out]; have := SZ1.out; simp; omega) (fun q hq => by rw [HSW.out]; exact (own_block_ge OB1.out q hq).1))
  have SZ2 := Lib.hid (show w.heap.size + 2 ≤ w2.heap.size by have := HB2.out.size; rw [HSW.out] at this; omega)
  have OB2 : Hid (w2.ownsRow (w.heap.size + 2) 72 5 (.slice A2 1 c2) 1 ((⟨c, c - 1, c - 1, 3, 0⟩ : Fig).cells)) := ho2
  have RB2 : Hid (Rd 5 Fig.cells w2 none ([] : List Fig)) := (HG.out.below HB2.out).rE.rd
  have T2 := Lib.hid (K0.out.below HB2.out (by rw [HSW.out]; omega))
  obtain ⟨u0, _, _⟩ := T2.out.cells
  have CA := Lib.hid hca
  clear ho2 hg2 hp2
  go_wp2_with (at_builtin; go_loud (refine list_app Fig.len rfl _ _ 26 rfl (w.heap.size + 2) 72 I (.agg #[.int .i64 0, .int .i64 0, .int .i64 0, .int .i64 0, .int .i64 0]) 40 Try.underlying26 I1.out I2.out I3.out I4.out rfl (by decide) (.slice A2 1 c2) 1 ((⟨c, c - 1, c - 1, 3, 0⟩ : Fig).cells) rfl ?o3s21 _ _ 0 ([] : List Fig) ?m3s21 rfl ?r3s21 ?n3s21 (figs_one _) ?b3s21 ?c3s21 ?d3s21 ?_))
  try case o3s21 => (exact OB2.out)
  try case m3s21 => (rfl)
  try case r3s21 => (exact fun i h => by cases h)
  try case r3s21.inl => (exact fun i h => by cases h)
  try case r3s21.inr => (exact fun i h => by cases h)
  try case n3s21 => (intro _; rfl)
  try case b3s21 => (unfold maxLen; omega)
  try case c3s21 => (omega)
  try case d3s21 => (have := SZ2.out; first | omega | (simp; omega))
  intro v3 w3 ho3 hg3 hp3
  have hn3 : 1 = (([] : List Fig).take 0 ++ ⟨c, c - 1, c - 1, 3, 0⟩ :: ([] : List Fig).drop 0).length := by rfl
  have ho3' : w3.ownsRow (w.heap.size + 2) 72 5 v3 (([] : List Fig).take 0 ++ ⟨c, c - 1, c - 1, 3, 0⟩ :: ([] : List Fig).drop 0).length (figs (([] : List Fig).take 0 ++ ⟨c, c - 1, c - 1, 3, 0⟩ :: ([] : List Fig).drop 0)) := by
   rw [← hn3]
   have : figs (([] : List Fig).take 0 ++ ⟨c, c - 1, c - 1, 3, 0⟩ :: ([] : List Fig).drop 0) = ((⟨c, c - 1, c - 1, 3, 0⟩ : Fig).cells) ++ ([] : List Fig).flatMap Fig.cells := by simp [figs]
   rw [this]
   simpa using ho3
  obtain ⟨N3, hN3⟩ : ∃ N3, N3 = (([] : List Fig).take 0 ++ ⟨c, c - 1, c - 1, 3, 0⟩ :: ([] : List Fig).drop 0).length := ⟨_, rfl⟩
  rw [← hN3] at ho3'
  have HN3 := Lib.hid hN3
  clear hN3 hn3
  obtain ⟨A3, c3, hv3, _⟩ := own_form ho3'
  subst hv3
  have HB3 : Hid (Below ((w.alloc (.cells #[.slice none ([] : List Fig).length 0, .slice B F.length b, .slice C L.length d] 29)).alloc (.cells #[.slice none 0 0, .slice none 0 0, .slice none 0 0] 29)).heap.size ((w.alloc (.cells #[.slice none ([] : List Fig).length 0, .slice B F.length b, .slice C L.length d] 29)).alloc (.cells #[.slice none 0 0, .slice none 0 0, .slice none 0 0] 29)) w3) := Below.trans HB2.out (Below.of_grown hg3 HB2.out.size (fun q hq => by rw [HSW.out]; exact (own_block_ge OB2.out q hq).1))
  have OB3 := Lib.hid ho3'
  have T0 := Lib.hid (K0.out.below HB3.out (by rw [HSW.out]; omega))
  have T1 := Lib.hid (K1.out.below HB3.out (by rw [HSW.out]; omega))
  have BF := Lib.hid (Below.and BW.out HB3.out)
  clear ho3 hg3 hp3 ho3' u0 x0 hb
  obtain ⟨y0, y1, y2⟩ := T0.out.cells
  obtain ⟨z0, z1, z2⟩ := T1.out.cells
  have yf := T0.out.frozen
  have zf := T1.out.frozen
  go_wp2
  refine bodyPost_ret (v := .agg #[.slice A3 N3 c3, .slice B F.length b, .slice C L.length d]) (by simp [results, Try.results87, go_sem, y0, y1, y2, z0, z1, z2]) rfl ?_
  rw [HP.out]; show ∃ A' a', _ = Ending.returned (.agg #[.slice A' (([] : List Fig).take 0 ++ ⟨c, c - 1, c - 1, 3, 0⟩ :: ([] : List Fig).drop 0).length a', _, _]) ∧ _; rw [← HN3.out]
  have BFF : Below w.heap.size w ((((w3.setCell ⟨w.heap.size, 0, none⟩ (.slice A3 N3 c3)).setCell ⟨w.heap.size + 1, 0, none⟩ (.slice A3 N3 c3)).setCell ⟨w.heap.size + 1, 1, none⟩ (.slice B F.length b)).setCell ⟨w.heap.size + 1, 2, none⟩ (.slice C L.length d)) := by
   iterate 4 (refine Below.setCell ?_ (by first | (simp; done) | (simp; omega)) _)
   exact BF.out
  have OFF : ((((w3.setCell ⟨w.heap.size, 0, none⟩ (.slice A3 N3 c3)).setCell ⟨w.heap.size + 1, 0, none⟩ (.slice A3 N3 c3)).setCell ⟨w.heap.size + 1, 1, none⟩ (.slice B F.length b)).setCell ⟨w.heap.size + 1, 2, none⟩ (.slice C L.length d)).ownsRow (w.heap.size + 2) 72 5 (.slice A3 N3 c3) N3 (figs (([] : List Fig).take 0 ++ ⟨c, c - 1, c - 1, 3, 0⟩ :: ([] : List Fig).drop 0)) := by
   iterate 4 (refine own_put ?_ (by omega) _ _)
   exact OB3.out
  exact ⟨A3, c3, rfl, ⟨RdF.of_own OFF, RdI.below HG0.out.rF BFF, RdI.below HG0.out.rL BFF, (by rw [← HN3.out]; exact (own_cap OFF).1), HG0.out.cB, HG0.out.cC, (own_cap OFF).2, HG0.out.nB, HG0.out.nC, (fun x hx => (own_at OFF x hx).2), (fun x hx => Nat.lt_of_lt_of_le (HG0.out.lB x hx) BFF.size), (fun x hx => Nat.lt_of_lt_of_le (HG0.out.lC x hx) BFF.size)⟩, (fun x hx => by have := (own_at OFF x hx).1; omega), BFF⟩
end Go.Proofs.Ytameldhdegcpoaa
