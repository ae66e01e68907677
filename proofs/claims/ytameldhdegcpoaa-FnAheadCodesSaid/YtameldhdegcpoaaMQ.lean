import Derived.Test.YtameldhdegcpoaaGw
import Derived.Test.YtameldhdegcpoaaMU
import Derived.Test.YtameldhdegcpoaaMC
import Derived.Deep.Cut
namespace Go.Proofs.Ytameldhdegcpoaa
open Go.ChangeShapes Go.WideShapes Go.ChangeAt Go.RowKit
set_option linter.unusedVariables false
set_option linter.unusedSimpArgs false
theorem sum_set (l : List Int) : ∀ (i : Nat) (v : Int) (h : i < l.length), (l.set i v).sum = l.sum - l[i] + v := by
 induction l with
 | nil => intro i v h; simp at h
 | cons a t ih =>
  intro i v h
  rcases i with _ | i
  · simp; omega
  · simp only [List.set_cons_succ, List.sum_cons, List.getElem_cons_succ]
    rw [ih i v (by simpa using h)]; omega
theorem sum_erase (l : List Int) : ∀ (i : Nat) (h : i < l.length), (l.eraseIdx i).sum = l.sum - l[i] := by
 induction l with
 | nil => intro i h; simp at h
 | cons a t ih =>
  intro i h
  rcases i with _ | i
  · simp; omega
  · simp only [List.eraseIdx_cons_succ, List.sum_cons, List.getElem_cons_succ]
    rw [ih i (by simpa using h)]; omega
theorem sum_nn (l : List Int) (h : ∀ i (hi : i < l.length), 0 ≤ l[i]) : 0 ≤ l.sum := by
 induction l with
 | nil => simp
 | cons a t ih =>
  have h0 := h 0 (by simp)
  have h1 := ih (fun i hi => by have := h (i + 1) (by simpa using hi); simpa using this)
  simp only [List.getElem_cons_zero] at h0
  simp only [List.sum_cons]
  omega
theorem le_sum (l : List Int) (h : ∀ i (hi : i < l.length), 0 ≤ l[i]) (i : Nat) (hi : i < l.length) : l[i] ≤ l.sum := by
 have h1 := sum_erase l i hi
 have h2 := sum_nn (l.eraseIdx i) (fun j hj => by
  rw [List.getElem_eraseIdx]
  split
  · exact h _ _
  · exact h _ _)
 omega
theorem le_sum2 (l : List Int) (h : ∀ i (hi : i < l.length), 0 ≤ l[i]) (i j : Nat) (hi : i < l.length) (hj : j < l.length) (hij : i ≠ j) : l[i] + l[j] ≤ l.sum := by
 have h1 := sum_set l i 0 hi
 have h2 := le_sum (l.set i 0) (fun k hk => by
  rw [List.getElem_set]
  split
  · omega
  · exact h _ _) j (by simpa using hj)
 rw [List.getElem_set_ne hij] at h2
 omega
theorem entsB_iff (E : List Fig) : ∀ p : Int, entsB p E = true ↔ (∀ e ∈ E, entB e = true ∧ p < e.c) ∧ E.Pairwise (fun a b => a.c < b.c) := by
 induction E with
 | nil => intro p; simp [entsB]
 | cons e t ih =>
  intro p
  simp only [entsB, Bool.and_eq_true, decide_eq_true_eq, ih e.c, List.mem_cons, List.pairwise_cons]
  constructor
  · rintro ⟨h1, h2, h3, h4⟩
    refine ⟨?_, fun b hb => (h3 b hb).2, h4⟩
    rintro x (rfl | hx)
    · exact ⟨h2, h1⟩
    · exact ⟨(h3 x hx).1, by have := (h3 x hx).2; omega⟩
  · rintro ⟨h1, h2, h3⟩
    exact ⟨(h1 e (.inl rfl)).2, (h1 e (.inl rfl)).1, fun x hx => ⟨(h1 x (.inr hx)).1, h2 x hx⟩, h3⟩
theorem ents_set {E : List Fig} {p : Int} (h : entsB p E = true) (k : Nat) (hk : k < E.length) {e : Fig} (hc : e.c = (E[k]'hk).c) (he : entB e = true) : entsB p (E.set k e) = true := by
 rw [entsB_iff] at h ⊢
 refine ⟨fun x hx => ?_, ?_⟩
 · rcases List.mem_or_eq_of_mem_set hx with hx | rfl
   · exact h.1 x hx
   · exact ⟨he, by rw [hc]; exact (h.1 _ (List.getElem_mem hk)).2⟩
 · rw [List.pairwise_iff_getElem]
   intro i j hi hj hij
   have hP := List.pairwise_iff_getElem.1 h.2
   simp only [List.length_set] at hi hj
   have e1 : ∀ (q : Nat) (hq : q < E.length), ((E.set k e)[q]'(by simpa using hq)).c = (E[q]'hq).c := fun q hq => by
    rw [List.getElem_set]
    split
    · rename_i hkq; subst hkq; exact hc
    · rfl
   rw [e1 i hi, e1 j hj]
   exact hP i j hi hj hij
theorem ents_erase {E : List Fig} {p : Int} (h : entsB p E = true) (k : Nat) : entsB p (E.eraseIdx k) = true := by
 rw [entsB_iff] at h ⊢
 exact ⟨fun x hx => h.1 x (List.mem_of_mem_eraseIdx hx), h.2.sublist (List.eraseIdx_sublist _ _)⟩
theorem ltF_spec (c : Int) (E : List Fig) (h : E.Pairwise (fun a b => a.c < b.c)) : (∀ x ∈ E.take (ltF c E), x.c < c) ∧ ∀ x ∈ E.drop (ltF c E), ¬ x.c < c := by
 induction E with
 | nil => simp
 | cons e t ih =>
  rw [List.pairwise_cons] at h
  unfold ltF
  by_cases hc : e.c < c
  · rw [if_pos hc]
    have := ih h.2
    simp only [List.take_succ_cons, List.drop_succ_cons, List.mem_cons]
    refine ⟨fun x hx => ?_, this.2⟩
    rcases hx with rfl | hx
    · exact hc
    · exact this.1 x hx
  · rw [if_neg hc]
    simp only [List.take_zero, List.drop_zero, List.mem_cons]
    exact ⟨fun x hx => by simp at hx, fun x hx => by
     rcases hx with rfl | hx
     · exact hc
     · have := h.1 x hx; omega⟩
theorem ents_ins {E : List Fig} (h : entsB 0 E = true) (e : Fig) (he : entB e = true) (hn : atF e.c E = none) : entsB 0 (E.take (ltF e.c E) ++ e :: E.drop (ltF e.c E)) = true := by
 rw [entsB_iff] at h ⊢
 have hs := ltF_spec e.c E h.2
 have h0 : 0 < e.c := by
  simp only [entB, inB, Bool.and_eq_true, decide_eq_true_eq] at he
  omega
 have hne : ∀ x ∈ E, x.c ≠ e.c := fun x hx => by
  obtain ⟨i, hi, rfl⟩ := List.getElem_of_mem hx
  exact atF_none hn i hi
 refine ⟨fun x hx => ?_, ?_⟩
 · simp only [List.mem_append, List.mem_cons] at hx
   rcases hx with hx | rfl | hx
   · exact h.1 x (List.mem_of_mem_take hx)
   · exact ⟨he, h0⟩
   · exact h.1 x (List.mem_of_mem_drop hx)
 · rw [List.pairwise_append, List.pairwise_cons]
   refine ⟨h.2.sublist (List.take_sublist _ _), ⟨fun x hx => ?_, h.2.sublist (List.drop_sublist _ _)⟩, fun a ha b hb => ?_⟩
   · have h1 := hs.2 x hx
     have h2 := hne x (List.mem_of_mem_drop hx)
     omega
   · simp only [List.mem_cons] at hb
     have h1 := hs.1 a ha
     rcases hb with rfl | hb
     · exact h1
     · have h2 := hs.2 b hb
       omega
theorem goldE_map (E : List Fig) : goldE E = (E.map fun e => e.g).sum := rfl
theorem gold_set (E : List Fig) (k : Nat) (hk : k < E.length) (e : Fig) : goldE (E.set k e) = goldE E - (E[k]'hk).g + e.g := by
 rw [goldE_map, List.map_set, sum_set _ _ _ (by simpa using hk), List.getElem_map]
 rfl
theorem gold_erase (E : List Fig) : ∀ (k : Nat) (hk : k < E.length), goldE (E.eraseIdx k) = goldE E - (E[k]'hk).g := by
 induction E with
 | nil => intro k hk; simp at hk
 | cons a t ih =>
  intro k hk
  rcases k with _ | k
  · simp [goldE]; omega
  · have := ih k (by simpa using hk)
    simp only [goldE, List.eraseIdx_cons_succ, List.map_cons, List.sum_cons, List.getElem_cons_succ] at this ⊢
    omega
theorem gold_ins (E : List Fig) (k : Nat) (e : Fig) (he : e.g = 0) : goldE (E.take k ++ e :: E.drop k) = goldE E := by
 have h : goldE E = goldE (E.take k ++ E.drop k) := by rw [List.take_append_drop]
 rw [h]
 simp only [goldE, List.map_append, List.map_cons, List.sum_append, List.sum_cons, he]
 omega
theorem gold_nn {E : List Fig} (h : entsB 0 E = true) : ∀ i (hi : i < (E.map fun e => e.g).length), 0 ≤ (E.map fun e => e.g)[i] := fun i hi => by
 rw [List.getElem_map]
 exact (entsB_gold E 0 h i (by simpa using hi)).1
theorem allB_set {l : List Int} {hi : Int} (h : allB l hi = true) (k : Nat) (v : Int) (h0 : 0 ≤ v) (h1 : v ≤ hi) : allB (l.set k v) hi = true := by
 unfold allB at h ⊢
 rw [List.all_eq_true] at h ⊢
 intro x hx
 rcases List.mem_or_eq_of_mem_set hx with hx | rfl
 · exact h x hx
 · simp [inB]; omega
structure GokP (E : List Fig) (F L : List Int) : Prop where
 f : F.length = 16
 l : L.length = 4
 e : entsB 0 E = true
 fb : allB F 20 = true
 lb : allB L 30 = true
 g : F.sum + goldE E = 20
theorem gok_iff (E : List Fig) (F L : List Int) : gokB E F L = true ↔ GokP E F L := by
 simp only [gokB, Bool.and_eq_true, decide_eq_true_eq]
 exact ⟨fun ⟨a, b, c, d, e, f⟩ => ⟨a, b, c, d, e, f⟩, fun ⟨a, b, c, d, e, f⟩ => ⟨a, b, c, d, e, f⟩⟩
theorem GokP.fn {E : List Fig} {F L : List Int} (h : GokP E F L) : ∀ i (hi : i < F.length), 0 ≤ F[i] := fun i hi => (allB_at h.fb i hi).1
theorem GokP.ent {E : List Fig} {F L : List Int} (h : GokP E F L) (k : Nat) (hk : k < E.length) : entB (E[k]'hk) = true := ((entsB_iff E 0).1 h.e).1 _ (List.getElem_mem hk) |>.1
theorem GokP.fe {E : List Fig} {F L : List Int} (h : GokP E F L) (k : Nat) (hk : k < E.length) (i : Nat) (hi : i < F.length) : (E[k]'hk).g + F[i] ≤ 20 := by
 have h1 := le_sum F h.fn i hi
 have h2 := le_sum (E.map fun e => e.g) (gold_nn h.e) k (by simpa using hk)
 rw [List.getElem_map] at h2
 have := h.g
 rw [goldE_map] at this
 omega
theorem GokP.ee {E : List Fig} {F L : List Int} (h : GokP E F L) (k n : Nat) (hk : k < E.length) (hn : n < E.length) (hkn : k ≠ n) : (E[k]'hk).g + (E[n]'hn).g ≤ 20 := by
 have h1 := sum_nn F h.fn
 have h2 := le_sum2 (E.map fun e => e.g) (gold_nn h.e) k n (by simpa using hk) (by simpa using hn) hkn
 rw [List.getElem_map, List.getElem_map] at h2
 have := h.g
 rw [goldE_map] at this
 omega
theorem sq_lt {e : Fig} (h : entB e = true) : sq e < 16 := by
 simp only [entB, onB, inB, Bool.and_eq_true, decide_eq_true_eq] at h
 unfold sq
 omega
theorem actG_ok {E : List Fig} {F L : List Int} (h : GokP E F L) (k : Nat) (hk : k < E.length) (r : Rq) (hr : r.o ≠ 2 → r.o ≠ 3 → r.o ≠ 4 → 1 ≤ r.y) : GokP (actG E F L k (E[k]'hk) r).1.1 (actG E F L k (E[k]'hk) r).1.2.1 L := by
 have hek := h.ent k hk
 have hsk := sq_lt hek
 have hfe := fun i hi => h.fe k hk i hi
 have hek' := hek
 simp only [entB, onB, inB, Bool.and_eq_true, decide_eq_true_eq] at hek'
 unfold actG
 split
 · split
   · rename_i hb
     refine ⟨h.f, h.l, ents_set h.e k hk rfl ?_, h.fb, h.lb, ?_⟩
     · simp only [entB, onB, inB, Bool.and_eq_true, decide_eq_true_eq] at hb ⊢
       omega
     · rw [gold_set _ _ hk]; have := h.g; simp only; omega
   · exact h
 split
 · split
   · exact h
   · rename_i hv
     have hF : sq (E[k]'hk) < F.length := by rw [h.f]; exact hsk
     rw [List.getD_eq_getElem?_getD, List.getElem?_eq_getElem hF, Option.getD_some] at hv ⊢
     have h1 := hfe _ hF
     have h2 := h.fn _ hF
     refine ⟨by simpa using h.f, h.l, ents_set h.e k hk rfl ?_, allB_set h.fb _ _ (by omega) (by have := (allB_at h.fb _ hF).2; omega), h.lb, ?_⟩
     · simp only [entB, onB, inB, Bool.and_eq_true, decide_eq_true_eq]
       omega
     · rw [gold_set _ _ hk, sum_set _ _ _ hF]; have := h.g; simp only; omega
 rename_i h2 h3
 split
 · exact h
 rename_i n hat
 split
 · exact h
 rename_i f hf
 obtain ⟨hn, rfl⟩ := List.getElem?_eq_some_iff.1 hf
 split
 · exact h
 rename_i hnk
 have hnk : n ≠ k := fun e => hnk (.inl e)
 have hen := h.ent n hn
 have hsn := sq_lt hen
 have hen' := hen
 simp only [entB, onB, inB, Bool.and_eq_true, decide_eq_true_eq] at hen'
 split
 · split
   · have hF : sq (E[n]'hn) < F.length := by rw [h.f]; exact hsn
     rw [List.getD_eq_getElem?_getD, List.getElem?_eq_getElem hF, Option.getD_some]
     have h1 := h.fe n hn _ hF
     have h4 := h.fn _ hF
     refine ⟨by simpa using h.f, h.l, ents_erase h.e n, allB_set h.fb _ _ (by omega) (by omega), h.lb, ?_⟩
     rw [gold_erase _ _ hn, sum_set _ _ _ hF]; have := h.g; omega
   · refine ⟨h.f, h.l, ents_set h.e n hn rfl ?_, h.fb, h.lb, ?_⟩
     · simp only [entB, onB, inB, Bool.and_eq_true, decide_eq_true_eq]
       omega
     · rw [gold_set _ _ hn]; have := h.g; simp only; omega
 · split
   · exact h
   · rename_i h4 h5
     have hg := h.ee k n hk hn (Ne.symm hnk)
     have hl2 : k < (E.set n ⟨(E[n]'hn).c, (E[n]'hn).x, (E[n]'hn).y, (E[n]'hn).l, (E[n]'hn).g + r.y⟩).length := by simpa using hk
     have hkk : (E.set n ⟨(E[n]'hn).c, (E[n]'hn).x, (E[n]'hn).y, (E[n]'hn).l, (E[n]'hn).g + r.y⟩)[k]'hl2 = E[k]'hk := List.getElem_set_ne hnk _
     have hy := hr h2 h3 h4
     refine ⟨h.f, h.l, ents_set (ents_set (e := ⟨(E[n]'hn).c, (E[n]'hn).x, (E[n]'hn).y, (E[n]'hn).l, (E[n]'hn).g + r.y⟩) h.e n hn rfl ?_) k hl2 (by rw [hkk]) ?_, h.fb, h.lb, ?_⟩
     · simp only [entB, onB, inB, Bool.and_eq_true, decide_eq_true_eq]
       omega
     · simp only [entB, onB, inB, Bool.and_eq_true, decide_eq_true_eq]
       omega
     · rw [gold_set _ _ hl2, hkk, gold_set _ _ hn]; have := h.g; simp only; omega
theorem doG_ok {E : List Fig} {F L : List Int} (h : gokB E F L = true) (r : Rq) (hr : okB r = true) : gokB (doG E F L r).1.1 (doG E F L r).1.2.1 (doG E F L r).1.2.2 = true := by
 have hp := (gok_iff E F L).1 h
 rw [gok_iff]
 unfold doG
 split
 · exact hp
 rename_i hn
 have hq : rqB r = true := by simpa [okB, hn] using hr
 obtain ⟨rc, rn, ro, rx, ry⟩ := r
 simp only [rqB, reqB, inB, Bool.and_eq_true, decide_eq_true_eq] at hq
 obtain ⟨hc, hnn, hs⟩ := hq
 split
 · exact hp
 have hp' : GokP E F (L.set (rc - 1).toNat rn) := ⟨hp.f, by simpa using hp.l, hp.e, hp.fb, allB_set hp.lb _ _ (by omega) (by omega), hp.g⟩
 simp only
 split
 · split
   · exact hp'
   · rename_i hat
     have hi := ents_ins hp.e ⟨rc, rc - 1, rc - 1, 3, 0⟩ (by simp only [entB, onB, inB, Bool.and_eq_true, decide_eq_true_eq]; omega) hat
     exact ⟨hp'.f, hp'.l, hi, hp'.fb, hp'.lb, by rw [gold_ins _ _ _ rfl]; exact hp.g⟩
 · rename_i h1
   split
   · exact hp'
   · rename_i k hat
     split
     · exact hp'
     · rename_i e he
       obtain ⟨hk, rfl⟩ := List.getElem?_eq_some_iff.1 he
       have := actG_ok hp' k hk ⟨rc, rn, ro, rx, ry⟩ (fun h2 h3 h4 => by
        simp only at h2 h3 h4
        by_cases h5 : ro = 5
        · subst h5
          simp [shapeB, inB] at hs
          show 1 ≤ ry
          omega
        · simp [shapeB, h1, h2, h3, h4, h5] at hs)
       rw [actG_L]
       exact this
end Go.Proofs.Ytameldhdegcpoaa
namespace Go.Proofs.Ytameldhdegcpoaa
open Go.ChangeShapes Go.WideShapes Go.ChangeAt Go.RowKit
set_option linter.unusedVariables false
set_option linter.unusedSimpArgs false
def g0 : Gm := ([], floorAt 20, [0, 0, 0, 0])
def stepF (g : Gm) (r : Rq) : Gm := (doG g.1 g.2.1 g.2.2 r).1
def foldG (P : List Rq) : Gm := P.foldl stepF g0
theorem foldG_succ {P : List Rq} {k : Nat} (h : k < P.length) : foldG (P.take (k + 1)) = stepF (foldG (P.take k)) (P[k]'h) := by
 unfold foldG
 rw [List.take_succ_eq_append_getElem h, List.foldl_append]
 rfl
theorem g0_ok : gokB g0.1 g0.2.1 g0.2.2 = true := by decide
theorem foldG_ok : ∀ (P : List Rq) (g : Gm), gokB g.1 g.2.1 g.2.2 = true → (∀ r ∈ P, okB r = true) → gokB (P.foldl stepF g).1 (P.foldl stepF g).2.1 (P.foldl stepF g).2.2 = true
 | [], g, h, _ => h
 | r :: P, g, h, hr => foldG_ok P (stepF g r) (doG_ok h r (hr r (by simp))) (fun x hx => hr x (by simp [hx]))
theorem foldG_takeok {P : List Rq} (h : ∀ r ∈ P, okB r = true) (k : Nat) : gokB (foldG (P.take k)).1 (foldG (P.take k)).2.1 (foldG (P.take k)).2.2 = true :=
 foldG_ok _ _ g0_ok (fun r hr => h r (List.mem_of_mem_take hr))
structure GmN (lo : Nat) (w : World) (A : Option Addr) (a : Nat) (B : Option Addr) (b : Nat) (C : Option Addr) (d : Nat) (E : List Fig) (F L : List Int) : Prop where
 g : GmR w A a B b C d E F L
 nA : ∀ x, A = some ⟨x, 0, none⟩ → lo ≤ x
 nB : ∀ x, B = some ⟨x, 0, none⟩ → lo ≤ x
 nC : ∀ x, C = some ⟨x, 0, none⟩ → lo ≤ x
 h : lo ≤ w.heap.size
theorem GmN.below {lo : Nat} {w w' : World} {A : Option Addr} {a : Nat} {B : Option Addr} {b : Nat} {C : Option Addr} {d : Nat} {E : List Fig} {F L : List Int} (h : GmN lo w A a B b C d E F L) (hb : Below w.heap.size w w') : GmN lo w' A a B b C d E F L := ⟨h.g.below hb, h.nA, h.nB, h.nC, Nat.le_trans h.h hb.size⟩
theorem GmN.box {lo : Nat} {w : World} {A : Option Addr} {a : Nat} {B : Option Addr} {b : Nat} {C : Option Addr} {d : Nat} {E : List Fig} {F L : List Int} (h : GmN lo w A a B b C d E F L) {p : Nat} {A0 : Option Addr} {n0 c0 : Nat} (hp : w.cell? ⟨p, 0, none⟩ = some (.slice A0 n0 c0)) (o : Nat) (v : Value) : GmN lo (w.setCell ⟨p, o, none⟩ v) A a B b C d E F L := ⟨h.g.box hp o v, h.nA, h.nB, h.nC, by simpa using h.h⟩
theorem specDoN {lo : Nat} {w : World} {A : Option Addr} {a : Nat} {B : Option Addr} {b : Nat} {C : Option Addr} {d : Nat} {E : List Fig} {F L : List Int} {r : Rq} (he : OkG E F L) (hr : okB r = true) (hg : GmN lo w A a B b C d E F L) :
 Calls Try.prog 56 #[gameV A E.length a B F.length b C L.length d, r.val] w fun e w' => ∃ A' a' B' b' C' d', e = .returned (.tuple #[gameV A' (doG E F L r).1.1.length a' B' (doG E F L r).1.2.1.length b' C' (doG E F L r).1.2.2.length d', .int .i64 (doG E F L r).2]) ∧ GmN lo w' A' a' B' b' C' d' (doG E F L r).1.1 (doG E F L r).1.2.1 (doG E F L r).1.2.2 ∧ Below w.heap.size w w' :=
 (specDoP A a B b C d E F L r w he hr hg.g).mono fun e w' ⟨A', a', B', b', C', d', h1, h2, s1, s2, s3⟩ =>
  ⟨A', a', B', b', C', d', h1, ⟨h2.1, fun x hx => s1.elim (fun e => hg.nA x (by rw [← e]; exact hx)) (fun h => Nat.le_trans hg.h (h x hx)), fun x hx => s2.elim (fun e => hg.nB x (by rw [← e]; exact hx)) (fun h => Nat.le_trans hg.h (h x hx)), fun x hx => s3.elim (fun e => hg.nC x (by rw [← e]; exact hx)) (fun h => Nat.le_trans hg.h (h x hx)), Nat.le_trans hg.h h2.2.size⟩, h2.2⟩
set_option maxRecDepth 100000 in
set_option maxHeartbeats 8000000 in
theorem l2FoldN (Ap : Option Addr) (ap : Nat) (P : List Rq) (w : World) (hP : P.length ≤ 1048576) (hc : P.length ≤ ap) (hr : Rd 5 Rq.cells w Ap P) (hok : ∀ r ∈ P, okB r = true) :
 Calls Try.prog 47 #[.slice Ap P.length ap] w fun e w' => ∃ A a B b C c, e = .returned (gameV A (foldG P).1.length a B (foldG P).2.1.length b C (foldG P).2.2.length c) ∧ GmN w.heap.size w' A a B b C c (foldG P).1 (foldG P).2.1 (foldG P).2.2 ∧ Below w.heap.size w w' := by
 have HR := Lib.hid hr
 have HOK := Lib.hid hok
 have BW : Hid (Below w.heap.size w (w.alloc (.cells #[.slice none 0 0, .slice none 0 0, .slice none 0 0] 29))) := (Below.refl _ _).alloc (Nat.le_refl _) _
 have T2 : Hid (Three (w.alloc (.cells #[.slice none 0 0, .slice none 0 0, .slice none 0 0] 29)) w.heap.size 29 (.slice none 0 0) (.slice none 0 0) (.slice none 0 0)) := Three.new w
 clear hr hok
 go_enter Try.func47, Try.ntmps47
 go_wp2_with (fail)
 refine (l2New _).mono ?_
 unfold NewAt
 rintro e wa ⟨B0, b0, C0, c0, rfl, hg, hb⟩
 have BA := Lib.hid (Below.and BW.out hb)
 have T2 := Lib.hid (Three.below T2.out hb T2.out.lt)
 have hbn : Below wa.heap.size wa (wa.alloc (.cells #[.slice none 0 0, .slice B0 16 b0, .slice C0 4 c0] 29)) := (Below.refl _ _).alloc (Nat.le_refl _) _
 have T2 := Lib.hid (Three.below T2.out hbn T2.out.lt)
 have BA2 := Lib.hid (Below.and BA.out hbn)
 have GI : Hid (GmN w.heap.size _ none 0 B0 b0 C0 c0 [] (floorAt 20) [0, 0, 0, 0]) := ⟨(hg.below hbn).gmR, (fun x hx => by cases hx), (fun x hx => by have := (own_at hg.floor x hx).1; simp at this; omega), (fun x hx => by have := (own_at hg.last x hx).1; simp at this; omega), BA2.out.size⟩
 have T3 : Hid (Three (wa.alloc (.cells #[.slice none 0 0, .slice B0 16 b0, .slice C0 4 c0] 29)) wa.heap.size 29 (.slice none 0 0) (.slice B0 16 b0) (.slice C0 4 c0)) := Three.new wa
 have NP := Lib.hid (show w.heap.size < wa.heap.size by have := hb.size; simp at this; omega)
 clear hg hb hbn BA BW
 unfold gameV
 go_upto_region 2 with (fail)
 obtain ⟨p3, hp3⟩ : ∃ X, X = wa.heap.size := ⟨_, rfl⟩
 obtain ⟨wB, hwB⟩ : ∃ X, X = wa.alloc (.cells #[.slice none 0 0, .slice B0 16 b0, .slice C0 4 c0] 29) := ⟨_, rfl⟩
 rw [← hwB] at GI T2 BA2 T3 ⊢
 rw [← hp3] at T3 NP ⊢
 clear hwB hp3
 go_wp2
 go_loopw [4] (fun v wr => ∃ (k : Nat) (A : Option Addr) (a : Nat) (B : Option Addr) (b : Nat) (C : Option Addr) (c : Nat), k ≤ P.length ∧ v = .int .i64 (k : Int) ∧ Hid (Three wr p3 29 (.slice A (foldG (P.take k)).1.length a) (.slice B (foldG (P.take k)).2.1.length b) (.slice C (foldG (P.take k)).2.2.length c)) ∧ Hid (GmN w.heap.size wr A a B b C c (foldG (P.take k)).1 (foldG (P.take k)).2.1 (foldG (P.take k)).2.2) ∧ Hid (Three wr w.heap.size 29 (.slice none 0 0) (.slice none 0 0) (.slice none 0 0)) ∧ Hid (Below w.heap.size w wr)) (fun v _ => P.length - (intOf v).toNat)
 case atStart => exact ⟨0, none, 0, B0, b0, C0, c0, Nat.zero_le _, rfl, T3.out, GI.out, T2.out, BA2.out⟩
 case round =>
  clear T3 GI T2 BA2
  obtain ⟨k, A, a, B, b, C, c, hk, rfl, T3, GG, T2, hb⟩ := hrel
  by_cases hlt : k < P.length
  · obtain ⟨g, o, rfl, ca⟩ := Rd.below HR.out hb.out k hlt
    have HX1 := Lib.hid (foldG_succ hlt)
    have HKo := Lib.hid (foldG_takeok HOK.out k)
    have HKr := Lib.hid (HOK.out _ (List.getElem_mem hlt))
    generalize P[k] = x at ca HX1 HKr
    obtain ⟨X0, hX0⟩ : ∃ X, X = foldG (P.take k) := ⟨_, rfl⟩
    rw [← hX0] at T3 GG HX1 HKo
    clear hX0
    obtain ⟨E, F, L⟩ := X0
    obtain ⟨⟨E1, F1, L1⟩, c1, hX1⟩ : ∃ (Y : Gm) (z : Int), (Y, z) = doG E F L x := ⟨(doG E F L x).1, (doG E F L x).2, rfl⟩
    have HX1 := Lib.hid (show ((E1, F1, L1) : Gm) = foldG (P.take (k + 1)) by rw [HX1.out]; exact congrArg Prod.fst hX1)
    have HS : Hid (∀ (wx : World) (A' : Option Addr) (a' : Nat) (B' : Option Addr) (b' : Nat) (C' : Option Addr) (d' : Nat), GmN w.heap.size wx A' a' B' b' C' d' E F L → Calls Try.prog 56 #[gameV A' E.length a' B' F.length b' C' L.length d', .agg #[.int .i64 x.c, .int .i64 x.n, .int .i64 x.o, .int .i64 x.x, .int .i64 x.y]] wx
     fun e w' => ∃ A' a' B' b' C' d', e = .returned (.tuple #[gameV A' E1.length a' B' F1.length b' C' L1.length d', .int .i64 c1]) ∧ GmN w.heap.size w' A' a' B' b' C' d' E1 F1 L1 ∧ Below wx.heap.size wx w') :=
     fun wx A' a' B' b' C' d' hg => by have := specDoN (okG_of HKo.out) HKr.out hg; rw [← hX1] at this; exact this
    clear hX1 HKo HKr
    have xr0 : wr.cell? ⟨g, o + k * 5, none⟩ = some (.int .i64 x.c) := ca 0 _ rfl
    have xr1 : wr.cell? ⟨g, o + k * 5 + 1, none⟩ = some (.int .i64 x.n) := ca 1 _ rfl
    have xr2 : wr.cell? ⟨g, o + k * 5 + 2, none⟩ = some (.int .i64 x.o) := ca 2 _ rfl
    have xr3 : wr.cell? ⟨g, o + k * 5 + 3, none⟩ = some (.int .i64 x.x) := ca 3 _ rfl
    have xr4 : wr.cell? ⟨g, o + k * 5 + 4, none⟩ = some (.int .i64 x.y) := ca 4 _ rfl
    clear ca
    obtain ⟨p0, p1, p2⟩ := T3.out.cells
    have lx : g < wr.heap.size := World.block_lt_of_cell? wr _ xr0
    have lp := T3.out.lt
    have i0 : (0 : Int) ≤ (k : Int) := by omega
    have i1 : (k : Int) < (P.length : Int) := by omega
    go_wp2_with (fail)
    refine wp_region_held_drew (S := fun WS => Below wr.heap.size wr WS) (by kernel_rfl) ((Below.refl _ _).drew) (fun hS0 => ?_)
    refine tkI 0 15 (v := ?_) rfl rfl ?_ ?_
    rotate_left
    · intro w1 hSw; obtain ⟨hcS, hfS⟩ := bcell hSw; go_simp; (try with_reducible rfl)
    (try simp only [Act.put, pu1, pu2, pu3])
    refine tkI 1 16 (v := ?_) rfl rfl ?_ ?_
    rotate_left
    · intro w1 hSw; obtain ⟨hcS, hfS⟩ := bcell hSw; go_simp; (try with_reducible rfl)
    (try simp only [Act.put, pu1, pu2, pu3])
    refine tkI 2 17 (v := ?_) rfl rfl ?_ ?_
    rotate_left
    · intro w1 hSw; obtain ⟨hcS, hfS⟩ := bcell hSw; go_simp; (try with_reducible rfl)
    (try simp only [Act.put, pu1, pu2, pu3])
    refine tkI 3 18 (v := ?_) rfl rfl ?_ ?_
    rotate_left
    · intro w1 hSw; obtain ⟨hcS, hfS⟩ := bcell hSw; go_simp; (try with_reducible rfl)
    (try simp only [Act.put, pu1, pu2, pu3])
    refine tkI 4 19 (v := ?_) rfl rfl ?_ ?_
    rotate_left
    · intro w1 hSw; obtain ⟨hcS, hfS⟩ := bcell hSw; go_simp; (try with_reducible rfl)
    (try simp only [Act.put, pu1, pu2, pu3])
    have HBd : Hid (Below wr.heap.size wr wr.drew) := (Below.refl _ _).drew
    have G0q := Lib.hid (GG.out.below HBd.out)
    refine wpAnyH_ready (rs := [5, 9]) (by kernel_rfl) (by simp) ?_
    refine AllReadyH.cons rfl (fun KK hK => ?_) (AllReadyH.cons rfl (fun KK hK => ?_) AllReadyH.nil)
    · go_simp
      refine (HS.out _ _ _ _ _ _ _ G0q.out).mono ?_
      rintro e wx1 ⟨Arx3, arx3, Brx3, brx3, Crx3, crx3, rfl, grx3, hrx3⟩
      have Gx4 := Lib.hid grx3
      unfold gameV
      have HBx2 := Lib.hid (Below.and HBd.out hrx3)
      have Gx5 := Lib.hid (G0q.out.below hrx3)
      clear hrx3 grx3
      refine hK.out _ _ HBx2.out (fun hSx6 => ?_)
      clear hK KK
      (try simp only [Act.put, pu1, pu2, pu3])
      refine tkI 6 14 (v := ?_) rfl rfl ?_ ?_
      rotate_left
      · intro w1 hSw; obtain ⟨hcS, hfS⟩ := bcell hSw; go_simp; (try with_reducible rfl)
      (try simp only [Act.put, pu1, pu2, pu3])
      refine tkI 7 21 (v := ?_) rfl rfl ?_ ?_
      rotate_left
      · intro w1 hSw; obtain ⟨hcS, hfS⟩ := bcell hSw; go_simp; (try with_reducible rfl)
      (try simp only [Act.put, pu1, pu2, pu3])
      refine tkI 8 22 (v := ?_) rfl rfl ?_ ?_
      rotate_left
      · intro w1 hSw; obtain ⟨hcS, hfS⟩ := bcell hSw; go_simp; (try with_reducible rfl)
      (try simp only [Act.put, pu1, pu2, pu3])
      refine wpAnyH_ready (rs := [9]) (by kernel_rfl) (by simp) ?_
      refine AllReadyH.cons rfl (fun KK hK => ?_) AllReadyH.nil
      go_simp
      have HBx8a : Below wr.heap.size wr (wx1.alloc (.cells #[.slice none 0 0, .slice none 0 0, .slice none 0 0] 29)) := HBx2.out.alloc HBx2.out.size _
      refine hK.out _ _ HBx8a (fun hSx11 => ?_)
      clear hK KK
      (try simp only [Act.put, pu1, pu2, pu3])
      have Gx10a : Three (wx1.alloc (.cells #[.slice none 0 0, .slice none 0 0, .slice none 0 0] 29)) wx1.heap.size 29 (.slice none 0 0) (.slice none 0 0) (.slice none 0 0) := Three.new wx1
      have hba : Below wx1.heap.size wx1 (wx1.alloc (.cells #[.slice none 0 0, .slice none 0 0, .slice none 0 0] 29)) := (Below.refl _ _).alloc (Nat.le_refl _) _
      have Gx12 := Lib.hid (Gx5.out.below hba)
      have Gx13 := Lib.hid (Gx4.out.below hba)
      have PBpx9 := Lib.hid (show wr.heap.size ≤ wx1.heap.size from HBx2.out.size)
      have PApx9 := Lib.hid (show wx1.heap.size < (wx1.alloc (.cells #[.slice none 0 0, .slice none 0 0, .slice none 0 0] 29)).heap.size by simp)
      obtain ⟨px9, hbpx9⟩ : ∃ X, X = wx1.heap.size := ⟨_, rfl⟩
      rw [← hbpx9] at Gx10a PBpx9 PApx9 ⊢
      obtain ⟨wx7, hwwx7⟩ : ∃ X, X = (wx1.alloc (.cells #[.slice none 0 0, .slice none 0 0, .slice none 0 0] 29)) := ⟨_, rfl⟩
      rw [← hwwx7] at HBx8a Gx10a PApx9 Gx12 Gx13  ⊢
      have HBx8 := Lib.hid HBx8a
      have Gx10 := Lib.hid Gx10a
      clear HBx8a Gx10a hba hwwx7 hbpx9
      refine wpAnyH_ready (rs := [10]) (by kernel_rfl) (by simp) ?_
      refine AllReadyH.cons rfl (fun KK hK => ?_) AllReadyH.nil
      obtain ⟨zb0, zb1, zb2⟩ := Gx10.out.cells
      have zbf := Gx10.out.frozen
      go_simp
      have HBx14 : Hid (Below wr.heap.size wr (((wx7.setCell ⟨px9, 0, none⟩ (.slice Arx3 E1.length arx3)).setCell ⟨px9, 1, none⟩ (.slice Brx3 F1.length brx3)).setCell ⟨px9, 2, none⟩ (.slice Crx3 L1.length crx3))) := ((HBx8.out.setCell PBpx9.out (p := ⟨px9, 0, none⟩) (.slice Arx3 E1.length arx3)).setCell PBpx9.out (p := ⟨px9, 1, none⟩) (.slice Brx3 F1.length brx3)).setCell PBpx9.out (p := ⟨px9, 2, none⟩) (.slice Crx3 L1.length crx3)
      have TB : Hid (Three (((wx7.setCell ⟨px9, 0, none⟩ (.slice Arx3 E1.length arx3)).setCell ⟨px9, 1, none⟩ (.slice Brx3 F1.length brx3)).setCell ⟨px9, 2, none⟩ (.slice Crx3 L1.length crx3)) px9 29 (.slice Arx3 E1.length arx3) (.slice Brx3 F1.length brx3) (.slice Crx3 L1.length crx3)) := ((Gx10.out.set0 (.slice Arx3 E1.length arx3)).set1 (.slice Brx3 F1.length brx3)).set2 (.slice Crx3 L1.length crx3)
      refine hK.out _ _ HBx14.out (fun hSz => ?_)
      clear hK KK
      (try simp only [Act.put, pu1, pu2, pu3])
      refine tkI 11 6 (v := ?_) rfl rfl ?_ ?_
      rotate_left
      · intro w1 hSw; obtain ⟨hcS, hfS⟩ := bcell hSw; go_simp; (try with_reducible rfl)
      (try simp only [Act.put, pu1, pu2, pu3])
      refine wpAnyH_done (by kernel_rfl) ?_ _
      have GF := Lib.hid (((Gx13.out.box (p := px9) Gx10.out.cells.1 0 (.slice Arx3 E1.length arx3)).box (p := px9) (Gx10.out.set0 _).cells.1 1 (.slice Brx3 F1.length brx3)).box (p := px9) ((Gx10.out.set0 _).set1 _).cells.1 2 (.slice Crx3 L1.length crx3))
      have T3f := Lib.hid (Three.below T3.out HBx14.out T3.out.lt)
      have T2f := Lib.hid (Three.below T2.out HBx14.out T2.out.lt)
      have nb : px9 ≠ p3 := by have := T3.out.lt; have := PBpx9.out; omega
      have nb2 : w.heap.size ≠ p3 := by have := NP.out; omega
      have BFf := Lib.hid (Below.and hb.out HBx14.out)
      clear p0 p1 p2 xr0 xr1 xr2 xr3 xr4 lx lp HBx14 hSz zb0 zb1 zb2 zbf
      obtain ⟨W9, hW9⟩ : ∃ X, X = (((wx7.setCell ⟨px9, 0, none⟩ (.slice Arx3 E1.length arx3)).setCell ⟨px9, 1, none⟩ (.slice Brx3 F1.length brx3)).setCell ⟨px9, 2, none⟩ (.slice Crx3 L1.length crx3)) := ⟨_, rfl⟩
      rw [← hW9] at TB GF T3f T2f BFf ⊢
      clear hW9
      obtain ⟨y0, y1, y2⟩ := TB.out.cells
      obtain ⟨q0, q1, q2⟩ := T3f.out.cells
      have qf := T3f.out.frozen
      have GN := Lib.hid (((GF.out.box (p := p3) T3f.out.cells.1 0 (.slice Arx3 E1.length arx3)).box (p := p3) (T3f.out.set0 _).cells.1 1 (.slice Brx3 F1.length brx3)).box (p := p3) ((T3f.out.set0 _).set1 _).cells.1 2 (.slice Crx3 L1.length crx3))
      have T3n := Lib.hid (((T3f.out.set0 (.slice Arx3 E1.length arx3)).set1 (.slice Brx3 F1.length brx3)).set2 (.slice Crx3 L1.length crx3))
      have T2n := Lib.hid (((T2f.out.far nb2 (j := 0) (.slice Arx3 E1.length arx3)).far nb2 (j := 1) (.slice Brx3 F1.length brx3)).far nb2 (j := 2) (.slice Crx3 L1.length crx3))
      have BFn := Lib.hid (((BFf.out.setCell (Nat.le_of_lt NP.out) (p := ⟨p3, 0, none⟩) (.slice Arx3 E1.length arx3)).setCell (Nat.le_of_lt NP.out) (p := ⟨p3, 1, none⟩) (.slice Brx3 F1.length brx3)).setCell (Nat.le_of_lt NP.out) (p := ⟨p3, 2, none⟩) (.slice Crx3 L1.length crx3))
      clear GF T3f T2f BFf TB
      go_wp2
      go_roundw
      case rel => exact ⟨k + 1, Arx3, arx3, Brx3, brx3, Crx3, crx3, by omega, by go_num, by rw [← HX1.out]; exact T3n.out, by rw [← HX1.out]; exact GN.out, T2n.out, BFn.out⟩
      case measure => simp [intOf]; omega
    · go_simp
      have HBx16a : Below wr.heap.size wr (wr.alloc (.cells #[.slice none 0 0, .slice none 0 0, .slice none 0 0] 29)).drew := HBd.out.alloc HBd.out.size _
      refine hK.out _ _ HBx16a (fun hSx19 => ?_)
      clear hK KK
      (try simp only [Act.put, pu1, pu2, pu3])
      have Gx18a : Three (wr.alloc (.cells #[.slice none 0 0, .slice none 0 0, .slice none 0 0] 29)).drew wr.heap.size 29 (.slice none 0 0) (.slice none 0 0) (.slice none 0 0) := Three.new wr.drew
      have hba : Below wr.drew.heap.size wr.drew (wr.alloc (.cells #[.slice none 0 0, .slice none 0 0, .slice none 0 0] 29)).drew := (Below.refl _ _).alloc (Nat.le_refl _) _
      have Gx20 := Lib.hid (G0q.out.below hba)
      have PBpx17 := Lib.hid (show wr.heap.size ≤ wr.heap.size from HBd.out.size)
      have PApx17 := Lib.hid (show wr.heap.size < (wr.alloc (.cells #[.slice none 0 0, .slice none 0 0, .slice none 0 0] 29)).drew.heap.size by simp)
      obtain ⟨wx15, hwwx15⟩ : ∃ X, X = (wr.alloc (.cells #[.slice none 0 0, .slice none 0 0, .slice none 0 0] 29)).drew := ⟨_, rfl⟩
      rw [← hwwx15] at HBx16a Gx18a PApx17 Gx20  ⊢
      have HBx16 := Lib.hid HBx16a
      have Gx18 := Lib.hid Gx18a
      clear HBx16a Gx18a hba hwwx15
      refine wpAnyH_ready (rs := [5]) (by kernel_rfl) (by simp) ?_
      refine AllReadyH.cons rfl (fun KK hK => ?_) AllReadyH.nil
      go_simp
      refine (HS.out _ _ _ _ _ _ _ Gx20.out).mono ?_
      rintro e wx21 ⟨Arx23, arx23, Brx23, brx23, Crx23, crx23, rfl, grx23, hrx23⟩
      have Gx24 := Lib.hid grx23
      unfold gameV
      have HBx22 := Lib.hid (Below.and HBx16.out hrx23)
      have Gx25 := Lib.hid (Gx20.out.below hrx23)
      have Gx26 := Lib.hid (Three.below Gx18.out hrx23 Gx18.out.lt)
      clear hrx23 grx23
      refine hK.out _ _ HBx22.out (fun hSx27 => ?_)
      clear hK KK
      (try simp only [Act.put, pu1, pu2, pu3])
      refine tkI 6 14 (v := ?_) rfl rfl ?_ ?_
      rotate_left
      · intro w1 hSw; obtain ⟨hcS, hfS⟩ := bcell hSw; go_simp; (try with_reducible rfl)
      (try simp only [Act.put, pu1, pu2, pu3])
      refine tkI 7 21 (v := ?_) rfl rfl ?_ ?_
      rotate_left
      · intro w1 hSw; obtain ⟨hcS, hfS⟩ := bcell hSw; go_simp; (try with_reducible rfl)
      (try simp only [Act.put, pu1, pu2, pu3])
      refine tkI 8 22 (v := ?_) rfl rfl ?_ ?_
      rotate_left
      · intro w1 hSw; obtain ⟨hcS, hfS⟩ := bcell hSw; go_simp; (try with_reducible rfl)
      (try simp only [Act.put, pu1, pu2, pu3])
      refine wpAnyH_ready (rs := [10]) (by kernel_rfl) (by simp) ?_
      refine AllReadyH.cons rfl (fun KK hK => ?_) AllReadyH.nil
      obtain ⟨zb0, zb1, zb2⟩ := Gx26.out.cells
      have zbf := Gx26.out.frozen
      go_simp
      have HBx28 : Hid (Below wr.heap.size wr (((wx21.setCell ⟨wr.heap.size, 0, none⟩ (.slice Arx23 E1.length arx23)).setCell ⟨wr.heap.size, 1, none⟩ (.slice Brx23 F1.length brx23)).setCell ⟨wr.heap.size, 2, none⟩ (.slice Crx23 L1.length crx23))) := ((HBx22.out.setCell PBpx17.out (p := ⟨wr.heap.size, 0, none⟩) (.slice Arx23 E1.length arx23)).setCell PBpx17.out (p := ⟨wr.heap.size, 1, none⟩) (.slice Brx23 F1.length brx23)).setCell PBpx17.out (p := ⟨wr.heap.size, 2, none⟩) (.slice Crx23 L1.length crx23)
      have TB : Hid (Three (((wx21.setCell ⟨wr.heap.size, 0, none⟩ (.slice Arx23 E1.length arx23)).setCell ⟨wr.heap.size, 1, none⟩ (.slice Brx23 F1.length brx23)).setCell ⟨wr.heap.size, 2, none⟩ (.slice Crx23 L1.length crx23)) wr.heap.size 29 (.slice Arx23 E1.length arx23) (.slice Brx23 F1.length brx23) (.slice Crx23 L1.length crx23)) := ((Gx26.out.set0 (.slice Arx23 E1.length arx23)).set1 (.slice Brx23 F1.length brx23)).set2 (.slice Crx23 L1.length crx23)
      refine hK.out _ _ HBx28.out (fun hSz => ?_)
      clear hK KK
      (try simp only [Act.put, pu1, pu2, pu3])
      refine tkI 11 6 (v := ?_) rfl rfl ?_ ?_
      rotate_left
      · intro w1 hSw; obtain ⟨hcS, hfS⟩ := bcell hSw; go_simp; (try with_reducible rfl)
      (try simp only [Act.put, pu1, pu2, pu3])
      refine wpAnyH_done (by kernel_rfl) ?_ _
      have GF := Lib.hid (((Gx24.out.box (p := wr.heap.size) Gx26.out.cells.1 0 (.slice Arx23 E1.length arx23)).box (p := wr.heap.size) (Gx26.out.set0 _).cells.1 1 (.slice Brx23 F1.length brx23)).box (p := wr.heap.size) ((Gx26.out.set0 _).set1 _).cells.1 2 (.slice Crx23 L1.length crx23))
      have T3f := Lib.hid (Three.below T3.out HBx28.out T3.out.lt)
      have T2f := Lib.hid (Three.below T2.out HBx28.out T2.out.lt)
      have nb : wr.heap.size ≠ p3 := by have := T3.out.lt; have := PBpx17.out; omega
      have nb2 : w.heap.size ≠ p3 := by have := NP.out; omega
      have BFf := Lib.hid (Below.and hb.out HBx28.out)
      clear p0 p1 p2 xr0 xr1 xr2 xr3 xr4 lx lp HBx28 hSz zb0 zb1 zb2 zbf
      obtain ⟨W9, hW9⟩ : ∃ X, X = (((wx21.setCell ⟨wr.heap.size, 0, none⟩ (.slice Arx23 E1.length arx23)).setCell ⟨wr.heap.size, 1, none⟩ (.slice Brx23 F1.length brx23)).setCell ⟨wr.heap.size, 2, none⟩ (.slice Crx23 L1.length crx23)) := ⟨_, rfl⟩
      rw [← hW9] at TB GF T3f T2f BFf ⊢
      clear hW9
      obtain ⟨y0, y1, y2⟩ := TB.out.cells
      obtain ⟨q0, q1, q2⟩ := T3f.out.cells
      have qf := T3f.out.frozen
      have GN := Lib.hid (((GF.out.box (p := p3) T3f.out.cells.1 0 (.slice Arx23 E1.length arx23)).box (p := p3) (T3f.out.set0 _).cells.1 1 (.slice Brx23 F1.length brx23)).box (p := p3) ((T3f.out.set0 _).set1 _).cells.1 2 (.slice Crx23 L1.length crx23))
      have T3n := Lib.hid (((T3f.out.set0 (.slice Arx23 E1.length arx23)).set1 (.slice Brx23 F1.length brx23)).set2 (.slice Crx23 L1.length crx23))
      have T2n := Lib.hid (((T2f.out.far nb2 (j := 0) (.slice Arx23 E1.length arx23)).far nb2 (j := 1) (.slice Brx23 F1.length brx23)).far nb2 (j := 2) (.slice Crx23 L1.length crx23))
      have BFn := Lib.hid (((BFf.out.setCell (Nat.le_of_lt NP.out) (p := ⟨p3, 0, none⟩) (.slice Arx23 E1.length arx23)).setCell (Nat.le_of_lt NP.out) (p := ⟨p3, 1, none⟩) (.slice Brx23 F1.length brx23)).setCell (Nat.le_of_lt NP.out) (p := ⟨p3, 2, none⟩) (.slice Crx23 L1.length crx23))
      clear GF T3f T2f BFf TB
      go_wp2
      go_roundw
      case rel => exact ⟨k + 1, Arx23, arx23, Brx23, brx23, Crx23, crx23, by omega, by go_num, by rw [← HX1.out]; exact T3n.out, by rw [← HX1.out]; exact GN.out, T2n.out, BFn.out⟩
      case measure => simp [intOf]; omega
  · have i1 : ¬ (k : Int) < (P.length : Int) := by omega
    obtain rfl : k = P.length := by omega
    rw [List.take_length] at T3 GG
    obtain ⟨p0, p1, p2⟩ := T3.out.cells
    obtain ⟨q0, q1, q2⟩ := T2.out.cells
    have qf := T2.out.frozen
    have GN := Lib.hid (((GG.out.box (p := w.heap.size) T2.out.cells.1 0 (.slice A (foldG P).1.length a)).box (p := w.heap.size) (T2.out.set0 _).cells.1 1 (.slice B (foldG P).2.1.length b)).box (p := w.heap.size) ((T2.out.set0 _).set1 _).cells.1 2 (.slice C (foldG P).2.2.length c))
    have BN := Lib.hid (((hb.out.setCell (Nat.le_refl _) (p := ⟨w.heap.size, 0, none⟩) (.slice A (foldG P).1.length a)).setCell (Nat.le_refl _) (p := ⟨w.heap.size, 1, none⟩) (.slice B (foldG P).2.1.length b)).setCell (Nat.le_refl _) (p := ⟨w.heap.size, 2, none⟩) (.slice C (foldG P).2.2.length c))
    have nb : w.heap.size ≠ p3 := by have := NP.out; omega
    have nb2 : p3 ≠ w.heap.size := by have := NP.out; omega
    go_wp2
    refine bodyPost_ret (v := .agg #[.slice A (foldG P).1.length a, .slice B (foldG P).2.1.length b, .slice C (foldG P).2.2.length c]) (by simp [results, Try.results47, go_sem, p0, p1, p2, q0, q1, q2]) rfl ⟨A, a, B, b, C, c, rfl, GN.out, BN.out⟩
theorem l2Fold (Ap : Option Addr) (ap : Nat) (P : List Rq) (w : World) (hP : P.length ≤ 1048576) (hc : P.length ≤ ap) (hr : Rd 5 Rq.cells w Ap P) (hok : ∀ r ∈ P, okB r = true) :
 Calls Try.prog 47 #[.slice Ap P.length ap] w fun e w' => ∃ A a B b C c, e = .returned (gameV A (foldG P).1.length a B (foldG P).2.1.length b C (foldG P).2.2.length c) ∧ GmR w' A a B b C c (foldG P).1 (foldG P).2.1 (foldG P).2.2 ∧ Below w.heap.size w w' :=
 (l2FoldN Ap ap P w hP hc hr hok).mono fun _ _ ⟨A, a, B, b, C, c, h1, h2, h3⟩ => ⟨A, a, B, b, C, c, h1, h2.g, h3⟩
end Go.Proofs.Ytameldhdegcpoaa
namespace Go.Proofs.Ytameldhdegcpoaa
open Go.ChangeShapes Go.WideShapes Go.ChangeAt Go.RowKit
set_option linter.unusedVariables false
set_option linter.unusedSimpArgs false
def foldR (P : List Rq) : Gm := if P.all okB = true ∧ P.length ≤ 60 then foldG P else ([], [], [])
theorem foldR_bad {P : List Rq} {k : Nat} (h : k < P.length) (hb : okB (P[k]'h) = false) : foldR P = ([], [], []) := by
 unfold foldR
 rw [if_neg]
 rintro ⟨h1, _⟩
 rw [List.all_eq_true] at h1
 have := h1 _ (List.getElem_mem h)
 rw [hb] at this
 cases this
theorem foldR_long {P : List Rq} (h : 60 < P.length) : foldR P = ([], [], []) := by
 unfold foldR
 rw [if_neg]
 rintro ⟨_, h1⟩
 omega
theorem foldR_good {P : List Rq} (h : ∀ r ∈ P, okB r = true) (hl : P.length ≤ 60) : foldR P = foldG P := by
 unfold foldR
 rw [if_pos ⟨List.all_eq_true.2 h, hl⟩]
theorem all_next {P : List Rq} {k : Nat} (h : k < P.length) (ha : ∀ r ∈ P.take k, okB r = true) (hk : okB (P[k]'h) = true) : ∀ r ∈ P.take (k + 1), okB r = true := fun r hr => by
 rw [List.take_succ_eq_append_getElem h, List.mem_append] at hr
 rcases hr with hr | hr
 · exact ha r hr
 · simp only [List.mem_singleton] at hr
   rw [hr]; exact hk
end Go.Proofs.Ytameldhdegcpoaa
namespace Go.Proofs.Ytameldhdegcpoaa
open Go.ChangeShapes Go.WideShapes Go.ChangeAt Go.RowKit
set_option linter.unusedVariables false
set_option linter.unusedSimpArgs false
theorem own_type {w : World} {base p : Nat} {e t : TypeId} {size n : Nat} {v : Value} {xs : List Value} {cs : Array Value} (h : w.ownsRow base e size v n xs) (hG : w.heap[p]? = some (.cells cs t)) (hne : e ≠ t) : v.ownBlock ≠ some p := fun hv => by
 obtain ⟨A, c, rfl, _⟩ := own_form h
 rcases (own_cap h).2 with ⟨h1, _⟩ | ⟨g, rfl⟩
 · rw [h1] at hv; cases hv
 · simp only [Value.ownBlock, Option.some.injEq] at hv
   exact own_ne_block h hG hne hv.symm
theorem OwG.box {w : World} {lo : Nat} {A : Option Addr} {a : Nat} {B : Option Addr} {b : Nat} {C : Option Addr} {d : Nat} {E : List Fig} {F L : List Int} (h : OwG w lo A a B b C d E F L) {p : Nat} {u0 u1 u2 : Value} (hT : Three w p 29 u0 u1 u2) (o : Nat) (u : Value) : OwG (w.setCell ⟨p, o, none⟩ u) lo A a B b C d E F L := by
 have put : ∀ {e : TypeId} {size n : Nat} {v : Value} {xs : List Value}, w.ownsRow lo e size v n xs → v.ownBlock ≠ some p → (w.setCell ⟨p, o, none⟩ u).ownsRow lo e size v n xs := fun h1 h2 => own_same h1 (fun k hk => heap_setCell_other w ⟨p, o, none⟩ k _ (by
  intro e
  subst e
  exact h2 hk))
 exact ⟨put h.e (own_type h.e hT (by decide)), put h.f (own_type h.f hT (by decide)), put h.l (own_type h.l hT (by decide)), h.ef, h.el, h.fl⟩
theorem OwG.below {w w' : World} {lo : Nat} {A : Option Addr} {a : Nat} {B : Option Addr} {b : Nat} {C : Option Addr} {d : Nat} {E : List Fig} {F L : List Int} (h : OwG w lo A a B b C d E F L) (hb : Below w.heap.size w w') : OwG w' lo A a B b C d E F L := ⟨own_below h.e hb, own_below h.f hb, own_below h.l hb, h.ef, h.el, h.fl⟩
theorem OwG.gmR {w : World} {lo : Nat} {A : Option Addr} {a : Nat} {B : Option Addr} {b : Nat} {C : Option Addr} {d : Nat} {E : List Fig} {F L : List Int} (h : OwG w lo A a B b C d E F L) : GmR w A a B b C d E F L := h.game.gmR
theorem actG_code (E : List Fig) (F L : List Int) (k : Nat) (e : Fig) (r : Rq) : (actG E F L k e r).2 ≠ 1 := by
 unfold actG
 repeat' split
 all_goals simp
theorem doG_code (E : List Fig) (F L : List Int) (r : Rq) : (doG E F L r).2 ≠ 1 := by
 unfold doG
 split
 · simp
 split
 · simp
 simp only
 split
 · split
   · simp
   · simp
 · split
   · simp
   · split
     · simp
     · exact actG_code _ _ _ _ _ _
theorem stepG_good {g : Gm} {r : Rq} (h : gokB g.1 g.2.1 g.2.2 = true) (hr : okB r = true) : (stepG g.1 g.2.1 g.2.2 r).1 = stepF g r ∧ (stepG g.1 g.2.1 g.2.2 r).2 ≠ 1 := by
 unfold stepG
 rw [if_pos ⟨h, hr⟩]
 exact ⟨rfl, doG_code _ _ _ _⟩
theorem stepG_bad (g : Gm) {r : Rq} (hr : okB r = false) : stepG g.1 g.2.1 g.2.2 r = (([], [], []), 1) := by
 unfold stepG
 rw [if_neg (by rw [hr]; simp)]
set_option maxRecDepth 100000 in
set_option maxHeartbeats 8000000 in
theorem implGameFold (Ap : Option Addr) (ap : Nat) (P : List Rq) (w : World) (hP : P.length ≤ 1048576) (hc : P.length ≤ ap) (hr : Rd 5 Rq.cells w Ap P) :
 Calls Try.prog 30 #[.slice Ap P.length ap] w fun e w' => ∃ A a B b C c, e = .returned (gameV A (foldR P).1.length a B (foldR P).2.1.length b C (foldR P).2.2.length c) ∧ OwG w' w.heap.size A a B b C c (foldR P).1 (foldR P).2.1 (foldR P).2.2 ∧ Below w.heap.size w w' := by
 have HR := Lib.hid hr
 have BW : Hid (Below w.heap.size w (w.alloc (.cells #[.slice none 0 0, .slice none 0 0, .slice none 0 0] 29))) := (Below.refl _ _).alloc (Nat.le_refl _) _
 have T2 : Hid (Three (w.alloc (.cells #[.slice none 0 0, .slice none 0 0, .slice none 0 0] 29)) w.heap.size 29 (.slice none 0 0) (.slice none 0 0) (.slice none 0 0)) := Three.new w
 clear hr
 by_cases hl : ¬ P.length ≤ 60
 · have e60 : decide ((60 : Int) < (P.length : Int)) = true := by simp; omega
   have HBAD := Lib.hid (foldR_long (P := P) (by omega))
   obtain ⟨z0, z1, z2⟩ := T2.out.cells
   have zf := T2.out.frozen
   have BG : ∀ p0 p1 p2 : Value, Below w.heap.size w ((((w.alloc (.cells #[.slice none 0 0, .slice none 0 0, .slice none 0 0] 29)).setCell ⟨w.heap.size, 0, none⟩ p0).setCell ⟨w.heap.size, 1, none⟩ p1).setCell ⟨w.heap.size, 2, none⟩ p2) := fun p0 p1 p2 => by
    iterate 3 (refine Below.setCell ?_ (by first | (simp; done) | (simp; omega)) _)
    exact BW.out
   go_enter Try.func30, Try.ntmps30
   go_wp2
   refine bodyPost_ret (v := .agg #[.slice none 0 0, .slice none 0 0, .slice none 0 0]) (by simp [results, Try.results30, go_sem, z0, z1, z2]) rfl ⟨none, 0, none, 0, none, 0, by rw [HBAD.out]; rfl, by rw [HBAD.out]; exact OwG.nil _ _, BW.out⟩
 have hl : P.length ≤ 60 := by omega
 have e60 : decide ((60 : Int) < (P.length : Int)) = false := by simp; omega
 go_enter Try.func30, Try.ntmps30
 go_wp2_with (fail)
 refine (gameNew _).mono ?_
 unfold NewAt
 rintro e wa ⟨B0, b0, C0, c0, rfl, hg, hb⟩
 have BA := Lib.hid (Below.and BW.out hb)
 have T2 := Lib.hid (Three.below T2.out hb T2.out.lt)
 have hbn : Below wa.heap.size wa (wa.alloc (.cells #[.slice none 0 0, .slice B0 16 b0, .slice C0 4 c0] 29)) := (Below.refl _ _).alloc (Nat.le_refl _) _
 have GI0 := hg.below hbn
 have T2 := Lib.hid (Three.below T2.out hbn T2.out.lt)
 have BA2 := Lib.hid (Below.and BA.out hbn)
 have T3 : Hid (Three (wa.alloc (.cells #[.slice none 0 0, .slice B0 16 b0, .slice C0 4 c0] 29)) wa.heap.size 29 (.slice none 0 0) (.slice B0 16 b0) (.slice C0 4 c0)) := Three.new wa
 have NP := Lib.hid (show w.heap.size < wa.heap.size by have := hb.size; simp at this; omega)
 have GI : Hid (OwG (wa.alloc (.cells #[.slice none 0 0, .slice B0 16 b0, .slice C0 4 c0] 29)) (w.heap.size + 1) none 0 B0 b0 C0 c0 [] (floorAt 20) [0, 0, 0, 0]) :=
  ⟨own_base GI0.ents (by simp), own_base GI0.floor (by simp), own_base GI0.last (by simp), (fun _ h => by cases h), (fun _ h => by cases h), GI0.two⟩
 clear hg hb hbn BA BW GI0
 unfold gameV
 go_upto_region 4 with (fail)
 obtain ⟨p3, hp3⟩ : ∃ X, X = wa.heap.size := ⟨_, rfl⟩
 obtain ⟨wB, hwB⟩ : ∃ X, X = wa.alloc (.cells #[.slice none 0 0, .slice B0 16 b0, .slice C0 4 c0] 29) := ⟨_, rfl⟩
 rw [← hwB] at GI T2 BA2 T3 ⊢
 rw [← hp3] at T3 NP ⊢
 clear hwB hp3
 go_wp2
 go_loopw [15] (fun v wr => ∃ (k : Nat) (A : Option Addr) (a : Nat) (B : Option Addr) (b : Nat) (C : Option Addr) (c : Nat), k ≤ P.length ∧ v = .int .i64 (k : Int) ∧ Hid (∀ r ∈ P.take k, okB r = true) ∧ Hid (Three wr p3 29 (.slice A (foldG (P.take k)).1.length a) (.slice B (foldG (P.take k)).2.1.length b) (.slice C (foldG (P.take k)).2.2.length c)) ∧ Hid (OwG wr (w.heap.size + 1) A a B b C c (foldG (P.take k)).1 (foldG (P.take k)).2.1 (foldG (P.take k)).2.2) ∧ Hid (Three wr w.heap.size 29 (.slice none 0 0) (.slice none 0 0) (.slice none 0 0)) ∧ Hid (Below w.heap.size w wr)) (fun v _ => P.length - (intOf v).toNat)
 case atStart => exact ⟨0, none, 0, B0, b0, C0, c0, Nat.zero_le _, rfl, by simp [Hid], T3.out, GI.out, T2.out, BA2.out⟩
 case round =>
  clear T3 GI T2 BA2
  obtain ⟨k, A, a, B, b, C, c, hk, rfl, ha, T3, GG, T2, hb⟩ := hrel
  by_cases hlt : k < P.length
  · obtain ⟨g, o, rfl, ca⟩ := Rd.below HR.out hb.out k hlt
    have HX1 := Lib.hid (foldG_succ hlt)
    have HKo := Lib.hid (foldG_ok _ g0 g0_ok ha.out)
    have HKo := Lib.hid (show gokB (foldG (P.take k)).1 (foldG (P.take k)).2.1 (foldG (P.take k)).2.2 = true from HKo.out)
    have HN := Lib.hid (fun h => all_next hlt ha.out h)
    have HBd := Lib.hid (fun h => foldR_bad hlt h)
    generalize P[k] = x at ca HX1 HN HBd
    obtain ⟨X0, hX0⟩ : ∃ X, X = foldG (P.take k) := ⟨_, rfl⟩
    rw [← hX0] at T3 GG HX1 HKo
    clear hX0
    have HXs := Lib.hid (show okB x = true → _ from fun h => stepG_good HKo.out h)
    have HXb := Lib.hid (show okB x = false → _ from fun h => stepG_bad X0 h)
    obtain ⟨E, F, L⟩ := X0
    obtain ⟨X, hX⟩ : ∃ X, X = stepG E F L x := ⟨_, rfl⟩
    have HXs := Lib.hid (show okB x = true → X.1 = stepF (E, F, L) x ∧ X.2 ≠ 1 by rw [hX]; exact HXs.out)
    have HXb := Lib.hid (show okB x = false → X = (([], [], []), 1) by rw [hX]; exact HXb.out)
    have okf := okG_of HKo.out
    have l1 : E.length ≤ 4 := okf.e.len
    have l2 : F.length = 16 := okf.f
    have l3 : L.length = 4 := okf.l
    have HI : Hid (∀ (wx : World) (A' : Option Addr) (a' : Nat) (B' : Option Addr) (b' : Nat) (C' : Option Addr) (d' : Nat), GmR wx A' a' B' b' C' d' E F L → Calls Try.prog 36 #[gameV A' E.length a' B' F.length b' C' L.length d', .agg #[.int .i64 x.c, .int .i64 x.n, .int .i64 x.o, .int .i64 x.x, .int .i64 x.y]] wx (DoI X wx)) :=
     fun wx A' a' B' b' C' d' hg => by have := implGameDo A' a' B' b' C' d' E F L x wx (by omega) (by omega) (by omega) hg; rw [← hX] at this; exact this
    clear hX okf l1 l2 l3 HKo
    have xr0 : wr.cell? ⟨g, o + k * 5, none⟩ = some (.int .i64 x.c) := ca 0 _ rfl
    have xr1 : wr.cell? ⟨g, o + k * 5 + 1, none⟩ = some (.int .i64 x.n) := ca 1 _ rfl
    have xr2 : wr.cell? ⟨g, o + k * 5 + 2, none⟩ = some (.int .i64 x.o) := ca 2 _ rfl
    have xr3 : wr.cell? ⟨g, o + k * 5 + 3, none⟩ = some (.int .i64 x.x) := ca 3 _ rfl
    have xr4 : wr.cell? ⟨g, o + k * 5 + 4, none⟩ = some (.int .i64 x.y) := ca 4 _ rfl
    clear ca
    obtain ⟨p0, p1, p2⟩ := T3.out.cells
    have lx : g < wr.heap.size := World.block_lt_of_cell? wr _ xr0
    have lp := T3.out.lt
    have i0 : (0 : Int) ≤ (k : Int) := by omega
    have i1 : (k : Int) < (P.length : Int) := by omega
    have B1 : Below wr.heap.size wr (wr.alloc (.cells #[.int .i64 x.c, .int .i64 x.n, .int .i64 x.o, .int .i64 x.x, .int .i64 x.y] 49)) := (Below.refl _ _).alloc (Nat.le_refl _) _
    have GG1 := Lib.hid (GG.out.below B1)
    have T3a := Lib.hid (Three.below T3.out B1 T3.out.lt)
    have T2a := Lib.hid (Three.below T2.out B1 T2.out.lt)
    have BB := Lib.hid (Below.and hb.out B1)
    clear B1
    go_wp2_with (fail)
    refine (HI.out _ _ _ _ _ _ _ GG1.out.gmR).mono ?_
    unfold DoI
    rintro e w2 ⟨A1, a1, B1, b1, C1, c1, rfl, hG, h2⟩
    have T3b := Lib.hid (Three.below T3a.out h2 T3a.out.lt)
    have T2b := Lib.hid (Three.below T2a.out h2 T2a.out.lt)
    have BB := Lib.hid (Below.and BB.out h2)
    have hz : w.heap.size + 1 ≤ wr.heap.size := by have := T2.out.lt; omega
    have GN := Lib.hid (hG.base (lo := w.heap.size + 1) (by simp; omega))
    have B2 : Below w2.heap.size w2 (w2.alloc (.cells #[.slice A1 X.1.1.length a1, .slice B1 X.1.2.1.length b1, .slice C1 X.1.2.2.length c1] 29)) := (Below.refl _ _).alloc (Nat.le_refl _) _
    have TX := Lib.hid (Three.new (u0 := .slice A1 X.1.1.length a1) (u1 := .slice B1 X.1.2.1.length b1) (u2 := .slice C1 X.1.2.2.length c1) (t := 29) w2)
    have GN := Lib.hid (GN.out.below B2)
    have T3b := Lib.hid (Three.below T3b.out B2 T3b.out.lt)
    have T2b := Lib.hid (Three.below T2b.out B2 T2b.out.lt)
    have BB := Lib.hid (Below.and BB.out B2)
    have nb : w2.heap.size ≠ p3 := by have h1 := T3a.out.lt; have h2 := h2.size; omega
    have nb2 : w.heap.size ≠ p3 := by have := NP.out; omega
    clear h2 hG hz B2 p0 p1 p2 xr0 xr1 xr2 xr3 xr4 lx lp GG GG1 T3 T2 T3a T2a hb HI
    unfold gameV
    go_upto_region 8 with (fail)
    obtain ⟨pX, hpX⟩ : ∃ Y, Y = w2.heap.size := ⟨_, rfl⟩
    obtain ⟨w9, hw9⟩ : ∃ Y, Y = w2.alloc (.cells #[.slice A1 X.1.1.length a1, .slice B1 X.1.2.1.length b1, .slice C1 X.1.2.2.length c1] 29) := ⟨_, rfl⟩
    rw [← hw9] at TX GN T3b T2b BB ⊢
    rw [← hpX] at TX nb ⊢
    clear hw9 hpX
    rcases hq : okB x with _ | _
    · have HBAD := Lib.hid (HBd.out hq)
      have e1 : (X.2 == 1) = true := by rw [HXb.out hq]; rfl
      clear HXs HXb HN HBd HX1 hq
      obtain ⟨z0, z1, z2⟩ := T2b.out.cells
      have zf := T2b.out.frozen
      have BG : ∀ p0 p1 p2 : Value, Below w.heap.size w (((w9.setCell ⟨w.heap.size, 0, none⟩ p0).setCell ⟨w.heap.size, 1, none⟩ p1).setCell ⟨w.heap.size, 2, none⟩ p2) := fun p0 p1 p2 => by
       iterate 3 (refine Below.setCell ?_ (by first | (simp; done) | (simp; omega)) _)
       exact BB.out
      go_wp2
      refine bodyPost_ret (v := .agg #[.slice none 0 0, .slice none 0 0, .slice none 0 0]) (by simp [results, Try.results30, go_sem, z0, z1, z2]) rfl ⟨none, 0, none, 0, none, 0, by rw [HBAD.out]; rfl, by rw [HBAD.out]; exact OwG.nil _ _, BG _ _ _⟩
    · have hs := HXs.out hq
      have e1 : (X.2 == 1) = false := by simpa using hs.2
      have HA := Lib.hid (HN.out hq)
      have HXF := Lib.hid (show X.1 = foldG (P.take (k + 1)) by rw [hs.1, HX1.out])
      clear HXs HXb HN HBd HX1 hq hs
      obtain ⟨y0, y1, y2⟩ := TX.out.cells
      obtain ⟨q0, q1, q2⟩ := T3b.out.cells
      have qf := T3b.out.frozen
      have GN2 := Lib.hid (((GN.out.box T3b.out 0 (.slice A1 X.1.1.length a1)).box (T3b.out.set0 _) 1 (.slice B1 X.1.2.1.length b1)).box ((T3b.out.set0 _).set1 _) 2 (.slice C1 X.1.2.2.length c1))
      have T3n := Lib.hid (((T3b.out.set0 (.slice A1 X.1.1.length a1)).set1 (.slice B1 X.1.2.1.length b1)).set2 (.slice C1 X.1.2.2.length c1))
      have T2n := Lib.hid (((T2b.out.far nb2 (j := 0) (.slice A1 X.1.1.length a1)).far nb2 (j := 1) (.slice B1 X.1.2.1.length b1)).far nb2 (j := 2) (.slice C1 X.1.2.2.length c1))
      have BFn := Lib.hid (((BB.out.setCell (Nat.le_of_lt NP.out) (p := ⟨p3, 0, none⟩) (.slice A1 X.1.1.length a1)).setCell (Nat.le_of_lt NP.out) (p := ⟨p3, 1, none⟩) (.slice B1 X.1.2.1.length b1)).setCell (Nat.le_of_lt NP.out) (p := ⟨p3, 2, none⟩) (.slice C1 X.1.2.2.length c1))
      go_wp2
      go_roundw
      case rel => exact ⟨k + 1, A1, a1, B1, b1, C1, c1, by omega, by go_num, HA.out, by rw [← HXF.out]; exact T3n.out, by rw [← HXF.out]; exact GN2.out, T2n.out, BFn.out⟩
      case measure => simp [intOf]; omega
  · have i1 : ¬ (k : Int) < (P.length : Int) := by omega
    obtain rfl : k = P.length := by omega
    rw [List.take_length] at T3 GG ha
    have HGD := Lib.hid (foldR_good ha.out hl)
    obtain ⟨p0, p1, p2⟩ := T3.out.cells
    obtain ⟨q0, q1, q2⟩ := T2.out.cells
    have qf := T2.out.frozen
    have GN := Lib.hid (((GG.out.box T2.out 0 (.slice A (foldG P).1.length a)).box (T2.out.set0 _) 1 (.slice B (foldG P).2.1.length b)).box ((T2.out.set0 _).set1 _) 2 (.slice C (foldG P).2.2.length c))
    have BN := Lib.hid (((hb.out.setCell (Nat.le_refl _) (p := ⟨w.heap.size, 0, none⟩) (.slice A (foldG P).1.length a)).setCell (Nat.le_refl _) (p := ⟨w.heap.size, 1, none⟩) (.slice B (foldG P).2.1.length b)).setCell (Nat.le_refl _) (p := ⟨w.heap.size, 2, none⟩) (.slice C (foldG P).2.2.length c))
    have nb : w.heap.size ≠ p3 := by have := NP.out; omega
    have nb2 : p3 ≠ w.heap.size := by have := NP.out; omega
    go_wp2
    refine bodyPost_ret (v := .agg #[.slice A (foldG P).1.length a, .slice B (foldG P).2.1.length b, .slice C (foldG P).2.2.length c]) (by simp [results, Try.results30, go_sem, p0, p1, p2, q0, q1, q2]) rfl ⟨A, a, B, b, C, c, by rw [HGD.out], by rw [HGD.out]; exact GN.out.base (by omega), BN.out⟩
end Go.Proofs.Ytameldhdegcpoaa
