import Derived.Test.YtameldhdegcpoaaMA
import Derived.Maps.AppendAt
import Derived.Laws.AppendOwnNone
namespace Go.Proofs.Ytameldhdegcpoaa
open Go.ChangeShapes Go.WideShapes Go.ChangeAt Go.RowKit
set_option linter.unusedVariables false
set_option linter.unusedSimpArgs false
section
variable {α : Type} {f : α → List Value} {k : Nat}
theorem Rd.cells (hf : ∀ a, (f a).length = k) {w : World} {ad : Addr} {L : List α} (h : Rd k f w (some ad) L) : ∀ j u, (L.flatMap f)[j]? = some u → w.cell? (ad.add j) = some u := by
 intro j u hu
 have hj : j < L.length * k := by
  have := (List.getElem?_eq_some_iff.1 hu).1
  rwa [rows_length k f hf] at this
 have hk : 0 < k := by
  rcases Nat.eq_zero_or_pos k with h0 | h0
  · subst h0; omega
  · exact h0
 have hi : j / k < L.length := Nat.div_lt_of_lt_mul (by rw [Nat.mul_comm]; exact hj)
 have hm : j % k < k := Nat.mod_lt _ hk
 have he : j / k * k + j % k = j := by rw [Nat.mul_comm]; exact Nat.div_add_mod _ _
 obtain ⟨b', off', hA, hc⟩ := h (j / k) hi
 cases hA
 have hr := rows_at k f hf L (j / k) (j % k) hi hm
 rw [he, hu] at hr
 have := hc (j % k) u hr.symm
 rw [Nat.add_assoc, he] at this
 have ha : Addr.add ⟨b', off', none⟩ j = ⟨b', off' + j, none⟩ := by
  unfold Addr.add
  split
  · rename_i h0; subst h0; rfl
  · rfl
 rw [ha]
 exact this
theorem Rd.none_nil {w : World} {L : List α} (h : Rd k f w none L) : L = [] := by
 cases L with
 | nil => rfl
 | cons a L => obtain ⟨b, off, hA, _⟩ := h 0 (by simp); cases hA
theorem Rd.drop {w : World} {g o : Nat} {L : List α} (h : Rd k f w (some ⟨g, o, none⟩) L) (i : Nat) : Rd k f w (some ⟨g, o + i * k, none⟩) (L.drop i) := by
 intro j hj
 have hij : i + j < L.length := by simp at hj; omega
 obtain ⟨b, off, hA, hc⟩ := h (i + j) hij
 cases hA
 refine ⟨g, o + i * k, rfl, fun p u hu => ?_⟩
 rw [List.getElem_drop] at hu
 have := hc p u hu
 rw [show o + i * k + j * k + p = o + (i + j) * k + p from by rw [Nat.add_mul]; omega]
 exact this
theorem Rd.take {w : World} {A : Option Addr} {L : List α} (h : Rd k f w A L) (i : Nat) : Rd k f w A (L.take i) := by
 intro j hj
 have hj' : j < L.length := by simp at hj; omega
 obtain ⟨b, off, hA, hc⟩ := h j hj'
 refine ⟨b, off, hA, fun p u hu => hc p u ?_⟩
 rw [List.getElem_take] at hu
 exact hu
variable {P : Program}
theorem run_app (hf : ∀ a, (f a).length = k) (w : World) (base : Nat) (t ty e : TypeId) (i : TypeInfo) (z : Value) (bytes : Nat) (ht : P.underlying t = some (.slice e)) (hi : P.info? e = some i) (hz : i.zero = some z)
 (hsize : i.size = k) (hby : i.bytes = bytes) (hzs : z.cells.size = k) (hsz : 0 < k) (v : Value) (n : Nat) (xs : List Value) (hown : w.ownsRow base e k v n xs)
 (A : Option Addr) (c m : Nat) (L : List α) (hm : L.length = m) (hr : Rd k f w A L) (hc : A = none → c = 0) (h1 : ∀ u ∈ L.flatMap f, u.oneCell' = true)
 (h63 : n + m ≤ maxLen) (hbytes : (n + m) * bytes ≤ 140737488355328) (hbase : base ≤ w.heap.size) :
 ∃ v' w', (Builtin.append_ #[t, t] ty #[v, .slice A m c]).run P w = .ok v' w' ∧ w'.ownsRow base e k v' (n + m) (xs ++ L.flatMap f) ∧ w.grownBy w' v.ownBlock ∧ (v'.ownBlock = v.ownBlock ∨ v'.ownBlock = some w.heap.size) := by
 subst hm
 rcases A with _ | ad
 · have hL := hr.none_nil
   subst hL
   have hc0 := hc rfl
   subst hc0
   exact ⟨v, w, run_append_owned_none w base t ty e i k ht hi v n xs hown, by simpa using hown, World.grownBy.refl w _, .inl rfl⟩
 · obtain ⟨v', w', q1, q2, q3, _, q5⟩ := run_append_own_at (P := P) w base t ty e i z k bytes ht hi hz hsize hby hzs hsz v n xs hown ad L.length c (L.flatMap f) (rows_length k f hf L) (Rd.cells hf hr) h1 h63 hbytes hbase
   exact ⟨v', w', q1, q2, q3, q5⟩
theorem wp_app (hf : ∀ a, (f a).length = k) (w : World) {o : Oper} {a : Act} {K : Act → World → Prop} {Q : Exit → Act → World → Prop} (s x : Operand) (t : TypeId)
 (hop : o.op = .call { callee := .builtin .append, args := #[s, x], argTypes := #[t, t] })
 (base : Nat) (e : TypeId) (i : TypeInfo) (z : Value) (bytes : Nat) (ht : P.underlying t = some (.slice e)) (hi : P.info? e = some i) (hz : i.zero = some z)
 (hsize : i.size = k) (hby : i.bytes = bytes) (hzs : z.cells.size = k) (hsz : 0 < k) (v : Value) (n : Nat) (xs : List Value) (hs : a.eval s = v) (hown : w.ownsRow base e k v n xs)
 (A : Option Addr) (c m : Nat) (L : List α) (hm : L.length = m) (hx : a.eval x = .slice A m c) (hr : Rd k f w A L) (hc : A = none → c = 0) (h1 : ∀ u ∈ L.flatMap f, u.oneCell' = true)
 (h63 : n + m ≤ maxLen) (hbytes : (n + m) * bytes ≤ 140737488355328) (hbase : base ≤ w.heap.size)
 (h : ∀ v' w', w'.ownsRow base e k v' (n + m) (xs ++ L.flatMap f) → w.grownBy w' v.ownBlock → (v'.ownBlock = v.ownBlock ∨ v'.ownBlock = some w.heap.size) → K (a.put o.dst v') w') : o.wp P a w K Q := by
 obtain ⟨v', w', q1, q2, q3, q4⟩ := run_app (P := P) hf w base t o.type e i z bytes ht hi hz hsize hby hzs hsz v n xs hown A c m L hm hr hc h1 h63 hbytes hbase
 unfold Oper.wp execOp
 simp only [hop, resolve, invoke, builtin, Sem.run_bind, Sem.run_pure, Result.andThen_ok, List.map_toArray, List.map_cons, List.map_nil, hs, hx, q1]
 exact h v' w' q2 q3 q4
theorem list_app (hf : ∀ a, (f a).length = k) {w : World} {ops : Array Oper} {rest : List Oper} {o : Oper} {a : Act} {Q : Exit → Act → World → Prop} (hgd : o.guard = none) (s x : Operand) (t : TypeId)
 (hop : o.op = .call { callee := .builtin .append, args := #[s, x], argTypes := #[t, t] })
 (base : Nat) (e : TypeId) (i : TypeInfo) (z : Value) (bytes : Nat) (ht : P.underlying t = some (.slice e)) (hi : P.info? e = some i) (hz : i.zero = some z)
 (hsize : i.size = k) (hby : i.bytes = bytes) (hzs : z.cells.size = k) (hsz : 0 < k) (v : Value) (n : Nat) (xs : List Value) (hs : a.eval s = v) (hown : w.ownsRow base e k v n xs)
 (A : Option Addr) (c m : Nat) (L : List α) (hm : L.length = m) (hx : a.eval x = .slice A m c) (hr : Rd k f w A L) (hc : A = none → c = 0) (h1 : ∀ u ∈ L.flatMap f, u.oneCell' = true)
 (h63 : n + m ≤ maxLen) (hbytes : (n + m) * bytes ≤ 140737488355328) (hbase : base ≤ w.heap.size)
 (h : ∀ v' w', w'.ownsRow base e k v' (n + m) (xs ++ L.flatMap f) → w.grownBy w' v.ownBlock → (v'.ownBlock = v.ownBlock ∨ v'.ownBlock = some w.heap.size) → wpList P ops Q rest (a.put o.dst v') w') : wpList P ops Q (o :: rest) a w :=
 wpList_plain hgd fun _ hK => wp_app hf w s x t hop base e i z bytes ht hi hz hsize hby hzs hsz v n xs hs hown A c m L hm hx hr hc h1 h63 hbytes hbase fun v' w' h2 h3 h4 => hK _ _ (h v' w' h2 h3 h4)
theorem step_app (hf : ∀ a, (f a).length = k) {w : World} {ops : Array Oper} {o : Oper} {a : Act} {K : Act → World → Prop} {Q : Exit → Act → World → Prop} {E : Prop} (hgd : o.guard = none) (s x : Operand) (t : TypeId)
 (hop : o.op = .call { callee := .builtin .append, args := #[s, x], argTypes := #[t, t] })
 (base : Nat) (e : TypeId) (i : TypeInfo) (z : Value) (bytes : Nat) (ht : P.underlying t = some (.slice e)) (hi : P.info? e = some i) (hz : i.zero = some z)
 (hsize : i.size = k) (hby : i.bytes = bytes) (hzs : z.cells.size = k) (hsz : 0 < k) (v : Value) (n : Nat) (xs : List Value) (hs : a.eval s = v) (hown : w.ownsRow base e k v n xs)
 (A : Option Addr) (c m : Nat) (L : List α) (hm : L.length = m) (hx : a.eval x = .slice A m c) (hr : Rd k f w A L) (hc : A = none → c = 0) (h1 : ∀ u ∈ L.flatMap f, u.oneCell' = true)
 (h63 : n + m ≤ maxLen) (hbytes : (n + m) * bytes ≤ 140737488355328) (hbase : base ≤ w.heap.size)
 (h : ∀ v' w', w'.ownsRow base e k v' (n + m) (xs ++ L.flatMap f) → w.grownBy w' v.ownBlock → (v'.ownBlock = v.ownBlock ∨ v'.ownBlock = some w.heap.size) → K (a.put o.dst v') w') :
 if Region.wanted o (yielded ops a.tmps) = true then Oper.wp P o a w K Q else E := by
 have hw : Region.wanted o (yielded ops a.tmps) = true := by simp [Region.wanted, hgd]
 rw [if_pos hw]
 exact wp_app hf w s x t hop base e i z bytes ht hi hz hsize hby hzs hsz v n xs hs hown A c m L hm hx hr hc h1 h63 hbytes hbase h
end
def cI (n : Int) : List Value := [.int .i64 n]
theorem cI_len (n : Int) : (cI n).length = 1 := rfl
theorem ints_flat (l : List Int) : l.flatMap cI = ints l := by
 induction l with
 | nil => rfl
 | cons a l ih => rw [List.flatMap_cons, ih]; rfl
theorem ints_one (l : List Int) : ∀ u ∈ l.flatMap cI, u.oneCell' = true := by
 intro u hu
 obtain ⟨y, _, hy⟩ := List.mem_flatMap.1 hu
 simp [cI] at hy
 subst hy; rfl
theorem figs_one (L : List Fig) : ∀ u ∈ L.flatMap Fig.cells, u.oneCell' = true := by
 intro u hu
 obtain ⟨y, _, hy⟩ := List.mem_flatMap.1 hu
 simp [Fig.cells] at hy
 rcases hy with rfl | rfl | rfl | rfl | rfl <;> rfl
theorem Fig.len (e : Fig) : e.cells.length = 5 := rfl
theorem figs_set (E : List Fig) (i j : Nat) (h : i < E.length) (hj : j < 5) (u : Value) (f : Fig) (hf : f.cells = (E[i].cells).set j u) : (figs E).set (i * 5 + j) u = figs (E.set i f) := by
 induction E generalizing i with
 | nil => simp at h
 | cons e E ih =>
  have hc : e.cells.length = 5 := rfl
  rcases i with _ | i
  · simp only [figs, List.flatMap_cons, Nat.zero_mul, Nat.zero_add, List.getElem_cons_zero, List.set_cons_zero] at hf ⊢
    rw [List.set_append_left _ _ (by omega), hf]
  · simp only [figs, List.flatMap_cons, List.getElem_cons_succ, List.set_cons_succ] at hf ih ⊢
    rw [List.set_append_right _ _ (by omega), hc, show (i + 1) * 5 + j - 5 = i * 5 + j from by omega, ih i (by simpa using h) hf]
theorem own_set1 {w : World} {base : Nat} {e : TypeId} {size g n c : Nat} {xs : List Value} (p : Nat) (u : Value) (hp : p < xs.length) (h : w.ownsRow base e size (.slice (some ⟨g, 0, none⟩) n c) n xs) :
 (w.setCell ⟨g, p, none⟩ u).ownsRow base e size (.slice (some ⟨g, 0, none⟩) n c) n (xs.set p u) ∧ w.grownBy (w.setCell ⟨g, p, none⟩ u) (some g) := by
 have h' : w.ownsRow base e size (.slice (some ⟨g, 0, none⟩) n c) n (xs.take p ++ xs.drop p) := by rwa [List.take_append_drop]
 obtain ⟨h1, h2⟩ := store1 p u (by simp; omega) hp h'
 refine ⟨?_, h2⟩
 have e1 : xs.take p ++ [u] ++ xs.drop (p + 1) = xs.set p u := by
  rw [List.set_eq_take_append_cons_drop, if_pos hp]; simp
 rwa [e1] at h1
end Go.Proofs.Ytameldhdegcpoaa
