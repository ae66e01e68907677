/- A letter copied: the model's way. -/
import Derived.Test.YtjpbflehedbijaaDg
import Derived.Maps.AppendAt
import Derived.Laws.AppendOwnNone
namespace Go.Proofs.Ytjpbflehedbijaa
open Go.ChangeShapes Go.WideShapes Go.ChangeAt Go.RowKit
set_option linter.unusedVariables false
set_option linter.unusedSimpArgs false

theorem Rd.flat {α : Type} {k : Nat} {f : α → List Value} (hf : ∀ a, (f a).length = k) {w : World} {b off : Nat} {P : List α} (h : Rd k f w (some ⟨b, off, none⟩) P) : ∀ j u, (P.flatMap f)[j]? = some u → w.cell? (Addr.add ⟨b, off, none⟩ j) = some u := by
  intro j u hu
  have hj : j < P.length * k := by
    have := (List.getElem?_eq_some_iff.1 hu).1
    rwa [rows_length k f hf] at this
  have hk : 0 < k := by
    rcases Nat.eq_zero_or_pos k with h0 | h0
    · subst h0; omega
    · exact h0
  have hi : j / k < P.length := Nat.div_lt_of_lt_mul (by rw [Nat.mul_comm]; exact hj)
  have hm : j % k < k := Nat.mod_lt _ hk
  have he : j / k * k + j % k = j := by rw [Nat.mul_comm]; exact Nat.div_add_mod _ _
  obtain ⟨b', off', hA, hc⟩ := h (j / k) hi
  cases hA
  have hr := rows_at k f hf P (j / k) (j % k) hi hm
  rw [he, hu] at hr
  have := hc (j % k) u hr.symm
  rw [Nat.add_assoc, he] at this
  have ha : Addr.add ⟨b, off, none⟩ j = ⟨b, off + j, none⟩ := by
    unfold Addr.add
    split
    · rename_i h0; subst h0; rfl
    · rfl
  rw [ha]
  exact this
theorem Rd.nil_of {α : Type} {k : Nat} {f : α → List Value} {w : World} {P : List α} (h : Rd k f w none P) : P = [] := by
  cases P with
  | nil => rfl
  | cons a P =>
    obtain ⟨b, off, hA, _⟩ := h 0 (by simp)
    cases hA
/-- 'append(row, list...)', row and list the call's own (the list nil, too). -/
theorem run_more {P : Program} {α : Type} {f : α → List Value} {k : Nat} (hf : ∀ a, (f a).length = k) (w : World) (base base' : Nat) (t ty e : TypeId) (i : TypeInfo) (z : Value) (bytes : Nat) (ht : P.underlying t = some (.slice e)) (hi : P.info? e = some i) (hz : i.zero = some z)
    (hsize : i.size = k) (hby : i.bytes = bytes) (hzs : z.cells.size = k) (hsz : 0 < k) (v : Value) (n : Nat) (xs : List Value) (hown : w.ownsRow base e k v n xs)
    (A : Option Addr) (c : Nat) (L : List α) (hr : w.ownsRow base' e k (.slice A L.length c) L.length (L.flatMap f)) (h1 : ∀ u ∈ L.flatMap f, u.oneCell' = true)
    (h63 : n + L.length ≤ maxLen) (hbytes : (n + L.length) * bytes ≤ 140737488355328) (hbase : base ≤ w.heap.size) :
    ∃ v' w', (Builtin.append_ #[t, t] ty #[v, .slice A L.length c]).run P w = .ok v' w' ∧ w'.ownsRow base e k v' (n + L.length) (xs ++ L.flatMap f) ∧ w.grownBy w' v.ownBlock ∧ (v'.ownBlock = v.ownBlock ∨ v'.ownBlock = some w.heap.size) := by
  have hrd : Rd k f w A L := Rd.of_own hf hr rfl
  rcases A with _ | ad
  · have hL := hrd.nil_of
    subst hL
    have hc : c = 0 := by
      rcases hr.2 with ⟨h, _⟩ | ⟨_, _, _, h, _⟩
      · injection h
      · cases h
    subst hc
    exact ⟨v, w, run_append_owned_none w base t ty e i k ht hi v n xs hown, by simpa using hown, World.grownBy.refl w _, .inl rfl⟩
  · have hg : ∃ g, ad = ⟨g, 0, none⟩ := by
      rcases hr.2 with ⟨h, _⟩ | ⟨g, _, _, h, _⟩
      · cases h
      · injection h with h; injection h with h; exact ⟨g, h⟩
    obtain ⟨g, rfl⟩ := hg
    obtain ⟨v', w', q1, q2, q3, _, q5⟩ := run_append_own_at (P := P) w base t ty e i z k bytes ht hi hz hsize hby hzs hsz v n xs hown ⟨g, 0, none⟩ L.length c (L.flatMap f) (rows_length k f hf L) (Rd.flat hf hrd) h1 h63 hbytes hbase
    exact ⟨v', w', q1, q2, q3, q5⟩
theorem wp_more {P : Program} {α : Type} {f : α → List Value} {k : Nat} (hf : ∀ a, (f a).length = k) (w : World) {o : Oper} {a : Act} {K : Act → World → Prop} {Q : Exit → Act → World → Prop} (s x : Operand) (t : TypeId)
    (hop : o.op = .call { callee := .builtin .append, args := #[s, x], argTypes := #[t, t] })
    (base base' : Nat) (e : TypeId) (i : TypeInfo) (z : Value) (bytes : Nat) (ht : P.underlying t = some (.slice e)) (hi : P.info? e = some i) (hz : i.zero = some z)
    (hsize : i.size = k) (hby : i.bytes = bytes) (hzs : z.cells.size = k) (hsz : 0 < k) (v : Value) (n : Nat) (xs : List Value) (hs : a.eval s = v) (hown : w.ownsRow base e k v n xs)
    (A : Option Addr) (c : Nat) (L : List α) (hx : a.eval x = .slice A L.length c) (hr : w.ownsRow base' e k (.slice A L.length c) L.length (L.flatMap f)) (h1 : ∀ u ∈ L.flatMap f, u.oneCell' = true)
    (h63 : n + L.length ≤ maxLen) (hbytes : (n + L.length) * bytes ≤ 140737488355328) (hbase : base ≤ w.heap.size)
    (h : ∀ v' w', w'.ownsRow base e k v' (n + L.length) (xs ++ L.flatMap f) → w.grownBy w' v.ownBlock → (v'.ownBlock = v.ownBlock ∨ v'.ownBlock = some w.heap.size) → K (a.put o.dst v') w') : o.wp P a w K Q := by
  obtain ⟨v', w', q1, q2, q3, q4⟩ := run_more (P := P) hf w base base' t o.type e i z bytes ht hi hz hsize hby hzs hsz v n xs hown A c L hr h1 h63 hbytes hbase
  unfold Oper.wp execOp
  simp only [hop, resolve, invoke, builtin, Sem.run_bind, Sem.run_pure, Result.andThen_ok, List.map_toArray, List.map_cons, List.map_nil, hs, hx, q1]
  exact h v' w' q2 q3 q4
theorem claims_one (L : List Cl) : ∀ u ∈ L.flatMap Cl.cells, u.oneCell' = true := by
  intro u hu
  obtain ⟨y, _, hy⟩ := List.mem_flatMap.1 hu
  exact claim_one y u hy

theorem list_more {P : Program} {α : Type} {f : α → List Value} {k : Nat} (hf : ∀ a, (f a).length = k) {w : World} {ops : Array Oper} {rest : List Oper} {o : Oper} {a : Act} {Q : Exit → Act → World → Prop} (hgd : o.guard = none) (s x : Operand) (t : TypeId)
    (hop : o.op = .call { callee := .builtin .append, args := #[s, x], argTypes := #[t, t] })
    (base base' : Nat) (e : TypeId) (i : TypeInfo) (z : Value) (bytes : Nat) (ht : P.underlying t = some (.slice e)) (hi : P.info? e = some i) (hz : i.zero = some z)
    (hsize : i.size = k) (hby : i.bytes = bytes) (hzs : z.cells.size = k) (hsz : 0 < k) (v : Value) (n : Nat) (xs : List Value) (hs : a.eval s = v) (hown : w.ownsRow base e k v n xs)
    (A : Option Addr) (c : Nat) (L : List α) (hx : a.eval x = .slice A L.length c) (hr : w.ownsRow base' e k (.slice A L.length c) L.length (L.flatMap f)) (h1 : ∀ u ∈ L.flatMap f, u.oneCell' = true)
    (h63 : n + L.length ≤ maxLen) (hbytes : (n + L.length) * bytes ≤ 140737488355328) (hbase : base ≤ w.heap.size)
    (h : ∀ v' w', w'.ownsRow base e k v' (n + L.length) (xs ++ L.flatMap f) → w.grownBy w' v.ownBlock → (v'.ownBlock = v.ownBlock ∨ v'.ownBlock = some w.heap.size) → wpList P ops Q rest (a.put o.dst v') w') : wpList P ops Q (o :: rest) a w :=
  wpList_plain hgd fun _ hK => wp_more hf w s x t hop base base' e i z bytes ht hi hz hsize hby hzs hsz v n xs hs hown A c L hx hr h1 h63 hbytes hbase fun v' w' h2 h3 h4 => hK _ _ (h v' w' h2 h3 h4)
theorem step_more {P : Program} {α : Type} {f : α → List Value} {k : Nat} (hf : ∀ a, (f a).length = k) {w : World} {ops : Array Oper} {o : Oper} {a : Act} {K : Act → World → Prop} {Q : Exit → Act → World → Prop} {E : Prop} (hgd : o.guard = none) (s x : Operand) (t : TypeId)
    (hop : o.op = .call { callee := .builtin .append, args := #[s, x], argTypes := #[t, t] })
    (base base' : Nat) (e : TypeId) (i : TypeInfo) (z : Value) (bytes : Nat) (ht : P.underlying t = some (.slice e)) (hi : P.info? e = some i) (hz : i.zero = some z)
    (hsize : i.size = k) (hby : i.bytes = bytes) (hzs : z.cells.size = k) (hsz : 0 < k) (v : Value) (n : Nat) (xs : List Value) (hs : a.eval s = v) (hown : w.ownsRow base e k v n xs)
    (A : Option Addr) (c : Nat) (L : List α) (hx : a.eval x = .slice A L.length c) (hr : w.ownsRow base' e k (.slice A L.length c) L.length (L.flatMap f)) (h1 : ∀ u ∈ L.flatMap f, u.oneCell' = true)
    (h63 : n + L.length ≤ maxLen) (hbytes : (n + L.length) * bytes ≤ 140737488355328) (hbase : base ≤ w.heap.size)
    (h : ∀ v' w', w'.ownsRow base e k v' (n + L.length) (xs ++ L.flatMap f) → w.grownBy w' v.ownBlock → (v'.ownBlock = v.ownBlock ∨ v'.ownBlock = some w.heap.size) → K (a.put o.dst v') w') :
    if Region.wanted o (yielded ops a.tmps) = true then Oper.wp P o a w K Q else E := by
  have hw : Region.wanted o (yielded ops a.tmps) = true := by simp [Region.wanted, hgd]
  rw [if_pos hw]
  exact wp_more hf w s x t hop base base' e i z bytes ht hi hz hsize hby hzs hsz v n xs hs hown A c L hx hr h1 h63 hbytes hbase h

set_option maxRecDepth 100000 in
set_option maxHeartbeats 4000000 in
theorem l3Copy (p : MgP) (w : World) (lo : Nat) (hd : MgD w lo p) :
    Calls Try.prog 32 #[p.val] w fun e w' => ∃ q : MgP, e = .returned q.val ∧ q.mg = p.mg ∧ Sep q ∧ MgD w' w.heap.size q ∧ Below w.heap.size w w' := by
  obtain ⟨i0, hi, hz0, hz1, hz2⟩ := info_parts infoClaim'
  have I1 := Lib.hid hi
  have I2 := Lib.hid hz0
  have I3 := Lib.hid hz1
  have I4 := Lib.hid hz2
  clear hi hz0 hz1 hz2
  obtain ⟨iV, hi, hz0, hz1, hz2⟩ := info_parts infoVote'
  have J1 := Lib.hid hi
  have J2 := Lib.hid hz0
  have J3 := Lib.hid hz1
  have J4 := Lib.hid hz2
  clear hi hz0 hz1 hz2
  have B2 : Hid (Below w.heap.size w (((w.alloc (.cells #[.int .i64 p.k, .int .i64 p.f, .int .i64 p.v, .int .i64 p.s, .int .i64 p.r.c, .int .i64 p.r.n, .int .i64 p.r.o, .int .i64 p.r.x, .int .i64 p.r.y, .slice p.A p.cl.length p.a, .slice p.B p.vt.length p.b] 28)).alloc (.cells #[.int .i64 0, .int .i64 0, .int .i64 0, .int .i64 0, .int .i64 0, .int .i64 0, .int .i64 0, .int .i64 0, .int .i64 0, .slice none 0 0, .slice none 0 0] 28)).alloc (.cells #[] 60))) := (below_alloc2 _ _ _).alloc (by simp; omega) _
  have KM : Hid (Blk (((w.alloc (.cells #[.int .i64 p.k, .int .i64 p.f, .int .i64 p.v, .int .i64 p.s, .int .i64 p.r.c, .int .i64 p.r.n, .int .i64 p.r.o, .int .i64 p.r.x, .int .i64 p.r.y, .slice p.A p.cl.length p.a, .slice p.B p.vt.length p.b] 28)).alloc (.cells #[.int .i64 0, .int .i64 0, .int .i64 0, .int .i64 0, .int .i64 0, .int .i64 0, .int .i64 0, .int .i64 0, .int .i64 0, .slice none 0 0, .slice none 0 0] 28)).alloc (.cells #[] 60)) w.heap.size 28 #[.int .i64 p.k, .int .i64 p.f, .int .i64 p.v, .int .i64 p.s, .int .i64 p.r.c, .int .i64 p.r.n, .int .i64 p.r.o, .int .i64 p.r.x, .int .i64 p.r.y, .slice p.A p.cl.length p.a, .slice p.B p.vt.length p.b]) := ((Blk.new w).alloc _).alloc _
  have KR : Hid (Blk (((w.alloc (.cells #[.int .i64 p.k, .int .i64 p.f, .int .i64 p.v, .int .i64 p.s, .int .i64 p.r.c, .int .i64 p.r.n, .int .i64 p.r.o, .int .i64 p.r.x, .int .i64 p.r.y, .slice p.A p.cl.length p.a, .slice p.B p.vt.length p.b] 28)).alloc (.cells #[.int .i64 0, .int .i64 0, .int .i64 0, .int .i64 0, .int .i64 0, .int .i64 0, .int .i64 0, .int .i64 0, .int .i64 0, .slice none 0 0, .slice none 0 0] 28)).alloc (.cells #[] 60)) (w.heap.size + 1) 28 #[.int .i64 0, .int .i64 0, .int .i64 0, .int .i64 0, .int .i64 0, .int .i64 0, .int .i64 0, .int .i64 0, .int .i64 0, .slice none 0 0, .slice none 0 0]) := by have := (Blk.new (t := 28) (cs := #[.int .i64 0, .int .i64 0, .int .i64 0, .int .i64 0, .int .i64 0, .int .i64 0, .int .i64 0, .int .i64 0, .int .i64 0, .slice none 0 0, .slice none 0 0]) (w.alloc (.cells #[.int .i64 p.k, .int .i64 p.f, .int .i64 p.v, .int .i64 p.s, .int .i64 p.r.c, .int .i64 p.r.n, .int .i64 p.r.o, .int .i64 p.r.x, .int .i64 p.r.y, .slice p.A p.cl.length p.a, .slice p.B p.vt.length p.b] 28))).alloc (.cells #[] 60); simpa [Hid] using this
  have O2 : Hid ((((w.alloc (.cells #[.int .i64 p.k, .int .i64 p.f, .int .i64 p.v, .int .i64 p.s, .int .i64 p.r.c, .int .i64 p.r.n, .int .i64 p.r.o, .int .i64 p.r.x, .int .i64 p.r.y, .slice p.A p.cl.length p.a, .slice p.B p.vt.length p.b] 28)).alloc (.cells #[.int .i64 0, .int .i64 0, .int .i64 0, .int .i64 0, .int .i64 0, .int .i64 0, .int .i64 0, .int .i64 0, .int .i64 0, .slice none 0 0, .slice none 0 0] 28)).alloc (.cells #[] 60)).ownsRow (w.heap.size + 2) 60 7 (.slice (some ⟨w.heap.size + 1 + 1, 0, none⟩) 0 0) 0 []) := by have := own_nil_start ((w.alloc (.cells #[.int .i64 p.k, .int .i64 p.f, .int .i64 p.v, .int .i64 p.s, .int .i64 p.r.c, .int .i64 p.r.n, .int .i64 p.r.o, .int .i64 p.r.x, .int .i64 p.r.y, .slice p.A p.cl.length p.a, .slice p.B p.vt.length p.b] 28)).alloc (.cells #[.int .i64 0, .int .i64 0, .int .i64 0, .int .i64 0, .int .i64 0, .int .i64 0, .int .i64 0, .int .i64 0, .int .i64 0, .slice none 0 0, .slice none 0 0] 28)) 60 7 rfl; simpa [Hid] using this
  have MD := Lib.hid hd
  have SO : Hid ((((w.alloc (.cells #[.int .i64 p.k, .int .i64 p.f, .int .i64 p.v, .int .i64 p.s, .int .i64 p.r.c, .int .i64 p.r.n, .int .i64 p.r.o, .int .i64 p.r.x, .int .i64 p.r.y, .slice p.A p.cl.length p.a, .slice p.B p.vt.length p.b] 28)).alloc (.cells #[.int .i64 0, .int .i64 0, .int .i64 0, .int .i64 0, .int .i64 0, .int .i64 0, .int .i64 0, .int .i64 0, .int .i64 0, .slice none 0 0, .slice none 0 0] 28)).alloc (.cells #[] 60)).ownsRow lo 60 7 (.slice p.A p.cl.length p.a) p.cl.length (p.cl.flatMap Cl.cells)) := own_below hd.oc B2.out
  have hnc := hd.nc
  have hnv := hd.nv
  clear hd
  go_enter Try.func32, Try.ntmps32
  go_wp2_with (at_builtin; refine list_more Cl.len rfl _ _ 25 rfl (w.heap.size + 2) lo 60 i0 (.agg #[.int .i64 0, .int .i64 0, .int .i64 0, .int .i64 0, .int .i64 0, .int .i64 0, .int .i64 0]) 56 Try.underlying25 I1.out I2.out I3.out I4.out rfl (by decide) _ _ _ rfl O2.out p.A p.a p.cl rfl SO.out (claims_one p.cl) ?c1 ?c2 ?c3 ?_)
  case c1 => unfold maxLen; omega
  case c2 => omega
  case c3 => simp
  intro v' w3 ho hg _
  obtain ⟨C, c', hv', hm'⟩ := own_form ho
  subst hv'
  have OC := Lib.hid ho
  have KM := Lib.hid (KM.out.grown hg (by simp [Value.ownBlock]; omega))
  have KR := Lib.hid (KR.out.grown hg (by simp [Value.ownBlock]))
  have B3 := Lib.hid (Below.trans B2.out (Below.of_grown hg B2.out.size (fun k hk => by simp [Value.ownBlock] at hk; omega)))
  clear ho hg B2 O2 SO hm'
  have HCB : Hid (∀ x, (Value.slice C p.cl.length c').ownBlock = some x → x < w3.heap.size) := fun x hx => (own_block_ge OC.out x hx).2
  have x0 : w3.cell? ⟨w.heap.size, 0, none⟩ = some (.int .i64 p.k) := KM.out.cell 0
  have x1 : w3.cell? ⟨w.heap.size, 1, none⟩ = some (.int .i64 p.f) := KM.out.cell 1
  have x2 : w3.cell? ⟨w.heap.size, 2, none⟩ = some (.int .i64 p.v) := KM.out.cell 2
  have x3 : w3.cell? ⟨w.heap.size, 3, none⟩ = some (.int .i64 p.s) := KM.out.cell 3
  have x4 : w3.cell? ⟨w.heap.size, 4, none⟩ = some (.int .i64 p.r.c) := KM.out.cell 4
  have x5 : w3.cell? ⟨w.heap.size, 5, none⟩ = some (.int .i64 p.r.n) := KM.out.cell 5
  have x6 : w3.cell? ⟨w.heap.size, 6, none⟩ = some (.int .i64 p.r.o) := KM.out.cell 6
  have x7 : w3.cell? ⟨w.heap.size, 7, none⟩ = some (.int .i64 p.r.x) := KM.out.cell 7
  have x8 : w3.cell? ⟨w.heap.size, 8, none⟩ = some (.int .i64 p.r.y) := KM.out.cell 8
  have x9 : w3.cell? ⟨w.heap.size, 9, none⟩ = some (.slice p.A p.cl.length p.a) := KM.out.cell 9
  have x10 : w3.cell? ⟨w.heap.size, 10, none⟩ = some (.slice p.B p.vt.length p.b) := KM.out.cell 10
  have xf := KM.out.frozen
  have lm := KM.out.lt
  have lr := KR.out.lt
  have hw13 := lr
  have KM1 : Hid (Blk (w3.setCell ⟨w.heap.size, 9, none⟩ (.slice C p.cl.length c')) w.heap.size 28 #[.int .i64 p.k, .int .i64 p.f, .int .i64 p.v, .int .i64 p.s, .int .i64 p.r.c, .int .i64 p.r.n, .int .i64 p.r.o, .int .i64 p.r.x, .int .i64 p.r.y, .slice C p.cl.length c', .slice p.B p.vt.length p.b]) := by have := KM.out.set 9 (.slice C p.cl.length c'); simpa [Hid] using this
  have KR1 := Lib.hid (KR.out.far (show w.heap.size + 1 ≠ w.heap.size by omega) 9 (.slice C p.cl.length c'))
  have OC1 := Lib.hid (own_set OC.out (b := w.heap.size) (by omega) 9 (.slice C p.cl.length c'))
  have B4 := Lib.hid (B3.out.setCell (by simp) (.slice C p.cl.length c') (p := ⟨w.heap.size, 9, none⟩))
  have KM2 := Lib.hid (KM1.out.alloc (.cells #[] 66))
  have KR2 := Lib.hid (KR1.out.alloc (.cells #[] 66))
  have OC2 := Lib.hid (OC1.out.alloc (.cells #[] 66))
  have B5 := Lib.hid (B4.out.alloc B4.out.size (.cells #[] 66))
  have OV : Hid (((w3.setCell ⟨w.heap.size, 9, none⟩ (.slice C p.cl.length c')).alloc (.cells #[] 66)).ownsRow w3.heap.size 66 2 (.slice (some ⟨w3.heap.size, 0, none⟩) 0 0) 0 []) := by have := own_nil_start (w3.setCell ⟨w.heap.size, 9, none⟩ (.slice C p.cl.length c')) 66 2 rfl; simpa [Hid] using this
  clear OC KM KR B3 KM1 KR1 OC1 B4
  go_wp2
  go_loopw [3, 4] (fun v i wr => ∃ (k : Nat) (V : List VtP), k ≤ p.vt.length ∧ i = .int .i64 k ∧ V.length = k ∧ w3.heap.size < wr.heap.size ∧ Hid (V.map VtP.vt = (p.vt.take k).map VtP.vt) ∧ Hid (wr.ownsRow w3.heap.size 66 2 v k (V.flatMap VtP.cells)) ∧ Hid (∀ u ∈ V, u.own wr w3.heap.size) ∧ Hid (wr.ownsRow (w.heap.size + 2) 60 7 (.slice C p.cl.length c') p.cl.length (p.cl.flatMap Cl.cells)) ∧ Hid (Blk wr w.heap.size 28 #[.int .i64 p.k, .int .i64 p.f, .int .i64 p.v, .int .i64 p.s, .int .i64 p.r.c, .int .i64 p.r.n, .int .i64 p.r.o, .int .i64 p.r.x, .int .i64 p.r.y, .slice C p.cl.length c', .slice p.B p.vt.length p.b]) ∧ Hid (Blk wr (w.heap.size + 1) 28 #[.int .i64 0, .int .i64 0, .int .i64 0, .int .i64 0, .int .i64 0, .int .i64 0, .int .i64 0, .int .i64 0, .int .i64 0, .slice none 0 0, .slice none 0 0]) ∧ Hid (Below w.heap.size w wr)) (fun _ i _ => p.vt.length - (intOf i).toNat)
  case atStart => exact ⟨0, [], Nat.zero_le _, rfl, rfl, by simp, by simp [Hid], OV, by simp [Hid], OC2, KM2, KR2, B5⟩
  case round =>
    clear OV OC2 KM2 KR2 B5 x0 x1 x2 x3 x4 x5 x6 x7 x8 x9 x10 xf lm lr
    obtain ⟨k, V, hk, rfl, hVk, hw3, hV, ho, hO, OC, KM, KR, hb⟩ := hrel
    by_cases hlt : k < p.vt.length
    · obtain ⟨B, c, hv, hm⟩ := own_form ho.out
      subst hv
      obtain ⟨g, o, hB, ca⟩ := (MD.out.rd).2.2.2.1 k hlt
      have hx3 := MD.out.n3 p.vt[k] (List.getElem_mem hlt)
      have hxo := MD.out.oo p.vt[k] (List.getElem_mem hlt)
      have HTK := Lib.hid (show (p.vt.take (k + 1)).map VtP.vt = (p.vt.take k).map VtP.vt ++ [p.vt[k].vt] by rw [List.take_succ_eq_append_getElem hlt, List.map_append]; rfl)
      generalize p.vt[k] = x at ca hx3 hxo HTK
      have d0 : w.cell? ⟨g, o + k * 2, none⟩ = some (.int .i64 x.f) := ca 0 _ rfl
      have d1 : w.cell? ⟨g, o + k * 2 + 1, none⟩ = some (.slice x.A x.cl.length x.c) := ca 1 _ rfl
      have hgw : g < w.heap.size := by have := World.block_lt_of_cell? w _ d0; simpa using this
      have c0 : wr.cell? ⟨g, o + k * 2, none⟩ = some (.int .i64 x.f) := cell_kept hb.out d0
      have c1 : wr.cell? ⟨g, o + k * 2 + 1, none⟩ = some (.slice x.A x.cl.length x.c) := cell_kept hb.out d1
      have a10 : wr.cell? ⟨w.heap.size, 10, none⟩ = some (.slice (some ⟨g, o, none⟩) p.vt.length p.b) := (KM.out.cell 10).trans (by rw [← hB]; rfl)
      have XO := Lib.hid (own_below hxo hb.out)
      have hws : w.heap.size + 1 < w3.heap.size := hw13
      clear ca d0 d1 hxo hB
      have n0 : (0 : Int) ≤ (k : Int) := by omega
      have n1 : (k : Int) < (p.vt.length : Int) := by omega
      go_wp2_with (fail)
      refine wp_region_held_drew (S := fun w1 => w1.cell? ⟨w.heap.size, 10, none⟩ = some (.slice (some ⟨g, o, none⟩) p.vt.length p.b) ∧ w1.cell? ⟨g, o + k * 2, none⟩ = some (.int .i64 x.f) ∧ w1.cell? ⟨g, o + k * 2 + 1, none⟩ = some (.slice x.A x.cl.length x.c)) (by kernel_rfl) ⟨a10, c0, c1⟩ (fun hS0 => ?_)
      refine takeD 0 18 (v := ?_) rfl rfl (by kernel_rfl) (by kernel_rfl) (by kernel_rfl) (fun _ _ _ h => h) (Or.inl ⟨by rfl, ?_⟩) (by assumption) ?_
      rotate_left
      · intro w1 hSw; obtain ⟨s1, s2, s3⟩ := hSw; go_simp; (try with_reducible rfl)
      (try simp only [Act.put, List.setIfInBounds_toArray, List.set_cons_zero, List.set_cons_succ])
      refine takeD 1 19 (v := ?_) rfl rfl (by kernel_rfl) (by kernel_rfl) (by kernel_rfl) (fun _ _ _ h => h) (Or.inl ⟨by rfl, ?_⟩) (by assumption) ?_
      rotate_left
      · intro w1 hSw; obtain ⟨s1, s2, s3⟩ := hSw; go_simp; (try with_reducible rfl)
      (try simp only [Act.put, List.setIfInBounds_toArray, List.set_cons_zero, List.set_cons_succ])
      refine takeD 2 20 (v := ?_) rfl rfl (by kernel_rfl) (by kernel_rfl) (by kernel_rfl) (fun _ _ _ h => h) (Or.inl ⟨by rfl, ?_⟩) (by assumption) ?_
      rotate_left
      · intro w1 hSw; obtain ⟨s1, s2, s3⟩ := hSw; go_simp; (try with_reducible rfl)
      (try simp only [Act.put, List.setIfInBounds_toArray, List.set_cons_zero, List.set_cons_succ])
      refine takeD 3 21 (v := ?_) rfl rfl (by kernel_rfl) (by kernel_rfl) (by kernel_rfl) (fun _ _ _ h => h) (Or.inl ⟨by rfl, ?_⟩) (by assumption) ?_
      rotate_left
      · intro w1 hSw; obtain ⟨s1, s2, s3⟩ := hSw; go_simp; (try with_reducible rfl)
      (try simp only [Act.put, List.setIfInBounds_toArray, List.set_cons_zero, List.set_cons_succ])
      refine takeD 4 22 (v := ?_) rfl rfl (by kernel_rfl) (by kernel_rfl) (by kernel_rfl) (fun _ _ _ h => h) (Or.inl ⟨by rfl, ?_⟩) (by assumption) ?_
      rotate_left
      · intro w1 hSw; obtain ⟨s1, s2, s3⟩ := hSw; go_simp; (try with_reducible rfl)
      (try simp only [Act.put, List.setIfInBounds_toArray, List.set_cons_zero, List.set_cons_succ])
      refine takeD 5 23 (v := ?_) rfl rfl (by kernel_rfl) (by kernel_rfl) (by kernel_rfl) (fun _ _ _ h => h) (Or.inl ⟨by rfl, ?_⟩) (by assumption) ?_
      rotate_left
      · intro w1 hSw; obtain ⟨s1, s2, s3⟩ := hSw; go_simp; (try with_reducible rfl)
      (try simp only [Act.put, List.setIfInBounds_toArray, List.set_cons_zero, List.set_cons_succ])
      refine takeD 6 24 (v := ?_) rfl rfl (by kernel_rfl) (by kernel_rfl) (by kernel_rfl) (fun _ _ _ h => h) (Or.inl ⟨by rfl, ?_⟩) (by assumption) ?_
      rotate_left
      · intro w1 hSw; obtain ⟨s1, s2, s3⟩ := hSw; go_simp; (try with_reducible rfl)
      (try simp only [Act.put, List.setIfInBounds_toArray, List.set_cons_zero, List.set_cons_succ])
      refine takeD 8 26 (v := ?_) rfl rfl (by kernel_rfl) (by kernel_rfl) (by kernel_rfl) (fun _ _ _ h => h) (Or.inl ⟨by rfl, ?_⟩) (by assumption) ?_
      rotate_left
      · intro w1 hSw; obtain ⟨s1, s2, s3⟩ := hSw; go_simp; (try with_reducible rfl)
      (try simp only [Act.put, List.setIfInBounds_toArray, List.set_cons_zero, List.set_cons_succ])
      refine takeD 9 27 (v := ?_) rfl rfl (by kernel_rfl) (by kernel_rfl) (by kernel_rfl) (fun _ _ _ h => h) (Or.inl ⟨by rfl, ?_⟩) (by assumption) ?_
      rotate_left
      · intro w1 hSw; obtain ⟨s1, s2, s3⟩ := hSw; go_simp; (try with_reducible rfl)
      (try simp only [Act.put, List.setIfInBounds_toArray, List.set_cons_zero, List.set_cons_succ])
      refine takeD 10 28 (v := ?_) rfl rfl (by kernel_rfl) (by kernel_rfl) (by kernel_rfl) (fun _ _ _ h => h) (Or.inl ⟨by rfl, ?_⟩) (by assumption) ?_
      rotate_left
      · intro w1 hSw; obtain ⟨s1, s2, s3⟩ := hSw; go_simp; (try with_reducible rfl)
      (try simp only [Act.put, List.setIfInBounds_toArray, List.set_cons_zero, List.set_cons_succ])
      refine takeD 11 29 (v := ?_) rfl rfl (by kernel_rfl) (by kernel_rfl) (by kernel_rfl) (fun _ _ _ h => h) (Or.inl ⟨by rfl, ?_⟩) (by assumption) ?_
      rotate_left
      · intro w1 hSw; obtain ⟨s1, s2, s3⟩ := hSw; go_simp; (try with_reducible rfl)
      (try simp only [Act.put, List.setIfInBounds_toArray, List.set_cons_zero, List.set_cons_succ])
      refine takeD 12 30 (v := ?_) rfl rfl (by kernel_rfl) (by kernel_rfl) (by kernel_rfl) (fun _ _ _ h => h) (Or.inl ⟨by rfl, ?_⟩) (by assumption) ?_
      rotate_left
      · intro w1 hSw; obtain ⟨s1, s2, s3⟩ := hSw; go_simp; (try with_reducible rfl)
      (try simp only [Act.put, List.setIfInBounds_toArray, List.set_cons_zero, List.set_cons_succ])
      refine takeD 13 31 (v := ?_) rfl rfl (by kernel_rfl) (by kernel_rfl) (by kernel_rfl) (fun _ _ _ h => h) (Or.inl ⟨by rfl, ?_⟩) (by assumption) ?_
      rotate_left
      · intro w1 hSw; obtain ⟨s1, s2, s3⟩ := hSw; go_simp; (try with_reducible rfl)
      (try simp only [Act.put, List.setIfInBounds_toArray, List.set_cons_zero, List.set_cons_succ])
      refine wpAnyH_ready (rs := [7]) (by kernel_rfl) (by simp) ?_
      refine AllReadyH.cons rfl (fun K hK => ?_) AllReadyH.nil
      go_simp
      have HA : Hid (Below wr.heap.size wr (wr.drew.alloc (.cells #[] 60))) := ((Below.refl _ _).drew).alloc (Nat.le_refl _) _
      refine hK.out _ _ ⟨cell_kept HA.out a10, cell_kept HA.out c0, cell_kept HA.out c1⟩ (fun hS1 => ?_)
      clear hK K
      (try simp only [Act.put, List.setIfInBounds_toArray, List.set_cons_zero, List.set_cons_succ])
      have O7 : (wr.drew.alloc (.cells #[] 60)).ownsRow w3.heap.size 60 7 (.slice (some ⟨wr.heap.size, 0, none⟩) 0 0) 0 [] := own_base (own_nil_start wr.drew 60 7 rfl) (by show w3.heap.size ≤ wr.heap.size; omega)
      have XA : (wr.drew.alloc (.cells #[] 60)).ownsRow lo 60 7 (.slice x.A x.cl.length x.c) x.cl.length (x.cl.flatMap Cl.cells) := own_below XO.out HA.out
      refine wpAnyH_ready (rs := [14]) (by kernel_rfl) (by simp) ?_
      refine AllReadyH.cons rfl (fun K hK => ?_) AllReadyH.nil
      refine step_more Cl.len (by rfl) _ _ 25 (by rfl) w3.heap.size lo 60 i0 (.agg #[.int .i64 0, .int .i64 0, .int .i64 0, .int .i64 0, .int .i64 0, .int .i64 0, .int .i64 0]) 56 Try.underlying25 I1.out I2.out I3.out I4.out (by rfl) (by omega) (.slice (some ⟨wr.heap.size, 0, none⟩) 0 0) 0 [] (by rfl) O7 x.A x.c x.cl (by rfl) XA (claims_one x.cl) (by unfold maxLen; omega) (by omega) (Nat.le_trans (Nat.le_of_lt hw3) HA.out.size) ?_
      intro v2 w4 h2 h3 _
      have h2' : w4.ownsRow w3.heap.size 60 7 v2 x.cl.length (x.cl.flatMap Cl.cells) := by simpa using h2
      obtain ⟨C2, c2, hv2, hm2⟩ := own_form h2'
      subst hv2
      have HB4 := Lib.hid (Below.trans HA.out (Below.of_grown (B := wr.heap.size) h3 HA.out.size (fun q hq => by simp [Value.ownBlock] at hq; omega)))
      have OU := Lib.hid h2'
      clear h2 h3 h2' O7 XA HA hS1
      refine hK.out _ _ ⟨cell_kept HB4.out a10, cell_kept HB4.out c0, cell_kept HB4.out c1⟩ (fun hS2 => ?_)
      clear hK K
      (try simp only [Act.put, List.setIfInBounds_toArray, List.set_cons_zero, List.set_cons_succ])
      refine takeD 15 33 (v := ?_) rfl rfl (by kernel_rfl) (by kernel_rfl) (by kernel_rfl) (fun _ _ _ h => h) (Or.inl ⟨by rfl, ?_⟩) (by assumption) ?_
      rotate_left
      · intro w1 hSw; obtain ⟨s1, s2, s3⟩ := hSw; go_simp; (try with_reducible rfl)
      (try simp only [Act.put, List.setIfInBounds_toArray, List.set_cons_zero, List.set_cons_succ])
      refine wpAnyH_ready (rs := [16]) (by kernel_rfl) (by simp) ?_
      refine AllReadyH.cons rfl (fun K hK => ?_) AllReadyH.nil
      go_simp
      have HB5 := Lib.hid (HB4.out.alloc HB4.out.size (.cells #[.int .i64 x.f, .slice C2 x.cl.length c2] 66))
      have OU := Lib.hid (OU.out.alloc (.cells #[.int .i64 x.f, .slice C2 x.cl.length c2] 66))
      refine hK.out _ _ ⟨cell_kept HB5.out a10, cell_kept HB5.out c0, cell_kept HB5.out c1⟩ (fun hS3 => ?_)
      clear hK K
      (try simp only [Act.put, List.setIfInBounds_toArray, List.set_cons_zero, List.set_cons_succ])
      have ho5 := own_below ho.out HB5.out
      refine wpAnyH_ready (rs := [17]) (by kernel_rfl) (by simp) ?_
      refine AllReadyH.cons rfl (fun K hK => ?_) AllReadyH.nil
      refine step_append_own (by rfl) _ _ 26 (by rfl) w3.heap.size 66 iV (.agg #[.int .i64 0, .slice none 0 0]) 2 32 Try.underlying26 J1.out J2.out J3.out J4.out (by rfl) (by omega) (.slice B k c) k (V.flatMap VtP.cells) (by rfl) ho5 ⟨w4.heap.size, 0, none⟩ 1 1 [.int .i64 x.f, .slice C2 x.cl.length c2] (by rfl) (by rfl) (row_cells w4 66 #[.int .i64 x.f, .slice C2 x.cl.length c2] _ rfl) (by intro u hu; simp at hu; rcases hu with rfl | rfl <;> rfl) (by unfold maxLen; omega) (by omega) (by have := HB5.out.size; omega) ?_
      intro v5 w5 h5 h6 _
      have hrow : ∀ q, (Value.slice B k c).ownBlock = some q → w3.heap.size ≤ q := fun q hq => (own_block_ge ho5 q hq).1
      have keepC : ∀ {b : Nat} {z : Value} {m : Nat} {ys : List Value}, ((w4.alloc (.cells #[.int .i64 x.f, .slice C2 x.cl.length c2] 66)).ownsRow b 60 7 z m ys) → w5.ownsRow b 60 7 z m ys := fun hh => by
        refine hh.kept h6 ?_
        rename_i b z m ys
        rcases hq : z.ownBlock with _ | q
        · exact .inl rfl
        · exact .inr fun e => own_row_ne hh ho5 (by decide) q hq e.symm
      have OC5 := Lib.hid (keepC (own_below OC.out HB5.out))
      have hO5 : Hid (∀ u ∈ V ++ [(⟨x.f, C2, c2, x.cl⟩ : VtP)], u.own w5 w3.heap.size) := fun u hu => by
        rcases List.mem_append.1 hu with hu | hu
        · exact keepC (own_below (hO.out u hu) HB5.out)
        · rw [List.mem_singleton.1 hu]
          exact keepC OU.out
      have KM5 := Lib.hid ((KM.out.below HB5.out).grown h6 (fun e => by have := hrow _ e.symm; omega))
      have KR5 := Lib.hid ((KR.out.below HB5.out).grown h6 (fun e => by have := hrow _ e.symm; omega))
      have hb5 := Lib.hid (Below.trans (Below.and hb.out HB5.out) (Below.of_grown h6 ((Below.and hb.out HB5.out).size) (fun q hq => by have := hrow q hq; omega)))
      have ho6 : Hid (w5.ownsRow w3.heap.size 66 2 v5 (k + 1) ((V ++ [(⟨x.f, C2, c2, x.cl⟩ : VtP)]).flatMap VtP.cells)) := by
        show w5.ownsRow _ _ _ _ _ _
        rw [List.flatMap_append]
        exact h5
      have hV5 : Hid ((V ++ [(⟨x.f, C2, c2, x.cl⟩ : VtP)]).map VtP.vt = (p.vt.take (k + 1)).map VtP.vt) := by
        show _ = _
        rw [HTK.out, List.map_append, hV.out]
        rfl
      have hsz5 : w3.heap.size < w5.heap.size := by have h1 := HB5.out.size; have h2 := h6.size; omega
      have far5 : ∀ {b o' : Nat} {u : Value}, b < w3.heap.size → wr.cell? ⟨b, o', none⟩ = some u → w5.cell? ⟨b, o', none⟩ = some u := fun hbb hc => h6.cell (cell_kept HB5.out hc) (fun e => by have := hrow _ e.symm; simp at this; omega)
      refine hK.out _ _ ⟨far5 (by omega) a10, far5 (by omega) c0, far5 (by omega) c1⟩ (fun hS4 => ?_)
      clear hK K
      (try simp only [Act.put, List.setIfInBounds_toArray, List.set_cons_zero, List.set_cons_succ])
      refine takeD 18 3 (v := ?_) rfl rfl (by kernel_rfl) (by kernel_rfl) (by kernel_rfl) (fun _ _ _ h => h) (Or.inl ⟨by rfl, ?_⟩) (by assumption) ?_
      rotate_left
      · intro w1 hSw; obtain ⟨s1, s2, s3⟩ := hSw; go_simp; (try with_reducible rfl)
      (try simp only [Act.put, List.setIfInBounds_toArray, List.set_cons_zero, List.set_cons_succ])
      refine wpAnyH_done (by kernel_rfl) ?_ _
      clear hS0 hS2 hS3 hS4 h5 h6 keepC far5 hrow ho5 OU HB5 HB4 XO a10 c0 c1
      go_wp2
      go_roundw
      case rel => exact ⟨k + 1, V ++ [(⟨x.f, C2, c2, x.cl⟩ : VtP)], by omega, by go_num, by simp; omega, hsz5, hV5, ho6, hO5, OC5, KM5, KR5, hb5⟩
      case measure => simp [intOf]; omega
    · obtain rfl : k = p.vt.length := by omega
      obtain ⟨B, c, hv, hm⟩ := own_form ho.out
      subst hv
      have hV' := hV.out
      rw [List.take_length] at hV'
      have HV := Lib.hid hV'
      have n3 : ∀ u ∈ V, u.cl.length ≤ 3 := fun u hu => by
        have h1 : u.vt ∈ p.vt.map VtP.vt := by rw [← hV']; exact List.mem_map.2 ⟨u, hu, rfl⟩
        obtain ⟨x, hx, he⟩ := List.mem_map.1 h1
        have h2 := MD.out.n3 x hx
        have h3 : x.cl = u.cl := congrArg Vt.cl he
        rw [← h3]; exact h2
      have N3 := Lib.hid n3
      clear hV' n3 hV
      have x0 : wr.cell? ⟨w.heap.size, 0, none⟩ = some (.int .i64 p.k) := KM.out.cell 0
      have x1 : wr.cell? ⟨w.heap.size, 1, none⟩ = some (.int .i64 p.f) := KM.out.cell 1
      have x2 : wr.cell? ⟨w.heap.size, 2, none⟩ = some (.int .i64 p.v) := KM.out.cell 2
      have x3 : wr.cell? ⟨w.heap.size, 3, none⟩ = some (.int .i64 p.s) := KM.out.cell 3
      have x4 : wr.cell? ⟨w.heap.size, 4, none⟩ = some (.int .i64 p.r.c) := KM.out.cell 4
      have x5 : wr.cell? ⟨w.heap.size, 5, none⟩ = some (.int .i64 p.r.n) := KM.out.cell 5
      have x6 : wr.cell? ⟨w.heap.size, 6, none⟩ = some (.int .i64 p.r.o) := KM.out.cell 6
      have x7 : wr.cell? ⟨w.heap.size, 7, none⟩ = some (.int .i64 p.r.x) := KM.out.cell 7
      have x8 : wr.cell? ⟨w.heap.size, 8, none⟩ = some (.int .i64 p.r.y) := KM.out.cell 8
      have x9 : wr.cell? ⟨w.heap.size, 9, none⟩ = some (.slice C p.cl.length c') := KM.out.cell 9
      have x10 : wr.cell? ⟨w.heap.size, 10, none⟩ = some (.slice p.B p.vt.length p.b) := KM.out.cell 10
      have z0 : wr.cell? ⟨w.heap.size + 1, 0, none⟩ = some (.int .i64 0) := KR.out.cell 0
      have z1 : wr.cell? ⟨w.heap.size + 1, 1, none⟩ = some (.int .i64 0) := KR.out.cell 1
      have z2 : wr.cell? ⟨w.heap.size + 1, 2, none⟩ = some (.int .i64 0) := KR.out.cell 2
      have z3 : wr.cell? ⟨w.heap.size + 1, 3, none⟩ = some (.int .i64 0) := KR.out.cell 3
      have z4 : wr.cell? ⟨w.heap.size + 1, 4, none⟩ = some (.int .i64 0) := KR.out.cell 4
      have z5 : wr.cell? ⟨w.heap.size + 1, 5, none⟩ = some (.int .i64 0) := KR.out.cell 5
      have z6 : wr.cell? ⟨w.heap.size + 1, 6, none⟩ = some (.int .i64 0) := KR.out.cell 6
      have z7 : wr.cell? ⟨w.heap.size + 1, 7, none⟩ = some (.int .i64 0) := KR.out.cell 7
      have z8 : wr.cell? ⟨w.heap.size + 1, 8, none⟩ = some (.int .i64 0) := KR.out.cell 8
      have z9 : wr.cell? ⟨w.heap.size + 1, 9, none⟩ = some (.slice none 0 0) := KR.out.cell 9
      have z10 : wr.cell? ⟨w.heap.size + 1, 10, none⟩ = some (.slice none 0 0) := KR.out.cell 10
      have xf := KM.out.frozen
      have zf := KR.out.frozen
      have lm := KM.out.lt
      have lr := KR.out.lt
      have hws : w.heap.size + 1 < w3.heap.size := hw13
      go_wp2
      refine bodyPost_ret (v := .agg #[.int .i64 p.k, .int .i64 p.f, .int .i64 p.v, .int .i64 p.s, .int .i64 p.r.c, .int .i64 p.r.n, .int .i64 p.r.o, .int .i64 p.r.x, .int .i64 p.r.y, .slice C p.cl.length c', .slice B p.vt.length c]) (by simp [results, Try.results32, go_sem, z0, z1, z2, z3, z4, z5, z6, z7, z8, z9, z10]) rfl ⟨⟨p.k, p.f, p.v, p.s, p.r, C, c', p.cl, B, c, V⟩, by simp [MgP.val, hVk], ?_, ?_, ?_, ?_⟩
      · simp only [MgP.mg, HV.out]
      · intro u hu q hq e
        have h1 := HCB.out q hq
        have h2 := (own_block_ge (hO.out u hu) q e).1
        omega
      ·
        have s0 : ∀ {b : Nat} {e : TypeId} {z : Nat} {y : Value} {m : Nat} {ys : List Value}, w.heap.size + 2 ≤ b → wr.ownsRow b e z y m ys → ((((((((((((wr.setCell ⟨w.heap.size, 10, none⟩ (.slice B p.vt.length c)).setCell ⟨w.heap.size + 1, 0, none⟩ (.int .i64 p.k)).setCell ⟨w.heap.size + 1, 1, none⟩ (.int .i64 p.f)).setCell ⟨w.heap.size + 1, 2, none⟩ (.int .i64 p.v)).setCell ⟨w.heap.size + 1, 3, none⟩ (.int .i64 p.s)).setCell ⟨w.heap.size + 1, 4, none⟩ (.int .i64 p.r.c)).setCell ⟨w.heap.size + 1, 5, none⟩ (.int .i64 p.r.n)).setCell ⟨w.heap.size + 1, 6, none⟩ (.int .i64 p.r.o)).setCell ⟨w.heap.size + 1, 7, none⟩ (.int .i64 p.r.x)).setCell ⟨w.heap.size + 1, 8, none⟩ (.int .i64 p.r.y)).setCell ⟨w.heap.size + 1, 9, none⟩ (.slice C p.cl.length c')).setCell ⟨w.heap.size + 1, 10, none⟩ (.slice B p.vt.length c)).ownsRow b e z y m ys := fun hbb h => by
          have o1 := own_set h (b := w.heap.size) (by omega) 10 (.slice B p.vt.length c)
          have o1 := own_set o1 (b := w.heap.size + 1) (by omega) 0 (.int .i64 p.k)
          have o1 := own_set o1 (b := w.heap.size + 1) (by omega) 1 (.int .i64 p.f)
          have o1 := own_set o1 (b := w.heap.size + 1) (by omega) 2 (.int .i64 p.v)
          have o1 := own_set o1 (b := w.heap.size + 1) (by omega) 3 (.int .i64 p.s)
          have o1 := own_set o1 (b := w.heap.size + 1) (by omega) 4 (.int .i64 p.r.c)
          have o1 := own_set o1 (b := w.heap.size + 1) (by omega) 5 (.int .i64 p.r.n)
          have o1 := own_set o1 (b := w.heap.size + 1) (by omega) 6 (.int .i64 p.r.o)
          have o1 := own_set o1 (b := w.heap.size + 1) (by omega) 7 (.int .i64 p.r.x)
          have o1 := own_set o1 (b := w.heap.size + 1) (by omega) 8 (.int .i64 p.r.y)
          have o1 := own_set o1 (b := w.heap.size + 1) (by omega) 9 (.slice C p.cl.length c')
          have o1 := own_set o1 (b := w.heap.size + 1) (by omega) 10 (.slice B p.vt.length c)
          exact o1
        refine ⟨hnc, by show V.length ≤ 4; omega, N3.out, own_base (s0 (Nat.le_refl _) OC.out) (by omega), ?_, fun u hu => own_base (s0 (by omega) (hO.out u hu)) (by omega)⟩
        have h := own_base (s0 (by omega) ho.out) (show w.heap.size ≤ w3.heap.size by omega)
        show World.ownsRow _ _ _ _ (.slice B V.length c) V.length _
        rw [hVk]
        exact h
      · iterate 11 (refine Below.setCell ?_ (by first | (simp; done) | (simp; omega)) _)
        refine Below.setCell ?_ (by first | (simp; done) | (simp; omega)) _
        exact hb.out

end Go.Proofs.Ytjpbflehedbijaa
