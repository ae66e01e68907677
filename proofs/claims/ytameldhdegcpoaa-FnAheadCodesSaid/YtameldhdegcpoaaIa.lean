import Derived.Test.YtameldhdegcpoaaHf
import Derived.Test.YtameldhdegcpoaaMQ
import Derived.Test.YtameldhdegcpoaaMU
import Derived.Test.YtameldhdegcpoaaAp
import Derived.Deep.Cut
namespace Go.Proofs.Ytameldhdegcpoaa
open Go.ChangeShapes Go.WideShapes Go.ChangeAt Go.RowKit
set_option linter.unusedVariables false
set_option linter.unusedSimpArgs false
structure Fc (w : World) (pf lo lg : Nat) (A : Option Addr) (a : Nat) (B : Option Addr) (b : Nat) (C : Option Addr) (c : Nat) (E : List Fig) (F L : List Int) (Q : Option Addr) (q : Nat) (cs : List Int) (V : Option Addr) (v : Nat) (us : List Value) : Prop where
 at_ : Five w pf 62 (.slice A E.length a) (.slice B F.length b) (.slice C L.length c) (.slice Q cs.length q) (.slice V us.length v)
 g : OwG w lg A a B b C c E F L
 co : w.ownsRow lo 3 1 (.slice Q cs.length q) cs.length (ints cs)
 un : w.ownsRow lo 1 1 (.slice V us.length v) us.length us
 fq : ∀ x, (Value.slice B F.length b).ownBlock = some x → (Value.slice Q cs.length q).ownBlock ≠ some x
 lq : ∀ x, (Value.slice C L.length c).ownBlock = some x → (Value.slice Q cs.length q).ownBlock ≠ some x
 hpf : lo ≤ pf
 one : ∀ u ∈ us, u.oneCell' = true
theorem Fc.below {w w' : World} {pf lo lg : Nat} {A : Option Addr} {a : Nat} {B : Option Addr} {b : Nat} {C : Option Addr} {c : Nat} {E : List Fig} {F L : List Int} {Q : Option Addr} {q : Nat} {cs : List Int} {V : Option Addr} {v : Nat} {us : List Value} (h : Fc w pf lo lg A a B b C c E F L Q q cs V v us) (hb : Below w.heap.size w w') : Fc w' pf lo lg A a B b C c E F L Q q cs V v us :=
 ⟨h.at_.grown (Below.grownBy hb none) (by simp), h.g.below hb, own_below h.co hb, own_below h.un hb, h.fq, h.lq, h.hpf, h.one⟩
theorem heap_ltI {w : World} {g : Nat} {o : Obj} (h : w.heap[g]? = some o) : g < w.heap.size := by
 rcases Nat.lt_or_ge g w.heap.size with h1 | h1
 · exact h1
 · rw [Array.getElem?_eq_none h1] at h; cases h
def UndoB (w : World) (pf : Nat) (A : Option Addr) (a : Nat) (B : Option Addr) (b : Nat) (C : Option Addr) (c : Nat) (n m l : Nat) (u : Value) : Prop :=
 ∃ g d f Q k q, u = .func (.func 104) #[] #[.pointer (some ⟨g, 0, none⟩), .pointer (some ⟨d, 0, none⟩), .pointer (some ⟨f, 0, none⟩)] ∧
  Three w g 29 (.slice A n a) (.slice B m b) (.slice C l c) ∧ Bkk w d 27 #[.slice Q k q] ∧ Bkk w f 63 #[.pointer (some ⟨pf, 0, none⟩)]
def KeptT (w w' : World) : Prop := ∀ (k : Nat) (xs : Array Value) (t : TypeId), w.heap[k]? = some (.cells xs t) → t ≠ 62 → t ≠ 3 → t ≠ 1 → w'.heap[k]? = some (.cells xs t)
theorem KeptT.refl (w : World) : KeptT w w := fun _ _ _ h _ _ _ => h
theorem KeptT.trans {a b c : World} (h : KeptT a b) (k : KeptT b c) : KeptT a c := fun i xs t h1 h2 h3 h4 => k i xs t (h i xs t h1 h2 h3 h4) h2 h3 h4
theorem KeptT.below {a b c : World} (h : KeptT a b) (k : Below b.heap.size b c) : KeptT a c := fun i xs t h1 h2 h3 h4 => by
 have h5 := h i xs t h1 h2 h3 h4
 exact (k.block i (heap_ltI h5)).trans h5
theorem UndoB.kept {w w' : World} {pf : Nat} {A : Option Addr} {a : Nat} {B : Option Addr} {b : Nat} {C : Option Addr} {c n m l : Nat} {u : Value} (h : UndoB w pf A a B b C c n m l u) (k : KeptT w w') : UndoB w' pf A a B b C c n m l u := by
 obtain ⟨g, d, f, Q, n1, q, h0, h1, h2, h3⟩ := h
 exact ⟨g, d, f, Q, n1, q, h0, k _ _ _ h1 (by decide) (by decide) (by decide), k _ _ _ h2 (by decide) (by decide) (by decide), k _ _ _ h3 (by decide) (by decide) (by decide)⟩
abbrev cF (u : Value) : List Value := [u]
theorem rd_one1 {α : Type} {f : α → List Value} (w : World) (t : TypeId) (x : α) (u : Value) (hf : f x = [u]) : Rd 1 f (w.alloc (.cells #[u] t)) (some ⟨w.heap.size, 0, none⟩) [x] := by
 intro i h
 have hi : i = 0 := by simpa using h
 subst hi
 refine ⟨w.heap.size, 0, rfl, fun j z hz => ?_⟩
 have hb := cell_of_row _ _ j _ t (0, 0) (heap_alloc_new w (.cells #[u] t))
 rw [show 0 + 0 * 1 + j = j by omega, hb]
 simp only [List.getElem_cons_zero, hf] at hz
 simpa using hz
theorem infoFn : (Try.prog.info? 1).map (fun i => (i.zero, i.size, i.bytes)) = some (some .nilFunc, 1, 8) := by kernel_rfl
theorem flat_cF (l : List Value) : l.flatMap cF = l := by
 induction l with
 | nil => rfl
 | cons a t ih => simp [List.flatMap_cons, ih]
theorem own_farT {w : World} {lo g : Nat} {e t : TypeId} {size n : Nat} {v : Value} {xs : List Value} {ys : Array Value} (h : w.ownsRow lo e size v n xs) (hT : w.heap[g]? = some (.cells ys t)) (hne : e ≠ t) (j : Nat) (u : Value) : (w.setCell ⟨g, j, none⟩ u).ownsRow lo e size v n xs :=
 own_same h (fun k hk => heap_setCell_other w ⟨g, j, none⟩ k _ (by
  intro e
  subst e
  exact own_typeH h hT hne hk))
theorem OwG.farT {w : World} {lo : Nat} {A : Option Addr} {a : Nat} {B : Option Addr} {b : Nat} {C : Option Addr} {c : Nat} {E : List Fig} {F L : List Int} (h : OwG w lo A a B b C c E F L) {g : Nat} {ys : Array Value} (hT : w.heap[g]? = some (.cells ys 62)) (j : Nat) (u : Value) : OwG (w.setCell ⟨g, j, none⟩ u) lo A a B b C c E F L :=
 ⟨own_farT h.e hT (by decide) j u, own_farT h.f hT (by decide) j u, own_farT h.l hT (by decide) j u, h.ef, h.el, h.fl⟩
theorem KeptT.app {a b : World} {lo n : Nat} {e : TypeId} {v : Value} {xs : List Value} (h : a.ownsRow lo e 1 v n xs) (he : e = 3 ∨ e = 1) (hg : a.grownBy b v.ownBlock) : KeptT a b := fun k ys t h1 h2 h3 h4 =>
 (hg.block k (heap_ltI h1) (fun eq => own_typeH h h1 (by rcases he with rfl | rfl; exact fun e => h3 e.symm; exact fun e => h4 e.symm) eq.symm)).trans h1
theorem KeptT.pf {a : World} {p : Nat} {u0 u1 u2 u3 u4 : Value} (hT : Five a p 62 u0 u1 u2 u3 u4) (j : Nat) (u : Value) : KeptT a (a.setCell ⟨p, j, none⟩ u) := fun k ys t h1 h2 _ _ =>
 (heap_setCell_other a ⟨p, j, none⟩ k u (by
  intro e
  subst e
  have := hT.symm.trans h1
  simp only [Option.some.injEq, Obj.cells.injEq] at this
  exact h2 this.2.1.symm)).trans h1
theorem KeptT.bel {a b : World} (h : Below a.heap.size a b) : KeptT a b := (KeptT.refl a).below h
theorem KeptT.five {a b : World} (k : KeptT a b) {p : Nat} {t : TypeId} {u0 u1 u2 u3 u4 : Value} (h : Five a p t u0 u1 u2 u3 u4) (h1 : t ≠ 62) (h2 : t ≠ 3) (h3 : t ≠ 1) : Five b p t u0 u1 u2 u3 u4 := k _ _ _ h h1 h2 h3
theorem KeptT.three {a b : World} (k : KeptT a b) {p : Nat} {t : TypeId} {u0 u1 u2 : Value} (h : Three a p t u0 u1 u2) (h1 : t ≠ 62) (h2 : t ≠ 3) (h3 : t ≠ 1) : Three b p t u0 u1 u2 := k _ _ _ h h1 h2 h3
theorem KeptT.bkk {a b : World} (k : KeptT a b) {p : Nat} {t : TypeId} {xs : Array Value} (h : Bkk a p t xs) (h1 : t ≠ 62) (h2 : t ≠ 3) (h3 : t ≠ 1) : Bkk b p t xs := k _ _ _ h h1 h2 h3
theorem Fc.pushU {w w' : World} {pf lo lg : Nat} {A : Option Addr} {a : Nat} {B : Option Addr} {b : Nat} {C : Option Addr} {c : Nat} {E : List Fig} {F L : List Int} {Q : Option Addr} {q : Nat} {cs : List Int} {V : Option Addr} {v : Nat} {us : List Value} (h : Fc w pf lo lg A a B b C c E F L Q q cs V v us) {v' u : Value} (hu1 : u.oneCell' = true) (ho : w'.ownsRow lo 1 1 v' (us.length + 1) (us ++ [u].flatMap cF)) (hg : w.grownBy w' (Value.slice V us.length v).ownBlock) :
 ∃ V' c', v' = .slice V' (us ++ [u]).length c' ∧ Fc (w'.setCell ⟨pf, 4, none⟩ v') pf lo lg A a B b C c E F L Q q cs V' c' (us ++ [u]) := by
 have ne := fun {e : TypeId} {size n : Nat} {v0 : Value} {xs : List Value} {l0 : Nat} (h0 : w.ownsRow l0 e size v0 n xs) (hd : 1 ≠ e) => app_keepH h0 hg (fun x hx => own_row_ne h.un h0 hd x hx)
 have hat : Five w' pf 62 (.slice A E.length a) (.slice B F.length b) (.slice C L.length c) (.slice Q cs.length q) (.slice V us.length v) := h.at_.grown hg (fun e => own_typeH h.un h.at_ (by decide) e.symm)
 have hl : us.length + 1 = (us ++ [u]).length := by simp
 obtain ⟨V', c', rfl⟩ := own_formH ho
 rw [flat_cF, hl] at ho
 refine ⟨V', c', by rw [hl], ?_⟩
 rw [hl]
 have g' : OwG w' lg A a B b C c E F L := ⟨ne h.g.e (by decide), ne h.g.f (by decide), ne h.g.l (by decide), h.g.ef, h.g.el, h.g.fl⟩
 exact ⟨hat.set4 _, g'.farT hat 4 _, own_farT (ne h.co (by decide)) hat (by decide) 4 _, own_farT ho hat (by decide) 4 _, h.fq, h.lq, h.hpf, fun z hz => by
  simp only [List.mem_append, List.mem_singleton] at hz
  rcases hz with hz | rfl
  · exact h.one z hz
  · exact hu1⟩
theorem Fc.pushC {w w' : World} {pf lo lg l1 : Nat} {A : Option Addr} {a : Nat} {B : Option Addr} {b : Nat} {C : Option Addr} {c : Nat} {E : List Fig} {F L : List Int} {Q : Option Addr} {q : Nat} {cs : List Int} {V : Option Addr} {v : Nat} {us : List Value} (h : Fc w pf lo lg A a B b C c E F L Q q cs V v us) {A1 : Option Addr} {a1 : Nat} {B1 : Option Addr} {b1 : Nat} {C1 : Option Addr} {c1 : Nat} {E1 : List Fig} {F1 L1 : List Int} (g1 : OwG w l1 A1 a1 B1 b1 C1 c1 E1 F1 L1) (hl1 : lg ≤ l1) (hq : ∀ x, (Value.slice Q cs.length q).ownBlock = some x → x < l1) {v' : Value} {z : Int} (ho : w'.ownsRow lo 3 1 v' (cs.length + 1) (ints cs ++ [z].flatMap cI)) (hg : w.grownBy w' (Value.slice Q cs.length q).ownBlock) (hp : v'.ownBlock = (Value.slice Q cs.length q).ownBlock ∨ v'.ownBlock = some w.heap.size) :
 ∃ Q' q', v' = .slice Q' (cs ++ [z]).length q' ∧ Fc ((((w'.setCell ⟨pf, 0, none⟩ (.slice A1 E1.length a1)).setCell ⟨pf, 1, none⟩ (.slice B1 F1.length b1)).setCell ⟨pf, 2, none⟩ (.slice C1 L1.length c1)).setCell ⟨pf, 3, none⟩ (.slice Q' (cs ++ [z]).length q')) pf lo lg A1 a1 B1 b1 C1 c1 E1 F1 L1 Q' q' (cs ++ [z]) V v us := by
 have hat : Five w' pf 62 (.slice A E.length a) (.slice B F.length b) (.slice C L.length c) (.slice Q cs.length q) (.slice V us.length v) := h.at_.grown hg (fun e => own_typeH h.co h.at_ (by decide) e.symm)
 have hl : cs.length + 1 = (cs ++ [z]).length := by simp
 have un' := app_keepH h.un hg (fun x hx => own_row_ne h.co h.un (by decide) x hx)
 have e' := app_keepH g1.e hg (fun x hx => own_row_ne h.co g1.e (by decide) x hx)
 have f' := app_keepH g1.f hg (fun x hx e => by have := hq x hx; have := (own_block_ge g1.f x e).1; omega)
 have l' := app_keepH g1.l hg (fun x hx e => by have := hq x hx; have := (own_block_ge g1.l x e).1; omega)
 have fq : ∀ x, (Value.slice B1 F1.length b1).ownBlock = some x → v'.ownBlock ≠ some x := fun x hx e => by
  have h1 := own_block_ge g1.f x hx
  rcases hp with h2 | h2
  · rw [h2] at e; have := hq x e; omega
  · rw [h2] at e; injection e with e; omega
 have lq : ∀ x, (Value.slice C1 L1.length c1).ownBlock = some x → v'.ownBlock ≠ some x := fun x hx e => by
  have h1 := own_block_ge g1.l x hx
  rcases hp with h2 | h2
  · rw [h2] at e; have := hq x e; omega
  · rw [h2] at e; injection e with e; omega
 obtain ⟨Q', q', rfl⟩ := own_formH ho
 rw [show ints cs ++ [z].flatMap cI = ints (cs ++ [z]) by simp [ints, cI], hl] at ho
 rw [hl] at fq lq
 refine ⟨Q', q', by rw [hl], ?_⟩
 have g' : OwG w' l1 A1 a1 B1 b1 C1 c1 E1 F1 L1 := ⟨e', f', l', g1.ef, g1.el, g1.fl⟩
 have t1 := hat.set0 (.slice A1 E1.length a1)
 have t2 := t1.set1 (.slice B1 F1.length b1)
 have t3 := t2.set2 (.slice C1 L1.length c1)
 exact ⟨t3.set3 _, ((((g'.farT hat 0 _).farT t1 1 _).farT t2 2 _).farT t3 3 _).base hl1, own_farT (own_farT (own_farT (own_farT ho hat (by decide) 0 _) t1 (by decide) 1 _) t2 (by decide) 2 _) t3 (by decide) 3 _, own_farT (own_farT (own_farT (own_farT un' hat (by decide) 0 _) t1 (by decide) 1 _) t2 (by decide) 2 _) t3 (by decide) 3 _, fq, lq, h.hpf, h.one⟩
set_option maxRecDepth 100000 in
set_option maxHeartbeats 8000000 in
theorem fcDo {w : World} {pf lo lg : Nat} {A : Option Addr} {a : Nat} {B : Option Addr} {b : Nat} {C : Option Addr} {c : Nat} {E : List Fig} {F L : List Int} {Q : Option Addr} {q : Nat} {cs : List Int} {V : Option Addr} {v : Nat} {us : List Value} (r : Rq) (h : Fc w pf lo lg A a B b C c E F L Q q cs V v us) (hlo : lo ≤ w.heap.size) (hlg : lg ≤ w.heap.size) (hE : E.length ≤ 1048576) (hF : F.length ≤ 1048576) (hL : L.length ≤ 1048576) (hc : cs.length ≤ 1000) (hu : us.length ≤ 1000) :
 Calls Try.prog 82 #[.pointer (some ⟨pf, 0, none⟩), r.val] w fun e w' => e = .returned (.tuple #[]) ∧ (∃ A' a' B' b' C' c' Q' q' V' v' u, Fc w' pf lo lg A' a' B' b' C' c' (stepG E F L r).1.1 (stepG E F L r).1.2.1 (stepG E F L r).1.2.2 Q' q' (cs ++ [(stepG E F L r).2]) V' v' (us ++ [u]) ∧ UndoB w' pf A a B b C c E.length F.length L.length u) ∧ Below lo w w' ∧ KeptT w w' ∧ w.heap.size ≤ w'.heap.size := by
 obtain ⟨rc, rn, ro, rx, ry⟩ := r
 obtain ⟨⟨⟨E1, F1, L1⟩, x1⟩, hX⟩ : ∃ X : Gm × Int, X = stepG E F L ⟨rc, rn, ro, rx, ry⟩ := ⟨_, rfl⟩
 rw [← hX]
 have HX := Lib.hid hX
 clear hX
 have hb0 : Below w.heap.size w ((w.alloc (.cells #[.pointer (some ⟨pf, 0, none⟩)] 63)).alloc (.cells #[.int .i64 rc, .int .i64 rn, .int .i64 ro, .int .i64 rx, .int .i64 ry] 49)) := below_alloc2 w _ _
 have FF := Lib.hid (h.below hb0)
 have P2 := Lib.hid ((Bkk.new (t := 63) (cs := #[.pointer (some ⟨pf, 0, none⟩)]) w).alloc (.cells #[.int .i64 rc, .int .i64 rn, .int .i64 ro, .int .i64 rx, .int .i64 ry] 49))
 have R3 : Hid (Five ((w.alloc (.cells #[.pointer (some ⟨pf, 0, none⟩)] 63)).alloc (.cells #[.int .i64 rc, .int .i64 rn, .int .i64 ro, .int .i64 rx, .int .i64 ry] 49)) (w.heap.size + 1) 49 (.int .i64 rc) (.int .i64 rn) (.int .i64 ro) (.int .i64 rx) (.int .i64 ry)) := by have := Five.new (u0 := .int .i64 rc) (u1 := .int .i64 rn) (u2 := .int .i64 ro) (u3 := .int .i64 rx) (u4 := .int .i64 ry) (t := 49) (w.alloc (.cells #[.pointer (some ⟨pf, 0, none⟩)] 63)); simpa [Hid] using this
 have Z := Lib.hid hb0
 have hpw := h.at_.lt
 clear h hb0
 go_enter Try.func82, Try.ntmps82
 go_upto_region 1 with (fail)
 obtain ⟨w0, hw0⟩ : ∃ X, X = ((w.alloc (.cells #[.pointer (some ⟨pf, 0, none⟩)] 63)).alloc (.cells #[.int .i64 rc, .int .i64 rn, .int .i64 ro, .int .i64 rx, .int .i64 ry] 49)) := ⟨_, rfl⟩
 rw [← hw0] at FF P2 R3 Z ⊢
 clear hw0
 go_cut [4, 5] from 8 (fun s4 s5 wc => ∃ p4 p5, s4 = .pointer (some ⟨p4, 0, none⟩) ∧ s5 = .pointer (some ⟨p5, 0, none⟩) ∧ Hid (Three wc p4 29 (.slice A E.length a) (.slice B F.length b) (.slice C L.length c)) ∧ Hid (Bkk wc p5 27 #[.slice Q cs.length q]) ∧ Hid (w0.heap.size ≤ p4) ∧ Hid (w0.heap.size ≤ p5) ∧ Hid (Below w0.heap.size w0 wc))
 case first =>
  obtain ⟨x0, x1, x2, x3, x4⟩ := FF.out.at_.cells
  have lx := FF.out.at_.lt
  have b0 : w0.cell? ⟨w.heap.size, 0, none⟩ = some (.pointer (some ⟨pf, 0, none⟩)) := P2.out.cell 0
  have lb := P2.out.lt
  refine wp_region_held_drew (S := fun WS => Below w0.heap.size w0 WS) (by kernel_rfl) ((Below.refl _ _).drew) (fun hS0 => ?_)
  refine tkI 0 8 (v := ?_) rfl rfl ?_ ?_
  rotate_left
  · intro wS hSw; obtain ⟨hcS, hfS⟩ := bcell hSw; go_simp; (try with_reducible rfl)
  (try simp only [Act.put, pu1, pu2, pu3])
  refine tkI 1 9 (v := ?_) rfl rfl ?_ ?_
  rotate_left
  · intro wS hSw; obtain ⟨hcS, hfS⟩ := bcell hSw; go_simp; (try with_reducible rfl)
  (try simp only [Act.put, pu1, pu2, pu3])
  refine tkI 2 10 (v := ?_) rfl rfl ?_ ?_
  rotate_left
  · intro wS hSw; obtain ⟨hcS, hfS⟩ := bcell hSw; go_simp; (try with_reducible rfl)
  (try simp only [Act.put, pu1, pu2, pu3])
  refine tkI 3 11 (v := ?_) rfl rfl ?_ ?_
  rotate_left
  · intro wS hSw; obtain ⟨hcS, hfS⟩ := bcell hSw; go_simp; (try with_reducible rfl)
  (try simp only [Act.put, pu1, pu2, pu3])
  refine tkI 4 12 (v := ?_) rfl rfl ?_ ?_
  rotate_left
  · intro wS hSw; obtain ⟨hcS, hfS⟩ := bcell hSw; go_simp; (try with_reducible rfl)
  (try simp only [Act.put, pu1, pu2, pu3])
  refine tkI 5 13 (v := ?_) rfl rfl ?_ ?_
  rotate_left
  · intro wS hSw; obtain ⟨hcS, hfS⟩ := bcell hSw; go_simp; (try with_reducible rfl)
  (try simp only [Act.put, pu1, pu2, pu3])
  refine tkI 6 14 (v := ?_) rfl rfl ?_ ?_
  rotate_left
  · intro wS hSw; obtain ⟨hcS, hfS⟩ := bcell hSw; go_simp; (try with_reducible rfl)
  (try simp only [Act.put, pu1, pu2, pu3])
  refine tkI 7 15 (v := ?_) rfl rfl ?_ ?_
  rotate_left
  · intro wS hSw; obtain ⟨hcS, hfS⟩ := bcell hSw; go_simp; (try with_reducible rfl)
  (try simp only [Act.put, pu1, pu2, pu3])
  clear x0 x1 x2 x3 x4 lx b0 lb
  refine wpAnyH_ready (rs := [8, 9]) (by kernel_rfl) (by simp) ?_
  refine AllReadyH.cons rfl (fun KK hK => ?_) (AllReadyH.cons rfl (fun KK hK => ?_) AllReadyH.nil)
  · go_simp
    refine hK.out _ _ ((Below.refl w0.heap.size w0).alloc (Nat.le_refl _) (.cells #[.slice none 0 0, .slice none 0 0, .slice none 0 0] 29)).drew (fun _ => ?_)
    clear hK KK
    (try simp only [Act.put, pu1, pu2, pu3])
    refine wpAnyH_ready (rs := [9]) (by kernel_rfl) (by simp) ?_
    refine AllReadyH.cons rfl (fun KK hK => ?_) AllReadyH.nil
    go_simp
    refine hK.out _ _ (below_alloc2 w0 (.cells #[.slice none 0 0, .slice none 0 0, .slice none 0 0] 29) (.cells #[.slice none 0 0] 27)).drew (fun _ => ?_)
    clear hK KK
    (try simp only [Act.put, pu1, pu2, pu3])
    have T4 : Hid (Three ((w0.alloc (.cells #[.slice none 0 0, .slice none 0 0, .slice none 0 0] 29)).alloc (.cells #[.slice none 0 0] 27)) w0.heap.size 29 (.slice none 0 0) (.slice none 0 0) (.slice none 0 0)) := (Three.new w0).alloc _
    have C5 : Hid (Bkk ((w0.alloc (.cells #[.slice none 0 0, .slice none 0 0, .slice none 0 0] 29)).alloc (.cells #[.slice none 0 0] 27)) (w0.heap.size + 1) 27 #[.slice none 0 0]) := by have := Bkk.new (t := 27) (cs := #[.slice none 0 0]) (w0.alloc (.cells #[.slice none 0 0, .slice none 0 0, .slice none 0 0] 29)); simpa [Hid] using this
    have BW : Hid (Below w0.heap.size w0 ((w0.alloc (.cells #[.slice none 0 0, .slice none 0 0, .slice none 0 0] 29)).alloc (.cells #[.slice none 0 0] 27))) := below_alloc2 w0 (.cells #[.slice none 0 0, .slice none 0 0, .slice none 0 0] 29) (.cells #[.slice none 0 0] 27)
    obtain ⟨p5, hpn⟩ : ∃ X, X = w0.heap.size + 1 := ⟨_, rfl⟩
    have n45 : w0.heap.size ≠ p5 := by omega
    have l4 : w0.heap.size ≤ w0.heap.size := by omega
    have l5 : w0.heap.size ≤ p5 := by omega
    obtain ⟨wA, hwA⟩ : ∃ X, X = ((w0.alloc (.cells #[.slice none 0 0, .slice none 0 0, .slice none 0 0] 29)).alloc (.cells #[.slice none 0 0] 27)) := ⟨_, rfl⟩
    rw [← hwA] at T4 C5 BW ⊢
    rw [← hpn] at C5 ⊢
    clear hwA hpn
    obtain ⟨z0, z1, z2⟩ := T4.out.cells
    have zf := T4.out.frozen
    have d0 : wA.cell? ⟨p5, 0, none⟩ = some (.slice none 0 0) := C5.out.cell 0
    have df := C5.out.frozen
    refine wpAnyH_ready (rs := [10]) (by kernel_rfl) (by simp) ?_
    refine AllReadyH.cons rfl (fun KK hK => ?_) AllReadyH.nil
    go_simp
    have T4 := Lib.hid (((T4.out.set0 (.slice A E.length a)).set1 (.slice B F.length b)).set2 (.slice C L.length c))
    have C5 := Lib.hid (((C5.out.far (Ne.symm n45) 0 (.slice A E.length a)).far (Ne.symm n45) 1 (.slice B F.length b)).far (Ne.symm n45) 2 (.slice C L.length c))
    have BW := Lib.hid (((BW.out.setCell (p := ⟨w0.heap.size, 0, none⟩) l4 (.slice A E.length a)).setCell (p := ⟨w0.heap.size, 1, none⟩) l4 (.slice B F.length b)).setCell (p := ⟨w0.heap.size, 2, none⟩) l4 (.slice C L.length c))
    refine hK.out _ _ BW.out.drew (fun _ => ?_)
    clear hK KK
    (try simp only [Act.put, pu1, pu2, pu3])
    refine wpAnyH_ready (rs := [11]) (by kernel_rfl) (by simp) ?_
    refine AllReadyH.cons rfl (fun KK hK => ?_) AllReadyH.nil
    go_simp
    have T4 := Lib.hid (T4.out.far n45 (j := 0) (.slice Q cs.length q))
    have C5 := Lib.hid (C5.out.set 0 (.slice Q cs.length q))
    have BW := Lib.hid (BW.out.setCell (p := ⟨p5, 0, none⟩) l5 (.slice Q cs.length q))
    refine hK.out _ _ BW.out.drew (fun _ => ?_)
    clear hK KK
    (try simp only [Act.put, pu1, pu2, pu3])
    refine wpAnyH_done (by kernel_rfl) ?_ _
    go_wp2_with (fail)
    go_meet
    case rel => exact ⟨w0.heap.size, p5, rfl, rfl, T4.out.drew, C5.out, l4, l5, BW.out.drew⟩
  · go_simp
    refine hK.out _ _ ((Below.refl w0.heap.size w0).alloc (Nat.le_refl _) (.cells #[.slice none 0 0] 27)).drew (fun _ => ?_)
    clear hK KK
    (try simp only [Act.put, pu1, pu2, pu3])
    refine wpAnyH_ready (rs := [8]) (by kernel_rfl) (by simp) ?_
    refine AllReadyH.cons rfl (fun KK hK => ?_) AllReadyH.nil
    go_simp
    refine hK.out _ _ (below_alloc2 w0 (.cells #[.slice none 0 0] 27) (.cells #[.slice none 0 0, .slice none 0 0, .slice none 0 0] 29)).drew (fun _ => ?_)
    clear hK KK
    (try simp only [Act.put, pu1, pu2, pu3])
    have C5 : Hid (Bkk ((w0.alloc (.cells #[.slice none 0 0] 27)).alloc (.cells #[.slice none 0 0, .slice none 0 0, .slice none 0 0] 29)) w0.heap.size 27 #[.slice none 0 0]) := (Bkk.new w0).alloc _
    have T4 : Hid (Three ((w0.alloc (.cells #[.slice none 0 0] 27)).alloc (.cells #[.slice none 0 0, .slice none 0 0, .slice none 0 0] 29)) (w0.heap.size + 1) 29 (.slice none 0 0) (.slice none 0 0) (.slice none 0 0)) := by have := Three.new (u0 := .slice none 0 0) (u1 := .slice none 0 0) (u2 := .slice none 0 0) (t := 29) (w0.alloc (.cells #[.slice none 0 0] 27)); simpa [Hid] using this
    have BW : Hid (Below w0.heap.size w0 ((w0.alloc (.cells #[.slice none 0 0] 27)).alloc (.cells #[.slice none 0 0, .slice none 0 0, .slice none 0 0] 29))) := below_alloc2 w0 (.cells #[.slice none 0 0] 27) (.cells #[.slice none 0 0, .slice none 0 0, .slice none 0 0] 29)
    obtain ⟨p4, hpn⟩ : ∃ X, X = w0.heap.size + 1 := ⟨_, rfl⟩
    have n45 : p4 ≠ w0.heap.size := by omega
    have l4 : w0.heap.size ≤ p4 := by omega
    have l5 : w0.heap.size ≤ w0.heap.size := by omega
    obtain ⟨wA, hwA⟩ : ∃ X, X = ((w0.alloc (.cells #[.slice none 0 0] 27)).alloc (.cells #[.slice none 0 0, .slice none 0 0, .slice none 0 0] 29)) := ⟨_, rfl⟩
    rw [← hwA] at T4 C5 BW ⊢
    rw [← hpn] at T4 ⊢
    clear hwA hpn
    obtain ⟨z0, z1, z2⟩ := T4.out.cells
    have zf := T4.out.frozen
    have d0 : wA.cell? ⟨w0.heap.size, 0, none⟩ = some (.slice none 0 0) := C5.out.cell 0
    have df := C5.out.frozen
    refine wpAnyH_ready (rs := [10]) (by kernel_rfl) (by simp) ?_
    refine AllReadyH.cons rfl (fun KK hK => ?_) AllReadyH.nil
    go_simp
    have T4 := Lib.hid (((T4.out.set0 (.slice A E.length a)).set1 (.slice B F.length b)).set2 (.slice C L.length c))
    have C5 := Lib.hid (((C5.out.far (Ne.symm n45) 0 (.slice A E.length a)).far (Ne.symm n45) 1 (.slice B F.length b)).far (Ne.symm n45) 2 (.slice C L.length c))
    have BW := Lib.hid (((BW.out.setCell (p := ⟨p4, 0, none⟩) l4 (.slice A E.length a)).setCell (p := ⟨p4, 1, none⟩) l4 (.slice B F.length b)).setCell (p := ⟨p4, 2, none⟩) l4 (.slice C L.length c))
    refine hK.out _ _ BW.out.drew (fun _ => ?_)
    clear hK KK
    (try simp only [Act.put, pu1, pu2, pu3])
    refine wpAnyH_ready (rs := [11]) (by kernel_rfl) (by simp) ?_
    refine AllReadyH.cons rfl (fun KK hK => ?_) AllReadyH.nil
    go_simp
    have T4 := Lib.hid (T4.out.far n45 (j := 0) (.slice Q cs.length q))
    have C5 := Lib.hid (C5.out.set 0 (.slice Q cs.length q))
    have BW := Lib.hid (BW.out.setCell (p := ⟨w0.heap.size, 0, none⟩) l5 (.slice Q cs.length q))
    refine hK.out _ _ BW.out.drew (fun _ => ?_)
    clear hK KK
    (try simp only [Act.put, pu1, pu2, pu3])
    refine wpAnyH_done (by kernel_rfl) ?_ _
    go_wp2_with (fail)
    go_meet
    case rel => exact ⟨p4, w0.heap.size, rfl, rfl, T4.out.drew, C5.out, l4, l5, BW.out.drew⟩
 case rest =>
  obtain ⟨p4, p5, rfl, rfl, T4, C5, l4, l5, HB⟩ := hcut
  have ZL := Lib.hid (Below.and Z.out HB.out)
  have KT := Lib.hid (KeptT.bel ZL.out)
  have FF := Lib.hid (FF.out.below HB.out)
  have P2 := Lib.hid (P2.out.below HB.out)
  have R3 := Lib.hid (R3.out.grown (Below.grownBy HB.out none) (by simp))
  have SZ := Lib.hid (show w.heap.size ≤ wc.heap.size from ZL.out.size)
  have ZL := Lib.hid (ZL.out.mono hlo)
  clear HB Z l4 l5
  have hu1 : (.func (.func 104) #[] #[.pointer (some ⟨p4, 0, none⟩), .pointer (some ⟨p5, 0, none⟩), .pointer (some ⟨w.heap.size, 0, none⟩)] : Value).oneCell' = true := rfl
  obtain ⟨I, hi, hz0, hz1, hz2⟩ := parts_ofH infoFn
  have I1 := Lib.hid hi
  have I2 := Lib.hid hz0
  have I3 := Lib.hid hz1
  have I4 := Lib.hid hz2
  clear hi hz0 hz1 hz2
  have lo0 : lo ≤ wc.heap.size := Nat.le_trans hlo SZ.out
  go_upto_region 2 with (fail)
  go_cut [] from 16 (fun wc => ∃ V3 c3, Hid (Fc wc pf lo lg A a B b C c E F L Q q cs V3 c3 (us ++ [(.func (.func 104) #[] #[.pointer (some ⟨p4, 0, none⟩), .pointer (some ⟨p5, 0, none⟩), .pointer (some ⟨w.heap.size, 0, none⟩)] : Value)])) ∧ Hid (Three wc p4 29 (.slice A E.length a) (.slice B F.length b) (.slice C L.length c)) ∧ Hid (Bkk wc p5 27 #[.slice Q cs.length q]) ∧ Hid (Bkk wc w.heap.size 63 #[.pointer (some ⟨pf, 0, none⟩)]) ∧ Hid (Five wc (w.heap.size + 1) 49 (.int .i64 rc) (.int .i64 rn) (.int .i64 ro) (.int .i64 rx) (.int .i64 ry)) ∧ Hid (KeptT w wc) ∧ Hid (Below lo w wc) ∧ Hid (w.heap.size ≤ wc.heap.size))
  case first =>
   refine wp_region_held_drew (S := fun WS => Bkk WS w.heap.size 63 #[.pointer (some ⟨pf, 0, none⟩)]) (by kernel_rfl) P2.out (fun hS0 => ?_)
   refine tkI 0 16 (v := ?_) rfl rfl ?_ ?_
   rotate_left
   · intro wS hSw; have b0 : wS.cell? ⟨w.heap.size, 0, none⟩ = some (.pointer (some ⟨pf, 0, none⟩)) := Bkk.cell hSw 0; go_simp; (try with_reducible rfl)
   (try simp only [Act.put, pu1, pu2, pu3])
   refine tkI 1 17 (v := ?_) rfl rfl ?_ ?_
   rotate_left
   · intro wS hSw; have b0 : wS.cell? ⟨w.heap.size, 0, none⟩ = some (.pointer (some ⟨pf, 0, none⟩)) := Bkk.cell hSw 0; go_simp; (try with_reducible rfl)
   (try simp only [Act.put, pu1, pu2, pu3])
   refine tkI 2 18 (v := ?_) rfl rfl ?_ ?_
   rotate_left
   · intro wS hSw; have b0 : wS.cell? ⟨w.heap.size, 0, none⟩ = some (.pointer (some ⟨pf, 0, none⟩)) := Bkk.cell hSw 0; go_simp; (try with_reducible rfl)
   (try simp only [Act.put, pu1, pu2, pu3])
   refine tkI 3 19 (v := ?_) rfl rfl ?_ ?_
   rotate_left
   · intro wS hSw; have b0 : wS.cell? ⟨w.heap.size, 0, none⟩ = some (.pointer (some ⟨pf, 0, none⟩)) := Bkk.cell hSw 0; go_simp; (try with_reducible rfl)
   (try simp only [Act.put, pu1, pu2, pu3])
   refine tkI 5 21 (v := ?_) rfl rfl ?_ ?_
   rotate_left
   · intro wS hSw; have b0 : wS.cell? ⟨w.heap.size, 0, none⟩ = some (.pointer (some ⟨pf, 0, none⟩)) := Bkk.cell hSw 0; go_simp; (try with_reducible rfl)
   (try simp only [Act.put, pu1, pu2, pu3])
   refine wpAnyH_ready (rs := [4, 6]) (by kernel_rfl) (by simp) ?_
   refine AllReadyH.cons rfl (fun KK hK => ?_) (AllReadyH.cons rfl (fun KK hK => ?_) AllReadyH.nil)
   · obtain ⟨x0, x1, x2, x3, x4⟩ := FF.out.at_.cells
     have lx := FF.out.at_.lt
     go_simp
     refine hK.out _ _ P2.out (fun _ => ?_)
     clear hK KK
     (try simp only [Act.put, pu1, pu2, pu3])
     clear x0 x1 x2 x3 x4 lx
     refine wpAnyH_ready (rs := [6]) (by kernel_rfl) (by simp) ?_
     refine AllReadyH.cons rfl (fun KK hK => ?_) AllReadyH.nil
     go_simp
     refine hK.out _ _ (show Bkk (wc.alloc (.cells #[.func (.func 104) #[] #[.pointer (some ⟨p4, 0, none⟩), .pointer (some ⟨p5, 0, none⟩), .pointer (some ⟨w.heap.size, 0, none⟩)]] 1)).drew _ _ _ from P2.out.alloc _) (fun _ => ?_)
     clear hK KK
     (try simp only [Act.put, pu1, pu2, pu3])
     have hba : Below wc.heap.size wc (wc.alloc (.cells #[.func (.func 104) #[] #[.pointer (some ⟨p4, 0, none⟩), .pointer (some ⟨p5, 0, none⟩), .pointer (some ⟨w.heap.size, 0, none⟩)]] 1)).drew := ((Below.refl wc.heap.size wc).alloc (Nat.le_refl _) (.cells #[.func (.func 104) #[] #[.pointer (some ⟨p4, 0, none⟩), .pointer (some ⟨p5, 0, none⟩), .pointer (some ⟨w.heap.size, 0, none⟩)]] 1)).drew
     have FF := Lib.hid (FF.out.below hba)
     have T4 := Lib.hid (Three.below T4.out hba T4.out.lt)
     have C5 := Lib.hid (C5.out.below hba)
     have P2 := Lib.hid (P2.out.below hba)
     have R3 := Lib.hid (R3.out.grown (Below.grownBy hba none) (by simp))
     have KT := Lib.hid (KT.out.below hba)
     have ZL := Lib.hid (ZL.out.trans (hba.mono lo0))
     have SZ := Lib.hid (Nat.le_trans SZ.out hba.size)
     have HRd : Hid (Rd 1 cF (wc.alloc (.cells #[.func (.func 104) #[] #[.pointer (some ⟨p4, 0, none⟩), .pointer (some ⟨p5, 0, none⟩), .pointer (some ⟨w.heap.size, 0, none⟩)]] 1)).drew (some ⟨wc.heap.size, 0, none⟩) [.func (.func 104) #[] #[.pointer (some ⟨p4, 0, none⟩), .pointer (some ⟨p5, 0, none⟩), .pointer (some ⟨w.heap.size, 0, none⟩)]]) := rd_one1 (f := cF) wc 1 (.func (.func 104) #[] #[.pointer (some ⟨p4, 0, none⟩), .pointer (some ⟨p5, 0, none⟩), .pointer (some ⟨w.heap.size, 0, none⟩)] : Value) (.func (.func 104) #[] #[.pointer (some ⟨p4, 0, none⟩), .pointer (some ⟨p5, 0, none⟩), .pointer (some ⟨w.heap.size, 0, none⟩)] : Value) rfl
     obtain ⟨pu, hpu⟩ : ∃ X, X = wc.heap.size := ⟨_, rfl⟩
     obtain ⟨wd, hwd⟩ : ∃ X, X = (wc.alloc (.cells #[.func (.func 104) #[] #[.pointer (some ⟨p4, 0, none⟩), .pointer (some ⟨p5, 0, none⟩), .pointer (some ⟨w.heap.size, 0, none⟩)]] 1)).drew := ⟨_, rfl⟩
     rw [← hwd] at FF T4 C5 P2 R3 KT ZL SZ HRd ⊢
     rw [← hpu] at HRd ⊢
     clear hba hwd hpu
     have lo1 : lo ≤ wd.heap.size := Nat.le_trans hlo SZ.out
     refine wpAnyH_ready (rs := [7]) (by kernel_rfl) (by simp) ?_
     refine AllReadyH.cons rfl (fun KK hK => ?_) AllReadyH.nil
     refine step_app (k := 1) (f := cF) (fun _ => rfl) (by rfl) _ _ 60 (by rfl) lo 1 I .nilFunc 8 Try.underlying60 I1.out I2.out I3.out I4.out (by rfl) (by omega) _ us.length us (by rfl) FF.out.un _ _ 1 [.func (.func 104) #[] #[.pointer (some ⟨p4, 0, none⟩), .pointer (some ⟨p5, 0, none⟩), .pointer (some ⟨w.heap.size, 0, none⟩)]] rfl (by rfl) HRd.out (fun h => by cases h) (by simpa using hu1) (by unfold maxLen; omega) (by omega) lo1 ?_
     intro v3 w3 ho hg hp
     obtain ⟨V3, c3, rfl, F3⟩ := FF.out.pushU hu1 ho hg
     obtain ⟨us3, hus3⟩ : ∃ X : List Value, X = us ++ [(.func (.func 104) #[] #[.pointer (some ⟨p4, 0, none⟩), .pointer (some ⟨p5, 0, none⟩), .pointer (some ⟨w.heap.size, 0, none⟩)] : Value)] := ⟨_, rfl⟩
     rw [← hus3] at F3 ⊢
     have HUS := Lib.hid hus3
     clear hus3
     have k1 : KeptT wd w3 := KeptT.app FF.out.un (.inr rfl) hg
     have hat := FF.out.at_.grown hg (fun e => own_typeH FF.out.un FF.out.at_ (by decide) e.symm)
     have k2 := k1.trans (KeptT.pf hat 4 (.slice V3 us3.length c3))
     have z3 := (ZL.out.grown hg lo1 (fun x hx => (own_block_ge FF.out.un x hx).1)).setCell (p := ⟨pf, 4, none⟩) F3.hpf (.slice V3 us3.length c3)
     have s3 : w.heap.size ≤ (w3.setCell ⟨pf, 4, none⟩ (.slice V3 us3.length c3)).heap.size := by have := hg.size; have := SZ.out; simp; omega
     refine hK.out _ _ (k1.bkk P2.out (by decide) (by decide) (by decide)) (fun _ => ?_)
     clear hK KK
     (try simp only [Act.put, pu1, pu2, pu3])
     refine tkI 8 24 (v := ?_) rfl rfl ?_ ?_
     rotate_left
     · intro wS hSw; go_simp; (try with_reducible rfl)
     (try simp only [Act.put, pu1, pu2, pu3])
     refine tkI 9 25 (v := ?_) rfl rfl ?_ ?_
     rotate_left
     · intro wS hSw; go_simp; (try with_reducible rfl)
     (try simp only [Act.put, pu1, pu2, pu3])
     refine wpAnyH_ready (rs := [10]) (by kernel_rfl) (by simp) ?_
     refine AllReadyH.cons rfl (fun KK hK => ?_) AllReadyH.nil
     obtain ⟨x0, x1, x2, x3, x4⟩ := hat.cells
     have xf := hat.frozen
     go_simp
     refine hK.out _ _ (k2.bkk P2.out (by decide) (by decide) (by decide)) (fun _ => ?_)
     clear hK KK
     (try simp only [Act.put, pu1, pu2, pu3])
     refine wpAnyH_done (by kernel_rfl) ?_ _
     have FF := Lib.hid F3
     have T4 := Lib.hid (k2.three T4.out (by decide) (by decide) (by decide))
     have C5 := Lib.hid (k2.bkk C5.out (by decide) (by decide) (by decide))
     have R3 := Lib.hid (k2.five R3.out (by decide) (by decide) (by decide))
     have P2 := Lib.hid (k2.bkk P2.out (by decide) (by decide) (by decide))
     have KT := Lib.hid (KT.out.trans k2)
     have ZL := Lib.hid z3
     have SZ := Lib.hid s3
     clear F3 k1 k2 hat z3 s3 ho hg hp x0 x1 x2 x3 x4 xf HRd lo1 lo0
     obtain ⟨we, hwe⟩ : ∃ X, X = w3.setCell ⟨pf, 4, none⟩ (.slice V3 us3.length c3) := ⟨_, rfl⟩
     rw [← hwe] at FF T4 C5 R3 P2 KT ZL SZ ⊢
     clear hwe
     go_wp2_with (fail)
     go_meet
     case rel => exact ⟨V3, c3, by rw [← HUS.out]; exact FF.out, T4.out, C5.out, P2.out, R3.out, KT.out, ZL.out, SZ.out⟩
   · go_simp
     refine hK.out _ _ (show Bkk (wc.alloc (.cells #[.func (.func 104) #[] #[.pointer (some ⟨p4, 0, none⟩), .pointer (some ⟨p5, 0, none⟩), .pointer (some ⟨w.heap.size, 0, none⟩)]] 1)).drew _ _ _ from P2.out.alloc _) (fun _ => ?_)
     clear hK KK
     (try simp only [Act.put, pu1, pu2, pu3])
     have PA : Hid (Bkk (wc.alloc (.cells #[.func (.func 104) #[] #[.pointer (some ⟨p4, 0, none⟩), .pointer (some ⟨p5, 0, none⟩), .pointer (some ⟨w.heap.size, 0, none⟩)]] 1)).drew w.heap.size 63 #[.pointer (some ⟨pf, 0, none⟩)]) := P2.out.alloc _
     refine wpAnyH_ready (rs := [4]) (by kernel_rfl) (by simp) ?_
     refine AllReadyH.cons rfl (fun KK hK => ?_) AllReadyH.nil
     have hba4 : Below wc.heap.size wc (wc.alloc (.cells #[.func (.func 104) #[] #[.pointer (some ⟨p4, 0, none⟩), .pointer (some ⟨p5, 0, none⟩), .pointer (some ⟨w.heap.size, 0, none⟩)]] 1)).drew := ((Below.refl wc.heap.size wc).alloc (Nat.le_refl _) _).drew
     have FA := Lib.hid (FF.out.below hba4)
     obtain ⟨x0, x1, x2, x3, x4⟩ := FA.out.at_.cells
     have lx := FA.out.at_.lt
     go_simp
     refine hK.out _ _ PA.out (fun _ => ?_)
     clear hK KK
     (try simp only [Act.put, pu1, pu2, pu3])
     clear x0 x1 x2 x3 x4 lx
     clear FA hba4 PA
     have hba : Below wc.heap.size wc (wc.alloc (.cells #[.func (.func 104) #[] #[.pointer (some ⟨p4, 0, none⟩), .pointer (some ⟨p5, 0, none⟩), .pointer (some ⟨w.heap.size, 0, none⟩)]] 1)).drew := ((Below.refl wc.heap.size wc).alloc (Nat.le_refl _) (.cells #[.func (.func 104) #[] #[.pointer (some ⟨p4, 0, none⟩), .pointer (some ⟨p5, 0, none⟩), .pointer (some ⟨w.heap.size, 0, none⟩)]] 1)).drew
     have FF := Lib.hid (FF.out.below hba)
     have T4 := Lib.hid (Three.below T4.out hba T4.out.lt)
     have C5 := Lib.hid (C5.out.below hba)
     have P2 := Lib.hid (P2.out.below hba)
     have R3 := Lib.hid (R3.out.grown (Below.grownBy hba none) (by simp))
     have KT := Lib.hid (KT.out.below hba)
     have ZL := Lib.hid (ZL.out.trans (hba.mono lo0))
     have SZ := Lib.hid (Nat.le_trans SZ.out hba.size)
     have HRd : Hid (Rd 1 cF (wc.alloc (.cells #[.func (.func 104) #[] #[.pointer (some ⟨p4, 0, none⟩), .pointer (some ⟨p5, 0, none⟩), .pointer (some ⟨w.heap.size, 0, none⟩)]] 1)).drew (some ⟨wc.heap.size, 0, none⟩) [.func (.func 104) #[] #[.pointer (some ⟨p4, 0, none⟩), .pointer (some ⟨p5, 0, none⟩), .pointer (some ⟨w.heap.size, 0, none⟩)]]) := rd_one1 (f := cF) wc 1 (.func (.func 104) #[] #[.pointer (some ⟨p4, 0, none⟩), .pointer (some ⟨p5, 0, none⟩), .pointer (some ⟨w.heap.size, 0, none⟩)] : Value) (.func (.func 104) #[] #[.pointer (some ⟨p4, 0, none⟩), .pointer (some ⟨p5, 0, none⟩), .pointer (some ⟨w.heap.size, 0, none⟩)] : Value) rfl
     obtain ⟨pu, hpu⟩ : ∃ X, X = wc.heap.size := ⟨_, rfl⟩
     obtain ⟨wd, hwd⟩ : ∃ X, X = (wc.alloc (.cells #[.func (.func 104) #[] #[.pointer (some ⟨p4, 0, none⟩), .pointer (some ⟨p5, 0, none⟩), .pointer (some ⟨w.heap.size, 0, none⟩)]] 1)).drew := ⟨_, rfl⟩
     rw [← hwd] at FF T4 C5 P2 R3 KT ZL SZ HRd ⊢
     rw [← hpu] at HRd ⊢
     clear hba hwd hpu
     have lo1 : lo ≤ wd.heap.size := Nat.le_trans hlo SZ.out
     refine wpAnyH_ready (rs := [7]) (by kernel_rfl) (by simp) ?_
     refine AllReadyH.cons rfl (fun KK hK => ?_) AllReadyH.nil
     refine step_app (k := 1) (f := cF) (fun _ => rfl) (by rfl) _ _ 60 (by rfl) lo 1 I .nilFunc 8 Try.underlying60 I1.out I2.out I3.out I4.out (by rfl) (by omega) _ us.length us (by rfl) FF.out.un _ _ 1 [.func (.func 104) #[] #[.pointer (some ⟨p4, 0, none⟩), .pointer (some ⟨p5, 0, none⟩), .pointer (some ⟨w.heap.size, 0, none⟩)]] rfl (by rfl) HRd.out (fun h => by cases h) (by simpa using hu1) (by unfold maxLen; omega) (by omega) lo1 ?_
     intro v3 w3 ho hg hp
     obtain ⟨V3, c3, rfl, F3⟩ := FF.out.pushU hu1 ho hg
     obtain ⟨us3, hus3⟩ : ∃ X : List Value, X = us ++ [(.func (.func 104) #[] #[.pointer (some ⟨p4, 0, none⟩), .pointer (some ⟨p5, 0, none⟩), .pointer (some ⟨w.heap.size, 0, none⟩)] : Value)] := ⟨_, rfl⟩
     rw [← hus3] at F3 ⊢
     have HUS := Lib.hid hus3
     clear hus3
     have k1 : KeptT wd w3 := KeptT.app FF.out.un (.inr rfl) hg
     have hat := FF.out.at_.grown hg (fun e => own_typeH FF.out.un FF.out.at_ (by decide) e.symm)
     have k2 := k1.trans (KeptT.pf hat 4 (.slice V3 us3.length c3))
     have z3 := (ZL.out.grown hg lo1 (fun x hx => (own_block_ge FF.out.un x hx).1)).setCell (p := ⟨pf, 4, none⟩) F3.hpf (.slice V3 us3.length c3)
     have s3 : w.heap.size ≤ (w3.setCell ⟨pf, 4, none⟩ (.slice V3 us3.length c3)).heap.size := by have := hg.size; have := SZ.out; simp; omega
     refine hK.out _ _ (k1.bkk P2.out (by decide) (by decide) (by decide)) (fun _ => ?_)
     clear hK KK
     (try simp only [Act.put, pu1, pu2, pu3])
     refine tkI 8 24 (v := ?_) rfl rfl ?_ ?_
     rotate_left
     · intro wS hSw; go_simp; (try with_reducible rfl)
     (try simp only [Act.put, pu1, pu2, pu3])
     refine tkI 9 25 (v := ?_) rfl rfl ?_ ?_
     rotate_left
     · intro wS hSw; go_simp; (try with_reducible rfl)
     (try simp only [Act.put, pu1, pu2, pu3])
     refine wpAnyH_ready (rs := [10]) (by kernel_rfl) (by simp) ?_
     refine AllReadyH.cons rfl (fun KK hK => ?_) AllReadyH.nil
     obtain ⟨x0, x1, x2, x3, x4⟩ := hat.cells
     have xf := hat.frozen
     go_simp
     refine hK.out _ _ (k2.bkk P2.out (by decide) (by decide) (by decide)) (fun _ => ?_)
     clear hK KK
     (try simp only [Act.put, pu1, pu2, pu3])
     refine wpAnyH_done (by kernel_rfl) ?_ _
     have FF := Lib.hid F3
     have T4 := Lib.hid (k2.three T4.out (by decide) (by decide) (by decide))
     have C5 := Lib.hid (k2.bkk C5.out (by decide) (by decide) (by decide))
     have R3 := Lib.hid (k2.five R3.out (by decide) (by decide) (by decide))
     have P2 := Lib.hid (k2.bkk P2.out (by decide) (by decide) (by decide))
     have KT := Lib.hid (KT.out.trans k2)
     have ZL := Lib.hid z3
     have SZ := Lib.hid s3
     clear F3 k1 k2 hat z3 s3 ho hg hp x0 x1 x2 x3 x4 xf HRd lo1 lo0
     obtain ⟨we, hwe⟩ : ∃ X, X = w3.setCell ⟨pf, 4, none⟩ (.slice V3 us3.length c3) := ⟨_, rfl⟩
     rw [← hwe] at FF T4 C5 R3 P2 KT ZL SZ ⊢
     clear hwe
     go_wp2_with (fail)
     go_meet
     case rel => exact ⟨V3, c3, by rw [← HUS.out]; exact FF.out, T4.out, C5.out, P2.out, R3.out, KT.out, ZL.out, SZ.out⟩
  case rest =>
   obtain ⟨V3, c3, FF, T4, C5, P2, R3, KT, ZL, SZ⟩ := hcut
   obtain ⟨us3, hus3⟩ : ∃ X : List Value, X = us ++ [(.func (.func 104) #[] #[.pointer (some ⟨p4, 0, none⟩), .pointer (some ⟨p5, 0, none⟩), .pointer (some ⟨w.heap.size, 0, none⟩)] : Value)] := ⟨_, rfl⟩
   rw [← hus3] at FF
   have HUS := Lib.hid hus3
   clear hus3 hu1 lo0
   obtain ⟨z0, z1, z2⟩ := T4.out.cells
   obtain ⟨y0, y1, y2, y3, y4⟩ := R3.out.cells
   go_wp2_with (fail)
   have hf := implGameDo A a B b C c E F L ⟨rc, rn, ro, rx, ry⟩ wc hE hF hL FF.out.g.gmR
   rw [← HX.out] at hf
   unfold Rq.val at hf
   refine hf.mono ?_
   clear hf
   unfold DoI
   rintro e wg ⟨A1, a1, B1, b1, C1, c1, rfl, g1, hb⟩
   have HQ : Hid (∀ x, (Value.slice Q cs.length q).ownBlock = some x → x < wc.heap.size) := fun x hx => (own_block_ge FF.out.co x hx).2
   have HL1 := Lib.hid (show lg ≤ wc.heap.size from Nat.le_trans hlg SZ.out)
   clear z0 z1 z2 y0 y1 y2 y3 y4 R3
   have FF := Lib.hid (FF.out.below hb)
   have T4 := Lib.hid (Three.below T4.out hb T4.out.lt)
   have C5 := Lib.hid (C5.out.below hb)
   have P2 := Lib.hid (P2.out.below hb)
   have KT := Lib.hid (KT.out.below hb)
   have ZL := Lib.hid (ZL.out.trans (hb.mono (Nat.le_trans hlo SZ.out)))
   have SZ := Lib.hid (Nat.le_trans SZ.out hb.size)
   have hba : Below wg.heap.size wg (wg.alloc (.cells #[.slice A1 E1.length a1, .slice B1 F1.length b1, .slice C1 L1.length c1] 29)) := (Below.refl _ _).alloc (Nat.le_refl _) _
   have G1 := Lib.hid (g1.below hba)
   have T6 := Lib.hid (Three.new (u0 := .slice A1 E1.length a1) (u1 := .slice B1 F1.length b1) (u2 := .slice C1 L1.length c1) (t := 29) wg)
   have FF := Lib.hid (FF.out.below hba)
   have T4 := Lib.hid (Three.below T4.out hba T4.out.lt)
   have C5 := Lib.hid (C5.out.below hba)
   have P2 := Lib.hid (P2.out.below hba)
   have KT := Lib.hid (KT.out.below hba)
   have ZL := Lib.hid (ZL.out.trans (hba.mono (Nat.le_trans hlo SZ.out)))
   have SZ := Lib.hid (Nat.le_trans SZ.out hba.size)
   clear hb hba g1
   unfold gameV
   go_upto_region 4 with (fail)
   obtain ⟨l1, hl1⟩ : ∃ X, X = wc.heap.size := ⟨_, rfl⟩
   obtain ⟨p6, hp6⟩ : ∃ X, X = wg.heap.size := ⟨_, rfl⟩
   obtain ⟨wh, hwh⟩ : ∃ X, X = wg.alloc (.cells #[.slice A1 E1.length a1, .slice B1 F1.length b1, .slice C1 L1.length c1] 29) := ⟨_, rfl⟩
   rw [← hwh] at FF T4 C5 P2 KT ZL SZ G1 T6 ⊢
   rw [← hp6] at T6 ⊢
   rw [← hl1] at HQ HL1 G1
   clear hwh hp6 hl1
   obtain ⟨J, hi, hz0, hz1, hz2⟩ := parts_ofH infoInt'
   have J1 := Lib.hid hi
   have J2 := Lib.hid hz0
   have J3 := Lib.hid hz1
   have J4 := Lib.hid hz2
   clear hi hz0 hz1 hz2
   refine wp_region_held_drew (S := fun WS => Bkk WS w.heap.size 63 #[.pointer (some ⟨pf, 0, none⟩)] ∧ Three WS p6 29 (.slice A1 E1.length a1) (.slice B1 F1.length b1) (.slice C1 L1.length c1) ∧ Bkk WS p5 27 #[.slice Q cs.length q]) (by kernel_rfl) ⟨P2.out, T6.out.drew, C5.out⟩ (fun hS0 => ?_)
   refine tkI 0 32 (v := ?_) rfl rfl ?_ ?_
   rotate_left
   · intro wS hSw; have b0 : wS.cell? ⟨w.heap.size, 0, none⟩ = some (.pointer (some ⟨pf, 0, none⟩)) := Bkk.cell hSw.1 0; go_simp; (try with_reducible rfl)
   (try simp only [Act.put, pu1, pu2, pu3])
   refine tkI 1 33 (v := ?_) rfl rfl ?_ ?_
   rotate_left
   · intro wS hSw; have b0 : wS.cell? ⟨w.heap.size, 0, none⟩ = some (.pointer (some ⟨pf, 0, none⟩)) := Bkk.cell hSw.1 0; go_simp; (try with_reducible rfl)
   (try simp only [Act.put, pu1, pu2, pu3])
   refine tkI 2 34 (v := ?_) rfl rfl ?_ ?_
   rotate_left
   · intro wS hSw; obtain ⟨t0, t1, t2⟩ := Three.cells hSw.2.1; go_simp; (try with_reducible rfl)
   (try simp only [Act.put, pu1, pu2, pu3])
   refine tkI 3 35 (v := ?_) rfl rfl ?_ ?_
   rotate_left
   · intro wS hSw; have d0 : wS.cell? ⟨p5, 0, none⟩ = some (.slice Q cs.length q) := Bkk.cell hSw.2.2 0; go_simp; (try with_reducible rfl)
   (try simp only [Act.put, pu1, pu2, pu3])
   refine tkI 4 36 (v := ?_) rfl rfl ?_ ?_
   rotate_left
   · intro wS hSw; go_simp; (try with_reducible rfl)
   (try simp only [Act.put, pu1, pu2, pu3])
   clear hS0
   refine wpAnyH_ready (rs := [5]) (by kernel_rfl) (by simp) ?_
   refine AllReadyH.cons rfl (fun KK hK => ?_) AllReadyH.nil
   go_simp
   refine hK.out _ _ (show Bkk (wh.alloc (.cells #[.int .i64 x1] 3)).drew _ _ _ ∧ Three (wh.alloc (.cells #[.int .i64 x1] 3)).drew _ _ _ _ _ ∧ Bkk (wh.alloc (.cells #[.int .i64 x1] 3)).drew _ _ _ from ⟨P2.out.alloc _, (T6.out.alloc _).drew, C5.out.alloc _⟩) (fun _ => ?_)
   clear hK KK
   (try simp only [Act.put, pu1, pu2, pu3])
   have hba : Below wh.heap.size wh (wh.alloc (.cells #[.int .i64 x1] 3)).drew := ((Below.refl wh.heap.size wh).alloc (Nat.le_refl _) (.cells #[.int .i64 x1] 3)).drew
   have FF := Lib.hid (FF.out.below hba)
   have T4 := Lib.hid (Three.below T4.out hba T4.out.lt)
   have C5 := Lib.hid (C5.out.below hba)
   have P2 := Lib.hid (P2.out.below hba)
   have KT := Lib.hid (KT.out.below hba)
   have ZL := Lib.hid (ZL.out.trans (hba.mono (Nat.le_trans hlo SZ.out)))
   have SZ := Lib.hid (Nat.le_trans SZ.out hba.size)
   have G1 := Lib.hid (G1.out.below hba)
   have T6 := Lib.hid (Three.below T6.out hba T6.out.lt)
   have HRd : Hid (Rd 1 cI (wh.alloc (.cells #[.int .i64 x1] 3)).drew (some ⟨wh.heap.size, 0, none⟩) [x1]) := rd_one1 (f := cI) wh 3 x1 (.int .i64 x1) rfl
   obtain ⟨px, hpx⟩ : ∃ X, X = wh.heap.size := ⟨_, rfl⟩
   obtain ⟨wi, hwi⟩ : ∃ X, X = (wh.alloc (.cells #[.int .i64 x1] 3)).drew := ⟨_, rfl⟩
   rw [← hwi] at FF T4 C5 P2 KT ZL SZ G1 T6 HRd ⊢
   rw [← hpx] at HRd ⊢
   clear hba hwi hpx
   have lo1 : lo ≤ wi.heap.size := Nat.le_trans hlo SZ.out
   refine wpAnyH_ready (rs := [6]) (by kernel_rfl) (by simp) ?_
   refine AllReadyH.cons rfl (fun KK hK => ?_) AllReadyH.nil
   refine step_app (k := 1) (f := cI) cI_len (by rfl) _ _ 27 (by rfl) lo 3 J (.int .i64 0) 8 Try.underlying27 J1.out J2.out J3.out J4.out (by rfl) (by omega) _ cs.length (ints cs) (by rfl) FF.out.co _ _ 1 [x1] rfl (by rfl) HRd.out (fun h => by cases h) (ints_one [x1]) (by unfold maxLen; omega) (by omega) lo1 ?_
   intro v7 w7 ho hg hp
   obtain ⟨Q7, q7, rfl, F7⟩ := FF.out.pushC G1.out HL1.out HQ.out ho hg hp
   obtain ⟨cs3, hcs3⟩ : ∃ X : List Int, X = cs ++ [x1] := ⟨_, rfl⟩
   rw [← hcs3] at F7 ⊢
   have HCS := Lib.hid hcs3
   clear hcs3
   have k1 : KeptT wi w7 := KeptT.app FF.out.co (.inl rfl) hg
   have hat := FF.out.at_.grown hg (fun e => own_typeH FF.out.co FF.out.at_ (by decide) e.symm)
   have t1 := hat.set0 (.slice A1 E1.length a1)
   have t2 := t1.set1 (.slice B1 F1.length b1)
   have t3 := t2.set2 (.slice C1 L1.length c1)
   have k2 := ((k1.trans (KeptT.pf hat 0 (.slice A1 E1.length a1))).trans (KeptT.pf t1 1 (.slice B1 F1.length b1))).trans (KeptT.pf t2 2 (.slice C1 L1.length c1))
   have k3 := k2.trans (KeptT.pf t3 3 (.slice Q7 cs3.length q7))
   have z3 := ((((ZL.out.grown hg lo1 (fun x hx => (own_block_ge FF.out.co x hx).1)).setCell (p := ⟨pf, 0, none⟩) F7.hpf (.slice A1 E1.length a1)).setCell (p := ⟨pf, 1, none⟩) F7.hpf (.slice B1 F1.length b1)).setCell (p := ⟨pf, 2, none⟩) F7.hpf (.slice C1 L1.length c1)).setCell (p := ⟨pf, 3, none⟩) F7.hpf (.slice Q7 cs3.length q7)
   have s3 : w.heap.size ≤ ((((w7.setCell ⟨pf, 0, none⟩ (.slice A1 E1.length a1)).setCell ⟨pf, 1, none⟩ (.slice B1 F1.length b1)).setCell ⟨pf, 2, none⟩ (.slice C1 L1.length c1)).setCell ⟨pf, 3, none⟩ (.slice Q7 cs3.length q7)).heap.size := by have := hg.size; have := SZ.out; simp; omega
   refine hK.out _ _ ⟨k1.bkk P2.out (by decide) (by decide) (by decide), k1.three T6.out (by decide) (by decide) (by decide), k1.bkk C5.out (by decide) (by decide) (by decide)⟩ (fun _ => ?_)
   clear hK KK
   (try simp only [Act.put, pu1, pu2, pu3])
   refine tkI 7 39 (v := ?_) rfl rfl ?_ ?_
   rotate_left
   · intro wS hSw; go_simp; (try with_reducible rfl)
   (try simp only [Act.put, pu1, pu2, pu3])
   refine tkI 8 40 (v := ?_) rfl rfl ?_ ?_
   rotate_left
   · intro wS hSw; go_simp; (try with_reducible rfl)
   (try simp only [Act.put, pu1, pu2, pu3])
   refine wpAnyH_ready (rs := [9]) (by kernel_rfl) (by simp) ?_
   refine AllReadyH.cons rfl (fun KK hK => ?_) AllReadyH.nil
   obtain ⟨x0, x1', x2, x3, x4⟩ := hat.cells
   have xf := hat.frozen
   go_simp
   refine hK.out _ _ ⟨k2.bkk P2.out (by decide) (by decide) (by decide), k2.three T6.out (by decide) (by decide) (by decide), k2.bkk C5.out (by decide) (by decide) (by decide)⟩ (fun _ => ?_)
   clear hK KK
   (try simp only [Act.put, pu1, pu2, pu3])
   clear x0 x1' x2 x3 x4 xf
   refine tkI 10 41 (v := ?_) rfl rfl ?_ ?_
   rotate_left
   · intro wS hSw; go_simp; (try with_reducible rfl)
   (try simp only [Act.put, pu1, pu2, pu3])
   refine tkI 11 42 (v := ?_) rfl rfl ?_ ?_
   rotate_left
   · intro wS hSw; go_simp; (try with_reducible rfl)
   (try simp only [Act.put, pu1, pu2, pu3])
   refine wpAnyH_ready (rs := [12]) (by kernel_rfl) (by simp) ?_
   refine AllReadyH.cons rfl (fun KK hK => ?_) AllReadyH.nil
   obtain ⟨x0, x1', x2, x3, x4⟩ := t3.cells
   have xf := t3.frozen
   go_simp
   refine hK.out _ _ ⟨k3.bkk P2.out (by decide) (by decide) (by decide), k3.three T6.out (by decide) (by decide) (by decide), k3.bkk C5.out (by decide) (by decide) (by decide)⟩ (fun _ => ?_)
   clear hK KK
   (try simp only [Act.put, pu1, pu2, pu3])
   refine wpAnyH_done (by kernel_rfl) ?_ _
   have UU : UndoB _ pf A a B b C c E.length F.length L.length (.func (.func 104) #[] #[.pointer (some ⟨p4, 0, none⟩), .pointer (some ⟨p5, 0, none⟩), .pointer (some ⟨w.heap.size, 0, none⟩)] : Value) := ⟨p4, p5, w.heap.size, Q, cs.length, q, rfl, k3.three T4.out (by decide) (by decide) (by decide), k3.bkk C5.out (by decide) (by decide) (by decide), k3.bkk P2.out (by decide) (by decide) (by decide)⟩
   have KF := Lib.hid (KT.out.trans k3)
   have FL := Lib.hid F7
   have UL := Lib.hid UU
   have ZF := Lib.hid z3
   have SF := Lib.hid s3
   clear UU F7 k1 k2 k3 hat t1 t2 t3 z3 s3 ho hg hp x0 x1' x2 x3 x4 xf
   go_wp2
   refine bodyPost_end (v := .tuple #[]) (by simp [results, Try.results82, go_sem]) rfl ⟨rfl, ⟨A1, a1, B1, b1, C1, c1, Q7, q7, V3, c3, (.func (.func 104) #[] #[.pointer (some ⟨p4, 0, none⟩), .pointer (some ⟨p5, 0, none⟩), .pointer (some ⟨w.heap.size, 0, none⟩)] : Value), by rw [← HUS.out, ← HCS.out]; exact FL.out, UL.out⟩, ZF.out, KF.out, SF.out⟩
end Go.Proofs.Ytameldhdegcpoaa
