/- What is stable: the program's way, counts in a map. -/
import Derived.Test.YtgbnoemoangofaaYg
import Derived.WideKeyEntry
import Derived.Maps.OwnOps
import Derived.Test.YtgbnoemoangofaaFe
namespace Go.Proofs.Ytgbnoemoangofaa
open Go.ChangeShapes Go.WideShapes Go.ChangeAt Go.RowKit Go.Maps Go.WideMaps Go.ChangeMaps
set_option linter.unusedVariables false
set_option linter.unusedSimpArgs false

theorem klawPt : KeyLaw Try.prog 60 := deep_law_laid Try.laidOut (m := 2) (by omega) rowPt (by kernel_rfl) widePt
theorem zeroI (w : World) : (zeroValue 3).run Try.prog w = .ok (.int .i64 0) w := by kernel_rfl
abbrev OwZQ (w : World) (b n : Nat) (D : DataW Unit) : Prop := w.ownsMap Try.prog 60 (plainElem Try.prog 3) b n D
theorem setBlock_two (w : World) (b : Nat) (o o' : Obj) : setBlock (setBlock w b o) b o' = setBlock w b o' := by
  unfold setBlock
  simp
theorem wfI {c : Nat} (h : c ≤ 4611686018427387904) : (Lit.int .i64 (c : Int)).wf = true := by
  simp [Lit.wf, IntKind.min, IntKind.max, IntKind.signed, IntKind.bits]
  omega
set_option maxRecDepth 100000 in
theorem entry_own {w : World} {b n : Nat} {D : DataW Unit} (h : OwZQ w b n D) (hn : n < maxLen) {p : Int × Int} (hp : kbP p) :
    ∃ (v0 : Value) (st : Nat) (W2 : World), (Instr.mapEntry 58 (.map (some b)) (kyV p)).run Try.prog w = .ok (.tuple #[v0, goInt st]) W2 ∧ (∃ D', OwZQ W2 b (n + 1) D' ∧ (D' = D ∨ (D' = D.put (klP p) (.lit (.int .i64 0)) ∧ D.atKey (klP p) (.lit (.int .i64 0)) = .lit (.int .i64 0)))) ∧ w.grownBy W2 (some b) ∧
      ∀ c : Nat, c ≤ 4611686018427387904 → ∃ W3, (Instr.entryStore 58 (.map (some b)) (goInt st) (.int .i64 (c : Int))).run Try.prog W2 = .ok () W3 ∧ OwZQ W3 b (n + 1) (D.put (klP p) (.lit (.int .i64 (c : Int)))) ∧ w.grownBy W3 (some b) := by
  have hkey := keyPt hp
  have hown := h
  obtain ⟨es, clock, hb, F, hsz, hD⟩ := h
  obtain ⟨v0, st, es1, clock1, r1, _, r2⟩ := Go.WideElems.entry_then_store klawPt Try.underlying58 (fun u => zeroI u) hb F hkey
  refine ⟨v0, st, _, r1, ?_, ⟨rfl, rfl, rfl, by simp [setBlock], fun i _ hi => heap_setBlock_other hb _ (fun e => hi (by rw [e]))⟩, fun c hc => ?_⟩
  · rcases klawPt.find w hkey es.toList F.keys with ⟨h1, h2⟩ | ⟨j, e0, h1, h2, h3⟩
    · have hr : (Instr.mapEntry 58 (.map (some b)) (kyV p)).run Try.prog w = .ok (.tuple #[.int .i64 0, goInt clock]) (setBlock w b (.map (es.push ⟨kyV p, .int .i64 0, clock⟩) (clock + 1))) := by
        simp [Instr.mapEntry, run_underlying Try.underlying58, MapKept.run_getObj_map hb, klawPt.check w false hkey, h1, zeroI, MapKept.run_setObj_map _ hb, Result.andThen, setBlock]
      have hu : (Instr.mapUpdate 58 (.map (some b)) (kyV p) (.int .i64 0)).run Try.prog w = .ok () (setBlock w b (.map (es.push ⟨kyV p, .int .i64 0, clock⟩) (clock + 1))) := by
        simp [Instr.mapUpdate, run_underlying Try.underlying58, MapKept.run_getObj_map hb, klawPt.check w false hkey, h1, MapKept.run_setObj_map _ hb, Result.andThen, setBlock]
      obtain ⟨w', u1, u2, _⟩ := hown.update lawPt Try.underlying58 hn hkey (plainElem_int Try.underlying3 (by decide : (Lit.int .i64 0).wf = true))
      rw [hu] at u1
      injection u1 with _ u1
      rw [hr] at r1
      injection r1 with _ r1
      obtain ⟨c0, l1, l2, _⟩ := hown.lookup_int lawPt Try.underlying58 Try.underlying3 (zeroI w) hkey
      have hl : (Instr.lookup 58 (.map (some b)) (kyV p) false).run Try.prog w = .ok (.int .i64 0) w := by
        simp [Instr.lookup, run_underlying Try.underlying58, MapKept.run_getObj_map hb, klawPt.check w es.isEmpty hkey, h1, zeroI, Result.andThen]
      rw [hl] at l1
      injection l1 with l1 _
      injection l1 with _ l1
      rw [← r1, u1]
      exact ⟨_, u2, .inr ⟨rfl, by rw [l2, ← l1]⟩⟩
    · have hj : es[j]? = some e0 := by simpa using h2
      have hsame : es.modify j (fun e => { e with key := kyV p }) = es := by
        apply Array.ext'
        rw [Array.toList_modify, modify_eq_set _ _ _ _ h2]
        have e1 : ({ e0 with key := kyV p } : MapEntry) = e0 := by rw [← h3]
        rw [e1]
        exact Go.WideElems.set_self _ _ _ h2
      have hr : (Instr.mapEntry 58 (.map (some b)) (kyV p)).run Try.prog w = .ok (.tuple #[e0.val, goInt e0.born]) (setBlock w b (.map es clock)) := by
        simp [Instr.mapEntry, run_underlying Try.underlying58, MapKept.run_getObj_map hb, klawPt.check w false hkey, h1, hj, h3, klawPt.stays w hkey, hsame, MapKept.run_setObj_map _ hb, Result.andThen, setBlock]
      rw [hr] at r1
      injection r1 with _ r1
      rw [← r1]
      exact ⟨D, ⟨es, clock, heap_setBlock_same hb _, F, by omega, hD⟩, .inl rfl⟩
  · obtain ⟨es', clock', s1, s2⟩ := r2 (setBlock w b (.map es1 clock1)) (.int .i64 (c : Int)) (heap_setBlock_same hb _)
    obtain ⟨w', u1, u2, u3⟩ := hown.update lawPt Try.underlying58 hn hkey (plainElem_int Try.underlying3 (wfI hc))
    rw [s2] at u1
    injection u1 with _ u1
    refine ⟨_, s1, ?_, ?_⟩
    · rw [setBlock_two, u1]; exact u2
    · rw [setBlock_two, u1]; exact u3
theorem look_own {w : World} {b n : Nat} {D : DataW Unit} (h : OwZQ w b n D) {p : Int × Int} (hp : kbP p) {c : Int} (hD : D.atKey (klP p) (.lit (.int .i64 0)) = .lit (.int .i64 c)) : (Instr.lookup 58 (.map (some b)) (kyV p) false).run Try.prog w = .ok (.int .i64 c) w := by
  obtain ⟨c', r1, r2, _⟩ := h.lookup_int lawPt Try.underlying58 Try.underlying3 (zeroI w) (keyPt hp)
  rw [hD] at r2
  injection r2 with r2
  injection r2 with _ r2
  rw [r1, r2]

theorem wp_held_drewC {P : Program} {ops : Array Oper} {Q : Exit → Act → World → Prop} (S : World → Prop) {id : Nat} {a : Act} {w : World} (hm : P.follows .mixedOrders = true) (hS : S w.drew)
    (h : S w.drew → wpAnyH P .any ops Q S ops.size (Array.replicate ops.size false) a w.drew) : (Code.region id ops true).wp P Q a w :=
  wp_region_any hm (wpAny_of_held _ _ _ _ (h hS))
theorem best_take {L : List Ck} {j : Nat} {x : Ck} {r : Int × Int × Bool} (ht : L.take (j + 1) = L.take j ++ [x]) (h : BestC (L.take j) r) : BestC (L.take (j + 1)) (nextC (L.take j) x r) := by rw [ht]; exact best_next h
theorem next_no {L : List Ck} {x : Ck} {r : Int × Int × Bool} (h : ¬ (3 ≤ manyC (L ++ [x]) (kyC x) ∧ (r.2.2 = false ∨ r.1 < x.f))) : nextC L x r = r := by unfold nextC; rw [if_neg h]
theorem next_yes {L : List Ck} {x : Ck} {r : Int × Int × Bool} (h : 3 ≤ manyC (L ++ [x]) (kyC x) ∧ (r.2.2 = false ∨ r.1 < x.f)) : nextC L x r = (x.f, x.n, true) := by unfold nextC; rw [if_pos h]

set_option maxRecDepth 100000 in
set_option maxHeartbeats 8000000 in
theorem implStableYes (A : Option Addr) (a : Nat) (L : List Ck) (w : World) (hl : L.length ≤ 1048577) (hr : Rd 3 Ck.cells w A L) (hok : okC L = true) :
    Calls Try.prog 16 #[.slice A L.length a] w (DoST (stC L) w) := by
  have HR := Lib.hid hr
  have HO := Lib.hid (okC_iff.1 hok)
  have h24 := (okC_iff.1 hok).len
  have HOK := Lib.hid hok
  have hmm := @run_makeMap Try.prog
  clear hr hok
  go_enter Try.func16, Try.ntmps16
  go_wp2_with (fail)
  refine (implCheckOk A a L _ (by omega) HR.out).mono ?_
  rintro e w1 ⟨rfl, hb⟩
  rw [HOK.out]
  have Z := Lib.hid hb
  have LW := Lib.hid (show w.heap.size ≤ w1.heap.size from hb.size)
  clear hb
  have hb1 : Below w1.heap.size w1 (w1.alloc (.map #[] 0)) := (Below.refl _ _).alloc (Nat.le_refl _) _
  have OM : Hid (OwZQ (w1.alloc (.map #[] 0)) w1.heap.size 0 (.map [])) := World.ownsMap_made w1 Try.prog 60 (plainElem Try.prog 3)
  have hb2 : Below (w1.alloc (.map #[] 0)).heap.size (w1.alloc (.map #[] 0)) ((w1.alloc (.map #[] 0)).alloc (.cells #[.int .i64 0, .int .i64 0] 60)) := (Below.refl _ _).alloc (Nat.le_refl _) _
  replace OM := Lib.hid (OM.out.alloc (.cells #[.int .i64 0, .int .i64 0] 60))
  have KP : Hid (Bkk ((w1.alloc (.map #[] 0)).alloc (.cells #[.int .i64 0, .int .i64 0] 60)) (w1.alloc (.map #[] 0)).heap.size 60 #[.int .i64 0, .int .i64 0]) := Bkk.new _
  replace Z := Lib.hid (Below.and (Below.and Z.out hb1) hb2)
  have e1 : (w1.alloc (.map #[] 0)).heap.size = w1.heap.size + 1 := by simp
  rw [e1] at KP
  clear hb1 hb2 e1
  go_upto_region 5 with (fail)
  obtain ⟨w2, hw2⟩ : ∃ X, X = (w1.alloc (.map #[] 0)).alloc (.cells #[.int .i64 0, .int .i64 0] 60) := ⟨_, rfl⟩
  obtain ⟨mb, hmb⟩ : ∃ X, X = w1.heap.size := ⟨_, rfl⟩
  rw [← hw2] at OM KP Z ⊢
  rw [← hmb] at OM KP LW ⊢
  obtain ⟨pb, hpb⟩ : ∃ X, X = mb + 1 := ⟨_, rfl⟩
  have HPB := Lib.hid hpb
  rw [← hpb] at KP ⊢
  have GEB : Hid (pb < w2.heap.size) := KP.out.lt
  clear hw2 hmb hpb hmm
  go_wp2
  go_loopw [7, 17] (fun u v wr => ∃ (j : Nat) (r : Int × Int × Bool) (D : DataW Unit), j ≤ L.length ∧ u = .bool r.2.2 ∧ v = .int .i64 (j : Int) ∧ Hid (BestC (L.take j) r) ∧ Hid (OwZQ wr mb j D) ∧ Hid (Maps.IsMap D ∧ ∀ k, kbP k → D.atKey (klP k) (.lit (.int .i64 0)) = .lit (.int .i64 ((manyC (L.take j) k : Nat) : Int))) ∧ Hid (Bkk wr pb 60 #[.int .i64 r.1, .int .i64 r.2.1]) ∧ Hid (Below w.heap.size w wr) ∧ Hid (pb < wr.heap.size)) (fun _ v _ => L.length - (intOf v).toNat)
  case atStart => exact ⟨0, (0, 0, false), .map [], Nat.zero_le _, rfl, rfl, best_nil, OM.out, ⟨tidy_empty.isMap, fun k _ => rfl⟩, KP.out, Z.out, GEB.out⟩
  case round =>
    clear OM KP Z GEB
    obtain ⟨j, ⟨rf, rn, rb⟩, D, hj, rfl, rfl, HBst, OM, HC, KP, Z, GEB⟩ := hrel
    by_cases hlt : j < L.length
    · have i0 : (0 : Int) ≤ (j : Int) := by omega
      have i1 : (j : Int) < (L.length : Int) := by omega
      obtain ⟨g, o, hg, xc⟩ := Rd.below HR.out Z.out j hlt
      subst hg
      have HT := Lib.hid (List.take_succ_eq_append_getElem hlt)
      have HK := Lib.hid (kbC_of (HO.out.ok _ (List.getElem_mem hlt)))
      generalize L[j] = x at xc HT HK
      have x0 : wr.cell? ⟨g, o + j * 3, none⟩ = some (.int .i64 x.a) := xc 0 _ rfl
      have x1 : wr.cell? ⟨g, o + j * 3 + 1, none⟩ = some (.int .i64 x.f) := xc 1 _ rfl
      have x2 : wr.cell? ⟨g, o + j * 3 + 2, none⟩ = some (.int .i64 x.n) := xc 2 _ rfl
      clear xc
      have lx : g < wr.heap.size := World.block_lt_of_cell? wr _ x0
      have hba : Below wr.heap.size wr (wr.alloc (.cells (ckCs x) 25)) := (Below.refl _ _).alloc (Nat.le_refl _) _
      have KX : Hid (Bkk (wr.alloc (.cells (ckCs x) 25)) wr.heap.size 25 (ckCs x)) := Bkk.new _
      replace OM := Lib.hid (OM.out.alloc (.cells (ckCs x) 25))
      replace KP := Lib.hid (KP.out.below hba)
      replace Z := Lib.hid (Below.and Z.out hba)
      replace GEB := Lib.hid (Nat.lt_of_lt_of_le GEB.out hba.size)
      clear hba
      go_upto_region 9 with (fail)
      obtain ⟨xb, hxb⟩ : ∃ X, X = wr.heap.size := ⟨_, rfl⟩
      obtain ⟨w3, hw3⟩ : ∃ X, X = wr.alloc (.cells (ckCs x) 25) := ⟨_, rfl⟩
      rw [← hw3] at OM KX KP Z GEB ⊢
      rw [← hxb] at KX ⊢
      clear hw3 hxb x0 x1 x2 lx
      have y0 : w3.cell? ⟨xb, 0, none⟩ = some (.int .i64 x.a) := KX.out.cell 0
      have y1 : w3.cell? ⟨xb, 1, none⟩ = some (.int .i64 x.f) := KX.out.cell 1
      have y2 : w3.cell? ⟨xb, 2, none⟩ = some (.int .i64 x.n) := KX.out.cell 2
      have ly := KX.out.lt
      have yf := KX.out.frozen
      have hba : Below w3.heap.size w3 (w3.alloc (.cells #[.int .i64 x.f, .int .i64 x.n] 60)) := (Below.refl _ _).alloc (Nat.le_refl _) _
      have KK2 : Hid (Bkk (w3.alloc (.cells #[.int .i64 x.f, .int .i64 x.n] 60)) w3.heap.size 60 (kyCs (kyC x))) := Bkk.new _
      have HPK := Lib.hid (show pb < w3.heap.size from GEB.out)
      have HMK := Lib.hid (show mb < w3.heap.size from OM.out.lt)
      replace OM := Lib.hid (OM.out.alloc (.cells #[.int .i64 x.f, .int .i64 x.n] 60))
      replace KP := Lib.hid (KP.out.below hba)
      replace Z := Lib.hid (Below.and Z.out hba)
      replace GEB := Lib.hid (Nat.lt_of_lt_of_le GEB.out hba.size)
      clear hba
      go_upto_region 10 with (fail)
      obtain ⟨kb, hkb⟩ : ∃ X, X = w3.heap.size := ⟨_, rfl⟩
      obtain ⟨w4, hw4⟩ : ∃ X, X = (w3.alloc (.cells #[.int .i64 x.f, .int .i64 x.n] 60)).drew := ⟨_, rfl⟩
      have OM4 := Lib.hid (show OwZQ w4 mb j D by rw [hw4]; exact OM.out.drew)
      have KP4 : Hid (Bkk w4 pb 60 #[.int .i64 rf, .int .i64 rn]) := by rw [hw4]; exact KP.out
      have KK4 := Lib.hid (show Bkk w4 kb 60 (kyCs (kyC x)) by rw [hw4, hkb]; exact KK2.out)
      have Z4 := Lib.hid (show Below w.heap.size w w4 by rw [hw4]; exact Z.out.drew)
      have GEB4 := Lib.hid (show pb < w4.heap.size by rw [hw4]; exact GEB.out)
      rw [← hkb] at HPK HMK
      clear OM KP KK2 Z GEB KX y0 y1 y2 ly yf
      have HM1 := Lib.hid (many_take HT.out (kyC x))
      have hml : manyC (L.take j) (kyC x) ≤ 1048577 := Nat.le_trans (many_le _ _) (by rw [List.length_take]; omega)
      have HC0 := Lib.hid (HC.out.2 (kyC x) HK.out)
      obtain ⟨m, hm⟩ : ∃ m, manyC (L.take j) (kyC x) = m := ⟨_, rfl⟩
      rw [hm] at HM1 HC0 hml
      rw [if_pos rfl] at HM1
      obtain ⟨v0, st, w5, em, ⟨D', oD', hD'⟩, hg5, hst⟩ := entry_own OM4.out (by unfold maxLen; omega) HK.out
      replace em : (Instr.mapEntry 58 (.map (some mb)) (.agg #[.int .i64 x.f, .int .i64 x.n])).run Try.prog w4 = .ok (.tuple #[v0, goInt st]) w5 := em
      obtain ⟨w6, es, o6, hg6⟩ := hst (m + 1) (by omega)
      have el : (Instr.lookup 58 (.map (some mb)) (.agg #[.int .i64 x.f, .int .i64 x.n]) false).run Try.prog w4 = .ok (.int .i64 (m : Int)) w4 := look_own OM4.out HK.out HC0.out
      have el5 : (Instr.lookup 58 (.map (some mb)) (.agg #[.int .i64 x.f, .int .i64 x.n]) false).run Try.prog w5 = .ok (.int .i64 (m : Int)) w5 := look_own oD' HK.out (c := (m : Int)) (by
        rcases hD' with e | ⟨e, e0⟩
        · rw [e]; exact HC0.out
        · rw [e, atKey_put_same HC.out.1 (isKeyK _)]
          exact e0.symm.trans HC0.out)
      have HD2 := Lib.hid (show Maps.IsMap (D.put (klP (kyC x)) (.lit (.int .i64 ((m + 1 : Nat) : Int)))) ∧ ∀ k, kbP k → (D.put (klP (kyC x)) (.lit (.int .i64 ((m + 1 : Nat) : Int)))).atKey (klP k) (.lit (.int .i64 0)) = .lit (.int .i64 ((manyC (L.take (j + 1)) k : Nat) : Int)) from by
        refine ⟨HC.out.1.put _ _, fun k hk => ?_⟩
        by_cases e : kyC x = k
        · subst e
          rw [atKey_put_same HC.out.1 (isKeyK _), HM1.out]
        · rw [atKey_put_other (fun e2 => e (klP_inj HK.out hk e2.symm)), HC.out.2 k hk, many_take HT.out k, if_neg e]
          rfl)
      have OM := Lib.hid o6
      have el6 : (Instr.lookup 58 (.map (some mb)) (.agg #[.int .i64 x.f, .int .i64 x.n]) false).run Try.prog w6 = .ok (.int .i64 ((m : Int) + 1)) w6 := look_own o6 HK.out (c := ((m + 1 : Nat) : Int)) (by rw [atKey_put_same HC.out.1 (isKeyK _)])
      have KP := Lib.hid (Bkk.grownK KP4.out hg6 (by have := HPB.out; simp; omega))
      have KK5 := Lib.hid (Bkk.grownK KK4.out hg5 (by have := HMK.out; simp; omega))
      have KK6 := Lib.hid (Bkk.grownK KK4.out hg6 (by have := HMK.out; simp; omega))
      have Z := Lib.hid (Z4.out.grown hg6 Z4.out.size (fun q hq => by injection hq with hq; rw [← hq]; exact LW.out))
      have GEB := Lib.hid (show pb < w6.heap.size from Nat.lt_of_lt_of_le GEB4.out hg6.size)
      have ew : IntKind.i64.wrap ((m : Int) + 1) = (m : Int) + 1 := IntWalk.i64_in _ (by omega)
      replace es : (Instr.entryStore 58 (.map (some mb)) (.int .i64 (st : Int)) (.int .i64 ((m : Int) + 1))).run Try.prog w5 = .ok () w6 := es
      clear hst oD' hD' hg5 o6 OM4 HC0 hm
      rw [← hkb]
      have k0 : w4.cell? ⟨kb, 0, none⟩ = some (.int .i64 x.f) := KK4.out.cell 0
      have k1 : w4.cell? ⟨kb, 1, none⟩ = some (.int .i64 x.n) := KK4.out.cell 1
      have kf := KK4.out.frozen
      have kl := KK4.out.lt
      refine wp_held_drewC (fun w1 => w1.cell? ⟨kb, 0, none⟩ = some (.int .i64 x.f) ∧ w1.cell? ⟨kb, 1, none⟩ = some (.int .i64 x.n) ∧ kb < w1.heap.size) (by kernel_rfl) (by rw [← hw4]; exact ⟨k0, k1, kl⟩) (fun hS0 => ?_)
      rw [← hw4] at hS0 ⊢
      clear hw4 hkb
      refine takeR 0 26 (v := ?_) rfl rfl (by kernel_rfl) (by kernel_rfl) (by kernel_rfl) (fun _ _ _ h => h) (Or.inl ⟨by rfl, ?_⟩) (by assumption) ?_
      rotate_left
      · intro w1 hSw; obtain ⟨hs1, hs2, hs3⟩ := hSw; go_simp; (try with_reducible rfl)
      (try simp only [Act.put, List.setIfInBounds_toArray, List.set_cons_zero, List.set_cons_succ])
      refine takeR 1 27 (v := ?_) rfl rfl (by kernel_rfl) (by kernel_rfl) (by kernel_rfl) (fun _ _ _ h => h) (Or.inl ⟨by rfl, ?_⟩) (by assumption) ?_
      rotate_left
      · intro w1 hSw; obtain ⟨hs1, hs2, hs3⟩ := hSw; go_simp; (try with_reducible rfl)
      (try simp only [Act.put, List.setIfInBounds_toArray, List.set_cons_zero, List.set_cons_succ])
      refine wpAnyH_ready (rs := [2, 4]) (by kernel_rfl) (by simp) ?_
      refine AllReadyH.cons rfl (fun KK hK => ?_) (AllReadyH.cons rfl (fun KK hK => ?_) AllReadyH.nil)
      · go_simp
        refine hK.out _ _ ⟨k0, k1, kl⟩ (fun hS1 => ?_)
        clear hK KK
        (try simp only [Act.put, List.setIfInBounds_toArray, List.set_cons_zero, List.set_cons_succ])
        refine takeR 3 29 (v := ?_) rfl rfl (by kernel_rfl) (by kernel_rfl) (by kernel_rfl) (fun _ _ _ h => h) (Or.inl ⟨by rfl, ?_⟩) (by assumption) ?_
        rotate_left
        · intro w1 hSw; obtain ⟨hs1, hs2, hs3⟩ := hSw; go_simp; (try with_reducible rfl)
        (try simp only [Act.put, List.setIfInBounds_toArray, List.set_cons_zero, List.set_cons_succ])
        refine wpAnyH_ready (rs := [4]) (by kernel_rfl) (by simp) ?_
        refine AllReadyH.cons rfl (fun KK hK => ?_) AllReadyH.nil
        go_simp
        refine hK.out _ _ ⟨KK5.out.cell 0, KK5.out.cell 1, KK5.out.lt⟩ (fun hS1 => ?_)
        clear hK KK
        (try simp only [Act.put, List.setIfInBounds_toArray, List.set_cons_zero, List.set_cons_succ])
        refine takeR 5 31 (v := ?_) rfl rfl (by kernel_rfl) (by kernel_rfl) (by kernel_rfl) (fun _ _ _ h => h) (Or.inl ⟨by rfl, ?_⟩) (by assumption) ?_
        rotate_left
        · intro w1 hSw; obtain ⟨hs1, hs2, hs3⟩ := hSw; go_simp; (try with_reducible rfl)
        (try simp only [Act.put, List.setIfInBounds_toArray, List.set_cons_zero, List.set_cons_succ])
        refine wpAnyH_ready (rs := [6]) (by kernel_rfl) (by simp) ?_
        refine AllReadyH.cons rfl (fun KK hK => ?_) AllReadyH.nil
        go_simp
        refine hK.out _ _ ⟨KK6.out.cell 0, KK6.out.cell 1, KK6.out.lt⟩ (fun hS1 => ?_)
        clear hK KK
        (try simp only [Act.put, List.setIfInBounds_toArray, List.set_cons_zero, List.set_cons_succ])
        refine wpAnyH_done (by kernel_rfl) ?_ _
        clear el el5 em es ew k0 k1 kf kl hS0
        have k0 : w6.cell? ⟨kb, 0, none⟩ = some (.int .i64 x.f) := KK6.out.cell 0
        have k1 : w6.cell? ⟨kb, 1, none⟩ = some (.int .i64 x.n) := KK6.out.cell 1
        have kf := KK6.out.frozen
        have kl := KK6.out.lt
        have p0 : w6.cell? ⟨pb, 0, none⟩ = some (.int .i64 rf) := KP.out.cell 0
        have p1 : w6.cell? ⟨pb, 1, none⟩ = some (.int .i64 rn) := KP.out.cell 1
        have pf := KP.out.frozen
        have pl := KP.out.lt
        have HM2 := Lib.hid (show manyC (L.take j ++ [x]) (kyC x) = m + 1 by rw [← HT.out]; exact HM1.out)
        by_cases h3 : 3 ≤ m + 1
        · have i3 : (3 : Int) ≤ (m : Int) + 1 := by omega
          rcases rb with _ | _
          · skip
            have HCON := Lib.hid (show (3 ≤ manyC (L.take j ++ [x]) (kyC x) ∧ ((false : Bool) = false ∨ rf < x.f)) from ⟨by rw [HM2.out]; exact h3, .inl rfl⟩)
            have HN := Lib.hid (show BestC (L.take (j + 1)) (x.f, x.n, true) by have h8 := best_take HT.out HBst.out; rw [next_yes HCON.out] at h8; exact h8)
            have gw := grownBy_trans (grownBy_set w6 pb 0 (.int .i64 x.f)) (grownBy_set (w6.setCell ⟨pb, 0, none⟩ (.int .i64 x.f)) pb 1 (.int .i64 x.n))
            have OM7 := Lib.hid (OM.out.kept gw (by have := HPB.out; simp; omega))
            have KP7 : Hid (Bkk ((w6.setCell ⟨pb, 0, none⟩ (.int .i64 x.f)).setCell ⟨pb, 1, none⟩ (.int .i64 x.n)) pb 60 #[.int .i64 x.f, .int .i64 x.n]) := (KP.out.set 0 (.int .i64 x.f)).set 1 (.int .i64 x.n)
            have Z7 := Lib.hid (Z.out.grown gw Z.out.size (fun q hq => by injection hq with hq; have := HPB.out; have := LW.out; omega))
            have GEB7 := Lib.hid (Nat.lt_of_lt_of_le GEB.out gw.size)
            clear gw OM KP Z GEB
            go_upto_region 13 with (fail)
            obtain ⟨w7, hw7⟩ : ∃ X, X = (w6.setCell ⟨pb, 0, none⟩ (.int .i64 x.f)).setCell ⟨pb, 1, none⟩ (.int .i64 x.n) := ⟨_, rfl⟩
            rw [← hw7] at OM7 KP7 Z7 GEB7 ⊢
            clear hw7 p0 p1 pf pl k0 k1 kf kl el6
            go_wp2
            go_roundw
            case rel => exact ⟨j + 1, (x.f, x.n, true), _, by omega, rfl, by go_num, HN.out, OM7.out, HD2.out, KP7.out, Z7.out, GEB7.out⟩
            case measure => (simp [intOf]; try omega)
          · by_cases hc : rf < x.f
            · have HCON := Lib.hid (show (3 ≤ manyC (L.take j ++ [x]) (kyC x) ∧ ((true : Bool) = false ∨ rf < x.f)) from ⟨by rw [HM2.out]; exact h3, .inr hc⟩)
              have HN := Lib.hid (show BestC (L.take (j + 1)) (x.f, x.n, true) by have h8 := best_take HT.out HBst.out; rw [next_yes HCON.out] at h8; exact h8)
              have gw := grownBy_trans (grownBy_set w6 pb 0 (.int .i64 x.f)) (grownBy_set (w6.setCell ⟨pb, 0, none⟩ (.int .i64 x.f)) pb 1 (.int .i64 x.n))
              have OM7 := Lib.hid (OM.out.kept gw (by have := HPB.out; simp; omega))
              have KP7 : Hid (Bkk ((w6.setCell ⟨pb, 0, none⟩ (.int .i64 x.f)).setCell ⟨pb, 1, none⟩ (.int .i64 x.n)) pb 60 #[.int .i64 x.f, .int .i64 x.n]) := (KP.out.set 0 (.int .i64 x.f)).set 1 (.int .i64 x.n)
              have Z7 := Lib.hid (Z.out.grown gw Z.out.size (fun q hq => by injection hq with hq; have := HPB.out; have := LW.out; omega))
              have GEB7 := Lib.hid (Nat.lt_of_lt_of_le GEB.out gw.size)
              clear gw OM KP Z GEB
              go_upto_region 13 with (fail)
              obtain ⟨w7, hw7⟩ : ∃ X, X = (w6.setCell ⟨pb, 0, none⟩ (.int .i64 x.f)).setCell ⟨pb, 1, none⟩ (.int .i64 x.n) := ⟨_, rfl⟩
              rw [← hw7] at OM7 KP7 Z7 GEB7 ⊢
              clear hw7 p0 p1 pf pl k0 k1 kf kl el6
              go_wp2
              go_roundw
              case rel => exact ⟨j + 1, (x.f, x.n, true), _, by omega, rfl, by go_num, HN.out, OM7.out, HD2.out, KP7.out, Z7.out, GEB7.out⟩
              case measure => (simp [intOf]; try omega)
            · have HCON := Lib.hid (show ¬ (3 ≤ manyC (L.take j ++ [x]) (kyC x) ∧ ((true : Bool) = false ∨ rf < x.f)) from fun hh => by rcases hh.2 with h | h; (· cases h); (· exact hc h))
              have HN := Lib.hid (show BestC (L.take (j + 1)) (rf, rn, true) by have h8 := best_take HT.out HBst.out; rw [next_no HCON.out] at h8; exact h8)
              go_upto_region 13 with (fail)
              clear p0 p1 pf pl k0 k1 kf kl el6
              go_wp2
              go_roundw
              case rel => exact ⟨j + 1, (rf, rn, true), _, by omega, rfl, by go_num, HN.out, OM.out, HD2.out, KP.out, Z.out, GEB.out⟩
              case measure => (simp [intOf]; try omega)
        · have i3 : ¬ (3 : Int) ≤ (m : Int) + 1 := by omega
          have HCON := Lib.hid (show ¬ (3 ≤ manyC (L.take j ++ [x]) (kyC x) ∧ ((rb : Bool) = false ∨ rf < x.f)) from fun hh => h3 (by rw [← HM2.out]; exact hh.1))
          have HN := Lib.hid (show BestC (L.take (j + 1)) (rf, rn, rb) by have h8 := best_take HT.out HBst.out; rw [next_no HCON.out] at h8; exact h8)
          go_upto_region 13 with (fail)
          clear p0 p1 pf pl k0 k1 kf kl el6
          go_wp2
          go_roundw
          case rel => exact ⟨j + 1, (rf, rn, rb), _, by omega, rfl, by go_num, HN.out, OM.out, HD2.out, KP.out, Z.out, GEB.out⟩
          case measure => (simp [intOf]; try omega)
      · go_simp
        refine hK.out _ _ ⟨KK5.out.cell 0, KK5.out.cell 1, KK5.out.lt⟩ (fun hS1 => ?_)
        clear hK KK
        (try simp only [Act.put, List.setIfInBounds_toArray, List.set_cons_zero, List.set_cons_succ])
        refine takeR 5 31 (v := ?_) rfl rfl (by kernel_rfl) (by kernel_rfl) (by kernel_rfl) (fun _ _ _ h => h) (Or.inl ⟨by rfl, ?_⟩) (by assumption) ?_
        rotate_left
        · intro w1 hSw; obtain ⟨hs1, hs2, hs3⟩ := hSw; go_simp; (try with_reducible rfl)
        (try simp only [Act.put, List.setIfInBounds_toArray, List.set_cons_zero, List.set_cons_succ])
        refine wpAnyH_ready (rs := [2]) (by kernel_rfl) (by simp) ?_
        refine AllReadyH.cons rfl (fun KK hK => ?_) AllReadyH.nil
        go_simp
        refine hK.out _ _ ⟨KK5.out.cell 0, KK5.out.cell 1, KK5.out.lt⟩ (fun hS1 => ?_)
        clear hK KK
        (try simp only [Act.put, List.setIfInBounds_toArray, List.set_cons_zero, List.set_cons_succ])
        refine takeR 3 29 (v := ?_) rfl rfl (by kernel_rfl) (by kernel_rfl) (by kernel_rfl) (fun _ _ _ h => h) (Or.inl ⟨by rfl, ?_⟩) (by assumption) ?_
        rotate_left
        · intro w1 hSw; obtain ⟨hs1, hs2, hs3⟩ := hSw; go_simp; (try with_reducible rfl)
        (try simp only [Act.put, List.setIfInBounds_toArray, List.set_cons_zero, List.set_cons_succ])
        refine wpAnyH_ready (rs := [6]) (by kernel_rfl) (by simp) ?_
        refine AllReadyH.cons rfl (fun KK hK => ?_) AllReadyH.nil
        go_simp
        refine hK.out _ _ ⟨KK6.out.cell 0, KK6.out.cell 1, KK6.out.lt⟩ (fun hS1 => ?_)
        clear hK KK
        (try simp only [Act.put, List.setIfInBounds_toArray, List.set_cons_zero, List.set_cons_succ])
        refine wpAnyH_done (by kernel_rfl) ?_ _
        clear el el5 em es ew k0 k1 kf kl hS0
        have k0 : w6.cell? ⟨kb, 0, none⟩ = some (.int .i64 x.f) := KK6.out.cell 0
        have k1 : w6.cell? ⟨kb, 1, none⟩ = some (.int .i64 x.n) := KK6.out.cell 1
        have kf := KK6.out.frozen
        have kl := KK6.out.lt
        have p0 : w6.cell? ⟨pb, 0, none⟩ = some (.int .i64 rf) := KP.out.cell 0
        have p1 : w6.cell? ⟨pb, 1, none⟩ = some (.int .i64 rn) := KP.out.cell 1
        have pf := KP.out.frozen
        have pl := KP.out.lt
        have HM2 := Lib.hid (show manyC (L.take j ++ [x]) (kyC x) = m + 1 by rw [← HT.out]; exact HM1.out)
        by_cases h3 : 3 ≤ m + 1
        · have i3 : (3 : Int) ≤ (m : Int) + 1 := by omega
          rcases rb with _ | _
          · skip
            have HCON := Lib.hid (show (3 ≤ manyC (L.take j ++ [x]) (kyC x) ∧ ((false : Bool) = false ∨ rf < x.f)) from ⟨by rw [HM2.out]; exact h3, .inl rfl⟩)
            have HN := Lib.hid (show BestC (L.take (j + 1)) (x.f, x.n, true) by have h8 := best_take HT.out HBst.out; rw [next_yes HCON.out] at h8; exact h8)
            have gw := grownBy_trans (grownBy_set w6 pb 0 (.int .i64 x.f)) (grownBy_set (w6.setCell ⟨pb, 0, none⟩ (.int .i64 x.f)) pb 1 (.int .i64 x.n))
            have OM7 := Lib.hid (OM.out.kept gw (by have := HPB.out; simp; omega))
            have KP7 : Hid (Bkk ((w6.setCell ⟨pb, 0, none⟩ (.int .i64 x.f)).setCell ⟨pb, 1, none⟩ (.int .i64 x.n)) pb 60 #[.int .i64 x.f, .int .i64 x.n]) := (KP.out.set 0 (.int .i64 x.f)).set 1 (.int .i64 x.n)
            have Z7 := Lib.hid (Z.out.grown gw Z.out.size (fun q hq => by injection hq with hq; have := HPB.out; have := LW.out; omega))
            have GEB7 := Lib.hid (Nat.lt_of_lt_of_le GEB.out gw.size)
            clear gw OM KP Z GEB
            go_upto_region 13 with (fail)
            obtain ⟨w7, hw7⟩ : ∃ X, X = (w6.setCell ⟨pb, 0, none⟩ (.int .i64 x.f)).setCell ⟨pb, 1, none⟩ (.int .i64 x.n) := ⟨_, rfl⟩
            rw [← hw7] at OM7 KP7 Z7 GEB7 ⊢
            clear hw7 p0 p1 pf pl k0 k1 kf kl el6
            go_wp2
            go_roundw
            case rel => exact ⟨j + 1, (x.f, x.n, true), _, by omega, rfl, by go_num, HN.out, OM7.out, HD2.out, KP7.out, Z7.out, GEB7.out⟩
            case measure => (simp [intOf]; try omega)
          · by_cases hc : rf < x.f
            · have HCON := Lib.hid (show (3 ≤ manyC (L.take j ++ [x]) (kyC x) ∧ ((true : Bool) = false ∨ rf < x.f)) from ⟨by rw [HM2.out]; exact h3, .inr hc⟩)
              have HN := Lib.hid (show BestC (L.take (j + 1)) (x.f, x.n, true) by have h8 := best_take HT.out HBst.out; rw [next_yes HCON.out] at h8; exact h8)
              have gw := grownBy_trans (grownBy_set w6 pb 0 (.int .i64 x.f)) (grownBy_set (w6.setCell ⟨pb, 0, none⟩ (.int .i64 x.f)) pb 1 (.int .i64 x.n))
              have OM7 := Lib.hid (OM.out.kept gw (by have := HPB.out; simp; omega))
              have KP7 : Hid (Bkk ((w6.setCell ⟨pb, 0, none⟩ (.int .i64 x.f)).setCell ⟨pb, 1, none⟩ (.int .i64 x.n)) pb 60 #[.int .i64 x.f, .int .i64 x.n]) := (KP.out.set 0 (.int .i64 x.f)).set 1 (.int .i64 x.n)
              have Z7 := Lib.hid (Z.out.grown gw Z.out.size (fun q hq => by injection hq with hq; have := HPB.out; have := LW.out; omega))
              have GEB7 := Lib.hid (Nat.lt_of_lt_of_le GEB.out gw.size)
              clear gw OM KP Z GEB
              go_upto_region 13 with (fail)
              obtain ⟨w7, hw7⟩ : ∃ X, X = (w6.setCell ⟨pb, 0, none⟩ (.int .i64 x.f)).setCell ⟨pb, 1, none⟩ (.int .i64 x.n) := ⟨_, rfl⟩
              rw [← hw7] at OM7 KP7 Z7 GEB7 ⊢
              clear hw7 p0 p1 pf pl k0 k1 kf kl el6
              go_wp2
              go_roundw
              case rel => exact ⟨j + 1, (x.f, x.n, true), _, by omega, rfl, by go_num, HN.out, OM7.out, HD2.out, KP7.out, Z7.out, GEB7.out⟩
              case measure => (simp [intOf]; try omega)
            · have HCON := Lib.hid (show ¬ (3 ≤ manyC (L.take j ++ [x]) (kyC x) ∧ ((true : Bool) = false ∨ rf < x.f)) from fun hh => by rcases hh.2 with h | h; (· cases h); (· exact hc h))
              have HN := Lib.hid (show BestC (L.take (j + 1)) (rf, rn, true) by have h8 := best_take HT.out HBst.out; rw [next_no HCON.out] at h8; exact h8)
              go_upto_region 13 with (fail)
              clear p0 p1 pf pl k0 k1 kf kl el6
              go_wp2
              go_roundw
              case rel => exact ⟨j + 1, (rf, rn, true), _, by omega, rfl, by go_num, HN.out, OM.out, HD2.out, KP.out, Z.out, GEB.out⟩
              case measure => (simp [intOf]; try omega)
        · have i3 : ¬ (3 : Int) ≤ (m : Int) + 1 := by omega
          have HCON := Lib.hid (show ¬ (3 ≤ manyC (L.take j ++ [x]) (kyC x) ∧ ((rb : Bool) = false ∨ rf < x.f)) from fun hh => h3 (by rw [← HM2.out]; exact hh.1))
          have HN := Lib.hid (show BestC (L.take (j + 1)) (rf, rn, rb) by have h8 := best_take HT.out HBst.out; rw [next_no HCON.out] at h8; exact h8)
          go_upto_region 13 with (fail)
          clear p0 p1 pf pl k0 k1 kf kl el6
          go_wp2
          go_roundw
          case rel => exact ⟨j + 1, (rf, rn, rb), _, by omega, rfl, by go_num, HN.out, OM.out, HD2.out, KP.out, Z.out, GEB.out⟩
          case measure => (simp [intOf]; try omega)
    · obtain rfl : j = L.length := by omega
      have i1 : ¬ (L.length : Int) < (L.length : Int) := by omega
      have HN := Lib.hid (show stC L = (rf, rn, rb) from stC_eq HO.out (by have h8 := HBst.out; rwa [List.take_length] at h8))
      have p0 : wr.cell? ⟨pb, 0, none⟩ = some (.int .i64 rf) := KP.out.cell 0
      have p1 : wr.cell? ⟨pb, 1, none⟩ = some (.int .i64 rn) := KP.out.cell 1
      have pf := KP.out.frozen
      have pl := KP.out.lt
      go_wp2_with (fail)
      go_quiet (fail)
      go_wp2
      go_light
      refine bodyPost_ret (v := .tuple #[.int .i64 rf, .int .i64 rn, .bool rb]) (by simp [results, Try.results16, go_sem]) rfl ?_
      rw [HN.out]
      exact ⟨rfl, Below.drewN Z.out _⟩
end Go.Proofs.Ytgbnoemoangofaa
