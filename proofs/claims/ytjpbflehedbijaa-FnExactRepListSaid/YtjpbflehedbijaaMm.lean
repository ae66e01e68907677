/- Marks over letters and keepers. -/
import Derived.Test.YtjpbflehedbijaaMk
import Derived.Test.YtjpbflehedbijaaRa
namespace Go.Proofs.Ytjpbflehedbijaa
open Go.ChangeShapes Go.WideShapes Go.ChangeAt Go.RowKit
set_option linter.unusedVariables false
set_option linter.unusedSimpArgs false

theorem row_heap {w : World} {base : Nat} {e : TypeId} {size : Nat} {v : Value} {n g : Nat} {xs : List Value} (h : w.ownsRow base e size v n xs) (hg : v.ownBlock = some g) : ∃ cur, w.heap[g]? = some (.cells cur e (0, 0)) := by
  rcases h.2 with ⟨rfl, _⟩ | ⟨g', cap, cur, rfl, _, h3, _⟩
  · cases hg
  · cases hg
    exact ⟨cur, h3⟩
/-- Marks alone were laid: what leads to rows stands. -/
structure Mkd (lo hi : Nat) (w w' : World) : Prop where
  sets : Sets lo hi w w'
  odd : ∀ (g : Nat) (cs : Array Value) (z : Nat × Nat), w.heap[g]? = some (.cells cs 66 z) → ∀ (j : Nat) (v : Value), w.cell? ⟨g, j * 2 + 1, none⟩ = some v → w'.cell? ⟨g, j * 2 + 1, none⟩ = some v
  hdr : ∀ (g : Nat) (cs : Array Value) (z : Nat × Nat), w.heap[g]? = some (.cells cs 28 z) → ∀ (j r : Nat) (v : Value), (r = 9 ∨ r = 10) → w.cell? ⟨g, j * 11 + r, none⟩ = some v → w'.cell? ⟨g, j * 11 + r, none⟩ = some v
theorem Mkd.refl (lo hi : Nat) (w : World) : Mkd lo hi w w := ⟨Sets.refl _ _ _, fun _ _ _ _ _ _ h => h, fun _ _ _ _ _ _ _ _ h => h⟩
theorem Mkd.trans {lo hi : Nat} {a b c : World} (h : Mkd lo hi a b) (k : Mkd lo hi b c) : Mkd lo hi a c :=
  ⟨h.sets.trans k.sets, fun g cs z hg j v hv => by
    obtain ⟨cs', h1, _⟩ := h.sets.shape g cs _ z hg
    exact k.odd g cs' z h1 j v (h.odd g cs z hg j v hv), fun g cs z hg j r v hr hv => by
    obtain ⟨cs', h1, _⟩ := h.sets.shape g cs _ z hg
    exact k.hdr g cs' z h1 j r v hr (h.hdr g cs z hg j r v hr hv)⟩
theorem Mkd.mono {lo hi lo' hi' : Nat} {w w' : World} (s : Mkd lo hi w w') (h : lo' ≤ lo) (k : hi ≤ hi') : Mkd lo' hi' w w' := ⟨s.sets.mono h k, s.odd, s.hdr⟩
theorem Mkd.claims {lo hi : Nat} {w w' : World} {base : Nat} {v : Value} {n : Nat} {xs xs' : List Value} (h : w.ownsRow base 60 7 v n xs) (h' : w'.ownsRow base 60 7 v n xs') (hg : w.grownBy w' v.ownBlock) (hb : ∀ k, v.ownBlock = some k → lo ≤ k ∧ k < hi) : Mkd lo hi w w' := by
  have ne : ∀ (g : Nat) (cs : Array Value) (t : TypeId) (z : Nat × Nat), w.heap[g]? = some (.cells cs t z) → t ≠ 60 → some g ≠ v.ownBlock := fun g cs t z hc ht e => by
    obtain ⟨cur, hcur⟩ := row_heap h e.symm
    rw [hc] at hcur
    cases hcur
    exact ht rfl
  exact ⟨Sets.of_own h h' hg hb, fun g cs z hc j u hu => hg.cell hu (ne g cs _ z hc (by decide)), fun g cs z hc j r u _ hu => hg.cell hu (ne g cs _ z hc (by decide))⟩
theorem Mkd.setV {lo hi g n : Nat} {w : World} {xs : List Value} (h : w.ownsRow g 66 2 (.slice (some ⟨g, 0, none⟩) n n) n xs) (h1 : lo ≤ g) (h2 : g < hi) (j : Nat) (u : Value) : Mkd lo hi w (w.setCell ⟨g, j * 2, none⟩ u) := by
  obtain ⟨hr, hg⟩ := h.stored (j * 2) u
  obtain ⟨cur, hcur⟩ := row_heap h rfl
  refine ⟨Sets.of_own h hr hg (fun k e => by cases e; exact ⟨h1, h2⟩), fun g' cs z hc j' v hv => ?_, fun g' cs z hc j' r v hr hv => ?_⟩
  · exact (World.cell?_setCell_other w ⟨g, j * 2, none⟩ ⟨g', j' * 2 + 1, none⟩ u (fun e => by have := congrArg Addr.off e; simp at this; omega)).trans hv
  · refine (World.cell?_setCell_other w ⟨g, j * 2, none⟩ ⟨g', j' * 11 + r, none⟩ u (fun e => ?_)).trans hv
    have : g = g' := congrArg Addr.block e
    subst this
    rw [hc] at hcur
    cases hcur
theorem Mkd.setM {lo hi g n : Nat} {w : World} {xs : List Value} (h : w.ownsRow g 28 11 (.slice (some ⟨g, 0, none⟩) n n) n xs) (h1 : lo ≤ g) (h2 : g < hi) (j p : Nat) (hp : p < 9) (u : Value) : Mkd lo hi w (w.setCell ⟨g, j * 11 + p, none⟩ u) := by
  obtain ⟨hr, hg⟩ := h.stored (j * 11 + p) u
  obtain ⟨cur, hcur⟩ := row_heap h rfl
  refine ⟨Sets.of_own h hr hg (fun k e => by cases e; exact ⟨h1, h2⟩), fun g' cs z hc j' v hv => ?_, fun g' cs z hc j' r v hr hv => ?_⟩
  · refine (World.cell?_setCell_other w ⟨g, j * 11 + p, none⟩ ⟨g', j' * 2 + 1, none⟩ u (fun e => ?_)).trans hv
    have : g = g' := congrArg Addr.block e
    subst this
    rw [hc] at hcur
    cases hcur
  · exact (World.cell?_setCell_other w ⟨g, j * 11 + p, none⟩ ⟨g', j' * 11 + r, none⟩ u (fun e => by have := congrArg Addr.off e; simp at this; omega)).trans hv

/-- The shape of a row of claims of the call's own. -/
structure ShC (w : World) (lo hi : Nat) (A : Option Addr) (n c : Nat) : Prop where
  nm : n ≤ maxLen
  row : ∃ xs, w.ownsRow lo 60 7 (.slice A n c) n xs
  bd : ∀ k, (Value.slice A n c).ownBlock = some k → k < hi
theorem ShC.marked {w w' : World} {lo hi lo' hi' : Nat} {A : Option Addr} {n c : Nat} (h : ShC w lo hi A n c) (m : Mkd lo' hi' w w') : ShC w' lo hi A n c := by
  obtain ⟨xs, hr⟩ := h.row
  exact ⟨h.nm, m.sets.own hr, h.bd⟩
structure ShV (w : World) (g hi : Nat) (Q : List VtP) : Prop where
  nm : Q.length ≤ maxLen
  row : ∃ xs, w.ownsRow g 66 2 (.slice (some ⟨g, 0, none⟩) Q.length Q.length) Q.length xs
  lt : g < hi
  hd : ∀ i (h : i < Q.length), w.cell? ⟨g, i * 2 + 1, none⟩ = some (.slice Q[i].A Q[i].cl.length Q[i].c)
  cl : ∀ q ∈ Q, ShC w (g + 1) hi q.A q.cl.length q.c
theorem ShV.marked {w w' : World} {g hi lo' hi' : Nat} {Q : List VtP} (h : ShV w g hi Q) (m : Mkd lo' hi' w w') : ShV w' g hi Q := by
  obtain ⟨xs, hr⟩ := h.row
  obtain ⟨cur, hcur⟩ := row_heap hr rfl
  exact ⟨h.nm, m.sets.own hr, h.lt, fun i hi => m.odd g cur _ hcur i _ (h.hd i hi), fun q hq => (h.cl q hq).marked m⟩
structure ShM (w : World) (g hi : Nat) (Q : List MgP) : Prop where
  nm : Q.length ≤ maxLen
  row : ∃ xs, w.ownsRow g 28 11 (.slice (some ⟨g, 0, none⟩) Q.length Q.length) Q.length xs
  lt : g < hi
  h9 : ∀ i (h : i < Q.length), w.cell? ⟨g, i * 11 + 9, none⟩ = some (.slice Q[i].A Q[i].cl.length Q[i].a)
  h10 : ∀ i (h : i < Q.length), w.cell? ⟨g, i * 11 + 10, none⟩ = some (.slice Q[i].B Q[i].vt.length Q[i].b)
  cl : ∀ q ∈ Q, ShC w (g + 1) hi q.A q.cl.length q.a
  vt : ∀ q ∈ Q, ∃ g2, g + 1 ≤ g2 ∧ q.B = some ⟨g2, 0, none⟩ ∧ q.b = q.vt.length ∧ ShV w g2 hi q.vt
theorem ShM.marked {w w' : World} {g hi lo' hi' : Nat} {Q : List MgP} (h : ShM w g hi Q) (m : Mkd lo' hi' w w') : ShM w' g hi Q := by
  obtain ⟨xs, hr⟩ := h.row
  obtain ⟨cur, hcur⟩ := row_heap hr rfl
  exact ⟨h.nm, m.sets.own hr, h.lt, fun i hi => m.hdr g cur _ hcur i 9 _ (.inl rfl) (h.h9 i hi), fun i hi => m.hdr g cur _ hcur i 10 _ (.inr rfl) (h.h10 i hi), fun q hq => (h.cl q hq).marked m,
    fun q hq => by obtain ⟨g2, e1, e2, e3, e4⟩ := h.vt q hq; exact ⟨g2, e1, e2, e3, e4.marked m⟩⟩
theorem ShC.of_own {w0 w : World} {lo hi : Nat} {A : Option Addr} {n c : Nat} {xs : List Value} (h : w0.ownsRow lo 60 7 (.slice A n c) n xs) (hw : Below w0.heap.size w0 w) (hh : w0.heap.size ≤ hi) : ShC w lo hi A n c := by
  obtain ⟨_, _, _, hm⟩ := own_form h
  exact ⟨hm, ⟨_, own_below h hw⟩, fun k e => by have := (own_block_ge h k e).2; omega⟩
theorem ShV.of_own {w0 w : World} {g hi : Nat} {Q : List VtP} (h : OwV w0 g Q) (hw : Below w0.heap.size w0 w) (hh : w0.heap.size ≤ hi) : ShV w g hi Q := by
  refine ⟨h.len, ⟨_, own_below h.1 hw⟩, by have := (own_block_ge h.1 g rfl).2; omega, fun i hi => ?_, fun q hq => ShC.of_own (h.2 q hq) hw hh⟩
  obtain ⟨b, off, hA, hc⟩ := Rd.of_own VtP.len (own_below h.1 hw) rfl i hi
  cases hA
  simpa using hc 1 _ rfl
theorem ShM.of_own {w0 w : World} {g hi : Nat} {Q : List MgP} (h : OwM w0 g Q) (hw : Below w0.heap.size w0 w) (hh : w0.heap.size ≤ hi) : ShM w g hi Q := by
  refine ⟨h.len, ⟨_, own_below h.1 hw⟩, by have := (own_block_ge h.1 g rfl).2; omega, fun i hi => ?_, fun i hi => ?_, fun q hq => ShC.of_own (h.2 q hq).1 hw hh, fun q hq => ?_⟩
  · obtain ⟨b, off, hA, hc⟩ := Rd.of_own MgP.len (own_below h.1 hw) rfl i hi
    cases hA
    simpa using hc 9 _ rfl
  · obtain ⟨b, off, hA, hc⟩ := Rd.of_own MgP.len (own_below h.1 hw) rfl i hi
    cases hA
    simpa using hc 10 _ rfl
  · obtain ⟨_, g2, e1, e2, e3, e4⟩ := h.2 q hq
    exact ⟨g2, e1, e2, e3, ShV.of_own e4 hw hh⟩

def cntM (Q : List MgP) : Nat := (Q.map fun q => 9 + 7 * q.cl.length + cntV q.vt).sum
theorem cntM_take {Q : List MgP} {j : Nat} (h : j < Q.length) : cntM (Q.take (j + 1)) = cntM (Q.take j) + (9 + 7 * Q[j].cl.length + cntV Q[j].vt) := by
  unfold cntM
  rw [List.take_succ_eq_append_getElem h, List.map_append, List.sum_append]
  simp
theorem cntM_le (Q : List MgP) (j : Nat) : cntM (Q.take j) ≤ cntM Q := by
  have h : cntM Q = cntM (Q.take j) + cntM (Q.drop j) := by
    unfold cntM
    rw [← List.sum_append, ← List.map_append, List.take_append_drop]
  omega

set_option maxRecDepth 100000 in
set_option maxHeartbeats 2000000 in
theorem markVoteS' (g hi : Nat) (Q : List VtP) (k : Int) (w : World) (h0 : 0 ≤ k) (h1 : k + cntV Q ≤ 4611686018427387904) (ho : ShV w g hi Q) :
    Calls Try.prog 85 #[.slice (some ⟨g, 0, none⟩) Q.length Q.length, .int .i64 k] w fun e w' => e = .returned (.int .i64 (k + cntV Q)) ∧ Mkd g hi w w' := by
  have hn := ho.nm
  unfold maxLen at hn
  have HO := Lib.hid ho
  clear ho
  go_enter Try.func85, Try.ntmps85
  go_wp2
  go_loopw [1, 5] (fun kk i wr => ∃ j : Nat, j ≤ Q.length ∧ i = .int .i64 j ∧ kk = .int .i64 (k + cntV (Q.take j)) ∧ Hid (ShV wr g hi Q) ∧ Hid (Mkd g hi w wr)) (fun _ i _ => Q.length - (intOf i).toNat)
  case atStart => exact ⟨0, Nat.zero_le _, rfl, by simp [cntV], HO, Mkd.refl _ _ _⟩
  case round =>
    clear HO
    obtain ⟨j, hj, rfl, rfl, hs, hk⟩ := hrel
    have hcl := cntV_le Q j
    by_cases hlt : j < Q.length
    · obtain ⟨xs, hr⟩ := hs.out.row
      have hx := hs.out.cl Q[j] (List.getElem_mem hlt)
      have hct := Lib.hid (cntV_take hlt)
      have hc1 := cntV_take hlt
      have hl1 := cntV_le Q (j + 1)
      have hr1 := hr.1
      have c1 := hs.out.hd j hlt
      obtain ⟨u0, hu0⟩ : ∃ u, wr.cell? ⟨g, j * 2, none⟩ = some u := ⟨_, (hr.cellAt (j * 2) (by omega)).trans (List.getElem?_eq_getElem (by omega))⟩
      have hf := fun p => hr.frozenAt p
      have M1 := Lib.hid (Mkd.setV hr (Nat.le_refl _) hs.out.lt j (.int .i64 (k + cntV (Q.take j))))
      have S1 := Lib.hid (hs.out.marked M1.out)
      have MM := Lib.hid (hk.out.trans M1.out)
      obtain ⟨ys, hy⟩ := (hx.marked M1.out).row
      have HY := Lib.hid hy
      have HBD := Lib.hid hx.bd
      have HXL := Lib.hid hx.nm
      have i0 : (0 : Int) ≤ (j : Int) := by omega
      have i1 : (j : Int) < (Q.length : Int) := by omega
      have b1 : (k + (cntV (Q.take j) : Int)) + 1 + 7 * (Q[j].cl.length : Int) ≤ 4611686018427387904 := by omega
      have b0 : (0 : Int) ≤ k + (cntV (Q.take j) : Int) := by omega
      clear hx hc1 hr1 hy hr hs hk
      go_wp2_with (fail)
      refine (markClaimS (g + 1) Q[j].A Q[j].c Q[j].cl.length ys _ _ (by omega) (by omega) HXL.out HY.out).mono ?_
      rintro e w2 ⟨rfl, ho2, hg2⟩
      have M2 := Lib.hid (Mkd.claims (lo := g) (hi := hi) HY.out ho2 hg2 (fun q e => by have h1 := (own_block_ge HY.out q e).1; have h2 := HBD.out q e; omega))
      have S2 := Lib.hid (S1.out.marked M2.out)
      have MM2 := Lib.hid (MM.out.trans M2.out)
      clear ho2 hg2 HY S1 MM M1 M2
      go_wp2
      go_roundw
      case rel => exact ⟨j + 1, by omega, by go_num, by rw [hct.out]; congr 1; omega, S2, MM2⟩
      case measure => simp [intOf]; omega
    · have hz : j = Q.length := by omega
      have HZ := Lib.hid hz
      clear hz
      go_wp2
      go_ret
      refine ⟨?_, hk.out⟩
      rw [HZ.out, List.take_length]
      rfl

set_option maxRecDepth 100000 in
set_option maxHeartbeats 4000000 in
theorem markMsgS (g hi : Nat) (Q : List MgP) (k : Int) (w : World) (h0 : 0 ≤ k) (h1 : k + cntM Q ≤ 4611686018427387904) (ho : ShM w g hi Q) :
    Calls Try.prog 61 #[.slice (some ⟨g, 0, none⟩) Q.length Q.length, .int .i64 k] w fun e w' => e = .returned (.int .i64 (k + cntM Q)) ∧ Mkd g hi w w' := by
  have hn := ho.nm
  unfold maxLen at hn
  have HO := Lib.hid ho
  clear ho
  go_enter Try.func61, Try.ntmps61
  go_wp2
  go_loopw [1, 5] (fun kk i wr => ∃ j : Nat, j ≤ Q.length ∧ i = .int .i64 j ∧ kk = .int .i64 (k + cntM (Q.take j)) ∧ Hid (ShM wr g hi Q) ∧ Hid (Mkd g hi w wr)) (fun _ i _ => Q.length - (intOf i).toNat)
  case atStart => exact ⟨0, Nat.zero_le _, rfl, by simp [cntM], HO, Mkd.refl _ _ _⟩
  case round =>
    clear HO
    obtain ⟨j, hj, rfl, rfl, S0, M0⟩ := hrel
    have hcl := cntM_le Q j
    by_cases hlt : j < Q.length
    · have hct := Lib.hid (cntM_take hlt)
      have hc1 := cntM_take hlt
      have hl1 := cntM_le Q (j + 1)
      obtain ⟨K, hK⟩ : ∃ K, K = k + (cntM (Q.take j) : Int) := ⟨_, rfl⟩
      have b0 : (0 : Int) ≤ K := by omega
      have b1 : K + 9 + 7 * (Q[j].cl.length : Int) + cntV Q[j].vt ≤ 4611686018427387904 := by omega
      have hKE := Lib.hid (show k + (cntM (Q.take (j + 1)) : Int) = K + 9 + 7 * (Q[j].cl.length : Int) + cntV Q[j].vt by omega)
      rw [← hK]
      clear hK hc1 hcl hl1
      obtain ⟨xs, hr⟩ := S0.out.row
      have hr1 := hr.1
      obtain ⟨u0, hu0⟩ : ∃ u, wr.cell? ⟨g, j * 11, none⟩ = some u := ⟨_, (hr.cellAt (j * 11) (by omega)).trans (List.getElem?_eq_getElem (by omega))⟩
      obtain ⟨u1, hu1⟩ : ∃ u, wr.cell? ⟨g, j * 11 + 1, none⟩ = some u := ⟨_, (hr.cellAt (j * 11 + 1) (by omega)).trans (List.getElem?_eq_getElem (by omega))⟩
      obtain ⟨u2, hu2⟩ : ∃ u, wr.cell? ⟨g, j * 11 + 2, none⟩ = some u := ⟨_, (hr.cellAt (j * 11 + 2) (by omega)).trans (List.getElem?_eq_getElem (by omega))⟩
      obtain ⟨u3, hu3⟩ : ∃ u, wr.cell? ⟨g, j * 11 + 3, none⟩ = some u := ⟨_, (hr.cellAt (j * 11 + 3) (by omega)).trans (List.getElem?_eq_getElem (by omega))⟩
      obtain ⟨u4, hu4⟩ : ∃ u, wr.cell? ⟨g, j * 11 + 4, none⟩ = some u := ⟨_, (hr.cellAt (j * 11 + 4) (by omega)).trans (List.getElem?_eq_getElem (by omega))⟩
      obtain ⟨u5, hu5⟩ : ∃ u, wr.cell? ⟨g, j * 11 + 5, none⟩ = some u := ⟨_, (hr.cellAt (j * 11 + 5) (by omega)).trans (List.getElem?_eq_getElem (by omega))⟩
      obtain ⟨u6, hu6⟩ : ∃ u, wr.cell? ⟨g, j * 11 + 6, none⟩ = some u := ⟨_, (hr.cellAt (j * 11 + 6) (by omega)).trans (List.getElem?_eq_getElem (by omega))⟩
      obtain ⟨u7, hu7⟩ : ∃ u, wr.cell? ⟨g, j * 11 + 7, none⟩ = some u := ⟨_, (hr.cellAt (j * 11 + 7) (by omega)).trans (List.getElem?_eq_getElem (by omega))⟩
      obtain ⟨u8, hu8⟩ : ∃ u, wr.cell? ⟨g, j * 11 + 8, none⟩ = some u := ⟨_, (hr.cellAt (j * 11 + 8) (by omega)).trans (List.getElem?_eq_getElem (by omega))⟩
      have hf := fun p => hr.frozenAt p
      have c9 := S0.out.h9 j hlt
      have hx := S0.out.cl Q[j] (List.getElem_mem hlt)
      obtain ⟨g2, hg2, hB, hb, hv⟩ := S0.out.vt Q[j] (List.getElem_mem hlt)
      obtain ⟨x0, r0⟩ := S0.out.row
      have M1 := Lib.hid (M0.out.trans (Mkd.setM r0 (Nat.le_refl _) S0.out.lt j 0 (by omega) (.int .i64 (K))))
      have S1 : Hid (ShM (wr.setCell ⟨g, j * 11, none⟩ (.int .i64 (K))) g hi Q) := S0.out.marked (Mkd.setM r0 (Nat.le_refl _) S0.out.lt j 0 (by omega) (.int .i64 (K)))
      clear r0
      obtain ⟨x1, r1⟩ := S1.out.row
      have M2 := Lib.hid (M1.out.trans (Mkd.setM r1 (Nat.le_refl _) S1.out.lt j 1 (by omega) (.int .i64 (K + 1))))
      have S2 : Hid (ShM ((wr.setCell ⟨g, j * 11, none⟩ (.int .i64 (K))).setCell ⟨g, j * 11 + 1, none⟩ (.int .i64 (K + 1))) g hi Q) := S1.out.marked (Mkd.setM r1 (Nat.le_refl _) S1.out.lt j 1 (by omega) (.int .i64 (K + 1)))
      clear r1
      obtain ⟨x2, r2⟩ := S2.out.row
      have M3 := Lib.hid (M2.out.trans (Mkd.setM r2 (Nat.le_refl _) S2.out.lt j 2 (by omega) (.int .i64 (K + 1 + 1))))
      have S3 : Hid (ShM (((wr.setCell ⟨g, j * 11, none⟩ (.int .i64 (K))).setCell ⟨g, j * 11 + 1, none⟩ (.int .i64 (K + 1))).setCell ⟨g, j * 11 + 2, none⟩ (.int .i64 (K + 1 + 1))) g hi Q) := S2.out.marked (Mkd.setM r2 (Nat.le_refl _) S2.out.lt j 2 (by omega) (.int .i64 (K + 1 + 1)))
      clear r2
      obtain ⟨x3, r3⟩ := S3.out.row
      have M4 := Lib.hid (M3.out.trans (Mkd.setM r3 (Nat.le_refl _) S3.out.lt j 3 (by omega) (.int .i64 (K + 1 + 1 + 1))))
      have S4 : Hid (ShM ((((wr.setCell ⟨g, j * 11, none⟩ (.int .i64 (K))).setCell ⟨g, j * 11 + 1, none⟩ (.int .i64 (K + 1))).setCell ⟨g, j * 11 + 2, none⟩ (.int .i64 (K + 1 + 1))).setCell ⟨g, j * 11 + 3, none⟩ (.int .i64 (K + 1 + 1 + 1))) g hi Q) := S3.out.marked (Mkd.setM r3 (Nat.le_refl _) S3.out.lt j 3 (by omega) (.int .i64 (K + 1 + 1 + 1)))
      clear r3
      obtain ⟨x4, r4⟩ := S4.out.row
      have M5 := Lib.hid (M4.out.trans (Mkd.setM r4 (Nat.le_refl _) S4.out.lt j 4 (by omega) (.int .i64 (K + 1 + 1 + 1 + 1))))
      have S5 : Hid (ShM (((((wr.setCell ⟨g, j * 11, none⟩ (.int .i64 (K))).setCell ⟨g, j * 11 + 1, none⟩ (.int .i64 (K + 1))).setCell ⟨g, j * 11 + 2, none⟩ (.int .i64 (K + 1 + 1))).setCell ⟨g, j * 11 + 3, none⟩ (.int .i64 (K + 1 + 1 + 1))).setCell ⟨g, j * 11 + 4, none⟩ (.int .i64 (K + 1 + 1 + 1 + 1))) g hi Q) := S4.out.marked (Mkd.setM r4 (Nat.le_refl _) S4.out.lt j 4 (by omega) (.int .i64 (K + 1 + 1 + 1 + 1)))
      clear r4
      obtain ⟨x5, r5⟩ := S5.out.row
      have M6 := Lib.hid (M5.out.trans (Mkd.setM r5 (Nat.le_refl _) S5.out.lt j 5 (by omega) (.int .i64 (K + 1 + 1 + 1 + 1 + 1))))
      have S6 : Hid (ShM ((((((wr.setCell ⟨g, j * 11, none⟩ (.int .i64 (K))).setCell ⟨g, j * 11 + 1, none⟩ (.int .i64 (K + 1))).setCell ⟨g, j * 11 + 2, none⟩ (.int .i64 (K + 1 + 1))).setCell ⟨g, j * 11 + 3, none⟩ (.int .i64 (K + 1 + 1 + 1))).setCell ⟨g, j * 11 + 4, none⟩ (.int .i64 (K + 1 + 1 + 1 + 1))).setCell ⟨g, j * 11 + 5, none⟩ (.int .i64 (K + 1 + 1 + 1 + 1 + 1))) g hi Q) := S5.out.marked (Mkd.setM r5 (Nat.le_refl _) S5.out.lt j 5 (by omega) (.int .i64 (K + 1 + 1 + 1 + 1 + 1)))
      clear r5
      obtain ⟨x6, r6⟩ := S6.out.row
      have M7 := Lib.hid (M6.out.trans (Mkd.setM r6 (Nat.le_refl _) S6.out.lt j 6 (by omega) (.int .i64 (K + 1 + 1 + 1 + 1 + 1 + 1))))
      have S7 : Hid (ShM (((((((wr.setCell ⟨g, j * 11, none⟩ (.int .i64 (K))).setCell ⟨g, j * 11 + 1, none⟩ (.int .i64 (K + 1))).setCell ⟨g, j * 11 + 2, none⟩ (.int .i64 (K + 1 + 1))).setCell ⟨g, j * 11 + 3, none⟩ (.int .i64 (K + 1 + 1 + 1))).setCell ⟨g, j * 11 + 4, none⟩ (.int .i64 (K + 1 + 1 + 1 + 1))).setCell ⟨g, j * 11 + 5, none⟩ (.int .i64 (K + 1 + 1 + 1 + 1 + 1))).setCell ⟨g, j * 11 + 6, none⟩ (.int .i64 (K + 1 + 1 + 1 + 1 + 1 + 1))) g hi Q) := S6.out.marked (Mkd.setM r6 (Nat.le_refl _) S6.out.lt j 6 (by omega) (.int .i64 (K + 1 + 1 + 1 + 1 + 1 + 1)))
      clear r6
      obtain ⟨x7, r7⟩ := S7.out.row
      have M8 := Lib.hid (M7.out.trans (Mkd.setM r7 (Nat.le_refl _) S7.out.lt j 7 (by omega) (.int .i64 (K + 1 + 1 + 1 + 1 + 1 + 1 + 1))))
      have S8 : Hid (ShM ((((((((wr.setCell ⟨g, j * 11, none⟩ (.int .i64 (K))).setCell ⟨g, j * 11 + 1, none⟩ (.int .i64 (K + 1))).setCell ⟨g, j * 11 + 2, none⟩ (.int .i64 (K + 1 + 1))).setCell ⟨g, j * 11 + 3, none⟩ (.int .i64 (K + 1 + 1 + 1))).setCell ⟨g, j * 11 + 4, none⟩ (.int .i64 (K + 1 + 1 + 1 + 1))).setCell ⟨g, j * 11 + 5, none⟩ (.int .i64 (K + 1 + 1 + 1 + 1 + 1))).setCell ⟨g, j * 11 + 6, none⟩ (.int .i64 (K + 1 + 1 + 1 + 1 + 1 + 1))).setCell ⟨g, j * 11 + 7, none⟩ (.int .i64 (K + 1 + 1 + 1 + 1 + 1 + 1 + 1))) g hi Q) := S7.out.marked (Mkd.setM r7 (Nat.le_refl _) S7.out.lt j 7 (by omega) (.int .i64 (K + 1 + 1 + 1 + 1 + 1 + 1 + 1)))
      clear r7
      obtain ⟨x8, r8⟩ := S8.out.row
      have M9 := Lib.hid (M8.out.trans (Mkd.setM r8 (Nat.le_refl _) S8.out.lt j 8 (by omega) (.int .i64 (K + 1 + 1 + 1 + 1 + 1 + 1 + 1 + 1))))
      have S9 : Hid (ShM (((((((((wr.setCell ⟨g, j * 11, none⟩ (.int .i64 (K))).setCell ⟨g, j * 11 + 1, none⟩ (.int .i64 (K + 1))).setCell ⟨g, j * 11 + 2, none⟩ (.int .i64 (K + 1 + 1))).setCell ⟨g, j * 11 + 3, none⟩ (.int .i64 (K + 1 + 1 + 1))).setCell ⟨g, j * 11 + 4, none⟩ (.int .i64 (K + 1 + 1 + 1 + 1))).setCell ⟨g, j * 11 + 5, none⟩ (.int .i64 (K + 1 + 1 + 1 + 1 + 1))).setCell ⟨g, j * 11 + 6, none⟩ (.int .i64 (K + 1 + 1 + 1 + 1 + 1 + 1))).setCell ⟨g, j * 11 + 7, none⟩ (.int .i64 (K + 1 + 1 + 1 + 1 + 1 + 1 + 1))).setCell ⟨g, j * 11 + 8, none⟩ (.int .i64 (K + 1 + 1 + 1 + 1 + 1 + 1 + 1 + 1))) g hi Q) := S8.out.marked (Mkd.setM r8 (Nat.le_refl _) S8.out.lt j 8 (by omega) (.int .i64 (K + 1 + 1 + 1 + 1 + 1 + 1 + 1 + 1)))
      clear r8
      obtain ⟨ys, hy⟩ := (S9.out.cl Q[j] (List.getElem_mem hlt)).row
      have HY := Lib.hid hy
      have HBD := Lib.hid hx.bd
      have HXL := Lib.hid hx.nm
      have HG2 := Lib.hid hg2
      have HB := Lib.hid hB
      have HBB := Lib.hid hb
      have i0 : (0 : Int) ≤ (j : Int) := by omega
      have i1 : (j : Int) < (Q.length : Int) := by omega
      clear hx hr1 hy hr S0 M0 S1 M1 S2 M2 S3 M3 S4 M4 S5 M5 S6 M6 S7 M7 S8 M8 hB hb hv hg2
      go_wp2_with (fail)
      refine (markClaimS (g + 1) Q[j].A Q[j].a Q[j].cl.length ys _ _ (by omega) (by omega) HXL.out HY.out).mono ?_
      rintro e w2 ⟨rfl, ho2, hgg⟩
      have MC := Lib.hid (Mkd.claims (lo := g) (hi := hi) HY.out ho2 hgg (fun q e => by have h1 := (own_block_ge HY.out q e).1; have h2 := HBD.out q e; omega))
      have S10 := Lib.hid (S9.out.marked MC.out)
      have M10 := Lib.hid (M9.out.trans MC.out)
      have x10 := S10.out.h10 j hlt
      obtain ⟨g3, hg3, hB3, hb3, hv⟩ := S10.out.vt Q[j] (List.getElem_mem hlt)
      have e23 : g3 = g2 := by have := HB.out; rw [hB3] at this; cases this; rfl
      subst e23
      have HV := Lib.hid hv
      rw [HB.out, HBB.out] at x10
      clear ho2 hgg HY S9 M9 MC hf c9 hB3 hb3 hv hg3 hu0 hu1 hu2 hu3 hu4 hu5 hu6 hu7 hu8
      go_wp2_with (fail)
      refine (markVoteS' g3 hi Q[j].vt _ _ (by omega) (by omega) HV.out).mono ?_
      rintro e w3 ⟨rfl, hm3⟩
      have S11 := Lib.hid (S10.out.marked hm3)
      have M11 := Lib.hid (M10.out.trans (hm3.mono (by have := HG2.out; omega) (Nat.le_refl _)))
      clear S10 M10 hm3 x10
      go_wp2
      go_roundw
      case rel => exact ⟨j + 1, by omega, by go_num, by rw [hKE.out]; congr 1; omega, S11, M11⟩
      case measure => simp [intOf]; omega
    · have hz : j = Q.length := by omega
      have HZ := Lib.hid hz
      clear hz
      go_wp2
      go_ret
      refine ⟨?_, M0.out⟩
      rw [HZ.out, List.take_length]
      rfl

def cntR (r : RpP) : Nat := 7 * r.tk.length + cntM r.hd + 7 * r.dn.length
set_option maxRecDepth 100000 in
set_option maxHeartbeats 2000000 in
theorem markRep (r : RpP) (lo : Nat) (k : Int) (w0 w : World) (h0 : 0 ≤ k) (h1 : k + cntR r ≤ 4611686018427387904) (ho : r.own w0 lo) (hw : Below w0.heap.size w0 w) :
    Calls Try.prog 23 #[r.val, .int .i64 k] w fun e w' => e = .returned (.int .i64 (k + cntR r)) ∧ ∃ w1, Below w.heap.size w w1 ∧ Mkd lo w0.heap.size w1 w' := by
  unfold cntR at h1
  obtain ⟨g, h2, h3, h4, h5⟩ := ho.oh
  have hw1 : Below w0.heap.size w0 (w.alloc (.cells #[.int .i64 r.me, .int .i64 r.v, .bool r.lv, .int .i64 r.nx, .slice r.TA r.tk.length r.ta, .slice r.HA r.hd.length r.ha, .slice r.DA r.dn.length r.da] 37)) := hw.alloc hw.size _
  have Z0 : Hid (Below w.heap.size w (w.alloc (.cells #[.int .i64 r.me, .int .i64 r.v, .bool r.lv, .int .i64 r.nx, .slice r.TA r.tk.length r.ta, .slice r.HA r.hd.length r.ha, .slice r.DA r.dn.length r.da] 37))) := (Below.refl _ _).alloc (Nat.le_refl _) _
  have K0 : Hid (Blk (w.alloc (.cells #[.int .i64 r.me, .int .i64 r.v, .bool r.lv, .int .i64 r.nx, .slice r.TA r.tk.length r.ta, .slice r.HA r.hd.length r.ha, .slice r.DA r.dn.length r.da] 37)) w.heap.size 37 #[.int .i64 r.me, .int .i64 r.v, .bool r.lv, .int .i64 r.nx, .slice r.TA r.tk.length r.ta, .slice r.HA r.hd.length r.ha, .slice r.DA r.dn.length r.da]) := Blk.new w
  have hlt : w0.heap.size ≤ w.heap.size := hw.size
  have C1 := Lib.hid (ShC.of_own ho.ot hw1 (Nat.le_refl _))
  have C2 := Lib.hid (ShM.of_own h5 hw1 (Nat.le_refl _))
  have C3 := Lib.hid (ShC.of_own ho.od hw1 (Nat.le_refl _))
  have H5 := Lib.hid (show Value.slice r.HA r.hd.length r.ha = .slice (some ⟨g, 0, none⟩) r.hd.length r.hd.length by rw [h3, h4])
  clear ho hw hw1 h5 h3 h4
  obtain ⟨xs, hx⟩ := C1.out.row
  have HX := Lib.hid hx
  clear hx
  go_enter Try.func23, Try.ntmps23
  go_wp2_with (fail)
  refine (markClaimS lo r.TA r.ta r.tk.length xs k _ h0 (by omega) C1.out.nm HX.out).mono ?_
  rintro e w2 ⟨rfl, ho2, hg2⟩
  have M1 := Lib.hid (Mkd.claims (lo := lo) (hi := w0.heap.size) HX.out ho2 hg2 (fun q e => ⟨(own_block_ge HX.out q e).1, C1.out.bd q e⟩))
  have C2 := Lib.hid (C2.out.marked M1.out)
  have C3 := Lib.hid (C3.out.marked M1.out)
  have K1 : Hid (Blk w2 w.heap.size 37 #[.int .i64 r.me, .int .i64 r.v, .bool r.lv, .int .i64 r.nx, .slice r.TA r.tk.length r.ta, .slice r.HA r.hd.length r.ha, .slice r.DA r.dn.length r.da]) := (M1.out.sets.keeps.block _ K0.out.lt (.inr hlt)).trans K0.out
  clear ho2 hg2 HX C1
  have x5 : w2.cell? ⟨w.heap.size, 5, none⟩ = some (.slice (some ⟨g, 0, none⟩) r.hd.length r.hd.length) := by rw [← H5.out]; exact K1.out.cell 5
  go_wp2_with (fail)
  refine (markMsgS g w0.heap.size r.hd _ _ (by omega) (by omega) C2.out).mono ?_
  rintro e w3 ⟨rfl, hm⟩
  have M2 := Lib.hid (M1.out.trans (hm.mono h2 (Nat.le_refl _)))
  have C3 := Lib.hid (C3.out.marked hm)
  have K2 : Hid (Blk w3 w.heap.size 37 #[.int .i64 r.me, .int .i64 r.v, .bool r.lv, .int .i64 r.nx, .slice r.TA r.tk.length r.ta, .slice r.HA r.hd.length r.ha, .slice r.DA r.dn.length r.da]) := (hm.sets.keeps.block _ K1.out.lt (.inr hlt)).trans K1.out
  clear hm x5
  have x6 : w3.cell? ⟨w.heap.size, 6, none⟩ = some (.slice r.DA r.dn.length r.da) := K2.out.cell 6
  obtain ⟨ys, hy⟩ := C3.out.row
  have HY := Lib.hid hy
  clear hy
  go_wp2_with (fail)
  refine (markClaimS lo r.DA r.da r.dn.length ys _ _ (by omega) (by omega) C3.out.nm HY.out).mono ?_
  rintro e w4 ⟨rfl, ho2, hg2⟩
  have M3 := Lib.hid (M2.out.trans (Mkd.claims (lo := lo) (hi := w0.heap.size) HY.out ho2 hg2 (fun q e => ⟨(own_block_ge HY.out q e).1, C3.out.bd q e⟩)))
  clear ho2 hg2 HY x6
  go_wp2
  go_light
  go_ret
  exact ⟨ret_int (by unfold cntR; omega), _, Z0.out, M3.out⟩

end Go.Proofs.Ytjpbflehedbijaa
