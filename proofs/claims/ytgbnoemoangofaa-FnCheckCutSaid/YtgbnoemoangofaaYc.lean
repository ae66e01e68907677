/- Whether checksums are ok: both ways; places and sums as keys of maps. -/
import Derived.Test.YtgbnoemoangofaaYb
import Derived.Test.YtgbnoemoangofaaMB
import Derived.WideKeyArgs
import Derived.DeepKeys4
import Derived.MapViews
import Derived.Maps.OwnSet
import Derived.Maps.Views
namespace Go.Proofs.Ytgbnoemoangofaa
open Go.ChangeShapes Go.WideShapes Go.ChangeAt Go.RowKit Go.Maps Go.WideMaps
set_option linter.unusedVariables false
set_option linter.unusedSimpArgs false

def kbP (p : Int × Int) : Prop := (0 ≤ p.1 ∧ p.1 ≤ 4294967295) ∧ (0 ≤ p.2 ∧ p.2 ≤ 4294967295)
def klP (p : Int × Int) : Lit := .string (keyBytes [.int .i64 p.1, .int .i64 p.2])
abbrev kyV (p : Int × Int) : Value := .agg #[.int .i64 p.1, .int .i64 p.2]
abbrev kyCs (p : Int × Int) : Array Value := #[.int .i64 p.1, .int .i64 p.2]
theorem kbP_of {x : Ck} (h : ckB x = true) : kbP (kyP x) := by
  obtain ⟨⟨a0, a1⟩, ⟨f0, f1⟩, n0, n1⟩ := ckB_le h
  exact ⟨⟨a0, by show x.a ≤ _; omega⟩, ⟨f0, by show x.f ≤ _; omega⟩⟩
theorem kbC_of {x : Ck} (h : ckB x = true) : kbP (kyC x) := by
  obtain ⟨⟨a0, a1⟩, ⟨f0, f1⟩, n0, n1⟩ := ckB_le h
  exact ⟨⟨f0, by show x.f ≤ _; omega⟩, ⟨n0, n1⟩⟩
theorem wf_ofK {n : Int} (h0 : 0 ≤ n) (h1 : n ≤ 4294967295) : (Lit.int .i64 n).wf = true := by
  simp [Lit.wf, IntKind.min, IntKind.max, IntKind.signed, IntKind.bits]
  omega
theorem sizeK : ∃ m, Try.prog.types.size = m + 2 := ⟨Try.prog.types.size - 2, by have : 2 ≤ Try.prog.types.size := of_decide_eq_true (by kernel_rfl); omega⟩
theorem keyLits_intK (d : Nat) (n : Int) (h : (Lit.int .i64 n).wf = true) : Try.prog.keyLits (d + 1) 3 [.int .i64 n] = some [.int .i64 n] := by
  unfold Program.keyLits
  rw [Try.underlying3]
  simp [h]
theorem cellsIK : Try.prog.cellsOf 3 = 1 := by kernel_rfl
theorem isKeyK (x : Int × Int) : WideAt.IsKeyLit (klP x) := trivial
theorem rowPl : (57 : TypeId) < Try.prog.types.size := of_decide_eq_true (by kernel_rfl)
theorem widePl : (match Try.prog.underlying 57 with | some (.array _ _) | some (.struct _) => true | _ => false) = true := by rw [Try.underlying57]
theorem lawPl : Keyed Try.prog 57 := Keyed.of_law (deep_law_laid Try.laidOut (m := 2) (by omega) rowPl (by kernel_rfl) widePl)
theorem keyTypePl : Try.prog.keyType 57 = true := by kernel_rfl
theorem cellsPl : Try.prog.cellsOf 57 = 2 := by kernel_rfl
set_option maxRecDepth 100000 in
theorem keyLitsPl (m : Nat) (p : Int × Int) (wa : (Lit.int .i64 p.1).wf = true) (wf : (Lit.int .i64 p.2).wf = true) :
    Try.prog.keyLits (m + 2 + 1) 57 [.int .i64 p.1, .int .i64 p.2] = some [.int .i64 p.1, .int .i64 p.2] := by
  unfold Program.keyLits
  rw [Try.underlying57]
  simp only []
  rw [if_pos ⟨by rw [cellsPl]; rfl, by kernel_rfl⟩]
  simp [List.mapM_cons, List.mapM_nil, keyLits_intK, wa, wf, cellsIK]
set_option maxRecDepth 100000 in
theorem keyPl {p : Int × Int} (h : kbP p) : keyOf Try.prog 57 (kyV p) = some (klP p) := by
  have wa := wf_ofK h.1.1 h.1.2
  have wf := wf_ofK h.2.1 h.2.2
  obtain ⟨m, hm⟩ := sizeK
  unfold keyOf
  rw [Try.underlying57]
  simp only []
  rw [if_pos (by rw [keyTypePl]; simp [Value.formed, Try.underlying57, cellsPl]), hm]
  show Option.map (fun ls => Lit.string (keyBytes ls)) (Try.prog.keyLits (m + 2 + 1) 57 [.int .i64 p.1, .int .i64 p.2]) = _
  rw [keyLitsPl m p wa wf]
  rfl
theorem rowPt : (60 : TypeId) < Try.prog.types.size := of_decide_eq_true (by kernel_rfl)
theorem widePt : (match Try.prog.underlying 60 with | some (.array _ _) | some (.struct _) => true | _ => false) = true := by rw [Try.underlying60]
theorem lawPt : Keyed Try.prog 60 := Keyed.of_law (deep_law_laid Try.laidOut (m := 2) (by omega) rowPt (by kernel_rfl) widePt)
theorem keyTypePt : Try.prog.keyType 60 = true := by kernel_rfl
theorem cellsPt : Try.prog.cellsOf 60 = 2 := by kernel_rfl
set_option maxRecDepth 100000 in
theorem keyLitsPt (m : Nat) (p : Int × Int) (wa : (Lit.int .i64 p.1).wf = true) (wf : (Lit.int .i64 p.2).wf = true) :
    Try.prog.keyLits (m + 2 + 1) 60 [.int .i64 p.1, .int .i64 p.2] = some [.int .i64 p.1, .int .i64 p.2] := by
  unfold Program.keyLits
  rw [Try.underlying60]
  simp only []
  rw [if_pos ⟨by rw [cellsPt]; rfl, by kernel_rfl⟩]
  simp [List.mapM_cons, List.mapM_nil, keyLits_intK, wa, wf, cellsIK]
set_option maxRecDepth 100000 in
theorem keyPt {p : Int × Int} (h : kbP p) : keyOf Try.prog 60 (kyV p) = some (klP p) := by
  have wa := wf_ofK h.1.1 h.1.2
  have wf := wf_ofK h.2.1 h.2.2
  obtain ⟨m, hm⟩ := sizeK
  unfold keyOf
  rw [Try.underlying60]
  simp only []
  rw [if_pos (by rw [keyTypePt]; simp [Value.formed, Try.underlying60, cellsPt]), hm]
  show Option.map (fun ls => Lit.string (keyBytes ls)) (Try.prog.keyLits (m + 2 + 1) 60 [.int .i64 p.1, .int .i64 p.2]) = _
  rw [keyLitsPt m p wa wf]
  rfl
theorem klP_inj {x y : Int × Int} (hx : kbP x) (hy : kbP y) (h : klP x = klP y) : x = y := by
  have h1 := lawPl.inj (keyPl hx) (by rw [h]; exact keyPl hy)
  obtain ⟨a, f⟩ := x
  obtain ⟨a', f'⟩ := y
  simpa using h1
abbrev OwZP (w : World) (b n : Nat) (D : DataW Unit) : Prop := w.ownsMap Try.prog 57 unitElem b n D
def putP (L : List (Int × Int)) (D : DataW Unit) : DataW Unit := L.foldl (fun D x => D.put (klP x) (.agg [])) D
def setP (L : List (Int × Int)) : DataW Unit := putP L (.map [])
theorem setP_snoc (L : List (Int × Int)) (x : Int × Int) : setP (L ++ [x]) = (setP L).put (klP x) (.agg []) := by unfold setP putP; rw [List.foldl_append]; rfl
theorem setP_facts : ∀ (n : Nat) (L : List (Int × Int)), L.length = n → (∀ x ∈ L, kbP x) → Tidy (setP L) ∧ (∀ y, kbP y → (Maps.has (setP L) (klP y) = true ↔ y ∈ L)) ∧ Maps.size (setP L) ≤ L.length ∧ (Maps.size (setP L) = L.length ↔ L.Nodup) := by
  intro n
  induction n with
  | zero =>
    intro L hn hL
    have h0 : L = [] := List.eq_nil_of_length_eq_zero hn
    subst h0
    exact ⟨tidy_empty, fun y _ => by simp [setP, putP, Maps.has], Nat.le_refl _, by simp [setP, putP, Maps.size]⟩
  | succ n ih =>
    intro L hn hL
    obtain ⟨L0, x, rfl⟩ : ∃ L0 x, L = L0 ++ [x] := by
      rcases List.eq_nil_or_concat L with h | ⟨a, b, h⟩
      · subst h
        simp at hn
      · exact ⟨a, b, by rw [h, List.concat_eq_append]⟩
    have hn0 : L0.length = n := by simpa using hn
    obtain ⟨h1, h2, h3, h4⟩ := ih L0 hn0 (fun y hy => hL y (List.mem_append_left _ hy))
    have hx := hL x (by simp)
    rw [setP_snoc]
    have hs := size_put (k := klP x) h1 (.agg [])
    have hlen : (L0 ++ [x]).length = L0.length + 1 := by simp
    refine ⟨h1.put (isKeyK x) _, fun y hy => ?_, ?_, ?_⟩
    · by_cases e : y = x
      · subst e
        simp [has_put_same h1.isMap (isKeyK y)]
      · rw [has_put_other (fun e2 => e (klP_inj hy hx e2)), h2 y hy]
        simp [e]
    · rw [hs, hlen]
      split <;> omega
    · rw [hs, hlen]
      by_cases hm : x ∈ L0
      · rw [if_pos ((h2 x hx).2 hm)]
        constructor
        · intro hh
          omega
        · intro hh
          exact absurd rfl ((List.nodup_append.1 hh).2.2 x hm x (by simp))
      · rw [if_neg (fun hh => hm ((h2 x hx).1 hh))]
        constructor
        · intro hh
          refine List.nodup_append.2 ⟨h4.1 (by omega), by simp, fun a ha b hb e => ?_⟩
          rw [List.mem_singleton.1 hb] at e
          exact hm (e ▸ ha)
        · intro hh
          have := h4.2 (List.nodup_append.1 hh).1
          omega

set_option maxRecDepth 100000 in
set_option maxHeartbeats 1000000 in
theorem setAddP (b n : Nat) (D : DataW Unit) (p : Int × Int) (w : World) (hown : OwZP w b n D) (hn : n < maxLen) (hx : kbP p) :
    Calls Try.prog 33 #[.map (some b), kyV p] w fun e w' => e = .returned (.tuple #[]) ∧ OwZP w' b (n + 1) (D.put (klP p) (.agg [])) ∧ w.grownBy w' (some b) := by
  have HO := Lib.hid (hown.alloc (.cells (kyCs p) 57))
  have hg0 := Lib.hid (World.grownBy_alloc w (.cells (kyCs p) 57) (some b))
  have hkey := Lib.hid (keyPl hx)
  clear hown hx
  go_enter Try.func33, Try.ntmps33
  go_wp2_with (at_mapUpdate; refine wpList_mapUpdate_own _ rfl _ _ _ 53 rfl 57 70 lawPl Try.underlying53 (unitElem (H := Unit)) b n _ rfl HO.out hn _ _ _ rfl rfl hkey.out _ [] unitElem_mk ?_; intro w1 hown1 hgrow1)
  go_end0
  exact ⟨rfl, hown1, grownBy_trans hg0.out hgrow1⟩

theorem okC_of (L : List Ck) (h : L.length ≤ 24) : okC L = decide ((∀ x ∈ L, ckB x = true) ∧ (L.map kyP).Nodup) := by
  unfold okC
  exact decide_eq_decide.2 ⟨fun hh => ⟨hh.ok, hh.once⟩, fun hh => ⟨h, hh.1, hh.2⟩⟩
theorem okC_long {L : List Ck} (h : ¬ L.length ≤ 24) : okC L = false := decide_eq_false (fun hh => h hh.len)
set_option maxRecDepth 100000 in
set_option maxHeartbeats 2000000 in
theorem implCheckOk (A : Option Addr) (a : Nat) (L : List Ck) (w : World) (hl : L.length ≤ 2097152) (hr : Rd 3 Ck.cells w A L) :
    Calls Try.prog 14 #[.slice A L.length a] w fun e w' => e = .returned (.bool (okC L)) ∧ Below w.heap.size w w' := by
  have Z0 : Hid (Below w.heap.size w (w.alloc (.map #[] 0))) := (Below.refl _ _).alloc (Nat.le_refl _) _
  have O0 : Hid (OwZP (w.alloc (.map #[] 0)) w.heap.size 0 (setP [])) := by
    have h := World.ownsMap_made w Try.prog 57 (unitElem (H := Unit))
    simpa [Hid, setP, putP] using h
  have HR := Lib.hid hr
  clear hr
  by_cases h24 : ¬ L.length ≤ 24
  · have HQ := Lib.hid (okC_long h24)
    have i1 : (24 : Int) < (L.length : Int) := by omega
    clear h24
    go_enter Try.func14, Try.ntmps14
    go_wp2
    go_light
    go_ret
    exact ⟨ret_bool HQ.out.symm, Below.refl _ _⟩
  replace h24 := Decidable.not_not.1 h24
  have i24 : ¬ (24 : Int) < (L.length : Int) := by omega
  have hmm := @run_makeMap Try.prog
  obtain ⟨B, hBd⟩ : ∃ B, decide ((∀ x ∈ L, ckB x = true) ∧ (L.map kyP).Nodup) = B := ⟨_, rfl⟩
  have HBD := Lib.hid hBd
  have HQ := Lib.hid (show okC L = B by rw [okC_of L h24, hBd])
  clear hBd
  go_enter Try.func14, Try.ntmps14
  go_wp2
  go_loopw [12] (fun v wr => ∃ j : Nat, j ≤ L.length ∧ v = .int .i64 (j : Int) ∧ Hid (∀ x ∈ L.take j, ckB x = true) ∧ Hid (OwZP wr w.heap.size j (setP ((L.take j).map kyP))) ∧ Hid (Below w.heap.size w wr)) (fun v _ => L.length - (intOf v).toNat)
  case atStart => exact ⟨0, Nat.zero_le _, rfl, by simp [Hid], by simpa [Hid] using O0.out, Z0.out⟩
  case round =>
    clear Z0 O0 hmm
    obtain ⟨j, hj, rfl, ha, ho, hB⟩ := hrel
    by_cases hlt : j < L.length
    · obtain ⟨g, o, rfl, ca⟩ := Rd.below HR.out hB.out j hlt
      have HT := Lib.hid (List.take_succ_eq_append_getElem hlt)
      have HM := Lib.hid (List.getElem_mem hlt)
      generalize L[j] = x at ca HT HM
      have xr0 : wr.cell? ⟨g, o + j * 3, none⟩ = some (.int .i64 x.a) := ca 0 _ rfl
      have xr1 : wr.cell? ⟨g, o + j * 3 + 1, none⟩ = some (.int .i64 x.f) := ca 1 _ rfl
      have xr2 : wr.cell? ⟨g, o + j * 3 + 2, none⟩ = some (.int .i64 x.n) := ca 2 _ rfl
      clear ca
      have lx : g < wr.heap.size := World.block_lt_of_cell? wr _ xr0
      have i0 : (0 : Int) ≤ (j : Int) := by omega
      have i1 : (j : Int) < (L.length : Int) := by omega
      have hba : Below wr.heap.size wr (wr.alloc (.cells (ckCs x) 25)) := (Below.refl _ _).alloc (Nat.le_refl _) _
      have OD := Lib.hid (ho.out.alloc (.cells (ckCs x) 25))
      have KX : Hid (Bkk (wr.alloc (.cells (ckCs x) 25)) wr.heap.size 25 (ckCs x)) := Bkk.new _
      have BB := Lib.hid (Below.and hB.out hba)
      clear hba ho hB
      go_upto_region 7 with (fail)
      obtain ⟨xb, hxb⟩ : ∃ X, X = wr.heap.size := ⟨_, rfl⟩
      obtain ⟨w0, hw0⟩ : ∃ X, X = wr.alloc (.cells (ckCs x) 25) := ⟨_, rfl⟩
      rw [← hw0] at OD KX BB ⊢
      rw [← hxb] at KX ⊢
      clear hw0 hxb xr0 xr1 xr2 lx
      have y0 : w0.cell? ⟨xb, 0, none⟩ = some (.int .i64 x.a) := KX.out.cell 0
      have y1 : w0.cell? ⟨xb, 1, none⟩ = some (.int .i64 x.f) := KX.out.cell 1
      have y2 : w0.cell? ⟨xb, 2, none⟩ = some (.int .i64 x.n) := KX.out.cell 2
      have ly := KX.out.lt
      go_wp2_with (fail)
      refine (implCheckOne x _).mono ?_
      rintro e w1 ⟨rfl, hb⟩
      have OD := Lib.hid (OD.out.kept (Below.grownBy hb none) (by simp))
      have KX := Lib.hid (KX.out.below hb)
      have BB := Lib.hid (Below.and BB.out hb)
      clear hb y0 y1 y2 ly
      rcases hx : ckB x with _ | _
      · have HN := Lib.hid (show ¬ ((∀ x ∈ L, ckB x = true) ∧ (L.map kyP).Nodup) from fun hh => by have := hh.1 x HM.out; rw [hx] at this; cases this)
        go_wp2
        go_light
        go_ret
        exact ⟨ret_bool (by rw [HQ.out, ← HBD.out]; exact (decide_eq_false HN.out).symm), BB.out⟩
      · have HX := Lib.hid hx
        clear hx
        have y0 : w1.cell? ⟨xb, 0, none⟩ = some (.int .i64 x.a) := KX.out.cell 0
        have y1 : w1.cell? ⟨xb, 1, none⟩ = some (.int .i64 x.f) := KX.out.cell 1
        have y2 : w1.cell? ⟨xb, 2, none⟩ = some (.int .i64 x.n) := KX.out.cell 2
        have ly := KX.out.lt
        go_wp2_with (fail)
        refine (setAddP w.heap.size j _ (kyP x) _ OD.out (by unfold maxLen; omega) (kbP_of HX.out)).mono ?_
        rintro e w2 ⟨rfl, h1, h2⟩
        rw [← setP_snoc] at h1
        have OD := Lib.hid h1
        have BB := Lib.hid (BB.out.grown h2 BB.out.size (fun q hq => by injection hq with hq; omega))
        have HA : Hid (∀ y ∈ L.take j ++ [x], ckB y = true) := by
          intro y hy
          rcases List.mem_append.1 hy with h | h
          · exact ha.out y h
          · rw [List.mem_singleton.1 h]
            exact HX.out
        have OE := Lib.hid (show OwZP w2 w.heap.size (j + 1) (setP ((L.take j ++ [x]).map kyP)) by rw [List.map_append]; exact OD.out)
        rw [← HT.out] at OE HA
        clear h1 h2 y0 y1 y2 ly KX HT ha OD
        go_wp2
        go_roundw
        case rel => exact ⟨j + 1, by omega, by go_num, HA.out, OE.out, BB.out⟩
        case measure => (simp [intOf]; try omega)
    · have i1 : ¬ (j : Int) < (L.length : Int) := by omega
      obtain rfl : j = L.length := by omega
      rw [List.take_length] at ha ho
      have HF := Lib.hid (setP_facts _ (L.map kyP) rfl (fun p hp => by
        obtain ⟨x, hx, rfl⟩ := List.mem_map.1 hp
        exact kbP_of (ha.out x hx)))
      obtain ⟨z, hz⟩ : ∃ z, Maps.size (setP (L.map kyP)) = z := ⟨_, rfl⟩
      have HZ := Lib.hid hz
      clear hz
      have HE := Lib.hid (show (((z : Int)) == (L.length : Int)) = B by
        rw [← HBD.out]
        have h4 := HF.out.2.2.2
        rw [HZ.out, List.length_map] at h4
        by_cases hd : (L.map kyP).Nodup
        · rw [decide_eq_true ⟨ha.out, hd⟩, h4.2 hd]
          simp
        · rw [decide_eq_false (fun hh => hd hh.2)]
          have : z ≠ L.length := fun e => hd (h4.1 e)
          simp
          omega)
      clear HF HBD
      go_wp2_with (at_len; refine wpList_len_own _ rfl _ 53 rfl 57 70 Try.underlying53 (unitElem (H := Unit)) _ L.length _ rfl ho.out ?_; rw [HZ.out])
      go_light
      go_ret
      exact ⟨ret_bool (by rw [HQ.out]; exact HE.out), hB.out⟩

end Go.Proofs.Ytgbnoemoangofaa
