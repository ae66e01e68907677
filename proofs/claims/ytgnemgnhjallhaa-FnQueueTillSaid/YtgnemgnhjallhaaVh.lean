/- Whether things with times are ok: the program's way, a set of things. -/
import Derived.Test.YtgnemgnhjallhaaVg
import Derived.Test.YtgnemgnhjallhaaMB
import Derived.WideKeyArgs
import Derived.DeepKeys4
import Derived.MapViews
import Derived.Maps.OwnSet
import Derived.Maps.Views
namespace Go.Proofs.Ytgnemgnhjallhaa
open Go.ChangeShapes Go.WideShapes Go.ChangeAt Go.RowKit Go.Maps Go.WideMaps
set_option linter.unusedVariables false
set_option linter.unusedSimpArgs false

theorem rowT : (25 : TypeId) < Try.prog.types.size := of_decide_eq_true (by kernel_rfl)
theorem wideT : (match Try.prog.underlying 25 with | some (.array _ _) | some (.struct _) => true | _ => false) = true := by rw [Try.underlying25]
theorem lawT : Keyed Try.prog 25 := Keyed.of_law (deep_law_laid Try.laidOut (m := 2) (by omega) rowT (by kernel_rfl) wideT)
def klT (x : Tm) : Lit := .string (keyBytes [.int .i64 x.a, .int .i64 x.f, .int .i64 x.n])
theorem keyTypeT : Try.prog.keyType 25 = true := by kernel_rfl
theorem cellsT : Try.prog.cellsOf 25 = 3 := by kernel_rfl
theorem sizeT : ∃ m, Try.prog.types.size = m + 2 := ⟨Try.prog.types.size - 2, by have : 2 ≤ Try.prog.types.size := of_decide_eq_true (by kernel_rfl); omega⟩
theorem keyLits_int (d : Nat) (n : Int) (h : (Lit.int .i64 n).wf = true) : Try.prog.keyLits (d + 1) 3 [.int .i64 n] = some [.int .i64 n] := by
  unfold Program.keyLits
  rw [Try.underlying3]
  simp [h]
theorem cellsI : Try.prog.cellsOf 3 = 1 := by kernel_rfl
set_option maxRecDepth 100000 in
theorem keyLits3 (m : Nat) (x : Tm) (wa : (Lit.int .i64 x.a).wf = true) (wf : (Lit.int .i64 x.f).wf = true) (wn : (Lit.int .i64 x.n).wf = true) :
    Try.prog.keyLits (m + 2 + 1) 25 [.int .i64 x.a, .int .i64 x.f, .int .i64 x.n] = some [.int .i64 x.a, .int .i64 x.f, .int .i64 x.n] := by
  unfold Program.keyLits
  rw [Try.underlying25]
  simp only []
  rw [if_pos ⟨by rw [cellsT]; rfl, by kernel_rfl⟩]
  simp [List.mapM_cons, List.mapM_nil, keyLits_int, wa, wf, wn, cellsI]
theorem wf_of {n : Int} (h0 : 0 ≤ n) (h1 : n ≤ 999) : (Lit.int .i64 n).wf = true := by
  simp [Lit.wf, IntKind.min, IntKind.max, IntKind.signed, IntKind.bits]
  omega
theorem inB_le {n lo hi : Int} (h : inB n lo hi = true) : lo ≤ n ∧ n ≤ hi := by simpa [inB] using h
theorem tmB_le {x : Tm} (h : tmB x = true) : (0 ≤ x.a ∧ x.a ≤ 999) ∧ (0 ≤ x.f ∧ x.f ≤ 4) ∧ (0 ≤ x.n ∧ x.n ≤ 30) := by
  unfold tmB at h
  simp only [Bool.and_eq_true] at h
  exact ⟨inB_le h.1, inB_le h.2.1, inB_le h.2.2⟩
set_option maxRecDepth 100000 in
theorem keyT {x : Tm} (h : tmB x = true) : keyOf Try.prog 25 x.val = some (klT x) := by
  obtain ⟨⟨a0, a1⟩, ⟨f0, f1⟩, n0, n1⟩ := tmB_le h
  have wa := wf_of a0 a1
  have wf := wf_of f0 (by omega : x.f ≤ 999)
  have wn := wf_of n0 (by omega : x.n ≤ 999)
  obtain ⟨m, hm⟩ := sizeT
  unfold keyOf
  rw [Try.underlying25]
  simp only []
  rw [if_pos (by rw [keyTypeT]; simp [Value.formed, Try.underlying25, cellsT]), hm]
  show Option.map (fun ls => Lit.string (keyBytes ls)) (Try.prog.keyLits (m + 2 + 1) 25 [.int .i64 x.a, .int .i64 x.f, .int .i64 x.n]) = _
  rw [keyLits3 m x wa wf wn]
  rfl
theorem klT_inj {x y : Tm} (hx : tmB x = true) (hy : tmB y = true) (h : klT x = klT y) : x = y := by
  have h1 := lawT.inj (keyT hx) (by rw [h]; exact keyT hy)
  obtain ⟨a, f, n⟩ := x
  obtain ⟨a', f', n'⟩ := y
  simpa using h1
abbrev OwZ (w : World) (b n : Nat) (D : DataW Unit) : Prop := w.ownsMap Try.prog 25 unitElem b n D
def putAll (L : List Tm) (D : DataW Unit) : DataW Unit := L.foldl (fun D x => D.put (klT x) (.agg [])) D
def setT (L : List Tm) : DataW Unit := putAll L (.map [])
theorem setT_snoc (L : List Tm) (x : Tm) : setT (L ++ [x]) = (setT L).put (klT x) (.agg []) := by unfold setT putAll; rw [List.foldl_append]; rfl
theorem isKey (x : Tm) : WideAt.IsKeyLit (klT x) := trivial
theorem setT_facts : ∀ (n : Nat) (L : List Tm), L.length = n → (∀ x ∈ L, tmB x = true) → Tidy (setT L) ∧ (∀ y, tmB y = true → (Maps.has (setT L) (klT y) = true ↔ y ∈ L)) ∧ Maps.size (setT L) ≤ L.length ∧ (Maps.size (setT L) = L.length ↔ L.Nodup) := by
  intro n
  induction n with
  | zero =>
    intro L hn hL
    have h0 : L = [] := List.eq_nil_of_length_eq_zero hn
    subst h0
    exact ⟨tidy_empty, fun y _ => by simp [setT, putAll, Maps.has], Nat.le_refl _, by simp [setT, putAll, Maps.size]⟩
  | succ n ih =>
    intro L hn hL
    obtain ⟨L0, x, rfl⟩ : ∃ L0 x, L = L0 ++ [x] := by
      rcases List.eq_nil_or_concat L with h | ⟨a, b, h⟩
      · subst h
        simp at hn
      · exact ⟨a, b, by rw [h, List.concat_eq_append]⟩
    have hn0 : L0.length = n := by simpa using hn
    obtain ⟨h1, h2, h3, h4⟩ := ih L0 hn0 (fun y hy => hL y (List.mem_append_left _ hy))
    have hx := hL x (by simp)
    rw [setT_snoc]
    have hs := size_put (k := klT x) h1 (.agg [])
    have hlen : (L0 ++ [x]).length = L0.length + 1 := by simp
    refine ⟨h1.put (isKey x) _, fun y hy => ?_, ?_, ?_⟩
    · by_cases e : y = x
      · subst e
        simp [has_put_same h1.isMap (isKey y)]
      · rw [has_put_other (fun e2 => e (klT_inj hy hx e2)), h2 y hy]
        simp [e]
    · rw [hs, hlen]
      split <;> omega
    · rw [hs, hlen]
      by_cases hm : x ∈ L0
      · rw [if_pos ((h2 x hx).2 hm)]
        constructor
        · intro hh
          omega
        · intro hh
          exact absurd rfl ((List.nodup_append.1 hh).2.2 x hm x (by simp))
      · rw [if_neg (fun hh => hm ((h2 x hx).1 hh))]
        constructor
        · intro hh
          refine List.nodup_append.2 ⟨h4.1 (by omega), by simp, fun a ha b hb e => ?_⟩
          rw [List.mem_singleton.1 hb] at e
          exact hm (e ▸ ha)
        · intro hh
          have := h4.2 (List.nodup_append.1 hh).1
          omega

set_option maxRecDepth 100000 in
set_option maxHeartbeats 1000000 in
theorem setAddT (b n : Nat) (D : DataW Unit) (x : Tm) (w : World) (hown : OwZ w b n D) (hn : n < maxLen) (hx : tmB x = true) :
    Calls Try.prog 59 #[.map (some b), x.val] w fun e w' => e = .returned (.tuple #[]) ∧ OwZ w' b (n + 1) (D.put (klT x) (.agg [])) ∧ w.grownBy w' (some b) := by
  have HO := Lib.hid (hown.alloc (.cells (tmCs x) 25))
  have hg0 := Lib.hid (World.grownBy_alloc w (.cells (tmCs x) 25) (some b))
  have hkey := Lib.hid (keyT hx)
  clear hown hx
  go_enter Try.func59, Try.ntmps59
  go_wp2_with (at_mapUpdate; refine wpList_mapUpdate_own _ rfl _ _ _ 75 rfl 25 78 lawT Try.underlying75 (unitElem (H := Unit)) b n _ rfl HO.out hn _ _ _ rfl rfl hkey.out _ [] unitElem_mk ?_; intro w1 hown1 hgrow1)
  go_end0
  exact ⟨rfl, hown1, grownBy_trans hg0.out hgrow1⟩

set_option maxRecDepth 100000 in
set_option maxHeartbeats 2000000 in
theorem allTimedOk (A : Option Addr) (a : Nat) (L : List Tm) (w : World) (hl : L.length ≤ maxLen) (hr : Rd 3 Tm.cells w A L) :
    Calls Try.prog 46 #[.slice A L.length a] w fun e w' => e = .returned (.bool (decide ((∀ x ∈ L, tmB x = true) ∧ L.Nodup))) ∧ Below w.heap.size w w' := by
  have hl0 := hl
  unfold maxLen at hl
  have Z0 : Hid (Below w.heap.size w (w.alloc (.map #[] 0))) := (Below.refl _ _).alloc (Nat.le_refl _) _
  have O0 : Hid (OwZ (w.alloc (.map #[] 0)) w.heap.size 0 (setT [])) := by
    have h := World.ownsMap_made w Try.prog 25 (unitElem (H := Unit))
    simpa [Hid, setT, putAll] using h
  have HR := Lib.hid hr
  have HL0 := Lib.hid hl0
  have hmm := @run_makeMap Try.prog
  obtain ⟨B, hBd⟩ : ∃ B, decide ((∀ x ∈ L, tmB x = true) ∧ L.Nodup) = B := ⟨_, rfl⟩
  have HBD := Lib.hid hBd
  rw [hBd]
  clear hr hl0 hBd
  go_enter Try.func46, Try.ntmps46
  go_wp2
  go_loopw [9] (fun v wr => ∃ j : Nat, j ≤ L.length ∧ v = .int .i64 (j : Int) ∧ Hid (∀ x ∈ L.take j, tmB x = true) ∧ Hid (OwZ wr w.heap.size j (setT (L.take j))) ∧ Hid (Below w.heap.size w wr)) (fun v _ => L.length - (intOf v).toNat)
  case atStart => exact ⟨0, Nat.zero_le _, rfl, by simp [Hid], by simpa [Hid] using O0.out, Z0.out⟩
  case round =>
    clear Z0 O0 hmm
    obtain ⟨j, hj, rfl, ha, ho, hB⟩ := hrel
    by_cases hlt : j < L.length
    · obtain ⟨g, o, rfl, ca⟩ := Rd.below HR.out hB.out j hlt
      have HT := Lib.hid (List.take_succ_eq_append_getElem hlt)
      have HM := Lib.hid (List.getElem_mem hlt)
      generalize L[j] = x at ca HT HM
      have xr0 : wr.cell? ⟨g, o + j * 3, none⟩ = some (.int .i64 x.a) := ca 0 _ rfl
      have xr1 : wr.cell? ⟨g, o + j * 3 + 1, none⟩ = some (.int .i64 x.f) := ca 1 _ rfl
      have xr2 : wr.cell? ⟨g, o + j * 3 + 2, none⟩ = some (.int .i64 x.n) := ca 2 _ rfl
      clear ca
      have lx : g < wr.heap.size := World.block_lt_of_cell? wr _ xr0
      have i0 : (0 : Int) ≤ (j : Int) := by omega
      have i1 : (j : Int) < (L.length : Int) := by omega
      have hba : Below wr.heap.size wr (wr.alloc (.cells (tmCs x) 25)) := (Below.refl _ _).alloc (Nat.le_refl _) _
      have OD := Lib.hid (ho.out.alloc (.cells (tmCs x) 25))
      have KX : Hid (Bkk (wr.alloc (.cells (tmCs x) 25)) wr.heap.size 25 (tmCs x)) := Bkk.new _
      have BB := Lib.hid (Below.and hB.out hba)
      clear hba ho hB
      go_upto_region 5 with (fail)
      obtain ⟨xb, hxb⟩ : ∃ X, X = wr.heap.size := ⟨_, rfl⟩
      obtain ⟨w0, hw0⟩ : ∃ X, X = wr.alloc (.cells (tmCs x) 25) := ⟨_, rfl⟩
      rw [← hw0] at OD KX BB ⊢
      rw [← hxb] at KX ⊢
      clear hw0 hxb xr0 xr1 xr2 lx
      have y0 : w0.cell? ⟨xb, 0, none⟩ = some (.int .i64 x.a) := KX.out.cell 0
      have y1 : w0.cell? ⟨xb, 1, none⟩ = some (.int .i64 x.f) := KX.out.cell 1
      have y2 : w0.cell? ⟨xb, 2, none⟩ = some (.int .i64 x.n) := KX.out.cell 2
      go_wp2_with (fail)
      refine (implTimedOk x _).mono ?_
      rintro e w1 ⟨rfl, hb⟩
      have OD := Lib.hid (OD.out.kept (Below.grownBy hb none) (by simp))
      have KX := Lib.hid (KX.out.below hb)
      have BB := Lib.hid (Below.and BB.out hb)
      clear hb y0 y1 y2
      rcases hx : tmB x with _ | _
      · have HN := Lib.hid (show ¬ ((∀ x ∈ L, tmB x = true) ∧ L.Nodup) from fun hh => by have := hh.1 x HM.out; rw [hx] at this; cases this)
        go_wp2
        go_light
        go_ret
        exact ⟨ret_bool (by rw [← HBD.out]; exact (decide_eq_false HN.out).symm), BB.out⟩
      · have HX := Lib.hid hx
        clear hx
        have y0 : w1.cell? ⟨xb, 0, none⟩ = some (.int .i64 x.a) := KX.out.cell 0
        have y1 : w1.cell? ⟨xb, 1, none⟩ = some (.int .i64 x.f) := KX.out.cell 1
        have y2 : w1.cell? ⟨xb, 2, none⟩ = some (.int .i64 x.n) := KX.out.cell 2
        go_wp2_with (fail)
        refine (setAddT w.heap.size j _ x _ OD.out (by unfold maxLen; omega) HX.out).mono ?_
        rintro e w2 ⟨rfl, h1, h2⟩
        rw [← setT_snoc] at h1
        have OD := Lib.hid h1
        have BB := Lib.hid (BB.out.grown h2 BB.out.size (fun q hq => by injection hq with hq; omega))
        have HA : Hid (∀ y ∈ L.take j ++ [x], tmB y = true) := by
          intro y hy
          rcases List.mem_append.1 hy with h | h
          · exact ha.out y h
          · rw [List.mem_singleton.1 h]
            exact HX.out
        rw [← HT.out] at OD HA
        clear h1 h2 y0 y1 y2 KX HT ha
        go_wp2
        go_roundw
        case rel => exact ⟨j + 1, by omega, by go_num, HA.out, OD.out, BB.out⟩
        case measure => (simp [intOf]; try omega)
    · have i1 : ¬ (j : Int) < (L.length : Int) := by omega
      obtain rfl : j = L.length := by omega
      rw [List.take_length] at ha ho
      have HF := Lib.hid (setT_facts _ L rfl ha.out)
      obtain ⟨z, hz⟩ : ∃ z, Maps.size (setT L) = z := ⟨_, rfl⟩
      have HZ := Lib.hid hz
      clear hz
      have HE := Lib.hid (show (((z : Int)) == (L.length : Int)) = B by
        rw [← HBD.out]
        have h4 := HF.out.2.2.2
        rw [HZ.out] at h4
        by_cases hd : L.Nodup
        · rw [decide_eq_true ⟨ha.out, hd⟩, h4.2 hd]
          simp
        · rw [decide_eq_false (fun hh => hd hh.2)]
          have : z ≠ L.length := fun e => hd (h4.1 e)
          simp
          omega)
      clear HF HBD
      go_wp2_with (at_len; refine wpList_len_own _ rfl _ 75 rfl 25 78 Try.underlying75 (unitElem (H := Unit)) _ L.length _ rfl ho.out ?_; rw [HZ.out])
      go_light
      go_ret
      exact ⟨ret_bool HE.out, hB.out⟩

end Go.Proofs.Ytgnemgnhjallhaa
