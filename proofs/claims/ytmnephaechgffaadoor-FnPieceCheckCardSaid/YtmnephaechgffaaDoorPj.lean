/- Texts and pieces drawn of a code. -/
import Derived.Test.YtmnephaechgffaaDoorPi
import Derived.Test.YtmnephaechgffaaDoorTt
namespace Go.Proofs.YtmnephaechgffaaDoor
open Go.ChangeShapes Go.WideShapes Go.ChangeAt Go.RowKit
set_option linter.unusedVariables false
set_option linter.unusedSimpArgs false

theorem oneP {w : World} {R : Nat} {A : Option Addr} {n c : Nat} {p : Int} (g : Nat) (l : List Int) (h : Reader w R A n c p) (hp : p ≤ 100000) (hl : 0 < l.length) (hl1 : l.length ≤ 1000) (hg : g ≠ R)
    (hc : ∀ i (hi : i < l.length), w.cell? ⟨g, i, none⟩ = some (.int .i64 (l[i]'hi))) :
    Calls Tryd.prog 46 #[.pointer (some ⟨R, 0, none⟩), .slice (some ⟨g, 0, none⟩) l.length l.length] w fun e w' => ∃ v : Int, v ∈ l ∧ e = .returned (.int .i64 v) ∧ Drawn w R A n c p 1 w' := by
  have H := Lib.hid h
  have HC := Lib.hid hc
  clear h hc
  go_enter Tryd.func46, Tryd.ntmps46
  go_wp2_with (fail)
  refine (pickR (l.length : Int) H.out hp (by omega) (by omega)).mono ?_
  rintro e w1 ⟨v, v0, v1, rfl, hd⟩
  obtain ⟨j, rfl⟩ := Int.eq_ofNat_of_zero_le v0
  obtain ⟨q, hq0, hq1, hr, hgr⟩ := hd
  have hcell := hgr.cell (HC.out j (by omega)) (by simpa using hg)
  have HD : Hid (Drawn w R A n c p 1 w1) := ⟨q, hq0, hq1, hr, hgr⟩
  have HM := Lib.hid (List.getElem_mem (l := l) (n := j) (by omega))
  clear hr hgr
  generalize l[j] = x at hcell HM
  go_wp2
  go_light
  go_ret
  exact ⟨x, HM.out, rfl, HD.out⟩

theorem ofP {w : World} {R : Nat} {A : Option Addr} {n c : Nat} {p : Int} (g : Nat) (l : List ByteArray) (h : Reader w R A n c p) (hp : p ≤ 100000) (hl : 0 < l.length) (hl1 : l.length ≤ 1000) (hg : g ≠ R)
    (hc : ∀ i (hi : i < l.length), w.cell? ⟨g, i, none⟩ = some (.string (l[i]'hi))) :
    Calls Tryd.prog 64 #[.pointer (some ⟨R, 0, none⟩), .slice (some ⟨g, 0, none⟩) l.length l.length] w fun e w' => ∃ v : ByteArray, v ∈ l ∧ e = .returned (.string v) ∧ Drawn w R A n c p 1 w' := by
  have H := Lib.hid h
  have HC := Lib.hid hc
  clear h hc
  go_enter Tryd.func64, Tryd.ntmps64
  go_wp2_with (fail)
  refine (pickR (l.length : Int) H.out hp (by omega) (by omega)).mono ?_
  rintro e w1 ⟨v, v0, v1, rfl, hd⟩
  obtain ⟨j, rfl⟩ := Int.eq_ofNat_of_zero_le v0
  obtain ⟨q, hq0, hq1, hr, hgr⟩ := hd
  have hcell := hgr.cell (HC.out j (by omega)) (by simpa using hg)
  have HD : Hid (Drawn w R A n c p 1 w1) := ⟨q, hq0, hq1, hr, hgr⟩
  have HM := Lib.hid (List.getElem_mem (l := l) (n := j) (by omega))
  clear hr hgr
  generalize l[j] = x at hcell HM
  go_wp2
  go_light
  go_ret
  exact ⟨x, HM.out, rfl, HD.out⟩

theorem lit_cellsP (w : World) (t : TypeId) (l : List Int) : ∀ i (hi : i < l.length), (w.alloc (.cells (l.map (Value.int .i64)).toArray t)).cell? ⟨w.heap.size, i, none⟩ = some (.int .i64 (l[i]'hi)) := by
  intro i hi
  rw [cell_of_row _ _ i _ t (0, 0) (heap_alloc_new w _)]
  simp [hi]
theorem lit_textsP (w : World) (t : TypeId) (l : List ByteArray) : ∀ i (hi : i < l.length), (w.alloc (.cells (l.map Value.string).toArray t)).cell? ⟨w.heap.size, i, none⟩ = some (.string (l[i]'hi)) := by
  intro i hi
  rw [cell_of_row _ _ i _ t (0, 0) (heap_alloc_new w _)]
  simp [hi]
theorem OwS.cap {w : World} {lo : Nat} {B : Option Addr} {d : Nat} {D : List ByteArray} (h : OwS w lo B d D) : D.length ≤ d := by
  rcases h.2 with ⟨h1, h2⟩ | ⟨g, cap, cur, h1, h2, h3, h4, _⟩
  · omega
  · injection h1 with h1 h5 h6
    omega
theorem OwS.drawn {w w' : World} {lo R : Nat} {B : Option Addr} {d : Nat} {D : List ByteArray} (h : OwS w lo B d D) (hR : R < lo) (hg : w.grownBy w' (some R)) : OwS w' lo B d D :=
  own_same (show w.ownsRow _ _ _ _ _ _ from h) (fun k hk => hg.block k (h.ge k hk).2 (fun e => by injection e with e; have := (h.ge k hk).1; omega))
theorem OwS.baseS {w : World} {lo p : Nat} {B : Option Addr} {d : Nat} {D : List ByteArray} (h : OwS w p B d D) (hl : lo ≤ p) : OwS w lo B d D := own_base (show w.ownsRow _ _ _ _ _ _ from h) hl
theorem grown_rowP {a b c : World} {R : Nat} {row : Option Nat} (h : a.grownBy b (some R)) (k : b.grownBy c row) (hx : ∀ x, row = some x → a.heap.size ≤ x) : a.grownBy c (some R) :=
  ⟨k.os.trans h.os, k.tape.trans h.tape, k.output.trans h.output, Nat.le_trans h.size k.size, fun i hi hr => (k.block i (Nat.lt_of_lt_of_le hi h.size) (fun e => by have := hx i e.symm; omega)).trans (h.block i hi hr)⟩
theorem Reader.rowP {w w' : World} {R : Nat} {A : Option Addr} {n c : Nat} {p : Int} {row : Option Nat} {B : Nat} (h : Reader w R A n c p) (hg : w.grownBy w' row) (hR : R < B) (hB : ∀ b off, A = some ⟨b, off, none⟩ → 0 < n → b < B) (hx : ∀ x, row = some x → B ≤ x) : Reader w' R A n c p :=
  ⟨(hg.block R h.lt (fun e => by have := hx R e.symm; omega)).trans h.at_, fun i hi => by
    obtain ⟨b, off, u, hA, hc, hu⟩ := h.bytes i hi
    exact ⟨b, off, u, hA, hg.cell hc (fun e => by have := hx _ e.symm; have := hB b off hA (by omega); simp at *; omega), hu⟩, h.far, h.lo, h.len⟩

set_option maxRecDepth 100000 in
set_option maxHeartbeats 4000000 in
theorem l20Long {w : World} {R : Nat} {A : Option Addr} {n c : Nat} {p : Int} (h : Reader w R A n c p) (hp : p ≤ 80000) :
    Calls Tryd.prog 45 #[.pointer (some ⟨R, 0, none⟩)] w fun e w' => ∃ s : ByteArray, e = .returned (.string s) ∧ s.size ≤ 193 ∧ Drawn w R A n c p 200 w' := by
  have hRlt := h.lt
  have hb0 : Below w.heap.size w (w.alloc (.cells #[.int .i64 0, .int .i64 1, .int .i64 11, .int .i64 12, .int .i64 13, .int .i64 24, .int .i64 25, .int .i64 60, .int .i64 100, .int .i64 192, .int .i64 193] 3)) := (Below.refl _ _).alloc (Nat.le_refl _) _
  have RD := Lib.hid (h.below hb0)
  have GR : Hid (w.grownBy (w.alloc (.cells #[.int .i64 0, .int .i64 1, .int .i64 11, .int .i64 12, .int .i64 13, .int .i64 24, .int .i64 25, .int .i64 60, .int .i64 100, .int .i64 192, .int .i64 193] 3)) (some R)) := Below.grownBy hb0 (some R)
  clear h hb0
  go_enter Tryd.func45, Tryd.ntmps45
  go_wp2_with (fail)
  refine (oneP w.heap.size [0, 1, 11, 12, 13, 24, 25, 60, 100, 192, 193] RD.out (by omega) (by simp) (by simp) (by omega) (lit_cellsP w 3 [0, 1, 11, 12, 13, 24, 25, 60, 100, 192, 193])).mono ?_
  rintro e wa ⟨m, hm, rfl, qa, qa0, qa1, hr, hgr⟩
  have hm2 : 0 ≤ m ∧ m ≤ 193 := by simp at hm; omega
  obtain ⟨m, rfl⟩ : ∃ M : Nat, m = (M : Int) := ⟨m.toNat, by omega⟩
  replace RD := Lib.hid hr
  replace GR := Lib.hid (grownBy_trans GR.out hgr)
  clear hr hgr hm
  go_wp2
  go_loopw [3, 4] (fun sv nv wr => ∃ (m : Nat) (sb : ByteArray) (q : Int), sv = .string sb ∧ nv = .int .i64 (m : Int) ∧ m + sb.size ≤ 193 ∧ p ≤ q ∧ q + (m : Int) ≤ p + 194 ∧ Hid (Reader wr R A n c q) ∧ Hid (w.grownBy wr (some R))) (fun _ nv _ => (intOf nv).toNat)
  case atStart => exact ⟨m, ⟨#[]⟩, qa, rfl, rfl, by show m + 0 ≤ 193; omega, by omega, by omega, RD.out, GR.out⟩
  case round =>
    clear RD GR hm2
    obtain ⟨m, sb, q, rfl, rfl, hms, hq0, hq1, RD, GR⟩ := hrel
    rcases m with _ | m
    · have DR : Hid (Drawn w R A n c p 200 wr) := ⟨q, by omega, by omega, RD.out, GR.out⟩
      clear RD GR
      go_wp2
      go_light
      go_ret
      exact ⟨sb, rfl, by omega, DR.out⟩
    · have i0 : decide ((0 : Int) < ((m + 1 : Nat) : Int)) = true := decide_eq_true (by omega)
      have hs := GR.out.size
      have hb0 : Below wr.heap.size wr (wr.alloc (.cells #[.string ⟨#[97]⟩, .string ⟨#[98]⟩, .string ⟨#[124]⟩, .string ⟨#[32]⟩] 9)) := (Below.refl _ _).alloc (Nat.le_refl _) _
      replace RD := Lib.hid (RD.out.below hb0)
      replace GR := Lib.hid (grownBy_trans GR.out (Below.grownBy hb0 (some R)))
      clear hb0
      go_wp2_with (fail)
      refine (ofP wr.heap.size [⟨#[97]⟩, ⟨#[98]⟩, ⟨#[124]⟩, ⟨#[32]⟩] RD.out (by omega) (by simp) (by simp) (by omega) (lit_textsP wr 9 [⟨#[97]⟩, ⟨#[98]⟩, ⟨#[124]⟩, ⟨#[32]⟩])).mono ?_
      rintro e w2 ⟨x, hx, rfl, q2, q20, q21, hr, hgr⟩
      have hx1 : x.size = 1 := by
        simp only [List.mem_cons, List.not_mem_nil, or_false] at hx
        rcases hx with rfl | rfl | rfl | rfl <;> rfl
      replace RD := Lib.hid hr
      replace GR := Lib.hid (grownBy_trans GR.out hgr)
      have HZ := Lib.hid (show (sb ++ x).size = sb.size + 1 by rw [ByteArray.size_append, hx1])
      clear hr hgr hx hs
      go_wp2
      go_roundw
      case rel => exact ⟨m, sb ++ x, q2, rfl, by go_num, by have := HZ.out; omega, by omega, by omega, RD.out, GR.out⟩
      case measure => (simp [intOf]; try omega)

set_option maxRecDepth 100000 in
set_option maxHeartbeats 2000000 in
theorem in_belowP {w w' : World} {A : Option Addr} {n : Nat} (h : InB w A n) (hb : Below w.heap.size w w') : InB w' A n := fun i hi => by
  obtain ⟨b, off, u, h1, h2, h3⟩ := h i hi
  exact ⟨b, off, u, h1, (Below.grownBy hb none).cell h2 (by simp), h3⟩
end Go.Proofs.YtmnephaechgffaaDoor
