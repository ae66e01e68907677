/- A game as a text: rows and figures, the program's way. -/
import Derived.Test.YthidcmffnpnjjaaDoorCj
import Derived.Test.YthidcmffnpnjjaaDoorBk
import Derived.Lib.SmallJoins
namespace Go.Proofs.YthidcmffnpnjjaaDoor
open Go.ChangeShapes Go.WideShapes Go.ChangeAt Go.RowKit
set_option linter.unusedVariables false
set_option linter.unusedSimpArgs false

theorem isb_below {T e : TypeId} {B b : Nat} {bs : List Value} {w w' : World} (h : Lib.IsBuilder T e B b bs w) (hb : Below w.heap.size w w') : Lib.IsBuilder T e B b bs w' := by
  rcases h with h | h
  · exact .inl (builder_below h hb)
  · exact .inr (builder_below h hb)
theorem row_next {pre : List UInt8} {l : List Int} {j : Nat} {x : Int} (h : j < l.length) (hx : l[j]'h = x) : pre ++ rowT (l.take j) ++ decs x ++ [44] = pre ++ rowT (l.take (j + 1)) := by
  rw [rowT_take l j h, hx]; simp
theorem row_len {pre : List UInt8} {l : List Int} (j : Nat) (hl : l.length ≤ 16) (hs : ∀ n ∈ l, Sm n) (hp : pre.length ≤ 2000) : (pre ++ rowT (l.take j)).length ≤ 2352 := by
  have h1 := rowT_len (l.take j) (fun n hn => hs n (List.mem_of_mem_take hn))
  have h2 : (l.take j).length ≤ 16 := by rw [List.length_take]; omega
  rw [List.length_append]; omega

set_option maxRecDepth 100000 in
set_option maxHeartbeats 4000000 in
theorem writeRow (b : Nat) (A : Option Addr) (c : Nat) (l : List Int) (pre : List UInt8) (w0 w : World) (hs : ∀ n ∈ l, Sm n) (hl : l.length ≤ 16) (hp : pre.length ≤ 2000) (rd : RdI w0 A l) (h0 : Below w0.heap.size w0 w) (h : Lib.IsBuilder 42 5 w0.heap.size b (Lib.byteCells pre) w) (ht : Tab w0) :
    Calls Tryd.prog 16 #[.pointer (some ⟨b, 0, none⟩), .slice A l.length c] w fun e w' => e = .returned (.tuple #[]) ∧ Lib.IsBuilder 42 5 w0.heap.size b (Lib.byteCells (pre ++ rowT l)) w' ∧ Below w0.heap.size w w' := by
  have HS := Lib.hid hs
  have RD := Lib.hid rd
  have Z0 := Lib.hid h0
  have HT := Lib.hid ht
  have HBd := Lib.hid h
  clear hs rd h0 ht h
  go_enter Tryd.func16, Tryd.ntmps16
  go_wp2
  go_loopw [5, 8] (fun u v wr => ∃ j : Nat, j ≤ l.length ∧ v = .int .i64 (j : Int) ∧ Hid (Lib.IsBuilder 42 5 w0.heap.size b (Lib.byteCells (pre ++ rowT (l.take j))) wr) ∧ Hid (Below w0.heap.size w wr)) (fun _ v _ => l.length - (intOf v).toNat)
  case atStart => exact ⟨0, Nat.zero_le _, rfl, by simpa [Hid, rowT] using HBd.out, Below.refl _ _⟩
  case round =>
    obtain ⟨j, hj, rfl, HBj, hB⟩ := hrel
    by_cases hlt : j < l.length
    · have Z1 := Lib.hid (Z0.out.trans hB.out)
      obtain ⟨g, hg, c0⟩ := RdI.below RD.out Z1.out j hlt
      subst hg
      have hsm := HS.out _ (List.getElem_mem hlt)
      have hXl := row_len (pre := pre) j hl HS.out hp
      obtain ⟨x, hx⟩ : ∃ x, l[j] = x := ⟨_, rfl⟩
      rw [hx] at c0 hsm
      have HE := Lib.hid (row_next (pre := pre) hlt hx)
      obtain ⟨X, hX⟩ : ∃ X, pre ++ rowT (l.take j) = X := ⟨_, rfl⟩
      rw [hX] at HBj HE hXl
      have hdl := decs_len x hsm.i64
      have HI := Lib.hid hsm.i64
      have i0 : (0 : Int) ≤ (j : Int) := by omega
      have i1 : (j : Int) < (l.length : Int) := by omega
      have Hl := Lib.hid (show X.length + (decs x).length ≤ 100000 ∧ (X ++ decs x).length + 1 ≤ 100000 by rw [List.length_append]; omega)
      have HG := Lib.hid (show w0.heap.size ≤ wr.heap.size from Z1.out.size)
      clear hx hsm hX hXl hdl HBd
      go_wp2_with (fail)
      refine (itoaP x _ HI.out (HT.out.below Z1.out)).mono ?_
      rintro e w5 ⟨rfl, hb⟩
      have HB5 := Lib.hid (isb_below HBj.out hb)
      have Z5 := Lib.hid (hB.out.trans (hb.mono HG.out))
      have HG5 := Lib.hid (Nat.le_trans HG.out hb.size)
      clear hb c0 HBj
      go_wp2_with (fail)
      refine (writeString _ b X (decs x) _ HB5.out Hl.out.1 HG5.out).mono ?_
      rintro e w6 ⟨rfl, h6, hb⟩
      have HB6 := Lib.hid h6
      have Z6 := Lib.hid (Z5.out.trans hb)
      have HG6 := Lib.hid (Nat.le_trans HG5.out hb.size)
      clear hb h6 HB5
      go_wp2_with (fail)
      refine (writeByte _ b (X ++ decs x) 44 _ (.inr HB6.out) Hl.out.2 HG6.out).mono ?_
      rintro e w7 ⟨rfl, h7, hb⟩
      have HB7 := Lib.hid h7
      have Z7 := Lib.hid (Z6.out.trans hb)
      clear hb h7 HB6
      go_wp2
      go_roundw
      case rel => exact ⟨j + 1, by omega, by go_num, by rw [← HE.out]; exact .inr HB7.out, Z7.out⟩
      case measure => (simp [intOf]; try omega)
    · have i1 : ¬ (j : Int) < (l.length : Int) := by omega
      obtain rfl : j = l.length := by omega
      have HR := Lib.hid (show Lib.IsBuilder 42 5 w0.heap.size b (Lib.byteCells (pre ++ rowT l)) wr by have := HBj.out; rwa [List.take_length] at this)
      clear HBj HBd
      go_wp2
      go_light
      go_end0
      exact ⟨rfl, HR.out, hB.out⟩

end Go.Proofs.YthidcmffnpnjjaaDoor
