/- No figure of another client. -/
import Derived.Test.YthjiooocahdfpaaGi
namespace Go.Proofs.Ythjiooocahdfpaa
open Go.ChangeShapes Go.WideShapes Go.ChangeAt Go.RowKit
set_option linter.unusedVariables false
set_option linter.unusedSimpArgs false

set_option maxRecDepth 100000 in
set_option maxHeartbeats 4000000 in
theorem otherNone {w : World} {p lo : Nat} {A : Option Addr} {a : Nat} {B : Option Addr} {b : Nat} {C : Option Addr} {d : Nat} {E : List Fig} {F L : List Int} (h : Bd w p lo A a B b C d E F L) (hE : OkE E) (k : Nat) (c : Int) (hat : atF c E = none) :
    Calls Try.prog 86 #[.agg #[.pointer (some ⟨p, 0, none⟩), .int .i64 k], .int .i64 c] w fun e w' => e = .returned (.tuple #[.agg #[.pointer none, .int .i64 0], .bool false]) ∧ Below w.heap.size w w' := by
  have BW : Hid (Below w.heap.size w ((w.alloc (.cells #[.pointer (some ⟨p, 0, none⟩), .int .i64 k] 87)).alloc (.cells #[.pointer none, .int .i64 0] 87))) := below_alloc2 w _ _
  have H := Lib.hid (h.below BW.out)
  have KF : Hid (Bkk ((w.alloc (.cells #[.pointer (some ⟨p, 0, none⟩), .int .i64 k] 87)).alloc (.cells #[.pointer none, .int .i64 0] 87)) w.heap.size 87 #[.pointer (some ⟨p, 0, none⟩), .int .i64 k]) := (Bkk.new w).alloc _
  have KZ : Hid (Bkk ((w.alloc (.cells #[.pointer (some ⟨p, 0, none⟩), .int .i64 k] 87)).alloc (.cells #[.pointer none, .int .i64 0] 87)) (w.heap.size + 1) 87 #[.pointer none, .int .i64 0]) := by have := Bkk.new (t := 87) (cs := #[.pointer none, .int .i64 0]) (w.alloc (.cells #[.pointer (some ⟨p, 0, none⟩), .int .i64 k] 87)); simpa [Hid] using this
  have HE := Lib.hid hE
  obtain ⟨m, hm⟩ : ∃ m, ltF c E = m := ⟨_, rfl⟩
  have HL := Lib.hid hm
  have HA := Lib.hid hat

  clear h hE hat hm
  go_enter Try.func86, Try.ntmps86
  go_wp2_with (fail)
  refine (figureOf p A a E c _ HE.out (RdF.of_own H.out.e) H.out.at_.cells.1).mono ?_
  rintro e wa ⟨rfl, hb⟩
  rw [HL.out, HA.out]

  simp only [Option.isSome_some, Option.isSome_none]
  have BB : Hid (Below w.heap.size w (wa.alloc (.cells #[.pointer (some ⟨p, 0, none⟩), .int .i64 m] 87))) := (Below.and BW.out hb).alloc (Below.and BW.out hb).size _
  have KF := Lib.hid ((KF.out.below hb).alloc (.cells #[.pointer (some ⟨p, 0, none⟩), .int .i64 m] 87))
  have KA := Lib.hid (KZ.out.below hb)
  have v0 : wa.cell? ⟨w.heap.size + 1, 0, none⟩ = some (.pointer none) := KA.out.cell 0
  have v1 : wa.cell? ⟨w.heap.size + 1, 1, none⟩ = some (.int .i64 0) := KA.out.cell 1
  have vf := KA.out.frozen
  have KZ := Lib.hid ((KZ.out.below hb).alloc (.cells #[.pointer (some ⟨p, 0, none⟩), .int .i64 m] 87))
  have BA := Lib.hid (Below.and BW.out hb)
  have l1 : w.heap.size + 1 < wa.heap.size := by have := hb.size; simp at this; omega
  have l0 : w.heap.size < wa.heap.size := by omega
  clear hb
  have x1 : (wa.alloc (.cells #[.pointer (some ⟨p, 0, none⟩), .int .i64 m] 87)).cell? ⟨w.heap.size, 1, none⟩ = some (.int .i64 k) := KF.out.cell 1
  have z0 : (wa.alloc (.cells #[.pointer (some ⟨p, 0, none⟩), .int .i64 m] 87)).cell? ⟨w.heap.size + 1, 0, none⟩ = some (.pointer none) := KZ.out.cell 0
  have z1 : (wa.alloc (.cells #[.pointer (some ⟨p, 0, none⟩), .int .i64 m] 87)).cell? ⟨w.heap.size + 1, 1, none⟩ = some (.int .i64 0) := KZ.out.cell 1
  have zf := KZ.out.frozen
  have bb : w.heap.size ≤ wa.heap.size := by omega

  go_wp2
  go_light
  refine bodyPost_ret (v := .tuple #[.agg #[.pointer none, .int .i64 0], .bool false]) (by simp [results, Try.results86, go_sem, z0, z1, v0, v1, l1]) rfl ⟨rfl, ?_⟩
  exact (Below.setCell (Below.setCell BA.out (by first | (simp; done) | omega) _) (by first | (simp; done) | omega) _).alloc (by first | (simp; done) | (simp; omega)) _

set_option maxRecDepth 100000 in
set_option maxHeartbeats 4000000 in
theorem otherSame {w : World} {p lo : Nat} {A : Option Addr} {a : Nat} {B : Option Addr} {b : Nat} {C : Option Addr} {d : Nat} {E : List Fig} {F L : List Int} (h : Bd w p lo A a B b C d E F L) (hE : OkE E) (k : Nat) (c : Int) (n : Nat) (hat : atF c E = some n) (hnk : n = k) :
    Calls Try.prog 86 #[.agg #[.pointer (some ⟨p, 0, none⟩), .int .i64 k], .int .i64 c] w fun e w' => e = .returned (.tuple #[.agg #[.pointer none, .int .i64 0], .bool false]) ∧ Below w.heap.size w w' := by
  have BW : Hid (Below w.heap.size w ((w.alloc (.cells #[.pointer (some ⟨p, 0, none⟩), .int .i64 k] 87)).alloc (.cells #[.pointer none, .int .i64 0] 87))) := below_alloc2 w _ _
  have H := Lib.hid (h.below BW.out)
  have KF : Hid (Bkk ((w.alloc (.cells #[.pointer (some ⟨p, 0, none⟩), .int .i64 k] 87)).alloc (.cells #[.pointer none, .int .i64 0] 87)) w.heap.size 87 #[.pointer (some ⟨p, 0, none⟩), .int .i64 k]) := (Bkk.new w).alloc _
  have KZ : Hid (Bkk ((w.alloc (.cells #[.pointer (some ⟨p, 0, none⟩), .int .i64 k] 87)).alloc (.cells #[.pointer none, .int .i64 0] 87)) (w.heap.size + 1) 87 #[.pointer none, .int .i64 0]) := by have := Bkk.new (t := 87) (cs := #[.pointer none, .int .i64 0]) (w.alloc (.cells #[.pointer (some ⟨p, 0, none⟩), .int .i64 k] 87)); simpa [Hid] using this
  have HE := Lib.hid hE
  obtain ⟨m, hm⟩ : ∃ m, ltF c E = m := ⟨_, rfl⟩
  have HL := Lib.hid hm
  have HA := Lib.hid hat
  have HK : Hid (m = k) := by have := lt_at hE hat; exact (hm.symm.trans this).trans hnk
  clear h hE hat hm hnk
  go_enter Try.func86, Try.ntmps86
  go_wp2_with (fail)
  refine (figureOf p A a E c _ HE.out (RdF.of_own H.out.e) H.out.at_.cells.1).mono ?_
  rintro e wa ⟨rfl, hb⟩
  rw [HL.out, HA.out]
  rw [HK.out]
  simp only [Option.isSome_some, Option.isSome_none]
  have BB : Hid (Below w.heap.size w (wa.alloc (.cells #[.pointer (some ⟨p, 0, none⟩), .int .i64 k] 87))) := (Below.and BW.out hb).alloc (Below.and BW.out hb).size _
  have KF := Lib.hid ((KF.out.below hb).alloc (.cells #[.pointer (some ⟨p, 0, none⟩), .int .i64 k] 87))
  have KA := Lib.hid (KZ.out.below hb)
  have v0 : wa.cell? ⟨w.heap.size + 1, 0, none⟩ = some (.pointer none) := KA.out.cell 0
  have v1 : wa.cell? ⟨w.heap.size + 1, 1, none⟩ = some (.int .i64 0) := KA.out.cell 1
  have vf := KA.out.frozen
  have KZ := Lib.hid ((KZ.out.below hb).alloc (.cells #[.pointer (some ⟨p, 0, none⟩), .int .i64 k] 87))
  have BA := Lib.hid (Below.and BW.out hb)
  have l1 : w.heap.size + 1 < wa.heap.size := by have := hb.size; simp at this; omega
  have l0 : w.heap.size < wa.heap.size := by omega
  clear hb
  have x1 : (wa.alloc (.cells #[.pointer (some ⟨p, 0, none⟩), .int .i64 k] 87)).cell? ⟨w.heap.size, 1, none⟩ = some (.int .i64 k) := KF.out.cell 1
  have z0 : (wa.alloc (.cells #[.pointer (some ⟨p, 0, none⟩), .int .i64 k] 87)).cell? ⟨w.heap.size + 1, 0, none⟩ = some (.pointer none) := KZ.out.cell 0
  have z1 : (wa.alloc (.cells #[.pointer (some ⟨p, 0, none⟩), .int .i64 k] 87)).cell? ⟨w.heap.size + 1, 1, none⟩ = some (.int .i64 0) := KZ.out.cell 1
  have zf := KZ.out.frozen
  have bb : w.heap.size ≤ wa.heap.size := by omega
  have e0 : ((k : Int) == (k : Int)) = true := by simp
  go_wp2
  go_light
  refine bodyPost_ret (v := .tuple #[.agg #[.pointer none, .int .i64 0], .bool false]) (by simp [results, Try.results86, go_sem, z0, z1, v0, v1, l1]) rfl ⟨rfl, ?_⟩
  exact (Below.setCell (Below.setCell BA.out (by first | (simp; done) | omega) _) (by first | (simp; done) | omega) _).alloc (by first | (simp; done) | (simp; omega)) _

end Go.Proofs.Ythjiooocahdfpaa
