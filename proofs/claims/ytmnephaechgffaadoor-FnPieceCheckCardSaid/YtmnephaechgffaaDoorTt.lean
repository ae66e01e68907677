/- A reader opened. -/
import Derived.Test.YtmnephaechgffaaDoorTs
namespace Go.Proofs.YtmnephaechgffaaDoor
open Go.ChangeShapes Go.WideShapes Go.ChangeAt Go.RowKit
set_option linter.unusedVariables false

theorem Reader.opened {w : World} {A : Option Addr} {n c : Nat} (m : Nat) (hmn : m ≤ n) (hm : m ≤ 2000) (hb : InB w A n) :
    Reader (w.alloc (.cells #[.slice A m c, .int .i64 0] 79)) w.heap.size A m c 0 :=
  ⟨heap_alloc_new w _, fun i hi => by
    obtain ⟨b, off, u, h1, h2, h3⟩ := hb i (by omega)
    exact ⟨b, off, u, h1, (World.grownBy_alloc w (.cells #[.slice A m c, .int .i64 0] 79) none).cell h2 (by simp), h3⟩, fun h0 b off h => by
    obtain ⟨b', off', u, h1, h2, h3⟩ := hb 0 (by omega)
    have := World.block_lt_of_cell? w _ h2
    rw [h] at h1
    cases h1
    simp at this
    omega, by omega, hm⟩

theorem l20Open {w : World} {A : Option Addr} {n c : Nat} (hn : n ≤ 1048576) (hc : n ≤ c) (hb : InB w A n) :
    Calls Tryd.prog 43 #[.slice A n c] w fun e w' => ∃ m : Nat, e = .returned (.pointer (some ⟨w.heap.size, 0, none⟩)) ∧ Reader w' w.heap.size A m c 0 ∧ Below w.heap.size w w' := by
  have HB := Lib.hid hb
  clear hb
  go_enter Tryd.func43, Tryd.ntmps43
  by_cases h0 : n ≤ 2000
  · have e0 : (decide ((2000 : Int) < (n : Int))) = false := by simp; omega
    go_wp2
    go_light
    refine bodyPost_ret (v := .pointer (some ⟨w.heap.size, 0, none⟩)) (by simp [results, Tryd.results43, go_sem]) rfl ⟨n, rfl, ?_, ?_⟩
    · exact Reader.opened n (Nat.le_refl _) h0 HB.out
    · exact (Below.refl w.heap.size w).alloc (Nat.le_refl _) _
  · have e0 : (decide ((2000 : Int) < (n : Int))) = true := by simp; omega
    go_wp2
    go_light
    refine bodyPost_ret (v := .pointer (some ⟨w.heap.size, 0, none⟩)) (by simp [results, Tryd.results43, go_sem]) rfl ⟨2000, rfl, ?_, ?_⟩
    · exact Reader.opened 2000 (by omega) (Nat.le_refl _) HB.out
    · exact (Below.refl w.heap.size w).alloc (Nat.le_refl _) _
end Go.Proofs.YtmnephaechgffaaDoor
