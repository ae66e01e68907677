/- The exact law of Crc, walked. -/
import Derived.Test.YtlcigfigblfpdaaCb
import Derived.ChangeMaps5
namespace Go.Proofs.Ytlcigfigblfpdaa
open Go.ChangeShapes Go.WideShapes Go.ChangeAt Go.RowKit
set_option linter.unusedVariables false
set_option linter.unusedSimpArgs false

set_option maxRecDepth 100000 in
set_option maxHeartbeats 2000000 in
theorem exactCrc (s : ByteArray) (w : World) (hs : s.size ≤ maxLen) :
    Calls Try.prog 4 #[.string s] w fun e w' => e = .returned (.bool true) ∧ Below w.heap.size w w' := by
  by_cases h : s.size ≤ 1048576
  · have h0 : ¬ (1048576 : Int) < (s.size : Int) := by omega
    have HS := Lib.hid (show s.size ≤ 1048577 by omega)
    obtain ⟨n, hn⟩ : ∃ n, n = crcN s.data.toList := ⟨_, rfl⟩
    have A := Lib.hid (fun W => hn ▸ specCrc s W HS.out)
    have B := Lib.hid (fun W => hn ▸ implCrc s W HS.out)
    have nx : ((n : Int) != (n : Int)) = false := by simp
    clear hs h hn
    go_enter Try.func4, Try.ntmps4
    go_wp2_with (fail)
    refine (A.out _).mono ?_
    rintro e w1 ⟨rfl, rfl⟩
    go_wp2_with (fail)
    refine (B.out _).mono ?_
    rintro e w1 ⟨rfl, rfl⟩
    go_wp2
    go_light
    go_ret
    exact ⟨rfl, Below.refl _ _⟩
  · have h0 : (1048576 : Int) < (s.size : Int) := by omega
    clear hs
    go_enter Try.func4, Try.ntmps4
    go_wp2
    go_light
    go_ret
    exact ⟨rfl, Below.refl _ _⟩

end Go.Proofs.Ytlcigfigblfpdaa
