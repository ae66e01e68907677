import Derived.Test.YtameldhdegcpoaaMR
import Derived.Test.YtameldhdegcpoaaMU
namespace Go.Proofs.Ytameldhdegcpoaa
open Go.ChangeShapes Go.WideShapes Go.ChangeAt Go.RowKit
set_option linter.unusedVariables false
set_option linter.unusedSimpArgs false
theorem oneM {w : World} {R : Nat} {A : Option Addr} {n c : Nat} {p : Int} (g : Nat) (l : List Int) (h : Reader w R A n c p) (hp : p ≤ 100000) (hl : 0 < l.length) (hl1 : l.length ≤ 1000) (hg : g ≠ R)
 (hc : ∀ i (hi : i < l.length), w.cell? ⟨g, i, none⟩ = some (.int .i64 (l[i]'hi))) :
 Calls Try.prog 74 #[.pointer (some ⟨R, 0, none⟩), .slice (some ⟨g, 0, none⟩) l.length l.length] w fun e w' => ∃ v : Int, v ∈ l ∧ e = .returned (.int .i64 v) ∧ Drawn w R A n c p 1 w' := by
 have H := Lib.hid h
 have HC := Lib.hid hc
 clear h hc
 go_enter Try.func74, Try.ntmps74
 go_wp2_with (fail)
 refine (pickR (l.length : Int) H.out hp (by omega) (by omega)).mono ?_
 rintro e w1 ⟨v, v0, v1, rfl, hd⟩
 obtain ⟨j, rfl⟩ := Int.eq_ofNat_of_zero_le v0
 obtain ⟨q, hq0, hq1, hr, hgr⟩ := hd
 have hcell := hgr.cell (HC.out j (by omega)) (by simpa using hg)
 have HD : Hid (Drawn w R A n c p 1 w1) := ⟨q, hq0, hq1, hr, hgr⟩
 have HM := Lib.hid (List.getElem_mem (l := l) (n := j) (by omega))
 clear hr hgr
 generalize l[j] = x at hcell HM
 go_wp2
 go_light
 go_ret
 exact ⟨x, HM.out, rfl, HD.out⟩
theorem back3 {w W : World} {R : Nat} {A : Option Addr} {n c : Nat} {p K q : Int} (u0 u1 u2 : Value) (hq0 : p ≤ q) (hq1 : q ≤ p + K) (hr : Reader W R A n c q) (hg : w.grownBy W (some R)) (hOld : ∀ b off, A = some ⟨b, off, none⟩ → 0 < n → b < w.heap.size) (hR : R < w.heap.size) :
 Drawn w R A n c p K (((W.setCell ⟨w.heap.size, 0, none⟩ u0).setCell ⟨w.heap.size, 1, none⟩ u1).setCell ⟨w.heap.size, 2, none⟩ u2) := by
 refine ⟨q, hq0, hq1, ?_, ?_⟩
 · exact ((hr.set w.heap.size _ 0 u0 hOld hR (Nat.le_refl _)).set w.heap.size _ 1 u1 hOld hR (Nat.le_refl _)).set w.heap.size _ 2 u2 hOld hR (Nat.le_refl _)
 · exact grown_new (grown_new (grown_new hg (grownBy_set _ _ 0 u0) (Nat.le_refl _)) (grownBy_set _ _ 1 u1) (Nat.le_refl _)) (grownBy_set _ _ 2 u2) (Nat.le_refl _)
end Go.Proofs.Ytameldhdegcpoaa
