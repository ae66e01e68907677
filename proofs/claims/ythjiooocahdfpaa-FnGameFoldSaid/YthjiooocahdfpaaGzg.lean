/- A figure that hits: the program's way, whole. -/
import Derived.Test.YthjiooocahdfpaaGzf
namespace Go.Proofs.Ythjiooocahdfpaa
open Go.ChangeShapes Go.WideShapes Go.ChangeAt Go.RowKit
set_option linter.unusedVariables false
set_option linter.unusedSimpArgs false

theorem hitWhole {w : World} {p lo : Nat} {A : Option Addr} {a : Nat} {B : Option Addr} {b : Nat} {C : Option Addr} {d : Nat} {E : List Fig} {F L : List Int} (h : Bd w p lo A a B b C d E F L) (he : OkE E) (k : Nat) (hk : k < E.length) (rc rn rx ry : Int) (hf : OkF F) : Calls Try.prog 71 #[.agg #[.pointer (some ⟨p, 0, none⟩), .int .i64 k], .agg #[.int .i64 rc, .int .i64 rn, .int .i64 4, .int .i64 rx, .int .i64 ry]] w (ActB p lo A a B b C d L (actG E F L k (E[k]'hk) ⟨rc, rn, 4, rx, ry⟩) w) :=
  hitAllI h he k hk rc rn rx ry hf (fun E1 n hn f hf1 hE b1 b2 b3 wz hz => by
    obtain ⟨fc, fx, fy, fl, fg⟩ := f
    simp only at b1 b2 b3
    obtain ⟨j, v, hjl, h1, h2, h3, h4, h5, h6⟩ := hf.at_ (x := fx) (y := fy) b1 b2
    have h7 : sq ⟨fc, fx, fy, fl, fg⟩ = j := h5
    have h8 : F.getD j 0 = v := by rw [List.getD_eq_getElem?_getD, h6]
    rw [h7, h8]
    exact removeI hz n hn fc fx fy fl fg hf1 hE b1 b2 b3 hf.f j v h5 hjl h2 ⟨h3, h4⟩)

end Go.Proofs.Ythjiooocahdfpaa
