/- Texts that are marks. -/
import Derived.Test.YtfbfhgejclencaaPa
import Derived.Test.YtfbfhgejclencaaSa
namespace Go.Proofs.Ytfbfhgejclencaa
open Go.ChangeShapes Go.WideShapes Go.ChangeAt Go.RowKit
set_option linter.unusedVariables false
set_option linter.unusedSimpArgs false

def catP (l m : List UInt8) : List UInt8 := l ++ m
theorem add_catP (X Y : List UInt8) (h : X.length + Y.length ≤ 8388608) (W : World) : (Op.stringOp .add ⟨X.toArray⟩ ⟨Y.toArray⟩).run Try.prog W = .ok (.string ⟨(catP X Y).toArray⟩) W := add_bs X Y h W
def mtL : Nat → Nat → List UInt8 → List UInt8
  | 0, _, out => out
  | f + 1, k, out => if k = 0 then out else mtL f (k / 10) (catP [48 + UInt8.ofNat (k % 10)] out)
/-- The mark k as a text. -/
def MT (k : Nat) : ByteArray := ⟨(catP [109] (mtL 5 k [])).toArray⟩

set_option maxRecDepth 100000 in
set_option maxHeartbeats 2000000 in
theorem markText (k : Nat) (w : World) (h1 : 1 ≤ k) (hk : k ≤ 9999) :
    Calls Try.prog 14 #[.int .i64 (k : Int)] w fun e w' => e = .returned (.string (MT k)) ∧ Below w.heap.size w w' := by
  have k0 : ¬ (k : Int) ≤ 0 := by omega
  go_enter Try.func14, Try.ntmps14
  go_wp2
  go_loopw [0, 3] (fun kv ov wr => ∃ (f m : Nat) (out : List UInt8), kv = .int .i64 (m : Int) ∧ ov = .string ⟨out.toArray⟩ ∧ m < 10 ^ f ∧ f ≤ 4 ∧ out.length + f ≤ 4 ∧ Hid (mtL 5 k [] = mtL (f + 1) m out) ∧ Hid (Below w.heap.size w wr)) (fun kv _ _ => (intOf kv).toNat)
  case atStart => exact ⟨4, k, [], rfl, rfl, by simp; omega, Nat.le_refl _, by simp, rfl, Below.refl _ _⟩
  case round =>
    clear k0
    obtain ⟨f, m, out, rfl, rfl, hm, hf, hlo, HE, hb⟩ := hrel
    by_cases h0 : 0 < m
    · have i1 : (0 : Int) < (m : Int) := by omega
      have hfp : 0 < f := by
        rcases f with _ | f
        · simp at hm; omega
        · omega
      obtain ⟨g, rfl⟩ : ∃ g, f = g + 1 := ⟨f - 1, by omega⟩
      obtain ⟨out2, ho2⟩ : ∃ X, X = catP [48 + UInt8.ofNat (m % 10)] out := ⟨_, rfl⟩
      have HN := Lib.hid (show mtL 5 k [] = mtL (g + 1) (m / 10) out2 by
        rw [HE.out, ho2]
        show (if m = 0 then _ else _) = _
        rw [if_neg (by omega)])
      have HM := Lib.hid (show m / 10 < 10 ^ g by rw [Nat.pow_succ] at hm; omega)
      have HL := Lib.hid (show out2.length = out.length + 1 by rw [ho2]; simp [catP])
      have HC := Lib.hid (show (⟨#[48 + UInt8.ofNat (m % 10)]⟩ : ByteArray) ++ ⟨out.toArray⟩ = ⟨out2.toArray⟩ by rw [ho2]; exact bs_app [48 + UInt8.ofNat (m % 10)] out)
      have h00 : (0 : Int) ≤ (m : Int) := by omega
      have hmB : m ≤ 100000 := by
        have : 10 ^ (g + 1) ≤ 10 ^ 4 := Nat.pow_le_pow_right (by omega) hf
        omega
      have hq : (m : Int).tdiv 10 = (m : Int) / 10 := Int.tdiv_eq_ediv_of_nonneg h00
      have hr : (m : Int).tmod 10 = (m : Int) % 10 := Int.tmod_eq_emod_of_nonneg h00
      have r0 : 0 ≤ (m : Int) % 10 := by omega
      have r1 : (m : Int) % 10 < 10 := by omega
      have hu : IntKind.u8.wrap (48 + (m : Int) % 10) = 48 + (m : Int) % 10 := by have hbits : IntKind.u8.bits = 8 := rfl; simp only [IntKind.wrap, hbits]; simp; omega
      have hw : IntKind.i64.wrap (48 + (m : Int) % 10) = 48 + (m : Int) % 10 := IntWalk.i64_in _ (by omega)
      have hd : IntKind.i64.wrap ((m : Int) / 10) = (m : Int) / 10 := IntWalk.i64_in _ (by omega)
      have hk := conv_one
      have hkD := conv_oneD
      have HB := Lib.hid (show Below w.heap.size w (wr.alloc (.cells #[.int .u8 (48 + (m : Int) % 10)] 5)) from hb.out.alloc hb.out.size _)
      clear ho2 hm HE hb
      go_wp2
      go_roundw
      case rel => exact ⟨g, m / 10, out2, by simp, by rw [HC.out], HM.out, by omega, by have := HL.out; omega, HN.out, HB.out⟩
      case measure => (simp [intOf]; omega)
    · have i1 : ¬ (0 : Int) < (m : Int) := by omega
      have HT := Lib.hid (show MT k = ⟨(catP [109] out).toArray⟩ by
        unfold MT
        rw [HE.out, show m = 0 by omega]
        show (⟨(catP [109] (if (0 : Nat) = 0 then out else _)).toArray⟩ : ByteArray) = _
        rw [if_pos rfl])
      have ka := add_catP [109] out (by simp; omega)
      go_wp2
      go_light
      go_ret
      rw [HT.out]
      exact ⟨rfl, hb.out⟩

set_option maxRecDepth 100000 in
set_option maxHeartbeats 2000000 in
theorem eqStringS_rd (A B : Option Addr) (a b : Nat) (D : List ByteArray) (w : World) (hD : D.length ≤ 1048576) (rA : Rd 1 cS w A D) (rB : Rd 1 cS w B D) :
    Calls Try.prog 7 #[.slice A D.length a, .slice B D.length b] w fun e w' => e = .returned (.bool true) ∧ Below w.heap.size w w' := by
  have H1 := Lib.hid rA
  have H2 := Lib.hid rB
  have nl : ((D.length : Int) != (D.length : Int)) = false := by simp
  clear rA rB
  go_enter Try.func7, Try.ntmps7
  go_wp2
  go_loopw [5] (fun v wr => ∃ j : Nat, j ≤ D.length ∧ v = .int .i64 (j : Int) ∧ Hid (Below w.heap.size w wr)) (fun v _ => D.length - (intOf v).toNat)
  case atStart => exact ⟨0, Nat.zero_le _, rfl, Below.refl _ _⟩
  case round =>
    obtain ⟨j, hj, rfl, hB⟩ := hrel
    by_cases hlt : j < D.length
    · obtain ⟨g, o, hgo, ca⟩ := Rd.below H1.out hB.out j hlt
      obtain ⟨g', o', hgo', cb⟩ := Rd.below H2.out hB.out j hlt
      subst hgo hgo'
      generalize D[j] = x at ca cb
      have xr0 : wr.cell? ⟨g, o + j, none⟩ = some (.string x) := by simpa using ca 0 _ rfl
      have yr0 : wr.cell? ⟨g', o' + j, none⟩ = some (.string x) := by simpa using cb 0 _ rfl
      clear ca cb
      have lx : g < wr.heap.size := World.block_lt_of_cell? wr _ xr0
      have ly : g' < wr.heap.size := World.block_lt_of_cell? wr _ yr0
      have i0 : (0 : Int) ≤ (j : Int) := by omega
      have i1 : (j : Int) < (D.length : Int) := by omega
      go_upto_region 6 with (fail)
      refine wp_region_held_drew (S := fun w1 => Below wr.heap.size wr w1) (by kernel_rfl) ((Below.refl _ _).drew) (fun hq => ?_)
      refine takeD 0 17 (v := ?_) rfl rfl (by kernel_rfl) (by kernel_rfl) (by kernel_rfl) (fun _ _ _ h => h) (Or.inl ⟨by rfl, ?_⟩) (by assumption) ?_
      rotate_left
      · intro w1 hSw; obtain ⟨hcS, hfS⟩ := bcell hSw; go_simp; (try with_reducible rfl)
      (try simp only [Act.put, List.setIfInBounds_toArray, List.set_cons_zero, List.set_cons_succ])
      refine takeD 1 18 (v := ?_) rfl rfl (by kernel_rfl) (by kernel_rfl) (by kernel_rfl) (fun _ _ _ h => h) (Or.inl ⟨by rfl, ?_⟩) (by assumption) ?_
      rotate_left
      · intro w1 hSw; obtain ⟨hcS, hfS⟩ := bcell hSw; go_simp; (try with_reducible rfl)
      (try simp only [Act.put, List.setIfInBounds_toArray, List.set_cons_zero, List.set_cons_succ])
      refine takeD 2 19 (v := ?_) rfl rfl (by kernel_rfl) (by kernel_rfl) (by kernel_rfl) (fun _ _ _ h => h) (Or.inl ⟨by rfl, ?_⟩) (by assumption) ?_
      rotate_left
      · intro w1 hSw; obtain ⟨hcS, hfS⟩ := bcell hSw; go_simp; (try with_reducible rfl)
      (try simp only [Act.put, List.setIfInBounds_toArray, List.set_cons_zero, List.set_cons_succ])
      refine takeD 3 20 (v := ?_) rfl rfl (by kernel_rfl) (by kernel_rfl) (by kernel_rfl) (fun _ _ _ h => h) (Or.inl ⟨by rfl, ?_⟩) (by assumption) ?_
      rotate_left
      · intro w1 hSw; obtain ⟨hcS, hfS⟩ := bcell hSw; go_simp; (try with_reducible rfl)
      (try simp only [Act.put, List.setIfInBounds_toArray, List.set_cons_zero, List.set_cons_succ])
      refine takeD 4 21 (v := ?_) rfl rfl (by kernel_rfl) (by kernel_rfl) (by kernel_rfl) (fun _ _ _ h => h) (Or.inl ⟨by rfl, ?_⟩) (by assumption) ?_
      rotate_left
      · intro w1 hSw; obtain ⟨hcS, hfS⟩ := bcell hSw; go_simp; (try with_reducible rfl)
      (try simp only [Act.put, List.setIfInBounds_toArray, List.set_cons_zero, List.set_cons_succ])
      refine takeD 5 22 (v := ?_) rfl rfl (by kernel_rfl) (by kernel_rfl) (by kernel_rfl) (fun _ _ _ h => h) (Or.inl ⟨by rfl, ?_⟩) (by assumption) ?_
      rotate_left
      · intro w1 hSw; obtain ⟨hcS, hfS⟩ := bcell hSw; go_simp; (try with_reducible rfl)
      (try simp only [Act.put, List.setIfInBounds_toArray, List.set_cons_zero, List.set_cons_succ])
      refine takeD 6 23 (v := ?_) rfl rfl (by kernel_rfl) (by kernel_rfl) (by kernel_rfl) (fun _ _ _ h => h) (Or.inl ⟨by rfl, ?_⟩) (by assumption) ?_
      rotate_left
      · intro w1 hSw; obtain ⟨hcS, hfS⟩ := bcell hSw; go_simp; (try with_reducible rfl)
      (try simp only [Act.put, List.setIfInBounds_toArray, List.set_cons_zero, List.set_cons_succ])
      refine takeD 7 24 (v := ?_) rfl rfl (by kernel_rfl) (by kernel_rfl) (by kernel_rfl) (fun _ _ _ h => h) (Or.inl ⟨by rfl, ?_⟩) (by assumption) ?_
      rotate_left
      · intro w1 hSw; obtain ⟨hcS, hfS⟩ := bcell hSw; go_simp; (try with_reducible rfl)
      (try simp only [Act.put, List.setIfInBounds_toArray, List.set_cons_zero, List.set_cons_succ])
      refine takeD 8 25 (v := ?_) rfl rfl (by kernel_rfl) (by kernel_rfl) (by kernel_rfl) (fun _ _ _ h => h) (Or.inl ⟨by rfl, ?_⟩) (by assumption) ?_
      rotate_left
      · intro w1 hSw; obtain ⟨hcS, hfS⟩ := bcell hSw; go_simp; (try with_reducible rfl)
      (try simp only [Act.put, List.setIfInBounds_toArray, List.set_cons_zero, List.set_cons_succ])
      refine wpAnyH_done (by kernel_rfl) ?_ _
      have BQ := Lib.hid (Below.and hB.out hq)
      clear xr0 yr0 lx ly
      go_wp2
      go_roundw
      case rel => exact ⟨j + 1, by omega, by go_num, BQ.out⟩
      case measure => (simp [intOf]; try omega)
    · have i1 : ¬ (j : Int) < (D.length : Int) := by omega
      go_wp2
      go_light
      go_ret
      exact ⟨rfl, hB.out⟩

end Go.Proofs.Ytfbfhgejclencaa
