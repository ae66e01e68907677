/- One bit turned gives another sum: the law, walked. -/
import Derived.Test.YtlcigfigblfpdaaCd
import Derived.Test.YtlcigfigblfpdaaCf
import Derived.Laws.IdiomStrings
import Derived.Deep.Cut
namespace Go.Proofs.Ytlcigfigblfpdaa
open Go.ChangeShapes Go.WideShapes Go.ChangeAt Go.RowKit
set_option linter.unusedVariables false
set_option linter.unusedSimpArgs false

theorem cells_turned {W : World} {p k x y : Nat} {s : ByteArray} (h : ∀ j (hj : j < s.size), W.cell? ⟨p, j, none⟩ = some (.int .u8 (((s[j]'hj).toNat : Nat) : Int))) (hk : k < s.size) (hx : W.cell? ⟨p, k, none⟩ = some (.int .u8 (x : Int))) (hy : y < 256) :
    ∀ j (hj : j < (s.data.toList.set k (UInt8.ofNat y)).length), (W.setCell ⟨p, k, none⟩ (.int .u8 (y : Int))).drew.cell? ((⟨p, 0, none⟩ : Addr).add j) = some (.int .u8 (((s.data.toList.set k (UInt8.ofNat y))[j].toNat : Nat) : Int)) := fun j hj => by
  have hj2 : j < s.size := by simpa using hj
  have ea : ((⟨p, 0, none⟩ : Addr).add j) = ⟨p, j, none⟩ := by simp [Addr.add]; try omega
  rw [ea]
  show (W.setCell ⟨p, k, none⟩ (.int .u8 (y : Int))).cell? ⟨p, j, none⟩ = _
  rw [List.getElem_set]
  by_cases e : k = j
  · subst e
    rw [if_pos rfl, UInt8.toNat_ofNat_of_lt' hy]
    exact World.cell?_setCell_same' _ _ _ (by rw [hx]; rfl)
  · rw [if_neg e]
    have h2 : (W.setCell ⟨p, k, none⟩ (.int .u8 (y : Int))).cell? ⟨p, j, none⟩ = W.cell? ⟨p, j, none⟩ := by
      apply World.cell?_setCell_other
      intro h
      injection h with _ h _
      exact e h
    exact h2.trans (h j hj2)

set_option maxRecDepth 100000 in
set_option maxHeartbeats 4000000 in
theorem lawCrc {w : World} {A B : Option Addr} {n c m d : Nat} (hm : n ≤ maxLen) (hm' : m ≤ maxLen) (hc : n ≤ c) (hd : m ≤ d) (hb : InB w A n) :
    Calls Try.prog 3 #[.slice A n c, .slice B m d] w fun e w' => e = .returned (.bool true) ∧ Below w.heap.size w w' := by
  unfold maxLen at hm hm'
  have HB := Lib.hid hb
  clear hb
  go_enter Try.func3, Try.ntmps3
  by_cases hn : 1048576 < n
  · have e0 : (decide ((1048576 : Int) < (n : Int))) = true := by simp; omega
    go_wp2
    go_light
    go_ret
    exact ⟨rfl, Below.refl _ _⟩
  have e0 : (decide ((1048576 : Int) < (n : Int))) = false := by simp; omega
  by_cases hn' : 1048576 < m
  · have e1 : (decide ((1048576 : Int) < (m : Int))) = true := by simp; omega
    go_wp2
    go_light
    go_ret
    exact ⟨rfl, Below.refl _ _⟩
  have e1 : (decide ((1048576 : Int) < (m : Int))) = false := by simp; omega
  go_wp2_with (fail)
  refine (drawCrc (by omega) hc HB.out).mono ?_
  rintro e w1 ⟨s, hs, rfl, hb⟩
  have ZB := Lib.hid hb
  have HS := Lib.hid (show s.size ≤ 1048577 by omega)
  have HS2 := Lib.hid hs
  obtain ⟨N, hN⟩ : ∃ N, N = crcN s.data.toList := ⟨_, rfl⟩
  have IC := Lib.hid (fun W => hN ▸ implCrc s W HS.out)
  have SC := Lib.hid (fun W => hN ▸ specCrc s W HS.out)
  have I9 : Hid (∀ W, Calls Try.prog 6 #[.string ⟨#[49, 50, 51, 52, 53, 54, 55, 56, 57]⟩] W fun e w' => e = .returned (.int .i64 3421780262) ∧ W = w') := fun W => by
    have h := implCrc ⟨#[49, 50, 51, 52, 53, 54, 55, 56, 57]⟩ W (by decide)
    rw [show (crcN (ByteArray.mk #[49, 50, 51, 52, 53, 54, 55, 56, 57]).data.toList : Nat) = 3421780262 from crcN_nine] at h
    exact h
  have HN := Lib.hid hN
  clear hN hb hs hm hm' hd
  have nx : ((N : Int) != (N : Int)) = false := by simp
  go_wp2_with (fail)
  refine (IC.out _).mono ?_
  rintro e w2 ⟨rfl, rfl⟩
  go_wp2_with (fail)
  refine (SC.out _).mono ?_
  rintro e w2 ⟨rfl, rfl⟩
  go_wp2_with (fail)
  refine (I9.out _).mono ?_
  rintro e w2 ⟨rfl, rfl⟩
  by_cases hz : s.size = 0
  · have ez : ((s.size : Int) == 0) = true := by simpa using hz
    have hN0 : N = 0 := by
      rw [HN.out, List.eq_nil_of_length_eq_zero (l := s.data.toList) (by simpa using hz)]
      exact crcN_nil
    go_wp2_with (fail)
    refine (SC.out _).mono ?_
    rintro e w2 ⟨rfl, rfl⟩
    go_wp2_with (fail)
    refine (I9.out _).mono ?_
    rintro e w2 ⟨rfl, rfl⟩
    subst hN0
    go_wp2
    go_light
    go_ret
    exact ⟨rfl, ZB.out⟩
  have ez : ((s.size : Int) == 0) = false := by simpa using hz
  have kc := fun (W : World) (S : ByteArray) => run_bytes_of_string (P := Try.prog) W 9 22 5 S Try.underlying9 Try.underlying22 Try.underlying5
  go_upto_region 8 with (fail)
  obtain ⟨cap, hcap⟩ : ∃ X, X = grownCap w1 s.size 0 5 := ⟨_, rfl⟩
  rw [← hcap]
  obtain ⟨W, hW⟩ : ∃ X, X = (w1.alloc (.cells (bytesRow s cap) 5 ((bytesRow s cap).size, (bytesRow s cap).size + 1))).drew := ⟨_, rfl⟩
  obtain ⟨p, hp⟩ : ∃ X, X = w1.heap.size := ⟨_, rfl⟩
  have CE : Hid (∀ j (hj : j < s.size), W.cell? ⟨p, j, none⟩ = some (.int .u8 (((s[j]'hj).toNat : Nat) : Int))) := fun j hj => by
    rw [hW, hp]
    show (w1.alloc _).cell? _ = _
    rw [World.cell?_alloc_mark, bytesRow_at s cap j hj]
    rfl
  have FR : Hid (∀ j, j < s.size → W.frozen? ⟨p, j, none⟩ = false) := fun j hj => by
    rw [hW, hp]
    show (w1.alloc _).frozen? _ = _
    rw [World.frozen?_alloc_mark]
    have h1 : s.size ≤ (bytesRow s cap).size := by
      unfold bytesRow
      simp only [Array.size_append, Array.size_map, Array.size_replicate]
      show s.data.size ≤ _
      omega
    have h2 : decide ((bytesRow s cap).size ≤ j) = false := by simp; omega
    rw [h2]
    rfl
  have HP := Lib.hid (show w.heap.size ≤ p by rw [hp]; exact ZB.out.size)
  have ZB := Lib.hid (show Below w.heap.size w W by rw [hW]; exact (ZB.out.alloc ZB.out.size _).drew)
  rw [← hW, ← hp]
  clear hW hcap kc
  obtain ⟨k, hk⟩ : ∃ k, k = m % s.size := ⟨_, rfl⟩
  have kl : k < s.size := by rw [hk]; exact Nat.mod_lt _ (by omega)
  have ek : ((m : Int) % (s.size : Int)) = (k : Int) := by rw [hk]; simp
  obtain ⟨j, hj⟩ : ∃ j, j = m % 8 := ⟨_, rfl⟩
  have j8 : j < 8 := by omega
  have ej : (m : Int).tmod 8 = (j : Int) := by rw [Int.tmod_eq_emod_of_nonneg (by omega)]; omega
  obtain ⟨z, z8, z0, ks⟩ : ∃ z : Nat, z < 256 ∧ z ≠ 0 ∧ ∀ V : World, (Op.shift BinOp.shl IntKind.u8 1 IntKind.i64 ((m : Int).tmod 8)).run Try.prog V = .ok (.int .u8 (z : Int)) V := by
    rw [ej]
    match j, j8 with
    | 0, _ => exact ⟨1, by decide, by decide, fun V => rfl⟩
    | 1, _ => exact ⟨2, by decide, by decide, fun V => rfl⟩
    | 2, _ => exact ⟨4, by decide, by decide, fun V => rfl⟩
    | 3, _ => exact ⟨8, by decide, by decide, fun V => rfl⟩
    | 4, _ => exact ⟨16, by decide, by decide, fun V => rfl⟩
    | 5, _ => exact ⟨32, by decide, by decide, fun V => rfl⟩
    | 6, _ => exact ⟨64, by decide, by decide, fun V => rfl⟩
    | 7, _ => exact ⟨128, by decide, by decide, fun V => rfl⟩
  have ck := CE.out k kl
  have fk := FR.out k kl
  obtain ⟨x, hx⟩ : ∃ X, X = (s[k]'kl).toNat := ⟨_, rfl⟩
  rw [← hx] at ck
  have HX := Lib.hid hx
  have HKL := Lib.hid kl
  have k0 : (0 : Int) ≤ (k : Int) := by omega
  have k1 : (k : Int) < (s.size : Int) := by omega
  have sz : (s.size : Int) ≠ 0 := by omega
  have x8 : x < 256 := by have := (s[k]'kl).toNat_lt; omega
  have ex := u8_xor_nat x z x8 z8
  have y8 : x ^^^ z < 256 := Nat.xor_lt_two_pow (n := 8) x8 z8
  have yx : x ^^^ z ≠ x := fun e => z0 (xor_cancelL (c := x) (by rw [e]; simp))
  obtain ⟨y, hy⟩ : ∃ y, y = x ^^^ z := ⟨_, rfl⟩
  rw [← hy] at ex y8 yx
  have Y8 := Lib.hid y8
  have YX := Lib.hid yx
  clear hj hk hx hp ej j8 z8 z0 x8 y8 yx hy
  go_upto_region 9 with (fail)
  rw [ek]
  clear ek
  refine wp_region_held_drew (S := fun WS => Below w.heap.size w WS) (by kernel_rfl) (ZB.out.drew) (fun hS0 => ?_)
  refine takeD 0 53 (v := ?_) rfl rfl (by kernel_rfl) (by kernel_rfl) (by kernel_rfl) (fun _ _ _ h => h) (Or.inl ⟨by rfl, ?_⟩) (by assumption) ?_
  rotate_left
  · intro wS hSw; go_simp; (try with_reducible rfl)
  (try simp only [Act.put, List.setIfInBounds_toArray, List.set_cons_zero, List.set_cons_succ])
  refine takeD 1 54 (v := ?_) rfl rfl (by kernel_rfl) (by kernel_rfl) (by kernel_rfl) (fun _ _ _ h => h) (Or.inl ⟨by rfl, ?_⟩) (by assumption) ?_
  rotate_left
  · intro wS hSw; go_simp; (try with_reducible rfl)
  (try simp only [Act.put, List.setIfInBounds_toArray, List.set_cons_zero, List.set_cons_succ])
  refine takeD 2 55 (v := ?_) rfl rfl (by kernel_rfl) (by kernel_rfl) (by kernel_rfl) (fun _ _ _ h => h) (Or.inl ⟨by rfl, ?_⟩) (by assumption) ?_
  rotate_left
  · intro wS hSw; go_simp; (try with_reducible rfl)
  (try simp only [Act.put, List.setIfInBounds_toArray, List.set_cons_zero, List.set_cons_succ])
  refine takeD 3 56 (v := ?_) rfl rfl (by kernel_rfl) (by kernel_rfl) (by kernel_rfl) (fun _ _ _ h => h) (Or.inl ⟨by rfl, ?_⟩) (by assumption) ?_
  rotate_left
  · intro wS hSw; go_simp; (try with_reducible rfl)
  (try simp only [Act.put, List.setIfInBounds_toArray, List.set_cons_zero, List.set_cons_succ])
  refine takeD 4 57 (v := ?_) rfl rfl (by kernel_rfl) (by kernel_rfl) (by kernel_rfl) (fun _ _ _ h => h) (Or.inl ⟨by rfl, ?_⟩) (by assumption) ?_
  rotate_left
  · intro wS hSw; go_simp; (try with_reducible rfl)
  (try simp only [Act.put, List.setIfInBounds_toArray, List.set_cons_zero, List.set_cons_succ])
  refine takeD 6 59 (v := ?_) rfl rfl (by kernel_rfl) (by kernel_rfl) (by kernel_rfl) (fun _ _ _ h => h) (Or.inl ⟨by rfl, ?_⟩) (by assumption) ?_
  rotate_left
  · intro wS hSw; go_simp; (try with_reducible rfl)
  (try simp only [Act.put, List.setIfInBounds_toArray, List.set_cons_zero, List.set_cons_succ])
  refine takeD 7 60 (v := ?_) rfl rfl (by kernel_rfl) (by kernel_rfl) (by kernel_rfl) (fun _ _ _ h => h) (Or.inl ⟨by rfl, ?_⟩) (by assumption) ?_
  rotate_left
  · intro wS hSw; go_simp; (try with_reducible rfl)
  (try simp only [Act.put, List.setIfInBounds_toArray, List.set_cons_zero, List.set_cons_succ])
  refine takeD 8 61 (v := ?_) rfl rfl (by kernel_rfl) (by kernel_rfl) (by kernel_rfl) (fun _ _ _ h => h) (Or.inl ⟨by rfl, ?_⟩) (by assumption) ?_
  rotate_left
  · intro wS hSw; go_simp; (try with_reducible rfl)
  (try simp only [Act.put, List.setIfInBounds_toArray, List.set_cons_zero, List.set_cons_succ])
  refine takeD 9 62 (v := ?_) rfl rfl (by kernel_rfl) (by kernel_rfl) (by kernel_rfl) (fun _ _ _ h => h) (Or.inl ⟨by rfl, ?_⟩) (by assumption) ?_
  rotate_left
  · intro wS hSw; go_simp; (try with_reducible rfl)
  (try simp only [Act.put, List.setIfInBounds_toArray, List.set_cons_zero, List.set_cons_succ])
  clear hS0
  refine wpAnyH_ready (rs := [5]) (by kernel_rfl) (by simp) ?_
  refine AllReadyH.cons rfl (fun KK hK => ?_) AllReadyH.nil
  go_simp
  refine hK.out _ _ ZB.out.drew (fun _ => ?_)
  clear hK KK
  (try simp only [Act.put, List.setIfInBounds_toArray, List.set_cons_zero, List.set_cons_succ])
  refine takeD 10 63 (v := ?_) rfl rfl (by kernel_rfl) (by kernel_rfl) (by kernel_rfl) (fun _ _ _ h => h) (Or.inl ⟨by rfl, ?_⟩) (by assumption) ?_
  rotate_left
  · intro wS hSw; go_simp; (try with_reducible rfl)
  (try simp only [Act.put, List.setIfInBounds_toArray, List.set_cons_zero, List.set_cons_succ])
  refine wpAnyH_ready (rs := [11]) (by kernel_rfl) (by simp) ?_
  refine AllReadyH.cons rfl (fun KK hK => ?_) AllReadyH.nil
  go_simp
  refine hK.out _ _ ZB.out.drew (fun _ => ?_)
  clear hK KK
  (try simp only [Act.put, List.setIfInBounds_toArray, List.set_cons_zero, List.set_cons_succ])
  refine wpAnyH_ready (rs := [12]) (by kernel_rfl) (by simp) ?_
  refine AllReadyH.cons rfl (fun KK hK => ?_) AllReadyH.nil
  go_simp
  refine hK.out _ _ (ZB.out.setCell (p := ⟨p, k, none⟩) HP.out _).drew (fun _ => ?_)
  clear hK KK
  (try simp only [Act.put, List.setIfInBounds_toArray, List.set_cons_zero, List.set_cons_succ])
  refine wpAnyH_done (by kernel_rfl) ?_ _
  have ZB := Lib.hid (ZB.out.setCell (p := ⟨p, k, none⟩) HP.out (.int .u8 (y : Int))).drew
  have CE := Lib.hid (cells_turned CE.out kl ck Y8.out)
  obtain ⟨W5, hW5⟩ : ∃ X, X = (W.setCell ⟨p, k, none⟩ (.int .u8 (y : Int))).drew := ⟨_, rfl⟩
  obtain ⟨l5, hl5⟩ : ∃ X, X = s.data.toList.set k (UInt8.ofNat y) := ⟨_, rfl⟩
  rw [← hW5] at ZB CE ⊢
  rw [← hl5] at CE
  have e5 : l5.length = s.size := by rw [hl5]; simp
  have kb := run_convert_bytes_back (P := Try.prog) W5 22 9 5 ⟨p, 0, none⟩ cap l5 Try.underlying22 Try.underlying5 Try.underlying9 CE.out
  rw [e5] at kb
  have IC5 := Lib.hid (fun V => implCrc ⟨l5.toArray⟩ V (by show l5.toArray.size ≤ _; have := HS2.out; simp; omega))
  have HNE : Hid (((crcN l5 : Nat) : Int) ≠ (N : Int)) := fun e => by
    have e2 : crcN l5 = N := by omega
    rw [hl5, HN.out] at e2
    refine crcN_set s.data.toList k (by simpa using kl) (UInt8.ofNat y) (fun h => YX.out ?_) e2
    have h3 := congrArg UInt8.toNat h
    rw [UInt8.toNat_ofNat_of_lt' Y8.out] at h3
    rw [HX.out]
    exact h3.symm
  clear hW5 hl5 CE ck fk k0 k1 sz ex ks
  go_wp2_with (fail)
  refine (IC5.out _).mono ?_
  rintro e w6 ⟨rfl, rfl⟩
  have en : (((crcN l5 : Nat) : Int) != (N : Int)) = true := by simpa using HNE.out
  go_wp2
  go_light
  go_ret
  exact ⟨rfl, ZB.out⟩

end Go.Proofs.Ytlcigfigblfpdaa
