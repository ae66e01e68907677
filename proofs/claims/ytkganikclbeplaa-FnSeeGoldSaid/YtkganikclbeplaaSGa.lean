/- How much gold figures have, and how much is on the floor: the model's and the program's way, and the exact law. -/
import Derived.Test.YtkganikclbeplaaMC
namespace Go.Proofs.Ytkganikclbeplaa
open Go.ChangeShapes Go.WideShapes Go.ChangeAt Go.RowKit
set_option linter.unusedVariables false
set_option linter.unusedSimpArgs false

/-- What SeeGold answers. -/
def seeT (E : List Fig) (F L : List Int) : Int × Int := if gokB E F L = true then (goldE E, F.sum) else (-1, -1)
theorem gokB_gold {E : List Fig} {F L : List Int} (h : gokB E F L = true) : (∀ (i : Nat) (h : i < E.length), 0 ≤ (E[i]'h).g ∧ (E[i]'h).g ≤ 20) ∧ (∀ (i : Nat) (h : i < F.length), 0 ≤ F[i]'h ∧ F[i]'h ≤ 20) ∧ goldE E + F.sum = 20 := by
 simp only [gokB, Bool.and_eq_true, decide_eq_true_eq] at h
 exact ⟨entsB_gold E 0 h.2.2.1, fun i hi => allB_at h.2.2.2.1 i hi, by have := h.2.2.2.2.2; omega⟩

set_option maxRecDepth 100000 in
set_option maxHeartbeats 4000000 in
theorem implSeeGold (A : Option Addr) (a : Nat) (B : Option Addr) (b : Nat) (C : Option Addr) (c : Nat) (E : List Fig) (F L : List Int) (w : World) (hE : E.length ≤ 1048576) (hF : F.length ≤ 1048576) (hL : L.length ≤ 1048576)
 (rE : RdF w A E) (rF : RdI w B F) (rL : L.length = 4 → RdI w C L) :
 Calls Try.prog 14 #[gameV A E.length a B F.length b C L.length c] w fun e w' => e = .returned (.tuple #[.int .i64 (seeT E F L).1, .int .i64 (seeT E F L).2]) ∧ Below w.heap.size w w' := by
 have z0 : Below w.heap.size w (w.alloc (.cells #[.slice A E.length a, .slice B F.length b, .slice C L.length c] 30)) := (Below.refl _ _).alloc (Nat.le_refl _) _
 have HE := Lib.hid (RdF.below rE z0)
 have HF := Lib.hid (RdI.below rF z0)
 have HL := Lib.hid (fun h => RdI.below (rL h) z0)
 have K0 := Lib.hid (Three.new (u0 := .slice A E.length a) (u1 := .slice B F.length b) (u2 := .slice C L.length c) (t := 30) w)
 have Z0 := Lib.hid z0
 clear rE rF rL z0
 go_enter Try.func14, Try.ntmps14
 go_wp2_with (fail)
 refine (gameOkJ A a B b C c E F L _ hE hF hL HE.out HF.out HL.out).mono ?_
 rintro e wz ⟨rfl, hb1⟩
 have HB1 := Lib.hid hb1
 clear hb1
 rcases hg : gokB E F L with _ | _
 · have HX := Lib.hid (show seeT E F L = (-1, -1) by unfold seeT; rw [hg]; rfl)
   go_wp2
   go_light
   go_ret2
   exact ⟨by rw [HX.out]; rfl, Below.and Z0.out HB1.out⟩
 have HX := Lib.hid (show seeT E F L = (goldE E, F.sum) by unfold seeT; rw [hg]; rfl)
 obtain ⟨gE, gF, _⟩ := gokB_gold hg
 have GE := Lib.hid gE
 have GF := Lib.hid gF
 obtain ⟨q0, q1, q2⟩ := (Three.below K0.out HB1.out (by simp)).cells
 have hsz : w.heap.size < wz.heap.size := by have := HB1.out.size; simp at this; omega
 obtain ⟨ge, hge⟩ : ∃ x, goldE E = x := ⟨_, rfl⟩
 obtain ⟨fs, hfs⟩ : ∃ x, F.sum = x := ⟨_, rfl⟩
 rw [hge, hfs] at HX
 clear hg gE gF
 go_wp2_with (fail)
 refine wp_region_held_drew (S := fun w1 => Below wz.heap.size wz w1) (by kernel_rfl) ((Below.refl _ _).drew) (fun hc => ?_)
 refine tkI 0 7 (v := ?_) rfl rfl ?_ ?_
 rotate_left
 · intro w1 hSw; obtain ⟨hcS, hfS⟩ := bcell hSw; go_simp; (try with_reducible rfl)
 (try simp only [Act.put, pu1, pu2, pu3])
 refine tkI 1 8 (v := ?_) rfl rfl ?_ ?_
 rotate_left
 · intro w1 hSw; obtain ⟨hcS, hfS⟩ := bcell hSw; go_simp; (try with_reducible rfl)
 (try simp only [Act.put, pu1, pu2, pu3])
 refine tkI 3 10 (v := ?_) rfl rfl ?_ ?_
 rotate_left
 · intro w1 hSw; obtain ⟨hcS, hfS⟩ := bcell hSw; go_simp; (try with_reducible rfl)
 (try simp only [Act.put, pu1, pu2, pu3])
 refine tkI 4 11 (v := ?_) rfl rfl ?_ ?_
 rotate_left
 · intro w1 hSw; obtain ⟨hcS, hfS⟩ := bcell hSw; go_simp; (try with_reducible rfl)
 (try simp only [Act.put, pu1, pu2, pu3])
 refine wpAnyH_ready (rs := [2]) (by kernel_rfl) (by simp) ?_
 refine AllReadyH.cons rfl (fun K hK => ?_) AllReadyH.nil
 go_simp
 refine (goldOfEnts A a E _ hE GE.out (RdF.below HE.out (Below.and HB1.out hc))).mono ?_
 rintro e w2 ⟨rfl, hb⟩
 rw [hge]
 refine hK.out _ _ (Below.and hc hb) (fun hc2 => ?_)
 clear hK K
 (try simp only [Act.put, pu1, pu2, pu3])
 refine wpAnyH_ready (rs := [5]) (by kernel_rfl) (by simp) ?_
 refine AllReadyH.cons rfl (fun K hK => ?_) AllReadyH.nil
 go_simp
 refine (goldOfFloor B b F _ hF GF.out (RdI.below HF.out (Below.and HB1.out hc2))).mono ?_
 rintro e w2 ⟨rfl, hb⟩
 rw [hfs]
 refine hK.out _ _ (Below.and hc2 hb) (fun hc3 => ?_)
 clear hK K
 (try simp only [Act.put, pu1, pu2, pu3])
 refine tkI 6 2 (v := ?_) rfl rfl ?_ ?_
 rotate_left
 · intro w1 hSw; obtain ⟨hcS, hfS⟩ := bcell hSw; go_simp; (try with_reducible rfl)
 (try simp only [Act.put, pu1, pu2, pu3])
 refine tkI 7 3 (v := ?_) rfl rfl ?_ ?_
 rotate_left
 · intro w1 hSw; obtain ⟨hcS, hfS⟩ := bcell hSw; go_simp; (try with_reducible rfl)
 (try simp only [Act.put, pu1, pu2, pu3])
 refine wpAnyH_done (by kernel_rfl) ?_ _
 go_wp2
 go_light
 go_ret2
 exact ⟨by rw [HX.out]; rfl, Below.and (Below.and Z0.out HB1.out) hc3⟩

set_option maxRecDepth 100000 in
set_option maxHeartbeats 4000000 in
theorem specSeeGold (A : Option Addr) (a : Nat) (B : Option Addr) (b : Nat) (C : Option Addr) (c : Nat) (E : List Fig) (F L : List Int) (w : World) (hE : E.length ≤ 1048576) (hF : F.length ≤ 1048576) (hL : L.length ≤ 1048576)
 (rE : RdF w A E) (rF : RdI w B F) (rL : RdJ w C L) :
 Calls Try.prog 13 #[gameV A E.length a B F.length b C L.length c] w fun e w' => e = .returned (.tuple #[.int .i64 (seeT E F L).1, .int .i64 (seeT E F L).2]) ∧ Below w.heap.size w w' := by
 have z0 : Below w.heap.size w (w.alloc (.cells #[.slice A E.length a, .slice B F.length b, .slice C L.length c] 30)) := (Below.refl _ _).alloc (Nat.le_refl _) _
 have HE := Lib.hid (RdF.below rE z0)
 have HF := Lib.hid (RdI.below rF z0)
 have HL := Lib.hid (RdJ.below rL z0)
 have K0 := Lib.hid (Three.new (u0 := .slice A E.length a) (u1 := .slice B F.length b) (u2 := .slice C L.length c) (t := 30) w)
 have Z0 := Lib.hid z0
 clear rE rF rL z0
 go_enter Try.func13, Try.ntmps13
 go_wp2_with (fail)
 refine (l2OkJ A a B b C c E F L _ hE hF hL HE.out HF.out HL.out).mono ?_
 rintro e wz ⟨rfl, hb1⟩
 have HB1 := Lib.hid hb1
 clear hb1
 rcases hg : gokB E F L with _ | _
 · have HX := Lib.hid (show seeT E F L = (-1, -1) by unfold seeT; rw [hg]; rfl)
   go_wp2
   go_light
   go_ret2
   exact ⟨by rw [HX.out]; rfl, Below.and Z0.out HB1.out⟩
 have HX := Lib.hid (show seeT E F L = (goldE E, F.sum) by unfold seeT; rw [hg]; rfl)
 obtain ⟨gE, gF, _⟩ := gokB_gold hg
 have GE := Lib.hid gE
 have GF := Lib.hid gF
 have HE := Lib.hid (RdF.below HE.out HB1.out)
 have HF := Lib.hid (RdI.below HF.out HB1.out)
 have Z := Lib.hid (Below.and Z0.out HB1.out)
 have K1 := Lib.hid (Three.below K0.out HB1.out (by simp))
 clear hg gE gF K0 HL HB1 Z0
 obtain ⟨q0, q1, q2⟩ := K1.out.cells
 clear K1
 go_wp2
 go_loop [4, 6] (fun sv i => ∃ (k : Nat) (s : Int), k ≤ E.length ∧ i = .int .i64 k ∧ sv = .int .i64 s ∧ 0 ≤ s ∧ s ≤ 20 * k ∧ Hid (s = goldE (E.take k))) (fun _ i => E.length - (intOf i).toNat)
 case atStart => exact ⟨0, 0, Nat.zero_le _, rfl, rfl, by omega, by omega, by simp [Hid, goldE]⟩
 case round =>
  obtain ⟨k, s, hk, rfl, rfl, hs0, hs1, he⟩ := hrel
  by_cases hlt : k < E.length
  · obtain ⟨g, rfl, a0, a1, a2, a3, a4⟩ := HE.out k hlt
    obtain ⟨v0, v1⟩ := GE.out k hlt
    have HS := Lib.hid (gold_step E k hlt)
    generalize E[k] = f at a0 a1 a2 a3 a4 v0 v1 HS
    have i0 : (0 : Int) ≤ (k : Int) := by omega
    have i1 : (k : Int) < (E.length : Int) := by omega
    go_wp2
    go_round
    case rel => exact ⟨k + 1, s + f.g, by omega, by go_num, rfl, by omega, by omega, by rw [Hid, HS.out, he.out]⟩
    case measure => simp [intOf]; omega
  · have hz : k = E.length := by omega
    have HS : Hid (s = goldE E) := by have := he.out; rw [hz, List.take_length] at this; exact this
    clear hz he
    go_wp2
    go_loop [5, 7] (fun sv i => ∃ (m : Nat) (t : Int), m ≤ F.length ∧ i = .int .i64 m ∧ sv = .int .i64 t ∧ 0 ≤ t ∧ t ≤ 20 * m ∧ Hid (t = (F.take m).sum)) (fun _ i => F.length - (intOf i).toNat)
    case atStart => exact ⟨0, 0, Nat.zero_le _, rfl, rfl, by omega, by omega, by simp [Hid]⟩
    case round =>
     obtain ⟨m, t, hm, rfl, rfl, ht0, ht1, he⟩ := hrel
     by_cases hlt2 : m < F.length
     · obtain ⟨g, rfl, a0⟩ := HF.out m hlt2
       obtain ⟨v0, v1⟩ := GF.out m hlt2
       have HT := Lib.hid (sum_step F m hlt2)
       generalize F[m] = v at a0 v0 v1 HT
       have i0 : (0 : Int) ≤ (m : Int) := by omega
       have i1 : (m : Int) < (F.length : Int) := by omega
       go_wp2
       go_round
       case rel => exact ⟨m + 1, t + v, by omega, by go_num, rfl, by omega, by omega, by rw [Hid, HT.out, he.out]⟩
       case measure => simp [intOf]; omega
     · have hz : m = F.length := by omega
       have HT : Hid (t = F.sum) := by have := he.out; rw [hz, List.take_length] at this; exact this
       clear hz he
       go_wp2
       go_light
       go_ret2
       exact ⟨by rw [HX.out, HS.out, HT.out]; rfl, Z.out⟩

end Go.Proofs.Ytkganikclbeplaa
