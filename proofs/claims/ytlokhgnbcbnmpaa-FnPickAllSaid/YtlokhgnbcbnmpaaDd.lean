/- The law of PickAll, walked. -/
import Derived.Test.YtlokhgnbcbnmpaaDc
import Derived.Test.YtlokhgnbcbnmpaaJe
namespace Go.Proofs.Ytlokhgnbcbnmpaa
open Go.ChangeShapes Go.WideShapes Go.ChangeAt Go.RowKit
set_option linter.unusedVariables false
set_option linter.unusedSimpArgs false

set_option maxRecDepth 100000 in
set_option maxHeartbeats 4000000 in
theorem lawPickAll {w : World} {A : Option Addr} {n c : Nat} (hm : n ≤ maxLen) (hc : n ≤ c) (hb : InB w A n) :
    Calls Try.prog 9 #[.slice A n c] w fun e w' => e = .returned (.bool true) ∧ Below w.heap.size w w' := by
  unfold maxLen at hm
  have HB := Lib.hid hb
  clear hb
  go_enter Try.func9, Try.ntmps9
  by_cases hn : 1048576 < n
  · have e0 : (decide ((1048576 : Int) < (n : Int))) = true := by simp; omega
    go_wp2
    go_light
    go_ret
    exact ⟨rfl, Below.refl _ _⟩
  have e0 : (decide ((1048576 : Int) < (n : Int))) = false := by simp; omega
  go_wp2_with (fail)
  refine (drawPickAll (by omega) hc HB.out).mono ?_
  rintro e w1 ⟨B, d, V, rfl, hV5, hV3, hV, hbl⟩
  have BL := Lib.hid hbl
  have RV := Lib.hid hV
  have HV3 := Lib.hid hV3
  have hVl : V.length ≤ maxLen := by unfold maxLen; omega
  obtain ⟨L, hL⟩ : ∃ L, L = picks V := ⟨_, rfl⟩
  have hl5 : L.length ≤ 5 := by rw [hL]; exact picks_len V
  have HL := Lib.hid hL
  clear hbl hV hV3 hL e0 hn
  go_wp2_with (fail)
  refine (pickAll_impl _ _ V _ hVl RV.out L HL.out.symm).mono ?_
  rintro e w2 ⟨B1, d1, rfl, ho, hb⟩
  have R1 := Lib.hid ho
  have BL := Lib.hid (Below.and BL.out hb)
  have RV := Lib.hid (RV.out.below hb)
  clear ho hb
  go_wp2_with (fail)
  refine (pickAll_spec _ _ V _ hVl RV.out L HL.out.symm).mono ?_
  rintro e w3 ⟨B2, d2, rfl, ho, hb⟩
  have R2 := Lib.hid ho
  have R1 := Lib.hid (own_below R1.out hb)
  have BL := Lib.hid (Below.and BL.out hb)
  have RV := Lib.hid (RV.out.below hb)
  clear ho hb
  go_wp2_with (fail)
  refine (wpReqs B1 B2 d1 d2 L _ (by unfold maxLen; omega) (Rd.of_own Rq.len R1.out rfl) (Rd.of_own Rq.len R2.out rfl)).mono ?_
  rintro e w4 ⟨rfl, hb⟩
  have RP : Hid (Rd 5 Rq.cells w4 B1 L) := Rd.of_own Rq.len (own_below R1.out hb) rfl
  have BL := Lib.hid (Below.and BL.out hb)
  have RV := Lib.hid (RV.out.below hb)
  clear hb R1 R2 hVl
  go_wp2
  go_loopw [5] (fun i wr => ∃ k : Nat, k ≤ L.length ∧ i = .int .i64 k ∧ Hid (Below w4.heap.size w4 wr)) (fun i _ => L.length - (intOf i).toNat)
  case atStart => exact ⟨0, Nat.zero_le _, rfl, Below.refl _ _⟩
  case round =>
    obtain ⟨k, hk, rfl, hb0⟩ := hrel
    by_cases hlt : k < L.length
    · obtain ⟨g1, o1, hB1, cp⟩ := RP.out k hlt
      subst hB1
      have hpk : L = picks V := HL.out
      have hvv : vtsB (-1) V = true := by
        rcases h : vtsB (-1) V with _ | _
        · unfold picks at hpk; rw [h] at hpk; rw [hpk] at hlt; simp at hlt
        · rfl
      obtain ⟨t0, t5⟩ := top_ok hvv
      obtain ⟨T, hT⟩ : ∃ T : Nat, topC 0 (allC V) = T := ⟨(topC 0 (allC V)).toNat, by omega⟩
      have hpn : L = picksN T V := by rw [hpk]; unfold picks; rw [if_pos hvv, hT]; rfl
      have hLT : L.length = T := by rw [hpn, picksN_len]
      have hrk : L[k] = pckR ((k : Int) + 1) V := by simp [hpn, picksN]
      have HVD : Hid (∀ (b : Int) (i : Bool), bsC ((k : Int) + 1) L[k] (-1, false) (allC V) = (b, i) → (0 ≤ b → i = true) ∧ (b < 0 → L[k] = ⟨0, 0, 0, 0, 0⟩ ∧ k + 1 ≠ L.length)) := by
        intro b i h
        rw [hrk] at h ⊢
        rw [hLT]
        exact verdict hvv hT (by omega) b i h
      generalize L[k] = r at cp HVD hrk
      have CP := Lib.hid cp
      clear cp hpk hvv t0 t5 hT hpn hLT hrk T
      have k0 : (0 : Int) ≤ (k : Int) := by omega
      have k1 : (k : Int) < (L.length : Int) := by omega
      have hq1 : ∀ (z : Rq) W, (binOp .eql 30 (.agg #[.int .i64 z.c, .int .i64 z.n, .int .i64 z.o, .int .i64 z.x, .int .i64 z.y]) (.agg #[.int .i64 r.c, .int .i64 r.n, .int .i64 r.o, .int .i64 r.x, .int .i64 r.y])).run Try.prog W = .ok (.bool (decide (z = r))) W := fun z W => eqlReq z r W
      have HQ1 := Lib.hid hq1
      clear hq1
      go_wp2
      go_loopw [6, 7, 8] (fun bv fv j wi => ∃ (m : Nat) (b : Int) (f : Bool), m ≤ V.length ∧ j = .int .i64 m ∧ bv = .int .i64 b ∧ fv = .bool f ∧ Hid (bsC ((k : Int) + 1) r (-1, false) (allC V) = bsC ((k : Int) + 1) r (b, f) (allC (V.drop m))) ∧ Hid (Below w4.heap.size w4 wi)) (fun _ _ j _ => V.length - (intOf j).toNat)
      case atStart => exact ⟨0, -1, false, Nat.zero_le _, rfl, rfl, rfl, by simp [Hid], hb0⟩
      case round =>
        clear hb0
        obtain ⟨m, b, f, hm', rfl, rfl, rfl, ht, hb⟩ := hrel
        by_cases hlm : m < V.length
        · obtain ⟨g, o, hAg, ca⟩ := RV.out.1 m hlm
          subst hAg
          have rx := RV.out.2 V[m] (List.getElem_mem hlm)
          have hx3 := HV3.out V[m] (List.getElem_mem hlm)
          have HD := Lib.hid (show bsC ((k : Int) + 1) r (-1, false) (allC V) = bsC ((k : Int) + 1) r (bsC ((k : Int) + 1) r (b, f) V[m].cl) (allC (V.drop (m + 1))) by rw [ht.out, allC_drop hlm, bsC_append])
          clear ht
          generalize V[m] = x at ca HD rx hx3
          obtain ⟨xf, xA, xc, xl⟩ := x
          have A1 : Hid (w4.cell? ⟨g, o + m * 2 + 1, none⟩ = some (.slice xA xl.length xc)) := ca 1 _ rfl
          clear ca
          have mx : xl.length ≤ 3 := hx3
          have RX : Hid (RdC w4 xA xl) := rx.2
          have a1 : wr.cell? ⟨g, o + m * 2 + 1, none⟩ = some (.slice xA xl.length xc) := cell_kept hb.out A1.out
          obtain ⟨b0, hb0⟩ : ∃ b0, b0 = b := ⟨b, rfl⟩
          obtain ⟨f0, hf0⟩ : ∃ f0, f0 = f := ⟨f, rfl⟩
          have HD := Lib.hid (show bsC ((k : Int) + 1) r (-1, false) (allC V) = bsC ((k : Int) + 1) r (bsC ((k : Int) + 1) r (b0, f0) xl) (allC (V.drop (m + 1))) by rw [HD.out, hb0, hf0])
          have HS := Lib.hid (show bsC ((k : Int) + 1) r (b0, f0) xl = bsC ((k : Int) + 1) r (b, f) xl by rw [hb0, hf0])
          clear rx hx3 hb0 hf0
          have i0 : (0 : Int) ≤ (m : Int) := by omega
          have i1 : (m : Int) < (V.length : Int) := by omega
          go_wp2
          go_loopw [6, 7, 9] (fun bv fv j wi => ∃ (q : Nat) (b : Int) (f : Bool), q ≤ xl.length ∧ j = .int .i64 q ∧ bv = .int .i64 b ∧ fv = .bool f ∧ Hid (bsC ((k : Int) + 1) r (b0, f0) xl = bsC ((k : Int) + 1) r (b, f) (xl.drop q)) ∧ Hid (Below w4.heap.size w4 wi)) (fun _ _ j _ => xl.length - (intOf j).toNat)
          case atStart => exact ⟨0, b, f, Nat.zero_le _, rfl, rfl, rfl, HS, hb⟩
          case round =>
            clear a1 HS hb
            obtain ⟨q, b, f, hq, rfl, rfl, rfl, ht, hb⟩ := hrel
            have a1 : wr.cell? ⟨g, o + m * 2 + 1, none⟩ = some (.slice xA xl.length xc) := cell_kept hb.out A1.out
            by_cases hlq : q < xl.length
            · obtain ⟨g', o', hxA, ca⟩ := Rd.below RX.out hb.out q hlq
              subst hxA
              have HE := Lib.hid (show bsC ((k : Int) + 1) r (b0, f0) xl = bsC ((k : Int) + 1) r (bsStep ((k : Int) + 1) r (b, f) xl[q]) (xl.drop (q + 1)) by rw [ht.out, List.drop_eq_getElem_cons hlq]; rfl)
              clear ht
              generalize xl[q] = y at ca HE
              have c0 : wr.cell? ⟨g', o' + q * 7, none⟩ = some (.int .i64 y.s) := ca 0 _ rfl
              have c1 : wr.cell? ⟨g', o' + q * 7 + 1, none⟩ = some (.int .i64 y.v) := ca 1 _ rfl
              have c2 : wr.cell? ⟨g', o' + q * 7 + 2, none⟩ = some (.int .i64 y.r.c) := ca 2 _ rfl
              have c3 : wr.cell? ⟨g', o' + q * 7 + 3, none⟩ = some (.int .i64 y.r.n) := ca 3 _ rfl
              have c4 : wr.cell? ⟨g', o' + q * 7 + 4, none⟩ = some (.int .i64 y.r.o) := ca 4 _ rfl
              have c5 : wr.cell? ⟨g', o' + q * 7 + 5, none⟩ = some (.int .i64 y.r.x) := ca 5 _ rfl
              have c6 : wr.cell? ⟨g', o' + q * 7 + 6, none⟩ = some (.int .i64 y.r.y) := ca 6 _ rfl
              clear ca
              have p0 : wr.cell? ⟨g1, o1 + k * 5, none⟩ = some (.int .i64 r.c) := cell_kept hb.out (CP.out 0 _ rfl)
              have p1 : wr.cell? ⟨g1, o1 + k * 5 + 1, none⟩ = some (.int .i64 r.n) := cell_kept hb.out (CP.out 1 _ rfl)
              have p2 : wr.cell? ⟨g1, o1 + k * 5 + 2, none⟩ = some (.int .i64 r.o) := cell_kept hb.out (CP.out 2 _ rfl)
              have p3 : wr.cell? ⟨g1, o1 + k * 5 + 3, none⟩ = some (.int .i64 r.x) := cell_kept hb.out (CP.out 3 _ rfl)
              have p4 : wr.cell? ⟨g1, o1 + k * 5 + 4, none⟩ = some (.int .i64 r.y) := cell_kept hb.out (CP.out 4 _ rfl)
              have BC := Lib.hid (hb.out.alloc hb.out.size (.cells #[.int .i64 y.s, .int .i64 y.v, .int .i64 y.r.c, .int .i64 y.r.n, .int .i64 y.r.o, .int .i64 y.r.x, .int .i64 y.r.y] 55))
              have lg : g1 < wr.heap.size := by have := World.block_lt_of_cell? wr _ p0; simpa using this
              have lg' : g1 < wr.heap.size + 1 := by omega
              have j0 : (0 : Int) ≤ (q : Int) := by omega
              have j1 : (q : Int) < (xl.length : Int) := by omega
              have hq1 := HQ1.out y.r
              rcases hs : (y.s == (k : Int) + 1) with _ | _
              · have hn1 : (y.s != (k : Int) + 1) = true := by simp [bne, hs]
                have HST := Lib.hid hs
                clear hs
                have HF := Lib.hid (show bsC ((k : Int) + 1) r (b0, f0) xl = bsC ((k : Int) + 1) r (b, f) (xl.drop (q + 1)) by rw [HE.out]; congr 1; unfold bsStep; rw [HST.out]; rfl)
                clear HE
                go_wp2
                go_roundw
                case rel => exact ⟨q + 1, b, f, by omega, by go_num, rfl, rfl, HF, BC⟩
                case measure => simp [intOf]; omega
              have hn1 : (y.s != (k : Int) + 1) = false := by simp [bne, hs]
              have HST := Lib.hid hs
              clear hs
              by_cases hv : b < y.v
              · have hyy : (y.v == y.v) = true := by simp
                have HF := Lib.hid (show bsC ((k : Int) + 1) r (b0, f0) xl = bsC ((k : Int) + 1) r (y.v, (decide (y.r = r))) (xl.drop (q + 1)) by rw [HE.out]; congr 1; unfold bsStep; rw [HST.out, if_pos rfl, if_pos hv])
                clear HE
                go_wp2_with (fail)
                refine wp_region_held_drew (S := fun w1 => Below (wr.alloc (.cells #[.int .i64 y.s, .int .i64 y.v, .int .i64 y.r.c, .int .i64 y.r.n, .int .i64 y.r.o, .int .i64 y.r.x, .int .i64 y.r.y] 55)).heap.size (wr.alloc (.cells #[.int .i64 y.s, .int .i64 y.v, .int .i64 y.r.c, .int .i64 y.r.n, .int .i64 y.r.o, .int .i64 y.r.x, .int .i64 y.r.y] 55)) w1) (by kernel_rfl) ((Below.refl _ _).drew) (fun hq9 => ?_)
                refine takeD 0 64 (v := ?_) rfl rfl (by kernel_rfl) (by kernel_rfl) (by kernel_rfl) (fun _ _ _ h => h) (Or.inl ⟨by rfl, ?_⟩) (by assumption) ?_
                rotate_left
                · intro w1 hSw; obtain ⟨hcS, hfS⟩ := bcell hSw; go_simp; (try with_reducible rfl)
                (try simp only [Act.put, List.setIfInBounds_toArray, List.set_cons_zero, List.set_cons_succ])
                refine takeD 1 65 (v := ?_) rfl rfl (by kernel_rfl) (by kernel_rfl) (by kernel_rfl) (fun _ _ _ h => h) (Or.inl ⟨by rfl, ?_⟩) (by assumption) ?_
                rotate_left
                · intro w1 hSw; obtain ⟨hcS, hfS⟩ := bcell hSw; go_simp; (try with_reducible rfl)
                (try simp only [Act.put, List.setIfInBounds_toArray, List.set_cons_zero, List.set_cons_succ])
                refine takeD 2 66 (v := ?_) rfl rfl (by kernel_rfl) (by kernel_rfl) (by kernel_rfl) (fun _ _ _ h => h) (Or.inl ⟨by rfl, ?_⟩) (by assumption) ?_
                rotate_left
                · intro w1 hSw; obtain ⟨hcS, hfS⟩ := bcell hSw; go_simp; (try with_reducible rfl)
                (try simp only [Act.put, List.setIfInBounds_toArray, List.set_cons_zero, List.set_cons_succ])
                refine takeD 3 67 (v := ?_) rfl rfl (by kernel_rfl) (by kernel_rfl) (by kernel_rfl) (fun _ _ _ h => h) (Or.inl ⟨by rfl, ?_⟩) (by assumption) ?_
                rotate_left
                · intro w1 hSw; obtain ⟨hcS, hfS⟩ := bcell hSw; go_simp; (try with_reducible rfl)
                (try simp only [Act.put, List.setIfInBounds_toArray, List.set_cons_zero, List.set_cons_succ])
                refine takeD 4 68 (v := ?_) rfl rfl (by kernel_rfl) (by kernel_rfl) (by kernel_rfl) (fun _ _ _ h => h) (Or.inl ⟨by rfl, ?_⟩) (by assumption) ?_
                rotate_left
                · intro w1 hSw; obtain ⟨hcS, hfS⟩ := bcell hSw; go_simp; (try with_reducible rfl)
                (try simp only [Act.put, List.setIfInBounds_toArray, List.set_cons_zero, List.set_cons_succ])
                refine takeD 5 69 (v := ?_) rfl rfl (by kernel_rfl) (by kernel_rfl) (by kernel_rfl) (fun _ _ _ h => h) (Or.inl ⟨by rfl, ?_⟩) (by assumption) ?_
                rotate_left
                · intro w1 hSw; obtain ⟨hcS, hfS⟩ := bcell hSw; go_simp; (try with_reducible rfl)
                (try simp only [Act.put, List.setIfInBounds_toArray, List.set_cons_zero, List.set_cons_succ])
                refine takeD 6 70 (v := ?_) rfl rfl (by kernel_rfl) (by kernel_rfl) (by kernel_rfl) (fun _ _ _ h => h) (Or.inl ⟨by rfl, ?_⟩) (by assumption) ?_
                rotate_left
                · intro w1 hSw; obtain ⟨hcS, hfS⟩ := bcell hSw; go_simp; (try with_reducible rfl)
                (try simp only [Act.put, List.setIfInBounds_toArray, List.set_cons_zero, List.set_cons_succ])
                refine takeD 7 71 (v := ?_) rfl rfl (by kernel_rfl) (by kernel_rfl) (by kernel_rfl) (fun _ _ _ h => h) (Or.inl ⟨by rfl, ?_⟩) (by assumption) ?_
                rotate_left
                · intro w1 hSw; obtain ⟨hcS, hfS⟩ := bcell hSw; go_simp; (try with_reducible rfl)
                (try simp only [Act.put, List.setIfInBounds_toArray, List.set_cons_zero, List.set_cons_succ])
                refine takeD 8 72 (v := ?_) rfl rfl (by kernel_rfl) (by kernel_rfl) (by kernel_rfl) (fun _ _ _ h => h) (Or.inl ⟨by rfl, ?_⟩) (by assumption) ?_
                rotate_left
                · intro w1 hSw; obtain ⟨hcS, hfS⟩ := bcell hSw; go_simp; (try with_reducible rfl)
                (try simp only [Act.put, List.setIfInBounds_toArray, List.set_cons_zero, List.set_cons_succ])
                refine takeD 9 73 (v := ?_) rfl rfl (by kernel_rfl) (by kernel_rfl) (by kernel_rfl) (fun _ _ _ h => h) (Or.inl ⟨by rfl, ?_⟩) (by assumption) ?_
                rotate_left
                · intro w1 hSw; obtain ⟨hcS, hfS⟩ := bcell hSw; go_simp; (try with_reducible rfl)
                (try simp only [Act.put, List.setIfInBounds_toArray, List.set_cons_zero, List.set_cons_succ])
                refine takeD 10 74 (v := ?_) rfl rfl (by kernel_rfl) (by kernel_rfl) (by kernel_rfl) (fun _ _ _ h => h) (Or.inl ⟨by rfl, ?_⟩) (by assumption) ?_
                rotate_left
                · intro w1 hSw; obtain ⟨hcS, hfS⟩ := bcell hSw; go_simp; (try with_reducible rfl)
                (try simp only [Act.put, List.setIfInBounds_toArray, List.set_cons_zero, List.set_cons_succ])
                refine takeD 11 75 (v := ?_) rfl rfl (by kernel_rfl) (by kernel_rfl) (by kernel_rfl) (fun _ _ _ h => h) (Or.inl ⟨by rfl, ?_⟩) (by assumption) ?_
                rotate_left
                · intro w1 hSw; obtain ⟨hcS, hfS⟩ := bcell hSw; go_simp; (try with_reducible rfl)
                (try simp only [Act.put, List.setIfInBounds_toArray, List.set_cons_zero, List.set_cons_succ])
                refine takeD 12 76 (v := ?_) rfl rfl (by kernel_rfl) (by kernel_rfl) (by kernel_rfl) (fun _ _ _ h => h) (Or.inl ⟨by rfl, ?_⟩) (by assumption) ?_
                rotate_left
                · intro w1 hSw; obtain ⟨hcS, hfS⟩ := bcell hSw; go_simp; (try with_reducible rfl)
                (try simp only [Act.put, List.setIfInBounds_toArray, List.set_cons_zero, List.set_cons_succ])
                refine takeD 13 77 (v := ?_) rfl rfl (by kernel_rfl) (by kernel_rfl) (by kernel_rfl) (fun _ _ _ h => h) (Or.inl ⟨by rfl, ?_⟩) (by assumption) ?_
                rotate_left
                · intro w1 hSw; obtain ⟨hcS, hfS⟩ := bcell hSw; go_simp; (try with_reducible rfl)
                (try simp only [Act.put, List.setIfInBounds_toArray, List.set_cons_zero, List.set_cons_succ])
                refine takeD 14 78 (v := ?_) rfl rfl (by kernel_rfl) (by kernel_rfl) (by kernel_rfl) (fun _ _ _ h => h) (Or.inl ⟨by rfl, ?_⟩) (by assumption) ?_
                rotate_left
                · intro w1 hSw; obtain ⟨hcS, hfS⟩ := bcell hSw; go_simp; (try with_reducible rfl)
                (try simp only [Act.put, List.setIfInBounds_toArray, List.set_cons_zero, List.set_cons_succ])
                refine takeD 15 79 (v := ?_) rfl rfl (by kernel_rfl) (by kernel_rfl) (by kernel_rfl) (fun _ _ _ h => h) (Or.inl ⟨by rfl, ?_⟩) (by assumption) ?_
                rotate_left
                · intro w1 hSw; obtain ⟨hcS, hfS⟩ := bcell hSw; go_simp; (try with_reducible rfl)
                (try simp only [Act.put, List.setIfInBounds_toArray, List.set_cons_zero, List.set_cons_succ])
                refine takeD 16 7 (v := ?_) rfl rfl (by kernel_rfl) (by kernel_rfl) (by kernel_rfl) (fun _ _ _ h => h) (Or.inl ⟨by rfl, ?_⟩) (by assumption) ?_
                rotate_left
                · intro w1 hSw; obtain ⟨hcS, hfS⟩ := bcell hSw; go_simp; (try with_reducible rfl)
                (try simp only [Act.put, List.setIfInBounds_toArray, List.set_cons_zero, List.set_cons_succ])
                refine wpAnyH_done (by kernel_rfl) ?_ _
                have BN := Lib.hid (Below.and BC.out hq9)
                clear hq9
                go_wp2
                go_roundw
                case rel => exact ⟨q + 1, y.v, (decide (y.r = r)), by omega, by go_num, rfl, rfl, HF, BN⟩
                case measure => simp [intOf]; omega
              rcases f with _ | _
              · rcases he : (y.v == b) with _ | _
                · have HEE := Lib.hid he
                  have HF := Lib.hid (show bsC ((k : Int) + 1) r (b0, f0) xl = bsC ((k : Int) + 1) r (b, false) (xl.drop (q + 1)) by rw [HE.out]; congr 1; unfold bsStep; rw [HST.out, if_pos rfl, if_neg hv, HEE.out]; rfl)
                  clear HE
                  go_wp2_with (fail)
                  refine wp_region_held_drew (S := fun w1 => Below (wr.alloc (.cells #[.int .i64 y.s, .int .i64 y.v, .int .i64 y.r.c, .int .i64 y.r.n, .int .i64 y.r.o, .int .i64 y.r.x, .int .i64 y.r.y] 55)).heap.size (wr.alloc (.cells #[.int .i64 y.s, .int .i64 y.v, .int .i64 y.r.c, .int .i64 y.r.n, .int .i64 y.r.o, .int .i64 y.r.x, .int .i64 y.r.y] 55)) w1) (by kernel_rfl) ((Below.refl _ _).drew) (fun hq9 => ?_)
                  refine takeD 0 64 (v := ?_) rfl rfl (by kernel_rfl) (by kernel_rfl) (by kernel_rfl) (fun _ _ _ h => h) (Or.inl ⟨by rfl, ?_⟩) (by assumption) ?_
                  rotate_left
                  · intro w1 hSw; obtain ⟨hcS, hfS⟩ := bcell hSw; go_simp; (try with_reducible rfl)
                  (try simp only [Act.put, List.setIfInBounds_toArray, List.set_cons_zero, List.set_cons_succ])
                  refine takeD 1 65 (v := ?_) rfl rfl (by kernel_rfl) (by kernel_rfl) (by kernel_rfl) (fun _ _ _ h => h) (Or.inl ⟨by rfl, ?_⟩) (by assumption) ?_
                  rotate_left
                  · intro w1 hSw; obtain ⟨hcS, hfS⟩ := bcell hSw; go_simp; (try with_reducible rfl)
                  (try simp only [Act.put, List.setIfInBounds_toArray, List.set_cons_zero, List.set_cons_succ])
                  refine takeD 2 66 (v := ?_) rfl rfl (by kernel_rfl) (by kernel_rfl) (by kernel_rfl) (fun _ _ _ h => h) (Or.inl ⟨by rfl, ?_⟩) (by assumption) ?_
                  rotate_left
                  · intro w1 hSw; obtain ⟨hcS, hfS⟩ := bcell hSw; go_simp; (try with_reducible rfl)
                  (try simp only [Act.put, List.setIfInBounds_toArray, List.set_cons_zero, List.set_cons_succ])
                  refine takeD 3 67 (v := ?_) rfl rfl (by kernel_rfl) (by kernel_rfl) (by kernel_rfl) (fun _ _ _ h => h) (Or.inl ⟨by rfl, ?_⟩) (by assumption) ?_
                  rotate_left
                  · intro w1 hSw; obtain ⟨hcS, hfS⟩ := bcell hSw; go_simp; (try with_reducible rfl)
                  (try simp only [Act.put, List.setIfInBounds_toArray, List.set_cons_zero, List.set_cons_succ])
                  refine takeD 4 68 (v := ?_) rfl rfl (by kernel_rfl) (by kernel_rfl) (by kernel_rfl) (fun _ _ _ h => h) (Or.inl ⟨by rfl, ?_⟩) (by assumption) ?_
                  rotate_left
                  · intro w1 hSw; obtain ⟨hcS, hfS⟩ := bcell hSw; go_simp; (try with_reducible rfl)
                  (try simp only [Act.put, List.setIfInBounds_toArray, List.set_cons_zero, List.set_cons_succ])
                  refine takeD 5 69 (v := ?_) rfl rfl (by kernel_rfl) (by kernel_rfl) (by kernel_rfl) (fun _ _ _ h => h) (Or.inl ⟨by rfl, ?_⟩) (by assumption) ?_
                  rotate_left
                  · intro w1 hSw; obtain ⟨hcS, hfS⟩ := bcell hSw; go_simp; (try with_reducible rfl)
                  (try simp only [Act.put, List.setIfInBounds_toArray, List.set_cons_zero, List.set_cons_succ])
                  refine takeD 6 70 (v := ?_) rfl rfl (by kernel_rfl) (by kernel_rfl) (by kernel_rfl) (fun _ _ _ h => h) (Or.inl ⟨by rfl, ?_⟩) (by assumption) ?_
                  rotate_left
                  · intro w1 hSw; obtain ⟨hcS, hfS⟩ := bcell hSw; go_simp; (try with_reducible rfl)
                  (try simp only [Act.put, List.setIfInBounds_toArray, List.set_cons_zero, List.set_cons_succ])
                  refine takeD 7 71 (v := undef) rfl rfl (by kernel_rfl) (by kernel_rfl) (by kernel_rfl) (fun _ _ _ h => h) (Or.inr ⟨by rfl, rfl⟩) (by assumption) ?_
                  (try simp only [Act.put, List.setIfInBounds_toArray, List.set_cons_zero, List.set_cons_succ])
                  refine takeD 8 72 (v := undef) rfl rfl (by kernel_rfl) (by kernel_rfl) (by kernel_rfl) (fun _ _ _ h => h) (Or.inr ⟨by rfl, rfl⟩) (by assumption) ?_
                  (try simp only [Act.put, List.setIfInBounds_toArray, List.set_cons_zero, List.set_cons_succ])
                  refine takeD 9 73 (v := undef) rfl rfl (by kernel_rfl) (by kernel_rfl) (by kernel_rfl) (fun _ _ _ h => h) (Or.inr ⟨by rfl, rfl⟩) (by assumption) ?_
                  (try simp only [Act.put, List.setIfInBounds_toArray, List.set_cons_zero, List.set_cons_succ])
                  refine takeD 10 74 (v := undef) rfl rfl (by kernel_rfl) (by kernel_rfl) (by kernel_rfl) (fun _ _ _ h => h) (Or.inr ⟨by rfl, rfl⟩) (by assumption) ?_
                  (try simp only [Act.put, List.setIfInBounds_toArray, List.set_cons_zero, List.set_cons_succ])
                  refine takeD 11 75 (v := undef) rfl rfl (by kernel_rfl) (by kernel_rfl) (by kernel_rfl) (fun _ _ _ h => h) (Or.inr ⟨by rfl, rfl⟩) (by assumption) ?_
                  (try simp only [Act.put, List.setIfInBounds_toArray, List.set_cons_zero, List.set_cons_succ])
                  refine takeD 12 76 (v := undef) rfl rfl (by kernel_rfl) (by kernel_rfl) (by kernel_rfl) (fun _ _ _ h => h) (Or.inr ⟨by rfl, rfl⟩) (by assumption) ?_
                  (try simp only [Act.put, List.setIfInBounds_toArray, List.set_cons_zero, List.set_cons_succ])
                  refine takeD 13 77 (v := undef) rfl rfl (by kernel_rfl) (by kernel_rfl) (by kernel_rfl) (fun _ _ _ h => h) (Or.inr ⟨by rfl, rfl⟩) (by assumption) ?_
                  (try simp only [Act.put, List.setIfInBounds_toArray, List.set_cons_zero, List.set_cons_succ])
                  refine takeD 14 78 (v := ?_) rfl rfl (by kernel_rfl) (by kernel_rfl) (by kernel_rfl) (fun _ _ _ h => h) (Or.inl ⟨by rfl, ?_⟩) (by assumption) ?_
                  rotate_left
                  · intro w1 hSw; obtain ⟨hcS, hfS⟩ := bcell hSw; go_simp; (try with_reducible rfl)
                  (try simp only [Act.put, List.setIfInBounds_toArray, List.set_cons_zero, List.set_cons_succ])
                  refine takeD 15 79 (v := ?_) rfl rfl (by kernel_rfl) (by kernel_rfl) (by kernel_rfl) (fun _ _ _ h => h) (Or.inl ⟨by rfl, ?_⟩) (by assumption) ?_
                  rotate_left
                  · intro w1 hSw; obtain ⟨hcS, hfS⟩ := bcell hSw; go_simp; (try with_reducible rfl)
                  (try simp only [Act.put, List.setIfInBounds_toArray, List.set_cons_zero, List.set_cons_succ])
                  refine takeD 16 7 (v := ?_) rfl rfl (by kernel_rfl) (by kernel_rfl) (by kernel_rfl) (fun _ _ _ h => h) (Or.inl ⟨by rfl, ?_⟩) (by assumption) ?_
                  rotate_left
                  · intro w1 hSw; obtain ⟨hcS, hfS⟩ := bcell hSw; go_simp; (try with_reducible rfl)
                  (try simp only [Act.put, List.setIfInBounds_toArray, List.set_cons_zero, List.set_cons_succ])
                  refine wpAnyH_done (by kernel_rfl) ?_ _
                  have BN := Lib.hid (Below.and BC.out hq9)
                  clear hq9
                  go_wp2
                  go_roundw
                  case rel => exact ⟨q + 1, b, false, by omega, by go_num, rfl, rfl, HF, BN⟩
                  case measure => simp [intOf]; omega
                · have HEE := Lib.hid he
                  have HF := Lib.hid (show bsC ((k : Int) + 1) r (b0, f0) xl = bsC ((k : Int) + 1) r (b, (decide (y.r = r))) (xl.drop (q + 1)) by rw [HE.out]; congr 1; unfold bsStep; rw [HST.out, if_pos rfl, if_neg hv, HEE.out]; rfl)
                  clear HE
                  go_wp2_with (fail)
                  refine wp_region_held_drew (S := fun w1 => Below (wr.alloc (.cells #[.int .i64 y.s, .int .i64 y.v, .int .i64 y.r.c, .int .i64 y.r.n, .int .i64 y.r.o, .int .i64 y.r.x, .int .i64 y.r.y] 55)).heap.size (wr.alloc (.cells #[.int .i64 y.s, .int .i64 y.v, .int .i64 y.r.c, .int .i64 y.r.n, .int .i64 y.r.o, .int .i64 y.r.x, .int .i64 y.r.y] 55)) w1) (by kernel_rfl) ((Below.refl _ _).drew) (fun hq9 => ?_)
                  refine takeD 0 64 (v := ?_) rfl rfl (by kernel_rfl) (by kernel_rfl) (by kernel_rfl) (fun _ _ _ h => h) (Or.inl ⟨by rfl, ?_⟩) (by assumption) ?_
                  rotate_left
                  · intro w1 hSw; obtain ⟨hcS, hfS⟩ := bcell hSw; go_simp; (try with_reducible rfl)
                  (try simp only [Act.put, List.setIfInBounds_toArray, List.set_cons_zero, List.set_cons_succ])
                  refine takeD 1 65 (v := ?_) rfl rfl (by kernel_rfl) (by kernel_rfl) (by kernel_rfl) (fun _ _ _ h => h) (Or.inl ⟨by rfl, ?_⟩) (by assumption) ?_
                  rotate_left
                  · intro w1 hSw; obtain ⟨hcS, hfS⟩ := bcell hSw; go_simp; (try with_reducible rfl)
                  (try simp only [Act.put, List.setIfInBounds_toArray, List.set_cons_zero, List.set_cons_succ])
                  refine takeD 2 66 (v := ?_) rfl rfl (by kernel_rfl) (by kernel_rfl) (by kernel_rfl) (fun _ _ _ h => h) (Or.inl ⟨by rfl, ?_⟩) (by assumption) ?_
                  rotate_left
                  · intro w1 hSw; obtain ⟨hcS, hfS⟩ := bcell hSw; go_simp; (try with_reducible rfl)
                  (try simp only [Act.put, List.setIfInBounds_toArray, List.set_cons_zero, List.set_cons_succ])
                  refine takeD 3 67 (v := ?_) rfl rfl (by kernel_rfl) (by kernel_rfl) (by kernel_rfl) (fun _ _ _ h => h) (Or.inl ⟨by rfl, ?_⟩) (by assumption) ?_
                  rotate_left
                  · intro w1 hSw; obtain ⟨hcS, hfS⟩ := bcell hSw; go_simp; (try with_reducible rfl)
                  (try simp only [Act.put, List.setIfInBounds_toArray, List.set_cons_zero, List.set_cons_succ])
                  refine takeD 4 68 (v := ?_) rfl rfl (by kernel_rfl) (by kernel_rfl) (by kernel_rfl) (fun _ _ _ h => h) (Or.inl ⟨by rfl, ?_⟩) (by assumption) ?_
                  rotate_left
                  · intro w1 hSw; obtain ⟨hcS, hfS⟩ := bcell hSw; go_simp; (try with_reducible rfl)
                  (try simp only [Act.put, List.setIfInBounds_toArray, List.set_cons_zero, List.set_cons_succ])
                  refine takeD 5 69 (v := ?_) rfl rfl (by kernel_rfl) (by kernel_rfl) (by kernel_rfl) (fun _ _ _ h => h) (Or.inl ⟨by rfl, ?_⟩) (by assumption) ?_
                  rotate_left
                  · intro w1 hSw; obtain ⟨hcS, hfS⟩ := bcell hSw; go_simp; (try with_reducible rfl)
                  (try simp only [Act.put, List.setIfInBounds_toArray, List.set_cons_zero, List.set_cons_succ])
                  refine takeD 6 70 (v := ?_) rfl rfl (by kernel_rfl) (by kernel_rfl) (by kernel_rfl) (fun _ _ _ h => h) (Or.inl ⟨by rfl, ?_⟩) (by assumption) ?_
                  rotate_left
                  · intro w1 hSw; obtain ⟨hcS, hfS⟩ := bcell hSw; go_simp; (try with_reducible rfl)
                  (try simp only [Act.put, List.setIfInBounds_toArray, List.set_cons_zero, List.set_cons_succ])
                  refine takeD 7 71 (v := ?_) rfl rfl (by kernel_rfl) (by kernel_rfl) (by kernel_rfl) (fun _ _ _ h => h) (Or.inl ⟨by rfl, ?_⟩) (by assumption) ?_
                  rotate_left
                  · intro w1 hSw; obtain ⟨hcS, hfS⟩ := bcell hSw; go_simp; (try with_reducible rfl)
                  (try simp only [Act.put, List.setIfInBounds_toArray, List.set_cons_zero, List.set_cons_succ])
                  refine takeD 8 72 (v := ?_) rfl rfl (by kernel_rfl) (by kernel_rfl) (by kernel_rfl) (fun _ _ _ h => h) (Or.inl ⟨by rfl, ?_⟩) (by assumption) ?_
                  rotate_left
                  · intro w1 hSw; obtain ⟨hcS, hfS⟩ := bcell hSw; go_simp; (try with_reducible rfl)
                  (try simp only [Act.put, List.setIfInBounds_toArray, List.set_cons_zero, List.set_cons_succ])
                  refine takeD 9 73 (v := ?_) rfl rfl (by kernel_rfl) (by kernel_rfl) (by kernel_rfl) (fun _ _ _ h => h) (Or.inl ⟨by rfl, ?_⟩) (by assumption) ?_
                  rotate_left
                  · intro w1 hSw; obtain ⟨hcS, hfS⟩ := bcell hSw; go_simp; (try with_reducible rfl)
                  (try simp only [Act.put, List.setIfInBounds_toArray, List.set_cons_zero, List.set_cons_succ])
                  refine takeD 10 74 (v := ?_) rfl rfl (by kernel_rfl) (by kernel_rfl) (by kernel_rfl) (fun _ _ _ h => h) (Or.inl ⟨by rfl, ?_⟩) (by assumption) ?_
                  rotate_left
                  · intro w1 hSw; obtain ⟨hcS, hfS⟩ := bcell hSw; go_simp; (try with_reducible rfl)
                  (try simp only [Act.put, List.setIfInBounds_toArray, List.set_cons_zero, List.set_cons_succ])
                  refine takeD 11 75 (v := ?_) rfl rfl (by kernel_rfl) (by kernel_rfl) (by kernel_rfl) (fun _ _ _ h => h) (Or.inl ⟨by rfl, ?_⟩) (by assumption) ?_
                  rotate_left
                  · intro w1 hSw; obtain ⟨hcS, hfS⟩ := bcell hSw; go_simp; (try with_reducible rfl)
                  (try simp only [Act.put, List.setIfInBounds_toArray, List.set_cons_zero, List.set_cons_succ])
                  refine takeD 12 76 (v := ?_) rfl rfl (by kernel_rfl) (by kernel_rfl) (by kernel_rfl) (fun _ _ _ h => h) (Or.inl ⟨by rfl, ?_⟩) (by assumption) ?_
                  rotate_left
                  · intro w1 hSw; obtain ⟨hcS, hfS⟩ := bcell hSw; go_simp; (try with_reducible rfl)
                  (try simp only [Act.put, List.setIfInBounds_toArray, List.set_cons_zero, List.set_cons_succ])
                  refine takeD 13 77 (v := ?_) rfl rfl (by kernel_rfl) (by kernel_rfl) (by kernel_rfl) (fun _ _ _ h => h) (Or.inl ⟨by rfl, ?_⟩) (by assumption) ?_
                  rotate_left
                  · intro w1 hSw; obtain ⟨hcS, hfS⟩ := bcell hSw; go_simp; (try with_reducible rfl)
                  (try simp only [Act.put, List.setIfInBounds_toArray, List.set_cons_zero, List.set_cons_succ])
                  refine takeD 14 78 (v := ?_) rfl rfl (by kernel_rfl) (by kernel_rfl) (by kernel_rfl) (fun _ _ _ h => h) (Or.inl ⟨by rfl, ?_⟩) (by assumption) ?_
                  rotate_left
                  · intro w1 hSw; obtain ⟨hcS, hfS⟩ := bcell hSw; go_simp; (try with_reducible rfl)
                  (try simp only [Act.put, List.setIfInBounds_toArray, List.set_cons_zero, List.set_cons_succ])
                  refine takeD 15 79 (v := ?_) rfl rfl (by kernel_rfl) (by kernel_rfl) (by kernel_rfl) (fun _ _ _ h => h) (Or.inl ⟨by rfl, ?_⟩) (by assumption) ?_
                  rotate_left
                  · intro w1 hSw; obtain ⟨hcS, hfS⟩ := bcell hSw; go_simp; (try with_reducible rfl)
                  (try simp only [Act.put, List.setIfInBounds_toArray, List.set_cons_zero, List.set_cons_succ])
                  refine takeD 16 7 (v := ?_) rfl rfl (by kernel_rfl) (by kernel_rfl) (by kernel_rfl) (fun _ _ _ h => h) (Or.inl ⟨by rfl, ?_⟩) (by assumption) ?_
                  rotate_left
                  · intro w1 hSw; obtain ⟨hcS, hfS⟩ := bcell hSw; go_simp; (try with_reducible rfl)
                  (try simp only [Act.put, List.setIfInBounds_toArray, List.set_cons_zero, List.set_cons_succ])
                  refine wpAnyH_done (by kernel_rfl) ?_ _
                  have BN := Lib.hid (Below.and BC.out hq9)
                  clear hq9
                  go_wp2
                  go_roundw
                  case rel => exact ⟨q + 1, b, (decide (y.r = r)), by omega, by go_num, rfl, rfl, HF, BN⟩
                  case measure => simp [intOf]; omega
              ·
                have HF := Lib.hid (show bsC ((k : Int) + 1) r (b0, f0) xl = bsC ((k : Int) + 1) r (b, true) (xl.drop (q + 1)) by rw [HE.out]; congr 1; unfold bsStep; rw [HST.out, if_pos rfl, if_neg hv]; rfl)
                clear HE
                go_wp2_with (fail)
                refine wp_region_held_drew (S := fun w1 => Below (wr.alloc (.cells #[.int .i64 y.s, .int .i64 y.v, .int .i64 y.r.c, .int .i64 y.r.n, .int .i64 y.r.o, .int .i64 y.r.x, .int .i64 y.r.y] 55)).heap.size (wr.alloc (.cells #[.int .i64 y.s, .int .i64 y.v, .int .i64 y.r.c, .int .i64 y.r.n, .int .i64 y.r.o, .int .i64 y.r.x, .int .i64 y.r.y] 55)) w1) (by kernel_rfl) ((Below.refl _ _).drew) (fun hq9 => ?_)
                refine takeD 0 64 (v := ?_) rfl rfl (by kernel_rfl) (by kernel_rfl) (by kernel_rfl) (fun _ _ _ h => h) (Or.inl ⟨by rfl, ?_⟩) (by assumption) ?_
                rotate_left
                · intro w1 hSw; obtain ⟨hcS, hfS⟩ := bcell hSw; go_simp; (try with_reducible rfl)
                (try simp only [Act.put, List.setIfInBounds_toArray, List.set_cons_zero, List.set_cons_succ])
                refine takeD 1 65 (v := ?_) rfl rfl (by kernel_rfl) (by kernel_rfl) (by kernel_rfl) (fun _ _ _ h => h) (Or.inl ⟨by rfl, ?_⟩) (by assumption) ?_
                rotate_left
                · intro w1 hSw; obtain ⟨hcS, hfS⟩ := bcell hSw; go_simp; (try with_reducible rfl)
                (try simp only [Act.put, List.setIfInBounds_toArray, List.set_cons_zero, List.set_cons_succ])
                refine takeD 2 66 (v := undef) rfl rfl (by kernel_rfl) (by kernel_rfl) (by kernel_rfl) (fun _ _ _ h => h) (Or.inr ⟨by rfl, rfl⟩) (by assumption) ?_
                (try simp only [Act.put, List.setIfInBounds_toArray, List.set_cons_zero, List.set_cons_succ])
                refine takeD 3 67 (v := undef) rfl rfl (by kernel_rfl) (by kernel_rfl) (by kernel_rfl) (fun _ _ _ h => h) (Or.inr ⟨by rfl, rfl⟩) (by assumption) ?_
                (try simp only [Act.put, List.setIfInBounds_toArray, List.set_cons_zero, List.set_cons_succ])
                refine takeD 4 68 (v := undef) rfl rfl (by kernel_rfl) (by kernel_rfl) (by kernel_rfl) (fun _ _ _ h => h) (Or.inr ⟨by rfl, rfl⟩) (by assumption) ?_
                (try simp only [Act.put, List.setIfInBounds_toArray, List.set_cons_zero, List.set_cons_succ])
                refine takeD 5 69 (v := undef) rfl rfl (by kernel_rfl) (by kernel_rfl) (by kernel_rfl) (fun _ _ _ h => h) (Or.inr ⟨by rfl, rfl⟩) (by assumption) ?_
                (try simp only [Act.put, List.setIfInBounds_toArray, List.set_cons_zero, List.set_cons_succ])
                refine takeD 6 70 (v := undef) rfl rfl (by kernel_rfl) (by kernel_rfl) (by kernel_rfl) (fun _ _ _ h => h) (Or.inr ⟨by rfl, rfl⟩) (by assumption) ?_
                (try simp only [Act.put, List.setIfInBounds_toArray, List.set_cons_zero, List.set_cons_succ])
                refine takeD 7 71 (v := undef) rfl rfl (by kernel_rfl) (by kernel_rfl) (by kernel_rfl) (fun _ _ _ h => h) (Or.inr ⟨by rfl, rfl⟩) (by assumption) ?_
                (try simp only [Act.put, List.setIfInBounds_toArray, List.set_cons_zero, List.set_cons_succ])
                refine takeD 8 72 (v := undef) rfl rfl (by kernel_rfl) (by kernel_rfl) (by kernel_rfl) (fun _ _ _ h => h) (Or.inr ⟨by rfl, rfl⟩) (by assumption) ?_
                (try simp only [Act.put, List.setIfInBounds_toArray, List.set_cons_zero, List.set_cons_succ])
                refine takeD 9 73 (v := undef) rfl rfl (by kernel_rfl) (by kernel_rfl) (by kernel_rfl) (fun _ _ _ h => h) (Or.inr ⟨by rfl, rfl⟩) (by assumption) ?_
                (try simp only [Act.put, List.setIfInBounds_toArray, List.set_cons_zero, List.set_cons_succ])
                refine takeD 10 74 (v := undef) rfl rfl (by kernel_rfl) (by kernel_rfl) (by kernel_rfl) (fun _ _ _ h => h) (Or.inr ⟨by rfl, rfl⟩) (by assumption) ?_
                (try simp only [Act.put, List.setIfInBounds_toArray, List.set_cons_zero, List.set_cons_succ])
                refine takeD 11 75 (v := undef) rfl rfl (by kernel_rfl) (by kernel_rfl) (by kernel_rfl) (fun _ _ _ h => h) (Or.inr ⟨by rfl, rfl⟩) (by assumption) ?_
                (try simp only [Act.put, List.setIfInBounds_toArray, List.set_cons_zero, List.set_cons_succ])
                refine takeD 12 76 (v := undef) rfl rfl (by kernel_rfl) (by kernel_rfl) (by kernel_rfl) (fun _ _ _ h => h) (Or.inr ⟨by rfl, rfl⟩) (by assumption) ?_
                (try simp only [Act.put, List.setIfInBounds_toArray, List.set_cons_zero, List.set_cons_succ])
                refine takeD 13 77 (v := undef) rfl rfl (by kernel_rfl) (by kernel_rfl) (by kernel_rfl) (fun _ _ _ h => h) (Or.inr ⟨by rfl, rfl⟩) (by assumption) ?_
                (try simp only [Act.put, List.setIfInBounds_toArray, List.set_cons_zero, List.set_cons_succ])
                refine takeD 14 78 (v := undef) rfl rfl (by kernel_rfl) (by kernel_rfl) (by kernel_rfl) (fun _ _ _ h => h) (Or.inr ⟨by rfl, rfl⟩) (by assumption) ?_
                (try simp only [Act.put, List.setIfInBounds_toArray, List.set_cons_zero, List.set_cons_succ])
                refine takeD 15 79 (v := ?_) rfl rfl (by kernel_rfl) (by kernel_rfl) (by kernel_rfl) (fun _ _ _ h => h) (Or.inl ⟨by rfl, ?_⟩) (by assumption) ?_
                rotate_left
                · intro w1 hSw; obtain ⟨hcS, hfS⟩ := bcell hSw; go_simp; (try with_reducible rfl)
                (try simp only [Act.put, List.setIfInBounds_toArray, List.set_cons_zero, List.set_cons_succ])
                refine takeD 16 7 (v := ?_) rfl rfl (by kernel_rfl) (by kernel_rfl) (by kernel_rfl) (fun _ _ _ h => h) (Or.inl ⟨by rfl, ?_⟩) (by assumption) ?_
                rotate_left
                · intro w1 hSw; obtain ⟨hcS, hfS⟩ := bcell hSw; go_simp; (try with_reducible rfl)
                (try simp only [Act.put, List.setIfInBounds_toArray, List.set_cons_zero, List.set_cons_succ])
                refine wpAnyH_done (by kernel_rfl) ?_ _
                have BN := Lib.hid (Below.and BC.out hq9)
                clear hq9
                go_wp2
                go_roundw
                case rel => exact ⟨q + 1, b, true, by omega, by go_num, rfl, rfl, HF, BN⟩
                case measure => simp [intOf]; omega
            · have HN := Lib.hid (show bsC ((k : Int) + 1) r (-1, false) (allC V) = bsC ((k : Int) + 1) r (b, f) (allC (V.drop (m + 1))) by rw [HD.out, ht.out, List.drop_of_length_le (by omega)]; rfl)
              clear ht
              go_wp2
              go_roundw
              case rel => exact ⟨m + 1, b, f, by omega, by go_num, rfl, rfl, HN, hb⟩
              case measure => simp [intOf]; omega
        · have hz := HVD.out b f (by rw [ht.out, allC_end (by omega)]; rfl)
          have HZ := Lib.hid hz
          have p0 : wr.cell? ⟨g1, o1 + k * 5, none⟩ = some (.int .i64 r.c) := cell_kept hb.out (CP.out 0 _ rfl)
          have p1 : wr.cell? ⟨g1, o1 + k * 5 + 1, none⟩ = some (.int .i64 r.n) := cell_kept hb.out (CP.out 1 _ rfl)
          have p2 : wr.cell? ⟨g1, o1 + k * 5 + 2, none⟩ = some (.int .i64 r.o) := cell_kept hb.out (CP.out 2 _ rfl)
          have p3 : wr.cell? ⟨g1, o1 + k * 5 + 3, none⟩ = some (.int .i64 r.x) := cell_kept hb.out (CP.out 3 _ rfl)
          have p4 : wr.cell? ⟨g1, o1 + k * 5 + 4, none⟩ = some (.int .i64 r.y) := cell_kept hb.out (CP.out 4 _ rfl)
          clear ht hz
          by_cases hbn : 0 ≤ b
          · have hf := HZ.out.1 hbn
            subst hf
            have hbl : ¬ b < 0 := by omega
            go_wp2
            go_roundw
            case rel => exact ⟨k + 1, by omega, by go_num, hb⟩
            case measure => simp [intOf]; omega
          · have hbl : b < 0 := by omega
            obtain ⟨hr0, hkl⟩ := HZ.out.2 hbl
            have hq0 : ∀ W, (binOp .neq 30 (.agg #[.int .i64 r.c, .int .i64 r.n, .int .i64 r.o, .int .i64 r.x, .int .i64 r.y]) (.agg #[.int .i64 0, .int .i64 0, .int .i64 0, .int .i64 0, .int .i64 0])).run Try.prog W = .ok (.bool false) W := fun W => by have := neqReq r ⟨0, 0, 0, 0, 0⟩ W; rw [hr0] at this ⊢; simpa using this
            have hl1 : (1 : Int) ≤ (L.length : Int) := by omega
            have hke : ((k : Int) == (L.length : Int) - 1) = false := by simp; omega
            clear hr0 hkl
            go_wp2
            go_roundw
            case rel => exact ⟨k + 1, by omega, by go_num, hb⟩
            case measure => simp [intOf]; omega
    · go_wp2
      go_light
      go_ret
      exact ⟨rfl, Below.and BL.out hb0.out⟩

end Go.Proofs.Ytlokhgnbcbnmpaa
