/- A game as a text: the model's way. -/
import Derived.Test.YthidcmffnpnjjaaDoorCi
import Derived.Test.YthidcmffnpnjjaaDoorBk
namespace Go.Proofs.YthidcmffnpnjjaaDoor
open Go.ChangeShapes Go.WideShapes Go.ChangeAt Go.RowKit
set_option linter.unusedVariables false
set_option linter.unusedSimpArgs false

def tx (l m : List UInt8) : List UInt8 := l ++ m
theorem tx_len (l m : List UInt8) : (tx l m).length = l.length + m.length := List.length_append
theorem add_tx (X Y : List UInt8) (h : X.length + Y.length ≤ 8388608) (W : World) : (Op.stringOp .add ⟨X.toArray⟩ ⟨Y.toArray⟩).run Tryd.prog W = .ok (.string ⟨(tx X Y).toArray⟩) W := add_bs X Y h W
theorem ret_tx {X Y : List UInt8} (h : X = Y) : bsV X = bsV Y := by rw [h]
theorem row_tx {P : List UInt8} {l : List Int} {j : Nat} {X : List UInt8} {x : Int} (h : j < l.length) (hX : P ++ rowT (l.take j) = X) (hx : l[j]'h = x) : tx (tx X (decs x)) [44] = P ++ rowT (l.take (j + 1)) := by
  rw [rowT_take l j h, hx, ← hX]; simp [tx]
theorem row_tx_len {P : List UInt8} {l : List Int} (j : Nat) (hl : l.length ≤ 16) (hs : ∀ n ∈ l, Sm n) (hP : P.length ≤ 353) : (P ++ rowT (l.take j)).length ≤ 705 := by
  have h1 := rowT_len (l.take j) (fun n hn => hs n (List.mem_of_mem_take hn))
  have h2 : (l.take j).length ≤ 16 := by rw [List.length_take]; omega
  rw [List.length_append]; omega
theorem ent_tx {P : List UInt8} {E : List Fig} {j : Nat} {X : List UInt8} {e : Fig} (h : j < E.length) (hX : P ++ entsT (E.take j) = X) (hx : E[j]'h = e) :
    tx (tx (tx (tx (tx (tx (tx (tx (tx (tx X [47]) (decs e.c)) [44]) (decs e.x)) [44]) (decs e.y)) [44]) (decs e.l)) [44]) (decs e.g) = P ++ entsT (E.take (j + 1)) := by
  rw [entsT_take E j h, hx, ← hX]; simp [tx, entT]
theorem ent_tx_len {P : List UInt8} {E : List Fig} (j : Nat) (hl : E.length ≤ 4) (hs : ∀ n ∈ E, SmF n) (hP : P.length ≤ 1000) : (P ++ entsT (E.take j)).length ≤ 1440 := by
  have h1 := entsT_len (E.take j) (fun n hn => hs n (List.mem_of_mem_take hn))
  have h2 : (E.take j).length ≤ 4 := by rw [List.length_take]; omega
  rw [List.length_append]; omega

set_option maxRecDepth 100000 in
set_option maxHeartbeats 4000000 in
theorem l2Put (A : Option Addr) (a : Nat) (B : Option Addr) (b : Nat) (C : Option Addr) (c : Nat) (E : List Fig) (F L : List Int) (w : World) (G : GSm E F L) (rE : RdF w A E) (rF : RdI w B F) (rL : RdI w C L) :
    Calls Tryd.prog 12 #[gameV A E.length a B F.length b C L.length c] w fun e w' => e = .returned (bsV (gameT E F L)) ∧ Below w.heap.size w w' := by
  have Z : Hid (Below w.heap.size w (w.alloc (.cells #[.slice A E.length a, .slice B F.length b, .slice C L.length c] 30))) := (Below.refl _ _).alloc (Nat.le_refl _) _
  have K : Hid (Bkk (w.alloc (.cells #[.slice A E.length a, .slice B F.length b, .slice C L.length c] 30)) w.heap.size 30 #[.slice A E.length a, .slice B F.length b, .slice C L.length c]) := Bkk.new _
  have RE := Lib.hid rE
  have RF := Lib.hid rF
  have RL := Lib.hid rL
  have HSF := Lib.hid G.sf
  have HSL := Lib.hid G.sl
  have HSE := Lib.hid G.se
  have f16 := G.f
  have l4 := G.l
  have e4 := G.e
  have FL : F.length ≤ 16 := by omega
  have LL : L.length ≤ 16 := by omega
  clear f16 l4 G rE rF rL
  go_enter Tryd.func12, Tryd.ntmps12
  obtain ⟨w0, hw0⟩ : ∃ X, X = w.alloc (.cells #[.slice A E.length a, .slice B F.length b, .slice C L.length c] 30) := ⟨_, rfl⟩
  go_upto_region 3 with (fail)
  rw [← hw0] at K Z ⊢
  clear hw0
  go_loopw [3, 4] (fun u v wr => ∃ j : Nat, j ≤ F.length ∧ u = bsV ([] ++ rowT (F.take j)) ∧ v = .int .i64 (j : Int) ∧ Hid (Below w0.heap.size w0 wr)) (fun _ v _ => F.length - (intOf v).toNat)
  case atStart => exact ⟨0, Nat.zero_le _, by simp [rowT, bsV], rfl, Below.refl _ _⟩
  case round =>
    obtain ⟨j, hj, rfl, rfl, hB⟩ := hrel
    replace Z := Lib.hid (Below.and Z.out hB.out)
    replace K := Lib.hid (K.out.below hB.out)
    have hXl := row_tx_len (P := []) j (l := F) (by omega) HSF.out (by first | omega | simp)
    obtain ⟨X, hX⟩ : ∃ X, [] ++ rowT (F.take j) = X := ⟨_, rfl⟩
    rw [hX] at hXl ⊢
    have HX := Lib.hid hX
    clear hX
    have k0 : wr.cell? ⟨w.heap.size, 0, none⟩ = some (.slice A E.length a) := K.out.cell 0
    have k1 : wr.cell? ⟨w.heap.size, 1, none⟩ = some (.slice B F.length b) := K.out.cell 1
    have k2 : wr.cell? ⟨w.heap.size, 2, none⟩ = some (.slice C L.length c) := K.out.cell 2
    have lk := K.out.lt
    by_cases hlt : j < F.length
    · obtain ⟨g, hg, c0⟩ := RdI.below (RF.out) Z.out j hlt
      subst hg
      have hsm := HSF.out _ (List.getElem_mem hlt)
      obtain ⟨x, hx⟩ : ∃ x, F[j] = x := ⟨_, rfl⟩
      rw [hx] at c0 hsm
      have HE := Lib.hid (row_tx hlt HX.out hx)
      have hdl := decs_len x hsm.i64
      have A1 := add_tx X (decs x) (by omega)
      have A2 := add_tx (tx X (decs x)) [44] (by rw [tx_len]; simp; omega)
      have HI := Lib.hid hsm.i64
      have i0 : (0 : Int) ≤ (j : Int) := by omega
      have i1 : (j : Int) < (F.length : Int) := by omega
      clear hx hsm HX hdl hXl
      go_wp2_with (fail)
      refine (l1DecP x _ HI.out).mono ?_
      rintro e w5 ⟨rfl, hb⟩
      have HB5 := Lib.hid (Below.and hB.out hb)
      clear hb c0 k0 k1 k2 lk
      go_wp2
      go_roundw
      case rel => exact ⟨j + 1, by omega, ret_tx HE.out, by go_num, HB5.out⟩
      case measure => (simp [intOf]; try omega)
    · have i1 : ¬ (j : Int) < (F.length : Int) := by omega
      obtain rfl : j = F.length := by omega
      clear hlt hj
      have hXl2 : (tx X [47]).length ≤ 353 := by
        have := rowT_len F HSF.out
        rw [tx_len, ← HX.out, List.take_length, List.nil_append]; simp; omega
      have A1 := add_tx X [47] (by simp; omega)
      have HP := Lib.hid (show tx X [47] = rowT F ++ [47] by rw [← HX.out, List.take_length, List.nil_append]; rfl)
      obtain ⟨P, hP⟩ : ∃ P, tx X [47] = P := ⟨_, rfl⟩
      rw [hP] at A1 HP hXl2
      clear hP HX hXl
      go_wp2
      clear k0 k1 k2 lk i1 hB
      obtain ⟨wA, hwA⟩ : ∃ X, X = wr := ⟨_, rfl⟩
      rw [← hwA] at K Z ⊢
      clear hwA
      go_loopw [3, 5] (fun u v wr => ∃ j : Nat, j ≤ L.length ∧ u = bsV (P ++ rowT (L.take j)) ∧ v = .int .i64 (j : Int) ∧ Hid (Below wA.heap.size wA wr)) (fun _ v _ => L.length - (intOf v).toNat)
      case atStart => exact ⟨0, Nat.zero_le _, by simp [rowT], rfl, Below.refl _ _⟩
      case round =>
        obtain ⟨j, hj, rfl, rfl, hB⟩ := hrel
        replace Z := Lib.hid (Below.and Z.out hB.out)
        replace K := Lib.hid (K.out.below hB.out)
        have hXl := row_tx_len (P := P) j (l := L) (by omega) HSL.out (by first | omega | simp)
        obtain ⟨X, hX⟩ : ∃ X, P ++ rowT (L.take j) = X := ⟨_, rfl⟩
        rw [hX] at hXl ⊢
        have HX := Lib.hid hX
        clear hX
        have k0 : wr.cell? ⟨w.heap.size, 0, none⟩ = some (.slice A E.length a) := K.out.cell 0
        have k1 : wr.cell? ⟨w.heap.size, 1, none⟩ = some (.slice B F.length b) := K.out.cell 1
        have k2 : wr.cell? ⟨w.heap.size, 2, none⟩ = some (.slice C L.length c) := K.out.cell 2
        have lk := K.out.lt
        by_cases hlt : j < L.length
        · obtain ⟨g, hg, c0⟩ := RdI.below (RL.out) Z.out j hlt
          subst hg
          have hsm := HSL.out _ (List.getElem_mem hlt)
          obtain ⟨x, hx⟩ : ∃ x, L[j] = x := ⟨_, rfl⟩
          rw [hx] at c0 hsm
          have HE := Lib.hid (row_tx hlt HX.out hx)
          have hdl := decs_len x hsm.i64
          have A1 := add_tx X (decs x) (by omega)
          have A2 := add_tx (tx X (decs x)) [44] (by rw [tx_len]; simp; omega)
          have HI := Lib.hid hsm.i64
          have i0 : (0 : Int) ≤ (j : Int) := by omega
          have i1 : (j : Int) < (L.length : Int) := by omega
          clear hx hsm HX hdl hXl
          go_wp2_with (fail)
          refine (l1DecP x _ HI.out).mono ?_
          rintro e w5 ⟨rfl, hb⟩
          have HB5 := Lib.hid (Below.and hB.out hb)
          clear hb c0 k0 k1 k2 lk
          go_wp2
          go_roundw
          case rel => exact ⟨j + 1, by omega, ret_tx HE.out, by go_num, HB5.out⟩
          case measure => (simp [intOf]; try omega)
        · have i1 : ¬ (j : Int) < (L.length : Int) := by omega
          obtain rfl : j = L.length := by omega
          clear hlt hj
          have hPl2 : (P ++ rowT L).length ≤ 1000 := by have := rowT_len L HSL.out; rw [List.length_append]; omega
          rw [List.take_length] at HX
          have HP3 := Lib.hid (show X = rowT F ++ [47] ++ rowT L by rw [← HX.out, HP.out])
          have hXl3 : X.length ≤ 1000 := by rw [← HX.out]; exact hPl2
          clear HX hXl hPl2 A1
          go_wp2
          clear k0 k1 k2 lk i1 hB
          obtain ⟨wB, hwB⟩ : ∃ X, X = wr := ⟨_, rfl⟩
          rw [← hwB] at K Z ⊢
          clear hwB
          obtain ⟨P3, hP4⟩ : ∃ P3, X = P3 := ⟨_, rfl⟩
          rw [hP4] at HP3 hXl3 ⊢
          clear hP4
          go_loopw [3, 6] (fun u v wr => ∃ j : Nat, j ≤ E.length ∧ u = bsV (P3 ++ entsT (E.take j)) ∧ v = .int .i64 (j : Int) ∧ Hid (Below wB.heap.size wB wr)) (fun _ v _ => E.length - (intOf v).toNat)
          case atStart => exact ⟨0, Nat.zero_le _, by simp [entsT], rfl, Below.refl _ _⟩
          case round =>
            obtain ⟨j, hj, rfl, rfl, hB⟩ := hrel
            replace Z := Lib.hid (Below.and Z.out hB.out)
            replace K := Lib.hid (K.out.below hB.out)
            have hXl := ent_tx_len (P := P3) j e4 HSE.out hXl3
            obtain ⟨X, hX⟩ : ∃ X, P3 ++ entsT (E.take j) = X := ⟨_, rfl⟩
            rw [hX] at hXl ⊢
            have HX := Lib.hid hX
            clear hX
            have k0 : wr.cell? ⟨w.heap.size, 0, none⟩ = some (.slice A E.length a) := K.out.cell 0
            have k1 : wr.cell? ⟨w.heap.size, 1, none⟩ = some (.slice B F.length b) := K.out.cell 1
            have k2 : wr.cell? ⟨w.heap.size, 2, none⟩ = some (.slice C L.length c) := K.out.cell 2
            have lk := K.out.lt
            by_cases hlt : j < E.length
            · obtain ⟨g, hg, c0, c1, c2, c3, c4⟩ := RdF.below (RE.out) Z.out j hlt
              subst hg
              have hsm := HSE.out _ (List.getElem_mem hlt)
              obtain ⟨e, he⟩ : ∃ e, E[j] = e := ⟨_, rfl⟩
              rw [he] at c0 c1 c2 c3 c4 hsm
              have HE := Lib.hid (ent_tx hlt HX.out he)
              have d1 := decs_len e.c hsm.c.i64
              have d2 := decs_len e.x hsm.x.i64
              have d3 := decs_len e.y hsm.y.i64
              have d4 := decs_len e.l hsm.l.i64
              have d5 := decs_len e.g hsm.g.i64
              have B0 := add_tx X [47] (by simp only [tx_len, List.length_cons, List.length_nil]; omega)
              have B1 := add_tx (tx X [47]) (decs e.c) (by simp only [tx_len, List.length_cons, List.length_nil]; omega)
              have B2 := add_tx (tx (tx X [47]) (decs e.c)) [44] (by simp only [tx_len, List.length_cons, List.length_nil]; omega)
              have B3 := add_tx (tx (tx (tx X [47]) (decs e.c)) [44]) (decs e.x) (by simp only [tx_len, List.length_cons, List.length_nil]; omega)
              have B4 := add_tx (tx (tx (tx (tx X [47]) (decs e.c)) [44]) (decs e.x)) [44] (by simp only [tx_len, List.length_cons, List.length_nil]; omega)
              have B5 := add_tx (tx (tx (tx (tx (tx X [47]) (decs e.c)) [44]) (decs e.x)) [44]) (decs e.y) (by simp only [tx_len, List.length_cons, List.length_nil]; omega)
              have B6 := add_tx (tx (tx (tx (tx (tx (tx X [47]) (decs e.c)) [44]) (decs e.x)) [44]) (decs e.y)) [44] (by simp only [tx_len, List.length_cons, List.length_nil]; omega)
              have B7 := add_tx (tx (tx (tx (tx (tx (tx (tx X [47]) (decs e.c)) [44]) (decs e.x)) [44]) (decs e.y)) [44]) (decs e.l) (by simp only [tx_len, List.length_cons, List.length_nil]; omega)
              have B8 := add_tx (tx (tx (tx (tx (tx (tx (tx (tx X [47]) (decs e.c)) [44]) (decs e.x)) [44]) (decs e.y)) [44]) (decs e.l)) [44] (by simp only [tx_len, List.length_cons, List.length_nil]; omega)
              have B9 := add_tx (tx (tx (tx (tx (tx (tx (tx (tx (tx X [47]) (decs e.c)) [44]) (decs e.x)) [44]) (decs e.y)) [44]) (decs e.l)) [44]) (decs e.g) (by simp only [tx_len, List.length_cons, List.length_nil]; omega)
              have HM := Lib.hid hsm
              have i0 : (0 : Int) ≤ (j : Int) := by omega
              have i1 : (j : Int) < (E.length : Int) := by omega
              clear he hsm HX d1 d2 d3 d4 d5 hXl
              have hba : Below wr.heap.size wr (wr.alloc (.cells #[.int .i64 e.c, .int .i64 e.x, .int .i64 e.y, .int .i64 e.l, .int .i64 e.g] 48)) := (Below.refl _ _).alloc (Nat.le_refl _) _
              have KE : Hid (Bkk (wr.alloc (.cells #[.int .i64 e.c, .int .i64 e.x, .int .i64 e.y, .int .i64 e.l, .int .i64 e.g] 48)) wr.heap.size 48 #[.int .i64 e.c, .int .i64 e.x, .int .i64 e.y, .int .i64 e.l, .int .i64 e.g]) := Bkk.new _
              have HB1 := Lib.hid (Below.and hB.out hba)
              clear hba
              go_upto_region 15 with (fail)
              obtain ⟨wq, hwq⟩ : ∃ X, X = wr.alloc (.cells #[.int .i64 e.c, .int .i64 e.x, .int .i64 e.y, .int .i64 e.l, .int .i64 e.g] 48) := ⟨_, rfl⟩
              obtain ⟨eb, heb⟩ : ∃ X, X = wr.heap.size := ⟨_, rfl⟩
              rw [← hwq] at KE HB1 ⊢
              rw [← heb] at KE ⊢
              clear hwq heb c0 c1 c2 c3 c4 k0 k1 k2 lk i0 i1
              have x0 : wq.cell? ⟨eb, 0, none⟩ = some (.int .i64 e.c) := KE.out.cell 0
              have x1 : wq.cell? ⟨eb, 1, none⟩ = some (.int .i64 e.x) := KE.out.cell 1
              have x2 : wq.cell? ⟨eb, 2, none⟩ = some (.int .i64 e.y) := KE.out.cell 2
              have x3 : wq.cell? ⟨eb, 3, none⟩ = some (.int .i64 e.l) := KE.out.cell 3
              have x4 : wq.cell? ⟨eb, 4, none⟩ = some (.int .i64 e.g) := KE.out.cell 4
              have lx := KE.out.lt
              refine wp_region_held_drew (S := fun w1 => Below wq.heap.size wq w1) (by kernel_rfl) ((Below.refl _ _).drew) (fun hq => ?_)
              refine takeD 0 54 (v := ?_) rfl rfl (by kernel_rfl) (by kernel_rfl) (by kernel_rfl) (fun _ _ _ h => h) (Or.inl ⟨by rfl, ?_⟩) (by assumption) ?_
              rotate_left
              · intro w1 hSw; obtain ⟨hcS, hfS⟩ := bcell hSw; go_simp; (try with_reducible rfl)
              (try simp only [Act.put, List.setIfInBounds_toArray, List.set_cons_zero, List.set_cons_succ])
              refine takeD 1 55 (v := ?_) rfl rfl (by kernel_rfl) (by kernel_rfl) (by kernel_rfl) (fun _ _ _ h => h) (Or.inl ⟨by rfl, ?_⟩) (by assumption) ?_
              rotate_left
              · intro w1 hSw; obtain ⟨hcS, hfS⟩ := bcell hSw; go_simp; (try with_reducible rfl)
              (try simp only [Act.put, List.setIfInBounds_toArray, List.set_cons_zero, List.set_cons_succ])
              refine takeD 2 56 (v := ?_) rfl rfl (by kernel_rfl) (by kernel_rfl) (by kernel_rfl) (fun _ _ _ h => h) (Or.inl ⟨by rfl, ?_⟩) (by assumption) ?_
              rotate_left
              · intro w1 hSw; obtain ⟨hcS, hfS⟩ := bcell hSw; go_simp; (try with_reducible rfl)
              (try simp only [Act.put, List.setIfInBounds_toArray, List.set_cons_zero, List.set_cons_succ])
              refine takeD 3 57 (v := ?_) rfl rfl (by kernel_rfl) (by kernel_rfl) (by kernel_rfl) (fun _ _ _ h => h) (Or.inl ⟨by rfl, ?_⟩) (by assumption) ?_
              rotate_left
              · intro w1 hSw; obtain ⟨hcS, hfS⟩ := bcell hSw; go_simp; (try with_reducible rfl)
              (try simp only [Act.put, List.setIfInBounds_toArray, List.set_cons_zero, List.set_cons_succ])
              refine takeD 7 61 (v := ?_) rfl rfl (by kernel_rfl) (by kernel_rfl) (by kernel_rfl) (fun _ _ _ h => h) (Or.inl ⟨by rfl, ?_⟩) (by assumption) ?_
              rotate_left
              · intro w1 hSw; obtain ⟨hcS, hfS⟩ := bcell hSw; go_simp; (try with_reducible rfl)
              (try simp only [Act.put, List.setIfInBounds_toArray, List.set_cons_zero, List.set_cons_succ])
              refine takeD 8 62 (v := ?_) rfl rfl (by kernel_rfl) (by kernel_rfl) (by kernel_rfl) (fun _ _ _ h => h) (Or.inl ⟨by rfl, ?_⟩) (by assumption) ?_
              rotate_left
              · intro w1 hSw; obtain ⟨hcS, hfS⟩ := bcell hSw; go_simp; (try with_reducible rfl)
              (try simp only [Act.put, List.setIfInBounds_toArray, List.set_cons_zero, List.set_cons_succ])
              refine takeD 12 66 (v := ?_) rfl rfl (by kernel_rfl) (by kernel_rfl) (by kernel_rfl) (fun _ _ _ h => h) (Or.inl ⟨by rfl, ?_⟩) (by assumption) ?_
              rotate_left
              · intro w1 hSw; obtain ⟨hcS, hfS⟩ := bcell hSw; go_simp; (try with_reducible rfl)
              (try simp only [Act.put, List.setIfInBounds_toArray, List.set_cons_zero, List.set_cons_succ])
              refine takeD 13 67 (v := ?_) rfl rfl (by kernel_rfl) (by kernel_rfl) (by kernel_rfl) (fun _ _ _ h => h) (Or.inl ⟨by rfl, ?_⟩) (by assumption) ?_
              rotate_left
              · intro w1 hSw; obtain ⟨hcS, hfS⟩ := bcell hSw; go_simp; (try with_reducible rfl)
              (try simp only [Act.put, List.setIfInBounds_toArray, List.set_cons_zero, List.set_cons_succ])
              refine takeD 17 71 (v := ?_) rfl rfl (by kernel_rfl) (by kernel_rfl) (by kernel_rfl) (fun _ _ _ h => h) (Or.inl ⟨by rfl, ?_⟩) (by assumption) ?_
              rotate_left
              · intro w1 hSw; obtain ⟨hcS, hfS⟩ := bcell hSw; go_simp; (try with_reducible rfl)
              (try simp only [Act.put, List.setIfInBounds_toArray, List.set_cons_zero, List.set_cons_succ])
              refine takeD 18 72 (v := ?_) rfl rfl (by kernel_rfl) (by kernel_rfl) (by kernel_rfl) (fun _ _ _ h => h) (Or.inl ⟨by rfl, ?_⟩) (by assumption) ?_
              rotate_left
              · intro w1 hSw; obtain ⟨hcS, hfS⟩ := bcell hSw; go_simp; (try with_reducible rfl)
              (try simp only [Act.put, List.setIfInBounds_toArray, List.set_cons_zero, List.set_cons_succ])
              refine takeD 22 76 (v := ?_) rfl rfl (by kernel_rfl) (by kernel_rfl) (by kernel_rfl) (fun _ _ _ h => h) (Or.inl ⟨by rfl, ?_⟩) (by assumption) ?_
              rotate_left
              · intro w1 hSw; obtain ⟨hcS, hfS⟩ := bcell hSw; go_simp; (try with_reducible rfl)
              (try simp only [Act.put, List.setIfInBounds_toArray, List.set_cons_zero, List.set_cons_succ])
              refine takeD 23 77 (v := ?_) rfl rfl (by kernel_rfl) (by kernel_rfl) (by kernel_rfl) (fun _ _ _ h => h) (Or.inl ⟨by rfl, ?_⟩) (by assumption) ?_
              rotate_left
              · intro w1 hSw; obtain ⟨hcS, hfS⟩ := bcell hSw; go_simp; (try with_reducible rfl)
              (try simp only [Act.put, List.setIfInBounds_toArray, List.set_cons_zero, List.set_cons_succ])
              refine wpAnyH_ready (rs := [4]) (by kernel_rfl) (by simp) ?_
              refine AllReadyH.cons rfl (fun K hK => ?_) AllReadyH.nil
              go_simp
              refine (l1DecP e.c _ HM.out.c.i64).mono ?_
              rintro e' w20 ⟨rfl, hb⟩
              refine hK.out _ _ (Below.and hq hb) (fun hq2 => ?_)
              clear hK K
              (try simp only [Act.put, List.setIfInBounds_toArray, List.set_cons_zero, List.set_cons_succ])
              refine takeD 5 59 (v := ?_) rfl rfl (by kernel_rfl) (by kernel_rfl) (by kernel_rfl) (fun _ _ _ h => h) (Or.inl ⟨by rfl, ?_⟩) (by assumption) ?_
              rotate_left
              · intro w1 hSw; obtain ⟨hcS, hfS⟩ := bcell hSw; go_simp; (try with_reducible rfl)
              (try simp only [Act.put, List.setIfInBounds_toArray, List.set_cons_zero, List.set_cons_succ])
              refine takeD 6 60 (v := ?_) rfl rfl (by kernel_rfl) (by kernel_rfl) (by kernel_rfl) (fun _ _ _ h => h) (Or.inl ⟨by rfl, ?_⟩) (by assumption) ?_
              rotate_left
              · intro w1 hSw; obtain ⟨hcS, hfS⟩ := bcell hSw; go_simp; (try with_reducible rfl)
              (try simp only [Act.put, List.setIfInBounds_toArray, List.set_cons_zero, List.set_cons_succ])
              refine wpAnyH_ready (rs := [9]) (by kernel_rfl) (by simp) ?_
              refine AllReadyH.cons rfl (fun K hK => ?_) AllReadyH.nil
              go_simp
              refine (l1DecP e.x _ HM.out.x.i64).mono ?_
              rintro e' w21 ⟨rfl, hb⟩
              refine hK.out _ _ (Below.and hq2 hb) (fun hq3 => ?_)
              clear hK K
              (try simp only [Act.put, List.setIfInBounds_toArray, List.set_cons_zero, List.set_cons_succ])
              refine takeD 10 64 (v := ?_) rfl rfl (by kernel_rfl) (by kernel_rfl) (by kernel_rfl) (fun _ _ _ h => h) (Or.inl ⟨by rfl, ?_⟩) (by assumption) ?_
              rotate_left
              · intro w1 hSw; obtain ⟨hcS, hfS⟩ := bcell hSw; go_simp; (try with_reducible rfl)
              (try simp only [Act.put, List.setIfInBounds_toArray, List.set_cons_zero, List.set_cons_succ])
              refine takeD 11 65 (v := ?_) rfl rfl (by kernel_rfl) (by kernel_rfl) (by kernel_rfl) (fun _ _ _ h => h) (Or.inl ⟨by rfl, ?_⟩) (by assumption) ?_
              rotate_left
              · intro w1 hSw; obtain ⟨hcS, hfS⟩ := bcell hSw; go_simp; (try with_reducible rfl)
              (try simp only [Act.put, List.setIfInBounds_toArray, List.set_cons_zero, List.set_cons_succ])
              refine wpAnyH_ready (rs := [14]) (by kernel_rfl) (by simp) ?_
              refine AllReadyH.cons rfl (fun K hK => ?_) AllReadyH.nil
              go_simp
              refine (l1DecP e.y _ HM.out.y.i64).mono ?_
              rintro e' w22 ⟨rfl, hb⟩
              refine hK.out _ _ (Below.and hq3 hb) (fun hq4 => ?_)
              clear hK K
              (try simp only [Act.put, List.setIfInBounds_toArray, List.set_cons_zero, List.set_cons_succ])
              refine takeD 15 69 (v := ?_) rfl rfl (by kernel_rfl) (by kernel_rfl) (by kernel_rfl) (fun _ _ _ h => h) (Or.inl ⟨by rfl, ?_⟩) (by assumption) ?_
              rotate_left
              · intro w1 hSw; obtain ⟨hcS, hfS⟩ := bcell hSw; go_simp; (try with_reducible rfl)
              (try simp only [Act.put, List.setIfInBounds_toArray, List.set_cons_zero, List.set_cons_succ])
              refine takeD 16 70 (v := ?_) rfl rfl (by kernel_rfl) (by kernel_rfl) (by kernel_rfl) (fun _ _ _ h => h) (Or.inl ⟨by rfl, ?_⟩) (by assumption) ?_
              rotate_left
              · intro w1 hSw; obtain ⟨hcS, hfS⟩ := bcell hSw; go_simp; (try with_reducible rfl)
              (try simp only [Act.put, List.setIfInBounds_toArray, List.set_cons_zero, List.set_cons_succ])
              refine wpAnyH_ready (rs := [19]) (by kernel_rfl) (by simp) ?_
              refine AllReadyH.cons rfl (fun K hK => ?_) AllReadyH.nil
              go_simp
              refine (l1DecP e.l _ HM.out.l.i64).mono ?_
              rintro e' w23 ⟨rfl, hb⟩
              refine hK.out _ _ (Below.and hq4 hb) (fun hq5 => ?_)
              clear hK K
              (try simp only [Act.put, List.setIfInBounds_toArray, List.set_cons_zero, List.set_cons_succ])
              refine takeD 20 74 (v := ?_) rfl rfl (by kernel_rfl) (by kernel_rfl) (by kernel_rfl) (fun _ _ _ h => h) (Or.inl ⟨by rfl, ?_⟩) (by assumption) ?_
              rotate_left
              · intro w1 hSw; obtain ⟨hcS, hfS⟩ := bcell hSw; go_simp; (try with_reducible rfl)
              (try simp only [Act.put, List.setIfInBounds_toArray, List.set_cons_zero, List.set_cons_succ])
              refine takeD 21 75 (v := ?_) rfl rfl (by kernel_rfl) (by kernel_rfl) (by kernel_rfl) (fun _ _ _ h => h) (Or.inl ⟨by rfl, ?_⟩) (by assumption) ?_
              rotate_left
              · intro w1 hSw; obtain ⟨hcS, hfS⟩ := bcell hSw; go_simp; (try with_reducible rfl)
              (try simp only [Act.put, List.setIfInBounds_toArray, List.set_cons_zero, List.set_cons_succ])
              refine wpAnyH_ready (rs := [24]) (by kernel_rfl) (by simp) ?_
              refine AllReadyH.cons rfl (fun K hK => ?_) AllReadyH.nil
              go_simp
              refine (l1DecP e.g _ HM.out.g.i64).mono ?_
              rintro e' w24 ⟨rfl, hb⟩
              refine hK.out _ _ (Below.and hq5 hb) (fun hq6 => ?_)
              clear hK K
              (try simp only [Act.put, List.setIfInBounds_toArray, List.set_cons_zero, List.set_cons_succ])
              refine takeD 25 79 (v := ?_) rfl rfl (by kernel_rfl) (by kernel_rfl) (by kernel_rfl) (fun _ _ _ h => h) (Or.inl ⟨by rfl, ?_⟩) (by assumption) ?_
              rotate_left
              · intro w1 hSw; obtain ⟨hcS, hfS⟩ := bcell hSw; go_simp; (try with_reducible rfl)
              (try simp only [Act.put, List.setIfInBounds_toArray, List.set_cons_zero, List.set_cons_succ])
              refine takeD 26 3 (v := ?_) rfl rfl (by kernel_rfl) (by kernel_rfl) (by kernel_rfl) (fun _ _ _ h => h) (Or.inl ⟨by rfl, ?_⟩) (by assumption) ?_
              rotate_left
              · intro w1 hSw; obtain ⟨hcS, hfS⟩ := bcell hSw; go_simp; (try with_reducible rfl)
              (try simp only [Act.put, List.setIfInBounds_toArray, List.set_cons_zero, List.set_cons_succ])
              refine wpAnyH_done (by kernel_rfl) ?_ _
              have HB5 := Lib.hid (Below.and HB1.out hq6)
              clear x0 x1 x2 x3 x4 lx KE
              go_wp2
              go_roundw
              case rel => exact ⟨j + 1, by omega, ret_tx HE.out, by go_num, HB5.out⟩
              case measure => (simp [intOf]; try omega)
            · have i1 : ¬ (j : Int) < (E.length : Int) := by omega
              obtain rfl : j = E.length := by omega
              have HR := Lib.hid (show X = gameT E F L by rw [← HX.out, List.take_length, HP3.out]; rfl)
              clear hlt hj hXl HX
              go_wp2
              go_light
              go_ret
              exact ⟨ret_bs HR.out, Z.out⟩

end Go.Proofs.YthidcmffnpnjjaaDoor
