/- Votes drawn for PickAll. -/
import Derived.Test.YtlokhgnbcbnmpaaDa
namespace Go.Proofs.Ytlokhgnbcbnmpaa
open Go.ChangeShapes Go.WideShapes Go.ChangeAt Go.RowKit
set_option linter.unusedVariables false
set_option linter.unusedSimpArgs false

set_option maxRecDepth 100000 in
set_option maxHeartbeats 2000000 in
theorem drawPickAll {w : World} {A : Option Addr} {n c : Nat} (hn : n ≤ 1048576) (hc : n ≤ c) (hb : InB w A n) :
    Calls Try.prog 37 #[.slice A n c] w fun e w' => ∃ (B : Option Addr) (d : Nat) (V : List VtP), e = .returned (.slice B V.length d) ∧ V.length ≤ 5 ∧ (∀ v ∈ V, v.cl.length ≤ 3) ∧ RdV w' B V ∧ Below w.heap.size w w' := by
  obtain ⟨i0, hi, hz0, hz1, hz2⟩ := info_parts infoVote'
  have I1 := Lib.hid hi
  have I2 := Lib.hid hz0
  have I3 := Lib.hid hz1
  have I4 := Lib.hid hz2
  have HB := Lib.hid hb
  clear hb hi hz0 hz1 hz2
  go_enter Try.func37, Try.ntmps37
  go_wp2_with (fail)
  refine (l20Open hn hc HB.out).mono ?_
  rintro e Wa ⟨m, rfl, hr, hbl⟩
  have RD := Lib.hid hr
  have BL := Lib.hid hbl
  have hsz := RD.out.lt
  clear hr hbl
  go_wp2_with (fail)
  refine (l20Votes RD.out (by omega)).mono ?_
  rintro e Wb ⟨B, d, V, rfl, hl, ho, hO, q, q0, q1, hr, hgr⟩
  have hszb := hgr.size
  have RD := Lib.hid hr
  have BL := Lib.hid (BL.out.grown hgr BL.out.size (fun x hx => by cases hx; omega))
  have ho := Lib.hid ho
  have hO := Lib.hid hO
  clear hr hgr
  have hV : RdV Wb B V := ⟨Rd.of_own VtP.len ho.out rfl, fun v hv => (hO.out v hv).2.rd⟩
  have HV := Lib.hid hV
  clear hV
  by_cases h0 : V.length = 0
  · have HZ := Lib.hid h0
    have e0 : decide ((0 : Int) < (V.length : Int)) = false := decide_eq_false (by omega)
    have e1 : ¬ (0 : Int) < (V.length : Int) := by omega
    clear h0
    go_wp2
    go_light
    go_ret
    exact ⟨B, d, V, rfl, by omega, fun v hv => (hO.out v hv).1, HV.out, BL.out⟩
  have e1 : (0 : Int) < (V.length : Int) := by omega
  go_wp2_with (fail)
  refine (pickR 10 RD.out (by have := q1; omega) (by omega) (by omega)).mono ?_
  rintro e Wc ⟨a, a0, a1, rfl, qc, qc0, qc1, hr, hgr⟩
  have hq9 : q ≤ 112 := by omega
  have hnR : ∀ {W : World} {x : Value} {k : Nat} {e : TypeId} {z : Nat} {ys : List Value}, W.ownsRow Wa.heap.size e z x k ys → x.ownBlock ≠ some w.heap.size := fun h e => by have := (own_block_ge h w.heap.size e).1; omega
  have ho := Lib.hid (ho.out.kept hgr (.inr (hnR ho.out)))
  have hO : Hid (∀ v ∈ V, v.cl.length ≤ 3 ∧ v.own Wc Wa.heap.size) := fun v hv => ⟨(hO.out v hv).1, (hO.out v hv).2.kept hgr (.inr (hnR (hO.out v hv).2))⟩
  have BL := Lib.hid (BL.out.grown hgr BL.out.size (fun x hx => by cases hx; omega))
  have hszc := hgr.size
  clear hr hgr HV hnR
  have hV : RdV Wc B V := ⟨Rd.of_own VtP.len ho.out rfl, fun v hv => (hO.out v hv).2.rd⟩
  have HV := Lib.hid hV
  clear hV
  by_cases ha : a = 0
  · subst ha
    obtain ⟨g, o, hA, ca⟩ := HV.out.1 0 (by omega)
    have hx := List.getElem_mem (show 0 < V.length by omega)
    generalize V[0] = x at ca hx
    obtain ⟨xf, xA, xc, xl⟩ := x
    have c0 : Wc.cell? ⟨g, o, none⟩ = some (.int .i64 xf) := by simpa using ca 0 _ rfl
    have c1 : Wc.cell? ⟨g, o + 1, none⟩ = some (.slice xA xl.length xc) := by simpa using ca 1 _ rfl
    have HX := Lib.hid hx
    have hAA := Lib.hid hA
    subst hA
    have hk : (0 : Nat) < V.length := by omega
    clear ca hx
    go_wp2_with (at_builtin; refine wpList_append_own _ rfl _ _ 32 rfl Wa.heap.size 67 i0 (.agg #[.int .i64 0, .slice none 0 0]) 2 32 Try.underlying32 I1.out I2.out I3.out I4.out rfl (by decide) _ _ _ rfl (ho.out.alloc _) ⟨Wc.heap.size, 0, none⟩ 1 1 [.int .i64 xf, .slice xA xl.length xc] rfl rfl ?c1 ?c2 ?c3 ?c4 ?c5 ?_)
    case c1 =>
      intro j u hu
      have h := (Blk.new (t := 67) (cs := #[.int .i64 xf, .slice xA xl.length xc]) Wc).cell j
      rw [show Addr.add ⟨Wc.heap.size, 0, none⟩ j = ⟨Wc.heap.size, j, none⟩ by simp [Addr.add]; intro h; exact h.symm, h]
      simpa using hu
    case c2 => intro u hu; simp at hu; rcases hu with rfl | rfl <;> rfl
    case c3 => unfold maxLen; omega
    case c4 => omega
    case c5 => simp; omega
    intro v' w3 ho3 hg3 _
    obtain ⟨B', d', hv', hm'⟩ := own_form ho3
    subst hv'
    have BL3 := Lib.hid (Below.trans (BL.out.alloc BL.out.size (.cells #[.int .i64 xf, .slice xA xl.length xc] 67)) (Below.of_grown hg3 (by have := BL.out.size; simp; omega) fun x hx => by have := (own_block_ge ho.out x hx).1; omega))
    have hO3 : ∀ v ∈ V ++ [(⟨xf, xA, xc, xl⟩ : VtP)], v.cl.length ≤ 3 ∧ v.own w3 Wa.heap.size := fun v hv => by
      have hv : v ∈ V := by
        rcases List.mem_append.1 hv with hv | hv
        · exact hv
        · rw [List.mem_singleton.1 hv]; exact HX.out
      obtain ⟨g1, g2⟩ := hO.out v hv
      refine ⟨g1, World.ownsRow.kept (World.ownsRow.alloc g2 _) hg3 ?_⟩
      rcases hq : (Value.slice v.A v.cl.length v.c).ownBlock with _ | y
      · exact .inl rfl
      · exact .inr fun e => own_row_ne g2 ho.out (by decide) y hq e.symm
    have R3 : Hid (RdV w3 B' (V ++ [(⟨xf, xA, xc, xl⟩ : VtP)])) := ⟨Rd.of_own (n := V.length + 1) VtP.len (by rw [List.flatMap_append]; exact ho3) (by simp), fun v hv => (hO3 v hv).2.rd⟩
    have hO3 := Lib.hid hO3
    clear ho3 hg3
    go_wp2
    go_ret
    exact ⟨B', d', V ++ [(⟨xf, xA, xc, xl⟩ : VtP)], by simp, by simp; omega, fun v hv => (hO3.out v hv).1, R3.out, BL3.out⟩
  · have ha' : (a == 0) = false := by simp [ha]
    clear ha
    go_wp2
    go_light
    go_ret
    exact ⟨B, d, V, rfl, by omega, fun v hv => (hO.out v hv).1, HV.out, BL.out⟩

end Go.Proofs.Ytlokhgnbcbnmpaa
