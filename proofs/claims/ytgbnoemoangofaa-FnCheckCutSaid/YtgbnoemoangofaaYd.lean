/- Whether checksums are ok, and how many have a sum: the model's way. -/
import Derived.Test.YtgbnoemoangofaaYc
namespace Go.Proofs.Ytgbnoemoangofaa
open Go.ChangeShapes Go.WideShapes Go.ChangeAt Go.RowKit
set_option linter.unusedVariables false
set_option linter.unusedSimpArgs false

structure OkJ (L : List Ck) (i : Nat) : Prop where
  ok : ∀ x ∈ L.take i, ckB x = true
  once : ((L.take i).map kyP).Nodup
theorem OkJ.zero (L : List Ck) : OkJ L 0 := ⟨by simp, by simp⟩
theorem OkJ.step {L : List Ck} {i : Nat} {x : Ck} (h : OkJ L i) (ht : L.take (i + 1) = L.take i ++ [x]) (hx : ckB x = true) (hn : ∀ y ∈ L.take i, kyP y ≠ kyP x) : OkJ L (i + 1) := by
  constructor
  · rw [ht]
    intro y hy
    rcases List.mem_append.1 hy with hy | hy
    · exact h.ok y hy
    · rw [List.mem_singleton.1 hy]; exact hx
  · rw [ht, List.map_append]
    refine List.nodup_append.2 ⟨h.once, by simp, fun a ha b hb e => ?_⟩
    obtain ⟨y, hy, rfl⟩ := List.mem_map.1 ha
    rw [List.map_cons, List.map_nil, List.mem_singleton] at hb
    exact hn y hy (e.trans hb)
theorem OkJ.all {L : List Ck} (h : OkJ L L.length) : okC L = decide (L.length ≤ 24) := by
  have h1 := h.ok
  have h2 := h.once
  rw [List.take_length] at h1 h2
  exact decide_eq_decide.2 ⟨fun hh => hh.len, fun hh => ⟨hh, h1, h2⟩⟩
theorem ok_bad {L : List Ck} {x : Ck} (hm : x ∈ L) (hx : ckB x = false) : okC L = false := decide_eq_false (fun hh => by have := hh.ok x hm; rw [hx] at this; cases this)
theorem ok_twice {L : List Ck} {i : Nat} {x y : Ck} (ht : L.take (i + 1) = L.take i ++ [x]) (hy : y ∈ L.take i) (e : kyP y = kyP x) : okC L = false := decide_eq_false (fun hh => by
  have h1 := hh.once
  rw [← List.take_append_drop (i + 1) L, List.map_append, List.nodup_append, ht, List.map_append, List.nodup_append] at h1
  exact h1.1.2.2 (kyP y) (List.mem_map_of_mem hy) (kyP x) (by simp) e)

set_option maxRecDepth 100000 in
set_option maxHeartbeats 4000000 in
theorem l15Ok (A : Option Addr) (a : Nat) (L : List Ck) (w : World) (hl : L.length ≤ 2097152) (hr : Rd 3 Ck.cells w A L) :
    Calls Try.prog 31 #[.slice A L.length a] w fun e w' => e = .returned (.bool (okC L)) ∧ Below w.heap.size w w' := by
  have HR := Lib.hid hr
  obtain ⟨B, hB⟩ : ∃ B, okC L = B := ⟨_, rfl⟩
  have HB := Lib.hid hB
  rw [hB]
  clear hr hB
  go_enter Try.func31, Try.ntmps31
  go_wp2
  go_loopw [3] (fun v wr => ∃ i : Nat, i ≤ L.length ∧ v = .int .i64 (i : Int) ∧ Hid (OkJ L i) ∧ Hid (Below w.heap.size w wr)) (fun v _ => L.length - (intOf v).toNat)
  case atStart => exact ⟨0, Nat.zero_le _, rfl, OkJ.zero L, Below.refl _ _⟩
  case round =>
    obtain ⟨i, hi, rfl, ha, hBw⟩ := hrel
    by_cases hlt : i < L.length
    · obtain ⟨g, o, hg, xc⟩ := Rd.below HR.out hBw.out i hlt
      subst hg
      have HT := Lib.hid (List.take_succ_eq_append_getElem hlt)
      have HM := Lib.hid (List.getElem_mem hlt)
      have HXC := Lib.hid (show ∃ z : Ck, z = L[i] from ⟨_, rfl⟩)
      obtain ⟨x, hx⟩ : ∃ x, x = L[i] := ⟨_, rfl⟩
      rw [← hx] at xc HT HM
      have HX := Lib.hid hx
      clear hx HXC
      have x0 : wr.cell? ⟨g, o + i * 3, none⟩ = some (.int .i64 x.a) := xc 0 _ rfl
      have x1 : wr.cell? ⟨g, o + i * 3 + 1, none⟩ = some (.int .i64 x.f) := xc 1 _ rfl
      have x2 : wr.cell? ⟨g, o + i * 3 + 2, none⟩ = some (.int .i64 x.n) := xc 2 _ rfl
      clear xc
      have i0 : (0 : Int) ≤ (i : Int) := by omega
      have i1 : (i : Int) < (L.length : Int) := by omega
      go_wp2_with (fail)
      refine (specCheckOne x _).mono ?_
      rintro e w1 ⟨rfl, hb⟩
      have hBw := Lib.hid (Below.and hBw.out hb)
      clear hb x0 x1 x2
      rcases hk : ckB x with _ | _
      · have HF := Lib.hid (show B = false by rw [← HB.out]; exact ok_bad HM.out hk)
        go_wp2
        go_light
        go_ret
        exact ⟨ret_bool HF.out.symm, hBw.out⟩
      have HK := Lib.hid hk
      clear hk
      go_wp2
      go_loopw [4] (fun v wq => ∃ k : Nat, k ≤ i ∧ v = .int .i64 (k : Int) ∧ Hid (∀ y ∈ L.take k, kyP y ≠ kyP x) ∧ Hid (Below w.heap.size w wq)) (fun v _ => i - (intOf v).toNat)
      case atStart => exact ⟨0, Nat.zero_le _, rfl, by simp [Hid], hBw.out⟩
      case round =>
        clear hBw
        obtain ⟨k, hk, rfl, hne, hBq⟩ := hrel
        by_cases hki : k < i
        · have hkl : k < L.length := by omega
          obtain ⟨g', o', hA, xc⟩ := Rd.below HR.out hBq.out i hlt
          injection hA with hA
          injection hA with hA1 hA2 hA3
          subst hA1 hA2
          obtain ⟨g', o', hA, yc⟩ := Rd.below HR.out hBq.out k hkl
          injection hA with hA
          injection hA with hA1 hA2 hA3
          subst hA1 hA2
          rw [← HX.out] at xc
          have HTk := Lib.hid (List.take_succ_eq_append_getElem hkl)
          have HMk := Lib.hid (show L[k] ∈ L.take i by rw [List.mem_take_iff_getElem]; exact ⟨k, by omega, rfl⟩)
          generalize L[k] = y at yc HTk HMk
          have x0 : wr.cell? ⟨g, o + i * 3, none⟩ = some (.int .i64 x.a) := xc 0 _ rfl
          have x1 : wr.cell? ⟨g, o + i * 3 + 1, none⟩ = some (.int .i64 x.f) := xc 1 _ rfl
          have x2 : wr.cell? ⟨g, o + i * 3 + 2, none⟩ = some (.int .i64 x.n) := xc 2 _ rfl
          have y0 : wr.cell? ⟨g, o + k * 3, none⟩ = some (.int .i64 y.a) := yc 0 _ rfl
          have y1 : wr.cell? ⟨g, o + k * 3 + 1, none⟩ = some (.int .i64 y.f) := yc 1 _ rfl
          have y2 : wr.cell? ⟨g, o + k * 3 + 2, none⟩ = some (.int .i64 y.n) := yc 2 _ rfl
          clear xc yc
          have k0 : (0 : Int) ≤ (k : Int) := by omega
          have k1 : (k : Int) < (i : Int) := by omega
          have k2 : (k : Int) < (L.length : Int) := by omega
          rcases ea : (y.a == x.a) with _ | _
          · have HN := Lib.hid (show ∀ z ∈ L.take (k + 1), kyP z ≠ kyP x by
              intro z hz
              rw [HTk.out] at hz
              rcases List.mem_append.1 hz with hz | hz
              · exact hne.out z hz
              · rw [List.mem_singleton.1 hz]
                intro e
                have : y.a = x.a := congrArg Prod.fst e
                rw [this] at ea
                simp at ea)
            clear HTk HMk hne
            go_wp2_with (fail)
            go_quiet (fail)
            clear x0 x1 x2 y0 y1 y2
            go_wp2
            go_roundw
            case rel => exact ⟨k + 1, by omega, by go_num, HN.out, Below.drewN hBq.out _⟩
            case measure => (simp [intOf]; try omega)
          · rcases ef : (y.f == x.f) with _ | _
            · have HN := Lib.hid (show ∀ z ∈ L.take (k + 1), kyP z ≠ kyP x by
                intro z hz
                rw [HTk.out] at hz
                rcases List.mem_append.1 hz with hz | hz
                · exact hne.out z hz
                · rw [List.mem_singleton.1 hz]
                  intro e
                  have : y.f = x.f := congrArg Prod.snd e
                  rw [this] at ef
                  simp at ef)
              clear HTk HMk hne
              go_wp2_with (fail)
              go_quiet (fail)
              clear x0 x1 x2 y0 y1 y2
              go_wp2
              go_roundw
              case rel => exact ⟨k + 1, by omega, by go_num, HN.out, Below.drewN hBq.out _⟩
              case measure => (simp [intOf]; try omega)
            · have HF := Lib.hid (show B = false by
                rw [← HB.out]
                refine ok_twice HT.out HMk.out ?_
                have e1 : y.a = x.a := by simpa using ea
                have e2 : y.f = x.f := by simpa using ef
                show (y.a, y.f) = (x.a, x.f)
                rw [e1, e2])
              clear HTk HMk hne
              go_wp2_with (fail)
              go_quiet (fail)
              clear x0 x1 x2 y0 y1 y2
              go_wp2
              go_light
              go_ret
              exact ⟨ret_bool HF.out.symm, Below.drewN hBq.out _⟩
        · obtain rfl : k = i := by omega
          have k1 : ¬ (k : Int) < (k : Int) := by omega
          have HS := Lib.hid (ha.out.step HT.out HK.out hne.out)
          go_wp2
          go_roundw
          case rel => exact ⟨k + 1, by omega, by go_num, HS.out, hBq.out⟩
          case measure => (simp [intOf]; try omega)
    · obtain rfl : i = L.length := by omega
      have HF := Lib.hid (show B = decide (L.length ≤ 24) by rw [← HB.out]; exact ha.out.all)
      have i1 : ¬ (L.length : Int) < (L.length : Int) := by omega
      have e9 : decide ((L.length : Int) ≤ 24) = decide (L.length ≤ 24) := decide_eq_decide.2 (by omega)
      have E9 := Lib.hid e9
      clear e9
      go_wp2
      go_light
      go_ret
      exact ⟨ret_bool (by rw [HF.out]; first | exact E9.out | rfl), hBw.out⟩

theorem specCheckOk (A : Option Addr) (a : Nat) (L : List Ck) (w : World) (hl : L.length ≤ 2097152) (hr : Rd 3 Ck.cells w A L) :
    Calls Try.prog 15 #[.slice A L.length a] w fun e w' => e = .returned (.bool (okC L)) ∧ Below w.heap.size w w' := by
  have K := Lib.hid (l15Ok A a L w hl hr)
  clear hr
  go_enter Try.func15, Try.ntmps15
  go_wp2_with (fail)
  refine K.out.mono ?_
  rintro e w1 ⟨rfl, hb⟩
  go_wp2
  go_light
  go_ret
  exact ⟨rfl, hb⟩

end Go.Proofs.Ytgbnoemoangofaa
