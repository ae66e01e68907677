/- A request read from a text: both sides, and the exact law. -/
import Derived.Test.YtolepfbhhmganaaDoorSn
import Derived.Test.YtolepfbhhmganaaDoorSp
import Derived.Test.YtolepfbhhmganaaDoorSq
import Derived.Test.YtolepfbhhmganaaDoorME
namespace Go.Proofs.YtolepfbhhmganaaDoor
open Go.ChangeShapes Go.WideShapes Go.ChangeAt Go.RowKit
set_option linter.unusedVariables false
set_option linter.unusedSimpArgs false

theorem cut_data (s : ByteArray) : (Lib.splitB ⟨#[32]⟩ 0 5 s).map (·.data.toList) = Lib.splitK [32] 0 5 s.data.toList := Lib.splitB_data ⟨#[32]⟩ 0 5 s
theorem cut_good {s : ByteArray} {r : Rq} (h : goodB s.data.toList r = true) : (Lib.splitB ⟨#[32]⟩ 0 5 s).length = 5 ∧ ∀ a b c x y, Lib.splitB ⟨#[32]⟩ 0 5 s = [a, b, c, x, y] → r = ⟨numS a.size a, numS b.size b, opT c.data.toList, numS x.size x, numS y.size y⟩ := by
  obtain ⟨hq, hs⟩ := good_put h
  obtain ⟨b1, b2, b3, b4, b5⟩ := rq_bd (show reqB r.c r.n r.o r.x r.y = true from hq)
  have hp := cut_data s
  rw [hs, cut_five _ _ _ _ _ (itoa_noB _) (itoa_noB _) (word_noB _) (itoa_noB _) (itoa_noB _)] at hp
  refine ⟨by have := congrArg List.length hp; simpa using this, fun a b c x y he => ?_⟩
  rw [he] at hp
  simp only [List.map_cons, List.map_nil, List.cons.injEq, and_true] at hp
  obtain ⟨h1, h2, h3, h4, h5⟩ := hp
  obtain ⟨rc, rn, ro, rx, ry⟩ := r
  simp only at h1 h2 h3 h4 h5 b1 b2 b3 b4 b5 ⊢
  rw [numS_itoa _ a rc h1 (by omega) (by omega) (by omega), numS_itoa _ b rn h2 (by omega) (by omega) (by omega), numS_itoa _ x rx h4 (by omega) (by omega) (by omega), numS_itoa _ y ry h5 (by omega) (by omega) (by omega), h3, opT_word _ (by omega) (by omega)]
  congr 1
  omega
theorem put_ok {r : Rq} (h : rqB r = true) : putT r = putN r.c r.n r.o.toNat r.x r.y := by
  have hn : nullB r = false := by
    rcases e : nullB r with _ | _
    · rfl
    · have := null_not e; rw [h] at this; cases this
  unfold putT; rw [hn, h]; rfl
theorem specReqGet (s : ByteArray) (w : World) (hs : s.size ≤ 1048576) :
    Calls Tryd.prog 14 #[.string s] w fun e w' => e = .returned (GetV s.data.toList) ∧ Below w.heap.size w w' := by
  by_cases hl : s.data.toList = [110, 111, 110, 101]
  · have h0 : getT s.data.toList = (⟨0, 0, 0, 0, 0⟩, true) := by rw [hl]; exact get_none
    rw [getV_of h0]
    exact bigget_none s w hl
  by_cases h5 : (Lib.splitB ⟨#[32]⟩ 0 5 s).length = 5
  · obtain ⟨a, b, c, x, y, h5'⟩ := five_el h5
    rcases hr : reqB (numS a.size a) (numS b.size b) (opT c.data.toList) (numS x.size x) (numS y.size y) with _ | _
    · rw [getV_of (get_bad hl fun r => ?_)]
      · exact specGet_bad s a b c x y _ _ _ _ _ w hs hl h5' rfl rfl rfl rfl rfl hr
      · rcases hg : goodB s.data.toList r with _ | _
        · rfl
        · exfalso
          have h1 := (cut_good hg).2 a b c x y h5'
          have h2 := (good_put hg).1
          rw [h1] at h2
          have h3 : rqB ⟨numS a.size a, numS b.size b, opT c.data.toList, numS x.size x, numS y.size y⟩ = false := hr
          rw [h3] at h2; cases h2
    · have hq : rqB ⟨numS a.size a, numS b.size b, opT c.data.toList, numS x.size x, numS y.size y⟩ = true := hr
      have hp := put_ok hq
      by_cases hT : putT ⟨numS a.size a, numS b.size b, opT c.data.toList, numS x.size x, numS y.size y⟩ = s.data.toList
      · have hg : goodB s.data.toList ⟨numS a.size a, numS b.size b, opT c.data.toList, numS x.size x, numS y.size y⟩ = true := by
          unfold goodB; rw [hq, hT]; simp
        rw [getV_of (get_good hl hg)]
        exact specGet_yes s a b c x y _ _ _ _ _ w hs hl h5' rfl rfl rfl rfl rfl hr _ rfl (by rw [← hT, hp])
      · rw [getV_of (get_bad hl fun r => ?_)]
        · exact specGet_no s a b c x y _ _ _ _ _ w hs hl h5' rfl rfl rfl rfl rfl hr _ rfl (fun e => hT (by rw [hp]; exact e))
        · rcases hg : goodB s.data.toList r with _ | _
          · rfl
          · exfalso
            have h1 := (cut_good hg).2 a b c x y h5'
            rw [h1] at hg
            unfold goodB at hg
            rw [Bool.and_eq_true] at hg
            exact hT (of_decide_eq_true hg.2)
  · rw [getV_of (get_bad hl fun r => ?_)]
    · exact specGet_few s w hs hl _ _ rfl rfl h5
    · rcases hg : goodB s.data.toList r with _ | _
      · rfl
      · exact absurd (cut_good hg).1 h5

set_option maxRecDepth 100000 in
set_option maxHeartbeats 2000000 in
theorem exactReqGet (s : ByteArray) (w : World) (hs : s.size ≤ maxLen) (E : Env w) :
    Calls Tryd.prog 5 #[.string s] w fun e w' => e = .returned (.bool true) ∧ Below w.heap.size w w' := by
  unfold maxLen at hs
  by_cases hb : s.size ≤ 1048576
  · have n0 : ¬ (1048576 : Int) < (s.size : Int) := by omega
    have n0' : decide (1048576 < s.size) = false := by simp; omega
    obtain ⟨⟨r, b⟩, hg⟩ : ∃ p, getT s.data.toList = p := ⟨_, rfl⟩
    have HG := Lib.hid (getV_of hg)
    have E0 := Lib.hid E
    clear hg E
    go_enter Tryd.func5, Tryd.ntmps5
    go_wp2_with (fail)
    refine (specReqGet s _ hb).mono ?_
    rintro e w1 ⟨rfl, hb1⟩
    rw [HG.out]
    have BW : Hid (Below w.heap.size w (w1.alloc (.cells #[.int .i64 r.c, .int .i64 r.n, .int .i64 r.o, .int .i64 r.x, .int .i64 r.y] 25))) := hb1.alloc hb1.size _
    have K1 : Hid (Bkk (w1.alloc (.cells #[.int .i64 r.c, .int .i64 r.n, .int .i64 r.o, .int .i64 r.x, .int .i64 r.y] 25)) w1.heap.size 25 #[.int .i64 r.c, .int .i64 r.n, .int .i64 r.o, .int .i64 r.x, .int .i64 r.y]) := Bkk.new w1
    clear hb1
    go_wp2_with (fail)
    refine (implReqGet s _ hb (E0.out.below BW.out)).mono ?_
    rintro e w2 ⟨rfl, hb2⟩
    rw [HG.out]
    have BX : Hid (Below w.heap.size w (w2.alloc (.cells #[.int .i64 r.c, .int .i64 r.n, .int .i64 r.o, .int .i64 r.x, .int .i64 r.y] 25))) := (Below.and BW.out hb2).alloc (Below.and BW.out hb2).size _
    have K1 : Hid (Bkk (w2.alloc (.cells #[.int .i64 r.c, .int .i64 r.n, .int .i64 r.o, .int .i64 r.x, .int .i64 r.y] 25)) w1.heap.size 25 #[.int .i64 r.c, .int .i64 r.n, .int .i64 r.o, .int .i64 r.x, .int .i64 r.y]) := (K1.out.below hb2).alloc _
    have kl : w1.heap.size < w2.heap.size := by have := hb2.size; simp at this; omega
    clear hb2
    have y0 : (w2.alloc (.cells #[.int .i64 r.c, .int .i64 r.n, .int .i64 r.o, .int .i64 r.x, .int .i64 r.y] 25)).cell? ⟨w1.heap.size, 0, none⟩ = some (.int .i64 r.c) := K1.out.cell 0
    have y1 : (w2.alloc (.cells #[.int .i64 r.c, .int .i64 r.n, .int .i64 r.o, .int .i64 r.x, .int .i64 r.y] 25)).cell? ⟨w1.heap.size, 1, none⟩ = some (.int .i64 r.n) := K1.out.cell 1
    have y2 : (w2.alloc (.cells #[.int .i64 r.c, .int .i64 r.n, .int .i64 r.o, .int .i64 r.x, .int .i64 r.y] 25)).cell? ⟨w1.heap.size, 2, none⟩ = some (.int .i64 r.o) := K1.out.cell 2
    have y3 : (w2.alloc (.cells #[.int .i64 r.c, .int .i64 r.n, .int .i64 r.o, .int .i64 r.x, .int .i64 r.y] 25)).cell? ⟨w1.heap.size, 3, none⟩ = some (.int .i64 r.x) := K1.out.cell 3
    have y4 : (w2.alloc (.cells #[.int .i64 r.c, .int .i64 r.n, .int .i64 r.o, .int .i64 r.x, .int .i64 r.y] 25)).cell? ⟨w1.heap.size, 4, none⟩ = some (.int .i64 r.y) := K1.out.cell 4
    go_wp2_with (fail)
    refine (eqReq r r _).mono ?_
    rintro e w3 ⟨he, hb3⟩
    obtain rfl := he.trans (ret_bool (show decide (r = r) = true from decide_eq_true rfl))
    clear he
    have BX := Lib.hid (Below.and BX.out hb3)
    clear hb3
    go_wp2
    go_light
    go_ret
    exact ⟨rfl, BX.out⟩
  · have n0 : (1048576 : Int) < (s.size : Int) := by omega
    have n0' : decide (1048576 < s.size) = true := by simp; omega
    go_enter Tryd.func5, Tryd.ntmps5
    go_wp2
    go_light
    go_ret
    exact ⟨rfl, Below.refl _ _⟩

end Go.Proofs.YtolepfbhhmganaaDoor
