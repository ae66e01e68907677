/- Contracts of the order of requests. -/
import Derived.Test.YtephmhgjhjheaaaTa
import Derived.StillTailTactics
import Derived.Deep.RegionHeld3
namespace Go.Proofs.Ytephmhgjhjheaaa
open Go.ChangeShapes Go.WideShapes Go.ChangeAt Go.RowKit

def cmpI (a b : Int) : Int := if a < b then -1 else if b < a then 1 else 0

theorem ret_int {k : IntKind} {a b : Int} (h : a = b) : Ending.returned (.int k a) = .returned (.int k b) := by rw [h]

theorem compare (a b : Int) (w : World) :
    Calls Try.prog 79 #[.int .i64 a, .int .i64 b] w fun e w' => e = .returned (.int .i64 (cmpI a b)) ∧ w' = w := by
  go_enter Try.func79, Try.ntmps79
  by_cases h1 : a < b
  all_goals by_cases h2 : b < a
  all_goals go_wp2
  all_goals go_ret
  all_goals refine ⟨ret_int ?_, rfl⟩
  all_goals unfold cmpI
  all_goals repeat' split
  all_goals omega

def orL : List Int → Int
  | [] => 0
  | a :: l => if a = 0 then orL l else a

theorem or_any (l : List Int) (b : Nat) (w : World) (hl : l.length ≤ 1000) (hc : ∀ i (h : i < l.length), w.cell? ⟨b, i, none⟩ = some (.int .i64 (l[i]'h))) :
    Calls Try.prog 78 #[.slice (some ⟨b, 0, none⟩) l.length l.length] w fun e w' => e = .returned (.int .i64 (orL l)) ∧ w' = w := by
  have HC := Lib.hid hc
  clear hc
  go_enter Try.func78, Try.ntmps78
  go_wp2
  go_loop [5, 8] (fun _ i => ∃ k : Nat, k ≤ l.length ∧ i = .int .i64 k ∧ orL l = orL (l.drop k)) (fun _ i => l.length - (intOf i).toNat)
  case atStart => exact ⟨0, Nat.zero_le _, rfl, by simp⟩
  case round =>
    obtain ⟨k, hk, rfl, ho⟩ := hrel
    have HO := Lib.hid ho
    clear ho
    by_cases hlt : k < l.length
    · have hcell := HC.out k hlt
      have HD := Lib.hid (List.drop_eq_getElem_cons hlt)
      generalize l[k] = a at hcell HD
      go_wp2
      · go_ret
        rw [HO.out, HD.out, orL, if_neg (by simp_all)]
        exact ⟨rfl, rfl⟩
      · go_round
        case rel => exact ⟨k + 1, by omega, by go_num, by rw [HO.out, HD.out, orL, if_pos (by simp_all)]⟩
        case measure => simp [intOf]; omega
    · have hz : k = l.length := by omega
      have HZ := Lib.hid hz
      clear hz
      go_wp2
      go_ret
      rw [HO.out, HZ.out]
      simp [orL]
def lessB (c n o x y c' n' o' x' y' : Int) : Bool :=
  if c = c' then if n = n' then if o = o' then if x = x' then decide (y < y') else decide (x < x') else decide (o < o') else decide (n < n') else decide (c < c')

theorem cmpI_eq (a b : Int) : cmpI a b = 0 ↔ a = b := by unfold cmpI; repeat' split <;> omega
theorem cmpI_lt (a b : Int) : cmpI a b < 0 ↔ a < b := by unfold cmpI; repeat' split <;> omega

theorem orL_less (c n o x y c' n' o' x' y' : Int) : decide (orL [cmpI c c', cmpI n n', cmpI o o', cmpI x x', cmpI y y'] < 0) = lessB c n o x y c' n' o' x' y' := by
  unfold lessB
  simp only [orL, cmpI_eq]
  repeat' split
  all_goals (simp_all [cmpI_lt])

set_option maxRecDepth 100000 in
theorem reqLess (c n o x y c' n' o' x' y' : Int) (w : World) :
    Calls Try.prog 21 #[req c n o x y, req c' n' o' x' y'] w fun e w' => e = .returned (.bool (lessB c n o x y c' n' o' x' y')) ∧ Below w.heap.size w w' := by
  unfold req
  go_enter Try.func21, Try.ntmps21
  go_wp2_with (fail)
  refine wp_region_still_tail 25 (by kernel_rfl) (by kernel_rfl) ?_
  change wpStill _ _ (World.drew _) (fun a' => wpList _ _ _ _ a' (World.drew _)) _ _
  simp only [List.take_succ_cons, List.take_zero, List.drop_succ_cons, List.drop_zero]
  repeat (first | still_call (compare _ _ _) | still_step)
  try refine wpStill_nil ?_
  go_wp2_with (fail)
  refine (or_any [cmpI c c', cmpI n n', cmpI o o', cmpI x x', cmpI y y'] _ _ (by simp) ?_).mono ?_
  · intro i hi
    match i, hi with
    | 0, _ => go_simp
    | 1, _ => go_simp
    | 2, _ => go_simp
    | 3, _ => go_simp
    | 4, _ => go_simp
  rintro e w' ⟨rfl, rfl⟩
  go_wp2
  go_light
  go_ret
  exact ⟨ret_bool (orL_less ..), (((((Below.refl _ _).alloc (Nat.le_refl _) _).alloc (by simp) _).alloc (by simp; omega) _).drew)⟩

set_option maxRecDepth 100000 in
theorem l1Less (c n o x y c' n' o' x' y' : Int) (w : World) :
    Calls Try.prog 80 #[req c n o x y, req c' n' o' x' y'] w fun e w' => e = .returned (.bool (lessB c n o x y c' n' o' x' y')) ∧ Below w.heap.size w w' := by
  unfold req
  go_enter Try.func80, Try.ntmps80
  go_wp2
  all_goals go_light
  all_goals go_ret
  all_goals refine ⟨ret_bool ?_, ((Below.refl _ _).alloc (Nat.le_refl _) _).alloc (by simp) _⟩
  all_goals unfold lessB
  all_goals simp_all

theorem specReqLess (c n o x y c' n' o' x' y' : Int) (w : World) :
    Calls Try.prog 22 #[req c n o x y, req c' n' o' x' y'] w fun e w' => e = .returned (.bool (lessB c n o x y c' n' o' x' y')) ∧ Below w.heap.size w w' := by
  unfold req
  go_enter Try.func22, Try.ntmps22
  go_wp2_with (fail)
  refine (l1Less _ _ _ _ _ _ _ _ _ _ _).mono ?_
  rintro e w1 ⟨rfl, hb⟩
  go_wp2
  go_ret
  exact ⟨rfl, (((Below.refl _ _).alloc (Nat.le_refl _) _).alloc (by simp) _).trans (hb.mono (by simp; omega))⟩

theorem below_box2 {w w1 : World} {o o' : Obj} (hb : Below ((w.alloc o).alloc o').heap.size ((w.alloc o).alloc o') w1) : Below w.heap.size w w1 := (((Below.refl _ _).alloc (Nat.le_refl _) _).alloc (by simp) _).trans (hb.mono (by simp; omega))

theorem Below.back {a b c : World} {S : Prop} (k : Below b.heap.size b c) (h : Below a.heap.size a b ∧ S) : Below a.heap.size a c := h.1.trans (k.mono h.1.size)

theorem lessS {w w1 : World} {c n o x y c' n' o' x' y' : Int} (hb : Below ((w.alloc (.cells #[.int .i64 c, .int .i64 n, .int .i64 o, .int .i64 x, .int .i64 y] 64)).alloc (.cells #[.int .i64 c', .int .i64 n', .int .i64 o', .int .i64 x', .int .i64 y'] 64)).heap.size ((w.alloc (.cells #[.int .i64 c, .int .i64 n, .int .i64 o, .int .i64 x, .int .i64 y] 64)).alloc (.cells #[.int .i64 c', .int .i64 n', .int .i64 o', .int .i64 x', .int .i64 y'] 64)) w1) :
    Below ((w.alloc (.cells #[.int .i64 c, .int .i64 n, .int .i64 o, .int .i64 x, .int .i64 y] 64)).alloc (.cells #[.int .i64 c', .int .i64 n', .int .i64 o', .int .i64 x', .int .i64 y'] 64)).heap.size ((w.alloc (.cells #[.int .i64 c, .int .i64 n, .int .i64 o, .int .i64 x, .int .i64 y] 64)).alloc (.cells #[.int .i64 c', .int .i64 n', .int .i64 o', .int .i64 x', .int .i64 y'] 64)) w1 ∧ w1.cell? ⟨w.heap.size, 0, none⟩ = some (.int .i64 c) ∧ w1.cell? ⟨w.heap.size, 1, none⟩ = some (.int .i64 n) ∧ w1.cell? ⟨w.heap.size, 2, none⟩ = some (.int .i64 o) ∧ w1.cell? ⟨w.heap.size, 3, none⟩ = some (.int .i64 x) ∧ w1.cell? ⟨w.heap.size, 4, none⟩ = some (.int .i64 y) ∧ w1.cell? ⟨w.heap.size + 1, 0, none⟩ = some (.int .i64 c') ∧ w1.cell? ⟨w.heap.size + 1, 1, none⟩ = some (.int .i64 n') ∧ w1.cell? ⟨w.heap.size + 1, 2, none⟩ = some (.int .i64 o') ∧ w1.cell? ⟨w.heap.size + 1, 3, none⟩ = some (.int .i64 x') ∧ w1.cell? ⟨w.heap.size + 1, 4, none⟩ = some (.int .i64 y') := by
  have k : ∀ j, w1.cell? ⟨w.heap.size, j, none⟩ = ((w.alloc (.cells #[.int .i64 c, .int .i64 n, .int .i64 o, .int .i64 x, .int .i64 y] 64)).alloc (.cells #[.int .i64 c', .int .i64 n', .int .i64 o', .int .i64 x', .int .i64 y'] 64)).cell? ⟨w.heap.size, j, none⟩ := fun j => hb.cell (by simp; omega)
  have k' : ∀ j, w1.cell? ⟨w.heap.size + 1, j, none⟩ = ((w.alloc (.cells #[.int .i64 c, .int .i64 n, .int .i64 o, .int .i64 x, .int .i64 y] 64)).alloc (.cells #[.int .i64 c', .int .i64 n', .int .i64 o', .int .i64 x', .int .i64 y'] 64)).cell? ⟨w.heap.size + 1, j, none⟩ := fun j => hb.cell (by simp)
  refine ⟨hb, ?_, ?_, ?_, ?_, ?_, ?_, ?_, ?_, ?_, ?_⟩
  all_goals first | rw [k] | rw [k']
  all_goals go_simp

end Go.Proofs.Ytephmhgjhjheaaa
