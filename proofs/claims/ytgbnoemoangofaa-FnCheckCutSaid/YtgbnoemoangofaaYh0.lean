/- One checksum more: the model's way; what is stable, the program's way at every list. -/
import Derived.Test.YtgbnoemoangofaaYi
namespace Go.Proofs.Ytgbnoemoangofaa
open Go.ChangeShapes Go.WideShapes Go.ChangeAt Go.RowKit
set_option linter.unusedVariables false
set_option linter.unusedSimpArgs false

set_option maxRecDepth 100000 in
set_option maxHeartbeats 2000000 in
theorem implCheckStable (A : Option Addr) (a : Nat) (L : List Ck) (w : World) (hl : L.length ≤ 1048577) (hr : Rd 3 Ck.cells w A L) :
    Calls Try.prog 16 #[.slice A L.length a] w (DoST (stC L) w) := by
  by_cases hok : okC L = false
  · have HR := Lib.hid hr
    have HOK := Lib.hid hok
    have HX := Lib.hid (stC_no hok)
    clear hr hok
    go_enter Try.func16, Try.ntmps16
    go_wp2_with (fail)
    refine (implCheckOk A a L _ (by omega) HR.out).mono ?_
    rintro e w1 ⟨rfl, hb⟩
    rw [HOK.out]
    have Z := Lib.hid hb
    clear hb
    go_wp2
    go_light
    refine bodyPost_ret (v := .tuple #[.int .i64 0, .int .i64 0, .bool false]) (by simp [results, Try.results16, go_sem]) rfl ?_
    rw [HX.out]
    exact ⟨rfl, Z.out⟩
  · exact implStableYes A a L w hl hr (by simpa using hok)

theorem step_app3 {α : Type} {f : α → List Value} {k : Nat} {P : Program} (hf : ∀ a, (f a).length = k) {w : World} {ops : Array Oper} {o : Oper} {a : Act} {K : Act → World → Prop} {Q : Exit → Act → World → Prop} {E : Prop} (hw : Region.wanted o (yielded ops a.tmps) = true) (s x : Operand) (t : TypeId)
    (hop : o.op = .call { callee := .builtin .append, args := #[s, x], argTypes := #[t, t] })
    (base : Nat) (e : TypeId) (i : TypeInfo) (z : Value) (bytes : Nat) (ht : P.underlying t = some (.slice e)) (hi : P.info? e = some i) (hz : i.zero = some z)
    (hsize : i.size = k) (hby : i.bytes = bytes) (hzs : z.cells.size = k) (hsz : 0 < k) (v : Value) (n : Nat) (xs : List Value) (hs : a.eval s = v) (hown : w.ownsRow base e k v n xs)
    (A : Option Addr) (c m : Nat) (L : List α) (hm : L.length = m) (hx : a.eval x = .slice A m c) (hr : Rd k f w A L) (hc : A = none → c = 0) (h1 : ∀ u ∈ L.flatMap f, u.oneCell' = true)
    (h63 : n + m ≤ maxLen) (hbytes : (n + m) * bytes ≤ 140737488355328) (hbase : base ≤ w.heap.size)
    (h : ∀ v' w', w'.ownsRow base e k v' (n + m) (xs ++ L.flatMap f) → w.grownBy w' v.ownBlock → Below base w w' → K (a.put o.dst v') w') :
    if Region.wanted o (yielded ops a.tmps) = true then Oper.wp P o a w K Q else E := by
  rw [if_pos hw]
  exact wp_app hf w s x t hop base e i z bytes ht hi hz hsize hby hzs hsz v n xs hs hown A c m L hm hx hr hc h1 h63 hbytes hbase (fun v' w' q1 q2 _ => h v' w' q1 q2 ((Below.refl base w).grown q2 hbase (fun y hy => (own_block_ge hown y hy).1)))

end Go.Proofs.Ytgbnoemoangofaa
