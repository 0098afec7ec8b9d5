/- ValueOrders: the law. -/
import Derived.Test.YtabojeleomfgnaaGreatDoorM4
import Derived.Test.YtabojeleomfgnaaGreatDoorR1
namespace Go.Proofs
open Go.RowKit
namespace YtabojeleomfgnaaGreatDoor
set_option maxRecDepth 100000
/-- two values, each in a block of its own, and nothing below turned -/
def P2 (g g' : Nat) (ca cb : Array Value) (w0 w : World) : Prop := w.heap[g]? = some (.cells ca 23 (0, 0)) ∧ w.heap[g']? = some (.cells cb 23 (0, 0)) ∧ Below w0.heap.size w0 w
theorem P2.below {g g' : Nat} {ca cb : Array Value} {w0 w w' : World} (h : P2 g g' ca cb w0 w) (hb : Below w.heap.size w w') : P2 g g' ca cb w0 w' :=
  ⟨(hb.block _ (lt_of_block h.1)).trans h.1, (hb.block _ (lt_of_block h.2.1)).trans h.2.1, below_call h.2.2 hb⟩
set_option maxHeartbeats 2000000 in
theorem law_orders (a a' : Option Addr) (c c' : Nat) (l l' : List V3) (w : World) (ho : Ops w) (hl : l.length ≤ maxLen) (hl' : l'.length ≤ maxLen) (h : Lst w a l) (h' : Lst w a' l') :
    Calls Tryz.prog 4 #[.slice a l.length c, .slice a' l'.length c'] w fun e w' => e = .returned (.bool true) ∧ Below w.heap.size w w' := by
  have H := Lib.hid h
  have H' := Lib.hid h'
  have HL := Lib.hid hl
  have HL' := Lib.hid hl'
  have HO := Lib.hid ho
  unfold maxLen at hl hl'
  clear h h' ho
  go_enter Tryz.func4, Tryz.ntmps4
  go_wp2
  go_loopw [11] (fun i wr => ∃ k : Nat, k ≤ l.length ∧ i = .int .i64 k ∧ Hid (Below w.heap.size w wr)) (fun i _ => l.length - (intOf i).toNat)
  case atStart => exact ⟨0, Nat.zero_le _, rfl, Lib.hid (Below.refl _ _)⟩
  case round =>
    obtain ⟨k, hk, rfl, hb⟩ := hrel
    by_cases hk1 : k < l.length
    · obtain ⟨b, o, rfl, x0, x1, x2, xs⟩ := (H.out.below hb.out) k hk1
      generalize l[k] = x at x0 x1 x2 xs
      obtain ⟨xk, xn, xt⟩ := x
      have XS := Lib.hid xs
      clear xs
      dsimp only at x0 x1 x2 XS
      go_wp2
      have HX := Lib.hid (heap_alloc_new wr (.cells #[.int .i64 xk, .int .i64 xn, .string xt] 23))
      have HW := Lib.hid (low1 hb.out (.cells #[.int .i64 xk, .int .i64 xn, .string xt] 23))
      change Hid (_ = some (Obj.cells _ 23 (0, 0))) at HX
      have HG := Lib.hid (lt_of_block HX.out)
      generalize wr.alloc (.cells #[.int .i64 xk, .int .i64 xn, .string xt] 23) = W1 at HX HW HG ⊢
      generalize wr.heap.size = g at HX HG ⊢
      clear x0 x1 x2
      go_loopw [17] (fun j wi => ∃ m : Nat, m ≤ l'.length ∧ j = .int .i64 m ∧ Hid (Below W1.heap.size W1 wi)) (fun j _ => l'.length - (intOf j).toNat)
      case atStart => exact ⟨0, Nat.zero_le _, rfl, Lib.hid (Below.refl _ _)⟩
      case round =>
        obtain ⟨m, hm, rfl, hc⟩ := hrel
        by_cases hm1 : m < l'.length
        · obtain ⟨b', o', rfl, y0, y1, y2, ys⟩ := (H'.out.below (below_call HW.out hc.out)) m hm1
          generalize l'[m] = y at y0 y1 y2 ys
          obtain ⟨yk, yn, yt⟩ := y
          have YS := Lib.hid ys
          clear ys
          dsimp only at y0 y1 y2 YS
          have HGi := Lib.hid (Nat.lt_of_lt_of_le HG.out hc.out.size)
          have HXi := Lib.hid ((hc.out.block g HG.out).trans HX.out)
          go_wp2_with fail
          refine region_all (fun w' => P2 g wr.heap.size #[.int .i64 xk, .int .i64 xn, .string xt] #[.int .i64 yk, .int .i64 yn, .string yt] wr w') (by kernel_rfl) (by kernel_rfl) ⟨(heap_alloc_old _ _ HGi.out).trans HXi.out, heap_alloc_new wr _, by go_grown⟩ ?_
          refine s_val (val xk xn xt) (by rfl) (run_load23 (.tmp 6) rfl g _ rfl rfl (fun w h => h.1)) ?_
          simp only [Act.put, List.setIfInBounds_toArray, List.set_cons_zero, List.set_cons_succ]
          refine s_val (val yk yn yt) (by rfl) (run_load23 (.tmp 8) rfl wr.heap.size _ rfl rfl (fun w h => h.2.1)) ?_
          simp only [Act.put, List.setIfInBounds_toArray, List.set_cons_zero, List.set_cons_succ]
          refine s_call (.int .i64 (cmpC xk xn xt yk yn yt)) 20 #[val xk xn xt, val yk yn yt] (by rfl) (fun w => by go_simp) (fun w' h => (compare_any xk xn yk yn xt yt XS.out YS.out w').mono fun e x hx => ⟨hx.1, h.below hx.2⟩) ?_
          simp only [Act.put, List.setIfInBounds_toArray, List.set_cons_zero, List.set_cons_succ]
          refine s_val (val xk xn xt) (by rfl) (run_load23 (.tmp 6) rfl g _ rfl rfl (fun w h => h.1)) ?_
          simp only [Act.put, List.setIfInBounds_toArray, List.set_cons_zero, List.set_cons_succ]
          refine s_val (val yk yn yt) (by rfl) (run_load23 (.tmp 8) rfl wr.heap.size _ rfl rfl (fun w h => h.2.1)) ?_
          simp only [Act.put, List.setIfInBounds_toArray, List.set_cons_zero, List.set_cons_succ]
          refine s_call (.int .i64 (cmpC xk xn xt yk yn yt)) 21 #[val xk xn xt, val yk yn yt] (by rfl) (fun w => by go_simp) (fun w' h => (compared_any xk xn yk yn xt yt XS.out YS.out w').mono fun e x hx => ⟨hx.1, h.below hx.2⟩) ?_
          simp only [Act.put, List.setIfInBounds_toArray, List.set_cons_zero, List.set_cons_succ]
          refine s_val (.bool false) (by rfl) (fun w' h => by go_simp) ?_
          simp only [Act.put, List.setIfInBounds_toArray, List.set_cons_zero, List.set_cons_succ]
          refine s_done ?_
          intro w2 hP
          have HP := Lib.hid (below_call hc.out hP.2.2)
          clear hP y0 y1 y2
          go_wp2
          go_roundw
          case rel => exact ⟨m + 1, by omega, by go_num, HP⟩
          case measure => simp [intOf]; omega
        · go_wp2
          go_roundw
          case rel => exact ⟨k + 1, by omega, by go_num, Lib.hid (below_call HW.out hc.out)⟩
          case measure => simp [intOf]; omega
    · go_wp2_with fail
      refine (values_true _ (HO.out.below hb.out)).mono ?_
      rintro e w2 ⟨rfl, hb2⟩
      have HB2 := Lib.hid (below_call hb.out hb2)
      clear hb2
      go_wp2_with fail
      refine (compareLists_any _ _ _ _ l l' _ HL.out (H.out.below HB2.out) (H'.out.below HB2.out)).mono ?_
      rintro e w3 ⟨rfl, hb3⟩
      have HB3 := Lib.hid (below_call HB2.out hb3)
      clear hb3
      go_wp2_with fail
      refine (comparedLists_any _ _ _ _ l l' _ HL.out HL'.out (H.out.below HB3.out) (H'.out.below HB3.out)).mono ?_
      rintro e w4 ⟨rfl, hb4⟩
      have HB4 := Lib.hid (below_call HB3.out hb4)
      clear hb4
      go_wp2
      go_ret
      exact ⟨rfl, HB4.out⟩
end YtabojeleomfgnaaGreatDoor
end Go.Proofs
