/- The reference's comparison of lists. -/
import Derived.Test.YtabojeleomfgnaaGreatDoorM3
namespace Go.Proofs
open Go.RowKit
namespace YtabojeleomfgnaaGreatDoor
set_option maxRecDepth 100000
theorem low1 {w wr : World} (h : Below w.heap.size w wr) (o : Obj) : Below w.heap.size w (wr.alloc o) := h.alloc h.size o
set_option maxHeartbeats 1000000 in
theorem compareFunc_any (a a' : Option Addr) (c c' : Nat) (l l' : List V3) (w : World) (hl : l.length ≤ maxLen) (_hl' : l'.length ≤ maxLen) (h : Lst w a l) (h' : Lst w a' l') :
    Calls Tryz.prog 99 #[.slice a l.length c, .slice a' l'.length c', .func (.func 21) #[] #[]] w fun e w' => e = .returned (.int .i64 (cmpL l l')) ∧ Below w.heap.size w w' := by
  have H := Lib.hid h
  have H' := Lib.hid h'
  unfold maxLen at hl
  clear h h'
  go_enter Tryz.func99, Tryz.ntmps99
  go_wp2
  go_loopw [13] (fun i wr => ∃ k : Nat, k ≤ l.length ∧ k ≤ l'.length ∧ i = .int .i64 k ∧ Hid (cmpL l l' = cmpL (l.drop k) (l'.drop k)) ∧ Hid (Below w.heap.size w wr)) (fun i _ => l.length - (intOf i).toNat)
  case atStart => exact ⟨0, Nat.zero_le _, Nat.zero_le _, rfl, Lib.hid rfl, Lib.hid (Below.refl _ _)⟩
  case round =>
    obtain ⟨k, hk, hk', rfl, he, hb⟩ := hrel
    by_cases hk1 : k < l.length
    · by_cases hk2 : k < l'.length
      · have HD := Lib.hid (cmpL_drop l l' k hk1 hk2)
        obtain ⟨b, o, rfl, x0, x1, x2, xs⟩ := (H.out.below hb.out) k hk1
        obtain ⟨b', o', rfl, y0, y1, y2, ys⟩ := (H'.out.below hb.out) k hk2
        generalize l[k] = x at HD x0 x1 x2 xs
        generalize l'[k] = y at HD y0 y1 y2 ys
        obtain ⟨xk, xn, xt⟩ := x
        obtain ⟨yk, yn, yt⟩ := y
        have bl : b < wr.heap.size := block_lt_of_cell x0
        have bl' : b' < wr.heap.size := block_lt_of_cell y0
        have XS := Lib.hid xs
        have YS := Lib.hid ys
        clear xs ys
        dsimp only at x0 x1 x2 y0 y1 y2 XS YS
        go_wp2_with fail
        refine (compared_any xk xn yk yn xt yt XS.out YS.out _).mono ?_
        rintro e w2 ⟨rfl, hb2⟩
        have HB := Lib.hid (below_call (w := w) (low1 (low1 hb.out _) _) hb2)
        clear hb2
        change Hid (_ = if cmpC xk xn xt yk yn yt ≠ 0 then cmpC xk xn xt yk yn yt else _) at HD
        generalize cmpC xk xn xt yk yn yt = R at HD ⊢
        cases hz : (R != 0) with
        | true =>
          have HZ := Lib.hid (show R ≠ 0 from by simpa using hz)
          go_wp2
          go_ret
          exact ⟨ret_int (by rw [he.out, HD.out, if_pos HZ.out]), HB.out⟩
        | false =>
          have HZ := Lib.hid (show R = 0 from by simpa using hz)
          go_wp2
          go_roundw
          case rel => exact ⟨k + 1, by omega, by omega, by go_num, Lib.hid (by rw [he.out, HD.out, if_neg (by simpa using HZ.out)]), HB⟩
          case measure => simp [intOf]; omega
      · have HE := Lib.hid (cmpL_end l l' k (by omega))
        obtain ⟨b, o, rfl, x0, x1, x2, xs⟩ := (H.out.below hb.out) k hk1
        have h1 : (l'.length : Int) ≤ k := by omega
        clear xs
        go_wp2
        go_ret
        exact ⟨ret_int (by rw [he.out, HE.out]; unfold sg; rw [if_neg (by omega), if_neg (by omega)]), low1 hb.out _⟩
    · have HE := Lib.hid (cmpL_end l l' k (by omega))
      by_cases hlt : l.length < l'.length
      · go_wp2
        go_ret
        exact ⟨ret_int (by rw [he.out, HE.out]; unfold sg; rw [if_pos (by omega)]), hb.out⟩
      · go_wp2
        go_ret
        exact ⟨ret_int (by rw [he.out, HE.out]; unfold sg; rw [if_neg (by omega), if_pos (by omega)]), hb.out⟩
theorem comparedLists_any (a a' : Option Addr) (c c' : Nat) (l l' : List V3) (w : World) (hl : l.length ≤ maxLen) (hl' : l'.length ≤ maxLen) (h : Lst w a l) (h' : Lst w a' l') :
    Calls Tryz.prog 23 #[.slice a l.length c, .slice a' l'.length c'] w fun e w' => e = .returned (.int .i64 (cmpL l l')) ∧ Below w.heap.size w w' := by
  have H := Lib.hid h
  have H' := Lib.hid h'
  have HL := Lib.hid hl
  have HL' := Lib.hid hl'
  clear h h' hl hl'
  go_enter Tryz.func23, Tryz.ntmps23
  go_wp2_with fail
  refine (compareFunc_any a a' c c' l l' w HL.out HL'.out H.out H'.out).mono ?_
  rintro e w1 ⟨rfl, hb1⟩
  go_wp2
  go_ret
  exact ⟨rfl, hb1⟩
end YtabojeleomfgnaaGreatDoor
end Go.Proofs
