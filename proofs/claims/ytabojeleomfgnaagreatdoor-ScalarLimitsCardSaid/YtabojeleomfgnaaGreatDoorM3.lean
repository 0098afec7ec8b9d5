/- Lists of values compared: the program's and the reference's. -/
import Derived.Test.YtabojeleomfgnaaGreatDoorM2
namespace Go.Proofs
open Go.RowKit
namespace YtabojeleomfgnaaGreatDoor
set_option maxRecDepth 100000
abbrev V3 := Int × Int × ByteArray
/-- element k of the slice at a, in w -/
def ElemAt (w : World) (a : Option Addr) (k : Nat) (v : V3) : Prop :=
  ∃ b o, a = some ⟨b, o, none⟩ ∧ w.cell? ⟨b, o + k * 3, none⟩ = some (.int .i64 v.1) ∧ w.cell? ⟨b, o + k * 3 + 1, none⟩ = some (.int .i64 v.2.1) ∧ w.cell? ⟨b, o + k * 3 + 2, none⟩ = some (.string v.2.2) ∧ v.2.2.size ≤ maxLen
def Lst (w : World) (a : Option Addr) (l : List V3) : Prop := ∀ k (h : k < l.length), ElemAt w a k l[k]
theorem ElemAt.below {w w' : World} {a : Option Addr} {k : Nat} {v : V3} (h : ElemAt w a k v) (hb : Below w.heap.size w w') : ElemAt w' a k v := by
  obtain ⟨b, o, ha, h0, h1, h2, hs⟩ := h
  have hlt : b < w.heap.size := block_lt_of_cell h0
  exact ⟨b, o, ha, (hb.cell (p := ⟨b, o + k * 3, none⟩) hlt).trans h0, (hb.cell (p := ⟨b, o + k * 3 + 1, none⟩) hlt).trans h1, (hb.cell (p := ⟨b, o + k * 3 + 2, none⟩) hlt).trans h2, hs⟩
theorem Lst.below {w w' : World} {a : Option Addr} {l : List V3} (h : Lst w a l) (hb : Below w.heap.size w w') : Lst w' a l := fun k hk => (h k hk).below hb
def cmp3 (x y : V3) : Int := cmpC x.1 x.2.1 x.2.2 y.1 y.2.1 y.2.2
def cmpL : List V3 → List V3 → Int
  | [], [] => 0
  | [], _ :: _ => -1
  | _ :: _, [] => 1
  | x :: xs, y :: ys => if cmp3 x y ≠ 0 then cmp3 x y else cmpL xs ys
theorem cmpL_drop (l l' : List V3) (k : Nat) (h : k < l.length) (h' : k < l'.length) :
    cmpL (l.drop k) (l'.drop k) = if cmp3 l[k] l'[k] ≠ 0 then cmp3 l[k] l'[k] else cmpL (l.drop (k + 1)) (l'.drop (k + 1)) := by
  rw [List.drop_eq_getElem_cons h, List.drop_eq_getElem_cons h']
  rfl
theorem cmpL_end (l l' : List V3) (k : Nat) (h : k = min l.length l'.length) : cmpL (l.drop k) (l'.drop k) = sg ((l.length : Int) - l'.length) := by
  rcases Nat.lt_trichotomy l.length l'.length with c | c | c
  · have e : l.drop k = [] := List.drop_eq_nil_of_le (by omega)
    have h' : k < l'.length := by omega
    rw [e, List.drop_eq_getElem_cons h']
    unfold sg
    rw [if_pos (by omega)]
    rfl
  · have e : l.drop k = [] := List.drop_eq_nil_of_le (by omega)
    have e' : l'.drop k = [] := List.drop_eq_nil_of_le (by omega)
    rw [e, e']
    unfold sg
    rw [if_neg (by omega), if_pos (by omega)]
    rfl
  · have e' : l'.drop k = [] := List.drop_eq_nil_of_le (by omega)
    have h' : k < l.length := by omega
    rw [e', List.drop_eq_getElem_cons h']
    unfold sg
    rw [if_neg (by omega), if_neg (by omega)]
    rfl
theorem lt_of_elem {w : World} {a : Option Addr} {k : Nat} {v : V3} (h : ElemAt w a k v) : ∃ b o, a = some ⟨b, o, none⟩ ∧ b < w.heap.size := by
  obtain ⟨b, o, ha, h0, _⟩ := h
  exact ⟨b, o, ha, block_lt_of_cell h0⟩
set_option maxHeartbeats 1000000 in
theorem compareLists_any (a a' : Option Addr) (c c' : Nat) (l l' : List V3) (w : World) (hl : l.length ≤ maxLen) (h : Lst w a l) (h' : Lst w a' l') :
    Calls Tryz.prog 22 #[.slice a l.length c, .slice a' l'.length c'] w fun e w' => e = .returned (.int .i64 (cmpL l l')) ∧ Below w.heap.size w w' := by
  have H := Lib.hid h
  have H' := Lib.hid h'
  unfold maxLen at hl
  clear h h'
  obtain ⟨n, hn⟩ : ∃ n, n = min l.length l'.length := ⟨_, rfl⟩
  have e : min (l.length : Int) (l'.length : Int) = (n : Int) := by omega
  have n1 : n ≤ l.length := by omega
  have n2 : n ≤ l'.length := by omega
  have HN := Lib.hid hn
  clear hn
  go_enter Tryz.func22, Tryz.ntmps22
  go_wp2
  clear e
  go_loopw [12] (fun i wr => ∃ k : Nat, k ≤ n ∧ i = .int .i64 k ∧ Hid (cmpL l l' = cmpL (l.drop k) (l'.drop k)) ∧ Hid (Below w.heap.size w wr)) (fun i _ => n - (intOf i).toNat)
  case atStart => exact ⟨0, Nat.zero_le _, rfl, Lib.hid rfl, Lib.hid (Below.refl _ _)⟩
  case round =>
    obtain ⟨k, hk, rfl, he, hb⟩ := hrel
    by_cases hlt : k < n
    · have hk1 : k < l.length := by omega
      have hk2 : k < l'.length := by omega
      have HD := Lib.hid (cmpL_drop l l' k hk1 hk2)
      obtain ⟨b, o, rfl, x0, x1, x2, xs⟩ := (H.out.below hb.out) k hk1
      obtain ⟨b', o', rfl, y0, y1, y2, ys⟩ := (H'.out.below hb.out) k hk2
      generalize l[k] = x at HD x0 x1 x2 xs
      generalize l'[k] = y at HD y0 y1 y2 ys
      obtain ⟨xk, xn, xt⟩ := x
      obtain ⟨yk, yn, yt⟩ := y
      have bl : b < wr.heap.size := block_lt_of_cell x0
      have bl' : b' < wr.heap.size := block_lt_of_cell y0
      have X0 := Lib.hid x0
      have X1 := Lib.hid x1
      have X2 := Lib.hid x2
      have XS := Lib.hid xs
      have Y0 := Lib.hid y0
      have Y1 := Lib.hid y1
      have Y2 := Lib.hid y2
      have YS := Lib.hid ys
      clear x0 x1 x2 xs y0 y1 y2 ys
      dsimp only at X0 X1 X2 XS Y0 Y1 Y2 YS
      go_wp2_with fail
      refine region_all (fun w' => Below wr.heap.size wr w') (by kernel_rfl) (by kernel_rfl) (by go_grown) ?_
      refine s_val (.slice (some ⟨b, o, none⟩) l.length c) (by rfl) (fun w' h => by rfl) ?_
      simp only [Act.put, List.setIfInBounds_toArray, List.set_cons_zero, List.set_cons_succ]
      refine s_val (.int .i64 (k : Int)) (by rfl) (fun w' h => by rfl) ?_
      simp only [Act.put, List.setIfInBounds_toArray, List.set_cons_zero, List.set_cons_succ]
      refine s_val (.pointer (some ⟨b, o + k * 3, none⟩)) (by rfl) (fun w' h => by go_simp) ?_
      simp only [Act.put, List.setIfInBounds_toArray, List.set_cons_zero, List.set_cons_succ]
      refine s_val (val xk xn xt) (by rfl) (fun w' h => by have c0 := (h.cell (p := ⟨b, o + k * 3, none⟩) bl).trans X0.out; have c1 := (h.cell (p := ⟨b, o + k * 3 + 1, none⟩) bl).trans X1.out; have c2 := (h.cell (p := ⟨b, o + k * 3 + 2, none⟩) bl).trans X2.out; go_simp) ?_
      simp only [Act.put, List.setIfInBounds_toArray, List.set_cons_zero, List.set_cons_succ]
      refine s_val (.slice (some ⟨b', o', none⟩) l'.length c') (by rfl) (fun w' h => by rfl) ?_
      simp only [Act.put, List.setIfInBounds_toArray, List.set_cons_zero, List.set_cons_succ]
      refine s_val (.int .i64 (k : Int)) (by rfl) (fun w' h => by rfl) ?_
      simp only [Act.put, List.setIfInBounds_toArray, List.set_cons_zero, List.set_cons_succ]
      refine s_val (.pointer (some ⟨b', o' + k * 3, none⟩)) (by rfl) (fun w' h => by go_simp) ?_
      simp only [Act.put, List.setIfInBounds_toArray, List.set_cons_zero, List.set_cons_succ]
      refine s_val (val yk yn yt) (by rfl) (fun w' h => by have c0 := (h.cell (p := ⟨b', o' + k * 3, none⟩) bl').trans Y0.out; have c1 := (h.cell (p := ⟨b', o' + k * 3 + 1, none⟩) bl').trans Y1.out; have c2 := (h.cell (p := ⟨b', o' + k * 3 + 2, none⟩) bl').trans Y2.out; go_simp) ?_
      simp only [Act.put, List.setIfInBounds_toArray, List.set_cons_zero, List.set_cons_succ]
      refine s_call (.int .i64 (cmpC xk xn xt yk yn yt)) 20 #[val xk xn xt, val yk yn yt] (by rfl) (fun w => by go_simp) (fun w' h => (compare_any xk xn yk yn xt yt XS.out YS.out w').mono fun e x hx => ⟨hx.1, h.trans (hx.2.mono h.size)⟩) ?_
      simp only [Act.put, List.setIfInBounds_toArray, List.set_cons_zero, List.set_cons_succ]
      refine s_val (.int .i64 (cmpC xk xn xt yk yn yt)) (by rfl) (fun w' h => by rfl) ?_
      simp only [Act.put, List.setIfInBounds_toArray, List.set_cons_zero, List.set_cons_succ]
      refine s_done ?_
      intro w2 hb2
      have HB := Lib.hid (hb.out.trans (hb2.mono hb.out.size))
      clear hb2
      change Hid (_ = if cmpC xk xn xt yk yn yt ≠ 0 then cmpC xk xn xt yk yn yt else _) at HD
      generalize cmpC xk xn xt yk yn yt = R at HD ⊢
      cases hz : (R != 0) with
      | true =>
        have HZ := Lib.hid (show R ≠ 0 from by simpa using hz)
        go_wp2
        go_ret
        exact ⟨ret_int (by rw [he.out, HD.out, if_pos HZ.out]), HB.out⟩
      | false =>
        have HZ := Lib.hid (show R = 0 from by simpa using hz)
        go_wp2
        go_roundw
        case rel => exact ⟨k + 1, by omega, by go_num, Lib.hid (by rw [he.out, HD.out, if_neg (by simpa using HZ.out)]), HB⟩
        case measure => simp [intOf]; omega
    · have hkn : k = n := by omega
      have HE := Lib.hid (cmpL_end l l' k (by rw [hkn]; exact HN.out))
      clear hkn
      go_wp2_with fail
      refine (cmpInt_any _ _ _).mono ?_
      rintro e w3 ⟨rfl, hb3⟩
      go_wp2
      go_ret
      exact ⟨ret_int (by rw [he.out, HE.out]), below_call hb.out hb3⟩
end YtabojeleomfgnaaGreatDoor
end Go.Proofs
