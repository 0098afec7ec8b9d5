/- What a text reads as, by the reference, is what it reads as by the program. Read, by the reference. ValueTexts: the law, of texts up to two million bytes. The builder of a row that is narrowed by a condition of the specification's own, which hands on the world's shape and the listed variables. -/
import Derived.Test.YtabojeleomfgnaaGreatDoorCs3
import Derived.Test.YtabojeleomfgnaaGreatDoorR1
import Derived.Test.YtabojeleomfgnaaGreatDoorS1
import Derived.Test.YtabojeleomfgnaaGreatDoorU1
import Derived.JoinedCond
namespace Go.Proofs
open Go.RowKit
namespace YtabojeleomfgnaaGreatDoor
set_option maxRecDepth 100000
noncomputable def okS (s : ByteArray) (x : V3) : Bool := decide (showT x = s)
theorem okS_yes {s : ByteArray} {x : V3} (h : showT x = s) : okS s x = true := decide_eq_true h
theorem okS_no {s : ByteArray} {x : V3} (h : showT x ≠ s) : okS s x = false := decide_eq_false h
theorem show_null : showT nullT = nullB := rfl
theorem show_mom {t : ByteArray} {v : V3} (h : mfT t = some v) : showT v = ⟨#[64]⟩ ++ t := by
  obtain ⟨h4, hm⟩ := mf_spec h
  rw [← hm]
  unfold showT; rw [h4]; rfl
theorem mom_no {s t : ByteArray} {v : V3} (h : mfT t = some v) (hs : hpB s ⟨#[64]⟩ = false) : showT v ≠ s := by
  intro e
  rw [show_mom h] at e
  have : hpB s ⟨#[64]⟩ = true := (hp_head _ _).2 ⟨_, by rw [← e]; exact at_list t⟩
  rw [hs] at this
  cases this
theorem find_mom_no {s : ByteArray} (hs : hpB s ⟨#[64]⟩ = false) : (cmomT s).find? (okS s) = none := by
  unfold cmomT
  split
  · rename_i v hv
    rw [List.find?_cons, okS_no (mom_no hv hs)]; rfl
  · rfl
theorem base_null : ([nullT, boolT true, boolT false] : List V3).find? (okS nullB) = some nullT := by
  rw [List.find?_cons, okS_yes show_null]
theorem base_true : ([nullT, boolT true, boolT false] : List V3).find? (okS trueB) = some (boolT true) := by
  have a : okS trueB nullT = false := okS_no (by rw [show_null]; decide)
  have b : okS trueB (boolT true) = true := okS_yes rfl
  simp only [List.find?_cons, a, b]
theorem base_false : ([nullT, boolT true, boolT false] : List V3).find? (okS falseB) = some (boolT false) := by
  have a : okS falseB nullT = false := okS_no (by rw [show_null]; decide)
  have b : okS falseB (boolT true) = false := okS_no (show trueB ≠ falseB by decide)
  have c : okS falseB (boolT false) = true := okS_yes rfl
  simp only [List.find?_cons, a, b, c]
theorem base_none {s : ByteArray} (h0 : s ≠ nullB) (h1 : s ≠ trueB) (h2 : s ≠ falseB) : ([nullT, boolT true, boolT false] : List V3).find? (okS s) = none := by
  have a : okS s nullT = false := okS_no (fun e => h0 e.symm)
  have b : okS s (boolT true) = false := okS_no (fun e => h1 e.symm)
  have c : okS s (boolT false) = false := okS_no (fun e => h2 e.symm)
  simp only [List.find?_cons, a, b, c, List.find?_nil]
theorem trim_back {s : ByteArray} (h : hpB s ⟨#[64]⟩ = true) : ⟨#[64]⟩ ++ trimB s = s := by
  obtain ⟨r, e⟩ := (hp_head _ _).1 h
  apply ba_ext
  rw [at_list]
  have e2 : Lib.hasPrefix s.data.toList [64] = true := by rw [← h]; rfl
  show 64 :: (Lib.trimPrefix s.data.toList [64]) = _
  unfold Lib.trimPrefix
  rw [if_pos e2, e]; rfl
theorem other_head {s : ByteArray} {c d : UInt8} (h : hpB s ⟨#[c]⟩ = true) (hd : c ≠ d) : hpB s ⟨#[d]⟩ = false := by
  obtain ⟨r, e⟩ := (hp_head _ _).1 h
  cases hh : hpB s ⟨#[d]⟩ with
  | false => rfl
  | true =>
    obtain ⟨r', e'⟩ := (hp_head _ _).1 hh
    rw [e] at e'
    exact absurd (List.cons.inj e').1 hd
theorem ctxt_no {s : ByteArray} (h : hpB s ⟨#[39]⟩ = false) : ctxtT s = [] := by unfold ctxtT; rw [if_neg (fun hh => by rw [h] at hh; exact absurd hh.2 (by decide))]
theorem read_same (s : ByteArray) : (candT s).find? (okS s) = if showT (guessT s) = s then some (guessT s) else none := by
  unfold candT
  rw [List.find?_append, List.find?_append, List.find?_append]
  by_cases h0 : s = nullB
  · subst h0
    have g : guessT nullB = nullT := by unfold guessT; rw [if_pos rfl]
    rw [base_null, g, if_pos show_null]; rfl
  by_cases h1 : s = trueB
  · subst h1
    have g : guessT trueB = boolT true := by unfold guessT; rw [if_neg (by decide), if_pos rfl]
    have e : showT (boolT true) = trueB := rfl
    rw [base_true, g, if_pos e]; rfl
  by_cases h2 : s = falseB
  · subst h2
    have g : guessT falseB = boolT false := by unfold guessT; rw [if_neg (by decide), if_neg (by decide), if_pos rfl]
    have e : showT (boolT false) = falseB := rfl
    rw [base_false, g, if_pos e]; rfl
  rw [base_none h0 h1 h2]
  have null_no : showT nullT ≠ s := fun e => h0 e.symm
  by_cases h3 : hpB s ⟨#[39]⟩ = true
  · have g : guessT s = gtextT s := by unfold guessT; rw [if_neg h0, if_neg h1, if_neg h2, if_pos h3]
    obtain ⟨r, e⟩ := (hp_head _ _).1 h3
    have c : cnumT s = [] := by unfold cnumT; rw [atoi_letter _ e (by decide) (by decide) (by decide)]
    have h4 : hpB s ⟨#[64]⟩ = false := other_head h3 (by decide)
    rw [c, find_mom_no h4, g]
    by_cases hz : 1 < s.size
    · have x : ctxtT s = [gtextT s] := by unfold ctxtT gtextT; rw [if_pos ⟨hz, h3⟩, if_neg (by omega)]
      rw [x, List.find?_cons]
      by_cases hh : showT (gtextT s) = s
      · rw [okS_yes hh, if_pos hh]; rfl
      · rw [okS_no hh, if_neg hh]; rfl
    · have x : ctxtT s = [] := by unfold ctxtT; rw [if_neg (fun hh => hz hh.1)]
      have y : gtextT s = nullT := by unfold gtextT; rw [if_pos (by omega)]
      rw [x, y, if_neg null_no]; rfl
  have h3' : hpB s ⟨#[39]⟩ = false := by simpa using h3
  rw [ctxt_no h3']
  by_cases h4 : hpB s ⟨#[64]⟩ = true
  · obtain ⟨r, e⟩ := (hp_head _ _).1 h4
    have c : cnumT s = [] := by unfold cnumT; rw [atoi_letter _ e (by decide) (by decide) (by decide)]
    have g : guessT s = gmomT s := by unfold guessT; rw [if_neg h0, if_neg h1, if_neg h2, if_neg h3, if_pos h4]
    have hr := rc4 (trimB s)
    rw [trim_back h4] at hr
    unfold rcT at hr
    rw [c]
    unfold cmomT
    cases hm : mfT (trimB s) with
    | some v =>
      have hv := show_mom hm
      rw [trim_back h4] at hv
      rw [hm] at hr
      have h44 := (mf_spec hm).1
      by_cases hc : showT (guessT s) = s ∧ (guessT s).1 = 4
      · rw [if_pos hc] at hr
        have hr' : guessT s = v := hr
        rw [hr', if_pos hv]
        show List.find? _ [v] = _
        rw [List.find?_cons, okS_yes hv]
      · rw [if_neg hc] at hr
        have hr' : nullT = v := hr
        rw [← hr'] at h44
        exact absurd h44 (by decide)
    | none =>
      rw [hm] at hr
      have hr' : (if showT (guessT s) = s ∧ (guessT s).1 = 4 then guessT s else nullT) = nullT := hr
      rw [if_neg]
      · rfl
      · intro hs
        rcases gmomT_kind s with hk | hk
        · rw [← g] at hk
          rw [if_pos ⟨hs, hk⟩] at hr'
          rw [hr'] at hk
          exact absurd hk (by decide)
        · rw [← g] at hk
          have : showT (guessT s) = nullB := by unfold showT; rw [hk]; rfl
          exact h0 (hs.symm.trans this)
  have h4' : hpB s ⟨#[64]⟩ = false := by simpa using h4
  have g : guessT s = numbT s := by unfold guessT; rw [if_neg h0, if_neg h1, if_neg h2, if_neg h3, if_neg h4]
  rw [find_mom_no h4', g]
  unfold cnumT numbT
  cases ha : atoiT s with
  | none => rw [if_neg null_no]; rfl
  | some n =>
    show (((none.or (List.find? (okS s) [numT 2 n])).or _).or _) = _
    rw [List.find?_cons]
    by_cases hh : showT (numT 2 n) = s
    · rw [okS_yes hh, if_pos hh]; rfl
    · rw [okS_no hh, if_neg hh]; rfl
end YtabojeleomfgnaaGreatDoor
end Go.Proofs
namespace Go.Proofs
open Go.RowKit
namespace YtabojeleomfgnaaGreatDoor
set_option maxRecDepth 100000
theorem read_of {s : ByteArray} {x : V3} (h : (if showT (guessT s) = s then some (guessT s) else none) = some x) : readT s = x ∧ readE s = 0 := by
  unfold readT readE
  by_cases hc : showT (guessT s) = s
  · rw [if_pos hc] at h
    rw [if_pos hc, if_pos hc]
    exact ⟨Option.some.inj h, rfl⟩
  · rw [if_neg hc] at h
    cases h
theorem read_no {s : ByteArray} (h : (if showT (guessT s) = s then some (guessT s) else none) = none) : readT s = nullT ∧ readE s = 14 := by
  unfold readT readE
  by_cases hc : showT (guessT s) = s
  · rw [if_pos hc] at h
    cases h
  · rw [if_neg hc, if_neg hc]
    exact ⟨rfl, rfl⟩
theorem readT_right (s : ByteArray) : Right (readT s) := by
  unfold readT
  split
  · exact guess_right s
  · exact nullT_right
set_option maxHeartbeats 4000000 in
theorem readValue_t (s : ByteArray) (hs : s.size ≤ 2000000) (w : World) (hL : Lb w) : Calls Tryz.prog 33 #[.string s] w fun e w' => e = .returned (.tuple #[toV (readT s), .int .i64 (readE s)]) ∧ Below w.heap.size w w' := by
  have HL := Lib.hid hL
  have C1 := Lib.hid (fun w hw => cands_t s hs w hw)
  have hRS := read_same s
  have H1 := Lib.hid (fun x (h : (if showT (guessT s) = s then some (guessT s) else none) = some x) => read_of h)
  have H2 := Lib.hid (fun (h : (if showT (guessT s) = s then some (guessT s) else none) = none) => read_no h)
  have HRt := Lib.hid (cand_right s)
  have hne := cand_ne s
  have hl := cand_len s
  clear hL
  generalize (if showT (guessT s) = s then some (guessT s) else none) = G at *
  generalize readT s = R at *
  generalize readE s = E at *
  generalize candT s = LL at *
  obtain ⟨nn, hnn⟩ : ∃ nn, nn = LL.length := ⟨_, rfl⟩
  have hnn6 : nn ≤ 6 := by omega
  have HG0 : Hid (G = (LL.drop 0).find? (okS s)) := Lib.hid hRS.symm
  clear hRS hl
  go_enter Tryz.func33, Tryz.ntmps33
  go_wp2_with fail
  refine (C1.out _ (HL.out.alloc _)).mono ?_
  rintro e w1 ⟨v1, rfl, hA⟩
  have R1 : Hid (w1.heap[w.heap.size]? = some (.cells (cells nullT) 23 (0, 0))) := Lib.hid ((hA.2.block _ (by simp)).trans (new_at _ _ _ rfl))
  have B1 := Lib.hid (below_call (w := w) (by go_grown) hA.2)
  obtain ⟨b, cap, rfl, hb, hc⟩ := hA.cells hne
  rw [← hnn]
  have HC := Lib.hid hc
  have HNN := Lib.hid hnn
  have HB0 := Lib.hid (Below.refl w1.heap.size w1)
  clear hA hc hnn hne C1
  go_wp2_with fail
  go_loopw [9] (fun y wr => ∃ i : Nat, y = .int .i64 i ∧ i ≤ nn ∧ Hid (Below w1.heap.size w1 wr) ∧ Hid (G = (LL.drop i).find? (okS s))) (fun y _ => ((nn : Int) - intOf y).toNat)
  case atStart => exact ⟨0, rfl, by omega, HB0, HG0⟩
  case round =>
    obtain ⟨i, rfl, hi, hBr, hGr⟩ := hrel
    have Rr := Lib.hid ((hBr.out.block _ (lt_of_block R1.out)).trans R1.out)
    have Br := Lib.hid (below_call B1.out hBr.out)
    by_cases hlt : i < nn
    · obtain ⟨x, hx⟩ : ∃ x, LL[i]? = some x := ⟨_, List.getElem?_eq_getElem (by rw [← HNN.out]; exact hlt)⟩
      have hxr := HRt.out x (List.mem_of_getElem? hx)
      obtain ⟨h0, h1, h2⟩ := HC.out i x hx
      have HD := Lib.hid (drop_at hx)
      have CX := Lib.hid (fun w hw => (clT_of_right hxr) ▸ shown_t x hxr.sz w hw)
      have HO : Hid (okS s x = decide (showT x = s)) := Lib.hid rfl
      generalize showT x = S at *
      obtain ⟨xk, xn, xt⟩ := x
      dsimp only at h0 h1 h2
      have c0 : wr.cell? ⟨b, i * 3, none⟩ = some (.int .i64 xk) := (hBr.out.cell (p := ⟨b, i * 3, none⟩) hb).trans h0
      have c1 : wr.cell? ⟨b, i * 3 + 1, none⟩ = some (.int .i64 xn) := (hBr.out.cell (p := ⟨b, i * 3 + 1, none⟩) hb).trans h1
      have c2 : wr.cell? ⟨b, i * 3 + 2, none⟩ = some (.string xt) := (hBr.out.cell (p := ⟨b, i * 3 + 2, none⟩) hb).trans h2
      clear h0 h1 h2 hx hxr
      go_wp2_with (refine store23 rfl (.tmp 5) (.tmp 12) rfl wr.heap.size (xk, xn, xt) rfl rfl nullT (new_at _ _ _ rfl) ?_; intro w7 hp; have X7 := Lib.hid hp.at'; have B7 := Lib.hid (hp.below (w0 := wr) ((Below.refl _ wr).alloc (Nat.le_refl _) _) (Nat.le_refl _)); clear hp c0 c1 c2; have a0 : w7.cell? ⟨wr.heap.size, 0, none⟩ = some (.int .i64 xk) := (cell_of_row w7 _ 0 _ _ _ X7.out).trans rfl; have a1 : w7.cell? ⟨wr.heap.size, 1, none⟩ = some (.int .i64 xn) := (cell_of_row w7 _ 1 _ _ _ X7.out).trans rfl; have a2 : w7.cell? ⟨wr.heap.size, 2, none⟩ = some (.string xt) := (cell_of_row w7 _ 2 _ _ _ X7.out).trans rfl)
      refine (CX.out _ (HL.out.below (below_call Br.out B7.out))).mono ?_
      rintro e w8 ⟨rfl, hb8⟩
      have X8 := Lib.hid ((hb8.block _ (lt_of_block X7.out)).trans X7.out)
      have B8 := Lib.hid (B7.out.trans (hb8.mono B7.out.size))
      clear hb8 a0 a1 a2
      have R8 := Lib.hid ((B8.out.block _ (lt_of_block Rr.out)).trans Rr.out)
      have D8 := Lib.hid (hBr.out.trans (B8.out.mono hBr.out.size))
      cases hd : (S.toList == s.toList) with
      | true =>
        have hS : S = s := by rw [eq_lit S s s.toList rfl] at hd; simpa using hd
        have HE := Lib.hid (H1.out (xk, xn, xt) (by rw [hGr.out, HD.out, List.find?_cons, HO.out, decide_eq_true hS]))
        clear hS
        have b0 : w8.cell? ⟨wr.heap.size, 0, none⟩ = some (.int .i64 xk) := (cell_of_row w8 _ 0 _ _ _ X8.out).trans rfl
        have b1 : w8.cell? ⟨wr.heap.size, 1, none⟩ = some (.int .i64 xn) := (cell_of_row w8 _ 1 _ _ _ X8.out).trans rfl
        have b2 : w8.cell? ⟨wr.heap.size, 2, none⟩ = some (.string xt) := (cell_of_row w8 _ 2 _ _ _ X8.out).trans rfl
        go_wp2_with (refine store23 rfl (.tmp 2) (.tmp 17) rfl w.heap.size (xk, xn, xt) rfl rfl _ R8.out ?_; intro wz hp; have HP := Lib.hid hp; clear hp)
        exact bodyPost_ret (ret23_tmp (x := (xk, xn, xt)) rfl rfl HP.out.at' rfl) rfl ⟨by rw [HE.out.1, HE.out.2]; rfl, HP.out.low (below_call Br.out B8.out) (Nat.le_refl _)⟩
      | false =>
        have hS : S ≠ s := by rw [eq_lit S s s.toList rfl] at hd; simpa using hd
        have HN : Hid (G = (LL.drop (i + 1)).find? (okS s)) := Lib.hid (by rw [hGr.out, HD.out, List.find?_cons, HO.out, decide_eq_false hS])
        clear hS
        go_wp2_with fail
        go_roundw
        case rel => exact ⟨i + 1, by go_num, by omega, D8, HN⟩
        case measure => simp [intOf]; omega
    · have hnil : LL.drop i = [] := List.drop_eq_nil_of_le (by rw [← HNN.out]; omega)
      have HE := Lib.hid (H2.out (by rw [hGr.out, hnil]; rfl))
      clear hnil
      go_wp2_with (refine store23 rfl (.tmp 2) (.tmp 19) rfl w.heap.size nullT rfl rfl _ Rr.out ?_; intro wz hp; have HP := Lib.hid hp; clear hp)
      exact bodyPost_ret (ret23_tmp (x := nullT) rfl rfl HP.out.at' rfl) rfl ⟨by rw [HE.out.1, HE.out.2]; rfl, HP.out.low Br.out (Nat.le_refl _)⟩
end YtabojeleomfgnaaGreatDoor
end Go.Proofs
namespace Go.Proofs
open Go.RowKit
namespace YtabojeleomfgnaaGreatDoor
set_option maxRecDepth 100000
/-- five values in their boxes -/
def Bx (g5 g7 g9 g11 : Nat) (x y z : V3) (w0 w : World) : Prop :=
  w.heap[w0.heap.size]? = some (.cells (cells x) 23 (0, 0)) ∧ w.heap[g5]? = some (.cells (cells y) 23 (0, 0)) ∧ w.heap[g7]? = some (.cells (cells y) 23 (0, 0)) ∧ w.heap[g9]? = some (.cells (cells z) 23 (0, 0)) ∧ w.heap[g11]? = some (.cells (cells z) 23 (0, 0)) ∧ Below w0.heap.size w0 w
theorem Bx.below {g5 g7 g9 g11 : Nat} {x y z : V3} {w0 w w' : World} (h : Bx g5 g7 g9 g11 x y z w0 w) (hb : Below w.heap.size w w') : Bx g5 g7 g9 g11 x y z w0 w' :=
  ⟨(hb.block _ (lt_of_block h.1)).trans h.1, (hb.block _ (lt_of_block h.2.1)).trans h.2.1, (hb.block _ (lt_of_block h.2.2.1)).trans h.2.2.1, (hb.block _ (lt_of_block h.2.2.2.1)).trans h.2.2.2.1, (hb.block _ (lt_of_block h.2.2.2.2.1)).trans h.2.2.2.2.1, below_call h.2.2.2.2.2 hb⟩
theorem op_eq9 {a : Act} {o : Oper} {u v : Operand} {t : TypeId} (s : ByteArray) (ho : o.op = .binOp .eql 9 u v t) (hu : a.eval u = .string s) (hv : a.eval v = .string s) (w : World) :
    (execOp a.eval o).run Tryz.prog w = .ok (.value (.bool true)) w := by
  unfold execOp
  simp only [ho, hu, hv]
  go_simp
theorem op_eq25 {a : Act} {o : Oper} {u v : Operand} {t : TypeId} (n : Int) (ho : o.op = .binOp .eql 25 u v t) (hu : a.eval u = .int .i64 n) (hv : a.eval v = .int .i64 n) (w : World) :
    (execOp a.eval o).run Tryz.prog w = .ok (.value (.bool true)) w := by
  unfold execOp
  simp only [ho, hu, hv]
  go_simp
set_option maxHeartbeats 8000000 in
theorem law_texts (x : V3) (s : ByteArray) (hx : Sz x) (hs : s.size ≤ 2000000) (w : World) (hL : Lb w) (ho : Ops w) : Calls Tryz.prog 6 #[toV x, .string s] w fun e w' => e = .returned (.bool true) ∧ Below w.heap.size w w' := by
  have HL := Lib.hid hL
  have HO := Lib.hid ho
  have C1 := Lib.hid (fun w hw => read_t s hs w hw)
  have C2 := Lib.hid (fun w hw => readValue_t s hs w hw)
  have C3 := Lib.hid (fun w hw => show_t x hx w hw)
  have C4 := Lib.hid (fun w hw => shown_t x hx w hw)
  have hz := show_size (clT_right x)
  have C5 := Lib.hid (fun w hw => read_t (showT (clT x)) (by omega) w hw)
  have C6 := Lib.hid (fun w hw => readValue_t (showT (clT x)) (by omega) w hw)
  clear hx hs hL ho hz
  generalize readT s = R at *
  generalize readE s = E at *
  generalize readT (showT (clT x)) = R2 at *
  generalize readE (showT (clT x)) = E2 at *
  generalize showT (clT x) = S at *
  obtain ⟨ka, na, sa⟩ := x
  obtain ⟨k1, n1, s1⟩ := R
  obtain ⟨k2, n2, s2⟩ := R2
  change Calls Tryz.prog 6 #[val ka na sa, .string s] w _
  have X0 : Hid ((w.alloc (.cells #[.int .i64 ka, .int .i64 na, .string sa] 23)).heap[w.heap.size]? = some (.cells (cells (ka, na, sa)) 23 (0, 0))) := Lib.hid (heap_alloc_new w _)
  have B0 : Hid (Below w.heap.size w (w.alloc (.cells #[.int .i64 ka, .int .i64 na, .string sa] 23))) := Lib.hid (by go_grown)
  go_enter Tryz.func6, Tryz.ntmps6
  go_wp2_with fail
  refine (C1.out _ (HL.out.below B0.out)).mono ?_
  rintro e w1 ⟨rfl, hb1⟩
  have X1 := Lib.hid ((hb1.block _ (lt_of_block X0.out)).trans X0.out)
  have B1 := Lib.hid (below_call B0.out hb1)
  clear hb1 X0
  go_wp2_with (refine store23 rfl (.tmp 5) (.tmp 16) rfl w1.heap.size (k1, n1, s1) rfl rfl nullT (new_at _ _ _ rfl) ?_; intro w2 hp; have V5 := Lib.hid hp.at'; have K2 := Lib.hid (hp.below (w0 := w1) ((Below.refl _ w1).alloc (Nat.le_refl _) _) (Nat.le_refl _)); clear hp)
  have X2 := Lib.hid ((K2.out.block _ (lt_of_block X1.out)).trans X1.out)
  have B2 := Lib.hid (below_call B1.out K2.out)
  refine (C2.out _ (HL.out.below B2.out)).mono ?_
  rintro e w3 ⟨rfl, hb3⟩
  have X3 := Lib.hid ((hb3.block _ (lt_of_block X2.out)).trans X2.out)
  have P3 := Lib.hid ((hb3.block _ (lt_of_block V5.out)).trans V5.out)
  have B3 := Lib.hid (below_call B2.out hb3)
  clear hb3 X1 X2 V5
  go_wp2_with (refine store23 rfl (.tmp 7) (.tmp 21) rfl w3.heap.size (k1, n1, s1) rfl rfl nullT (new_at _ _ _ rfl) ?_; intro w4 hp; have V7 := Lib.hid hp.at'; have K4 := Lib.hid (hp.below (w0 := w3) ((Below.refl _ w3).alloc (Nat.le_refl _) _) (Nat.le_refl _)); clear hp; have a0 : w4.cell? ⟨w.heap.size, 0, none⟩ = some (.int .i64 ka) := (cell_of_row w4 _ 0 _ _ _ ((K4.out.block _ (lt_of_block X3.out)).trans X3.out)).trans rfl; have a1 : w4.cell? ⟨w.heap.size, 1, none⟩ = some (.int .i64 na) := (cell_of_row w4 _ 1 _ _ _ ((K4.out.block _ (lt_of_block X3.out)).trans X3.out)).trans rfl; have a2 : w4.cell? ⟨w.heap.size, 2, none⟩ = some (.string sa) := (cell_of_row w4 _ 2 _ _ _ ((K4.out.block _ (lt_of_block X3.out)).trans X3.out)).trans rfl)
  have X4 := Lib.hid ((K4.out.block _ (lt_of_block X3.out)).trans X3.out)
  have P4 := Lib.hid ((K4.out.block _ (lt_of_block P3.out)).trans P3.out)
  have B4 := Lib.hid (below_call B3.out K4.out)
  refine (C3.out _ (HL.out.below B4.out)).mono ?_
  rintro e w5 ⟨rfl, hb5⟩
  have X5 := Lib.hid ((hb5.block _ (lt_of_block X4.out)).trans X4.out)
  have P5 := Lib.hid ((hb5.block _ (lt_of_block P4.out)).trans P4.out)
  have Q5 := Lib.hid ((hb5.block _ (lt_of_block V7.out)).trans V7.out)
  have B5 := Lib.hid (below_call B4.out hb5)
  clear hb5 a0 a1 a2 X3 X4 P3 P4 V7
  go_wp2_with fail
  refine (C5.out _ (HL.out.below B5.out)).mono ?_
  rintro e w6 ⟨rfl, hb6⟩
  have X6 := Lib.hid ((hb6.block _ (lt_of_block X5.out)).trans X5.out)
  have P6 := Lib.hid ((hb6.block _ (lt_of_block P5.out)).trans P5.out)
  have Q6 := Lib.hid ((hb6.block _ (lt_of_block Q5.out)).trans Q5.out)
  have B6 := Lib.hid (below_call B5.out hb6)
  clear hb6 X5 P5 Q5
  go_wp2_with (refine store23 rfl (.tmp 9) (.tmp 27) rfl w6.heap.size (k2, n2, s2) rfl rfl nullT (new_at _ _ _ rfl) ?_; intro w7 hp; have V9 := Lib.hid hp.at'; have K7 := Lib.hid (hp.below (w0 := w6) ((Below.refl _ w6).alloc (Nat.le_refl _) _) (Nat.le_refl _)); clear hp; have a0 : w7.cell? ⟨w.heap.size, 0, none⟩ = some (.int .i64 ka) := (cell_of_row w7 _ 0 _ _ _ ((K7.out.block _ (lt_of_block X6.out)).trans X6.out)).trans rfl; have a1 : w7.cell? ⟨w.heap.size, 1, none⟩ = some (.int .i64 na) := (cell_of_row w7 _ 1 _ _ _ ((K7.out.block _ (lt_of_block X6.out)).trans X6.out)).trans rfl; have a2 : w7.cell? ⟨w.heap.size, 2, none⟩ = some (.string sa) := (cell_of_row w7 _ 2 _ _ _ ((K7.out.block _ (lt_of_block X6.out)).trans X6.out)).trans rfl)
  have X7 := Lib.hid ((K7.out.block _ (lt_of_block X6.out)).trans X6.out)
  have P7 := Lib.hid ((K7.out.block _ (lt_of_block P6.out)).trans P6.out)
  have Q7 := Lib.hid ((K7.out.block _ (lt_of_block Q6.out)).trans Q6.out)
  have B7 := Lib.hid (below_call B6.out K7.out)
  refine (C4.out _ (HL.out.below B7.out)).mono ?_
  rintro e w8 ⟨rfl, hb8⟩
  have X8 := Lib.hid ((hb8.block _ (lt_of_block X7.out)).trans X7.out)
  have P8 := Lib.hid ((hb8.block _ (lt_of_block P7.out)).trans P7.out)
  have Q8 := Lib.hid ((hb8.block _ (lt_of_block Q7.out)).trans Q7.out)
  have U8 := Lib.hid ((hb8.block _ (lt_of_block V9.out)).trans V9.out)
  have B8 := Lib.hid (below_call B7.out hb8)
  clear hb8 a0 a1 a2 X6 X7 P6 P7 Q6 Q7 V9
  go_wp2_with fail
  refine (C6.out _ (HL.out.below B8.out)).mono ?_
  rintro e w9 ⟨rfl, hb9⟩
  have X9 := Lib.hid ((hb9.block _ (lt_of_block X8.out)).trans X8.out)
  have P9 := Lib.hid ((hb9.block _ (lt_of_block P8.out)).trans P8.out)
  have Q9 := Lib.hid ((hb9.block _ (lt_of_block Q8.out)).trans Q8.out)
  have U9 := Lib.hid ((hb9.block _ (lt_of_block U8.out)).trans U8.out)
  have B9 := Lib.hid (below_call B8.out hb9)
  clear hb9 X8 P8 Q8 U8
  go_wp2_with (refine store23 rfl (.tmp 11) (.tmp 33) rfl w9.heap.size (k2, n2, s2) rfl rfl nullT (new_at _ _ _ rfl) ?_; intro w10 hp; have V11 := Lib.hid hp.at'; have K10 := Lib.hid (hp.below (w0 := w9) ((Below.refl _ w9).alloc (Nat.le_refl _) _) (Nat.le_refl _)); clear hp)
  have HB : Hid (Bx w1.heap.size w3.heap.size w6.heap.size w9.heap.size (ka, na, sa) (k1, n1, s1) (k2, n2, s2) w w10) := Lib.hid ⟨(K10.out.block _ (lt_of_block X9.out)).trans X9.out, (K10.out.block _ (lt_of_block P9.out)).trans P9.out, (K10.out.block _ (lt_of_block Q9.out)).trans Q9.out, (K10.out.block _ (lt_of_block U9.out)).trans U9.out, V11.out, below_call B9.out K10.out⟩
  clear X9 P9 Q9 U9 V11 K10 K7 K4 K2 B1 B2 B3 B4 B5 B6 B7 B8 B9
  refine region_all (Bx w1.heap.size w3.heap.size w6.heap.size w9.heap.size (ka, na, sa) (k1, n1, s1) (k2, n2, s2) w) (by kernel_rfl) (by kernel_rfl) ⟨HB.out.1, HB.out.2.1, HB.out.2.2.1, HB.out.2.2.2.1, HB.out.2.2.2.2.1, HB.out.2.2.2.2.2.drew⟩ ?_
  refine s_call (.bool true) 17 #[] (by rfl) (fun w => by go_simp) (fun w' h => (values_true w' (HO.out.below h.2.2.2.2.2)).mono fun e x hx => ⟨hx.1, h.below hx.2⟩) ?_
  simp only [Act.put, List.setIfInBounds_toArray, List.set_cons_zero, List.set_cons_succ]
  refine s_val (.bool true) (by rfl) (fun w' _ => by rfl) ?_
  simp only [Act.put, List.setIfInBounds_toArray, List.set_cons_zero, List.set_cons_succ]
  refine s_val (toV (ka, na, sa)) (by rfl) (run_load23 (C := (Bx w1.heap.size w3.heap.size w6.heap.size w9.heap.size (ka, na, sa) (k1, n1, s1) (k2, n2, s2) w)) (.tmp 2) rfl (w.heap.size) _ rfl rfl (fun w h => h.1)) ?_
  simp only [Act.put, List.setIfInBounds_toArray, List.set_cons_zero, List.set_cons_succ]
  refine s_call (.string S) 34 #[toV (ka, na, sa)] (by rfl) (fun w => by go_simp) (fun w' h => (C3.out w' (HL.out.below h.2.2.2.2.2)).mono fun e x hx => ⟨hx.1, h.below hx.2⟩) ?_
  simp only [Act.put, List.setIfInBounds_toArray, List.set_cons_zero, List.set_cons_succ]
  refine s_val (toV (ka, na, sa)) (by rfl) (run_load23 (C := (Bx w1.heap.size w3.heap.size w6.heap.size w9.heap.size (ka, na, sa) (k1, n1, s1) (k2, n2, s2) w)) (.tmp 2) rfl (w.heap.size) _ rfl rfl (fun w h => h.1)) ?_
  simp only [Act.put, List.setIfInBounds_toArray, List.set_cons_zero, List.set_cons_succ]
  refine s_call (.string S) 35 #[toV (ka, na, sa)] (by rfl) (fun w => by go_simp) (fun w' h => (C4.out w' (HL.out.below h.2.2.2.2.2)).mono fun e x hx => ⟨hx.1, h.below hx.2⟩) ?_
  simp only [Act.put, List.setIfInBounds_toArray, List.set_cons_zero, List.set_cons_succ]
  refine s_val (.bool true) (by rfl) (fun w' _ => op_eq9 S rfl rfl rfl w') ?_
  simp only [Act.put, List.setIfInBounds_toArray, List.set_cons_zero, List.set_cons_succ]
  refine s_val (.bool true) (by rfl) (fun w' _ => by rfl) ?_
  simp only [Act.put, List.setIfInBounds_toArray, List.set_cons_zero, List.set_cons_succ]
  refine s_val (.bool true) (by rfl) (fun w' _ => by rfl) ?_
  simp only [Act.put, List.setIfInBounds_toArray, List.set_cons_zero, List.set_cons_succ]
  refine s_val (.int .i64 E) (by rfl) (fun w' _ => by rfl) ?_
  simp only [Act.put, List.setIfInBounds_toArray, List.set_cons_zero, List.set_cons_succ]
  refine s_val (.int .i64 E) (by rfl) (fun w' _ => by rfl) ?_
  simp only [Act.put, List.setIfInBounds_toArray, List.set_cons_zero, List.set_cons_succ]
  refine s_val (.bool true) (by rfl) (fun w' _ => op_eq25 E rfl rfl rfl w') ?_
  simp only [Act.put, List.setIfInBounds_toArray, List.set_cons_zero, List.set_cons_succ]
  refine s_val (.bool true) (by rfl) (fun w' _ => by rfl) ?_
  simp only [Act.put, List.setIfInBounds_toArray, List.set_cons_zero, List.set_cons_succ]
  refine s_val (.bool true) (by rfl) (fun w' _ => by rfl) ?_
  simp only [Act.put, List.setIfInBounds_toArray, List.set_cons_zero, List.set_cons_succ]
  refine s_val (toV (k1, n1, s1)) (by rfl) (run_load23 (C := (Bx w1.heap.size w3.heap.size w6.heap.size w9.heap.size (ka, na, sa) (k1, n1, s1) (k2, n2, s2) w)) (.tmp 5) rfl (w1.heap.size) _ rfl rfl (fun w h => h.2.1)) ?_
  simp only [Act.put, List.setIfInBounds_toArray, List.set_cons_zero, List.set_cons_succ]
  refine s_val (toV (k1, n1, s1)) (by rfl) (run_load23 (C := (Bx w1.heap.size w3.heap.size w6.heap.size w9.heap.size (ka, na, sa) (k1, n1, s1) (k2, n2, s2) w)) (.tmp 7) rfl (w3.heap.size) _ rfl rfl (fun w h => h.2.2.1)) ?_
  simp only [Act.put, List.setIfInBounds_toArray, List.set_cons_zero, List.set_cons_succ]
  refine s_val (.bool true) (by rfl) (fun w' _ => (op_eq23 (k1, n1, s1) (k1, n1, s1) rfl rfl rfl w').trans (by simp)) ?_
  simp only [Act.put, List.setIfInBounds_toArray, List.set_cons_zero, List.set_cons_succ]
  refine s_val (.bool true) (by rfl) (fun w' _ => by rfl) ?_
  simp only [Act.put, List.setIfInBounds_toArray, List.set_cons_zero, List.set_cons_succ]
  refine s_val (.bool true) (by rfl) (fun w' _ => by rfl) ?_
  simp only [Act.put, List.setIfInBounds_toArray, List.set_cons_zero, List.set_cons_succ]
  refine s_val (.int .i64 E2) (by rfl) (fun w' _ => by rfl) ?_
  simp only [Act.put, List.setIfInBounds_toArray, List.set_cons_zero, List.set_cons_succ]
  refine s_val (.int .i64 E2) (by rfl) (fun w' _ => by rfl) ?_
  simp only [Act.put, List.setIfInBounds_toArray, List.set_cons_zero, List.set_cons_succ]
  refine s_val (.bool true) (by rfl) (fun w' _ => op_eq25 E2 rfl rfl rfl w') ?_
  simp only [Act.put, List.setIfInBounds_toArray, List.set_cons_zero, List.set_cons_succ]
  refine s_val (.bool true) (by rfl) (fun w' _ => by rfl) ?_
  simp only [Act.put, List.setIfInBounds_toArray, List.set_cons_zero, List.set_cons_succ]
  refine s_val (.bool true) (by rfl) (fun w' _ => by rfl) ?_
  simp only [Act.put, List.setIfInBounds_toArray, List.set_cons_zero, List.set_cons_succ]
  refine s_val (toV (k2, n2, s2)) (by rfl) (run_load23 (C := (Bx w1.heap.size w3.heap.size w6.heap.size w9.heap.size (ka, na, sa) (k1, n1, s1) (k2, n2, s2) w)) (.tmp 9) rfl (w6.heap.size) _ rfl rfl (fun w h => h.2.2.2.1)) ?_
  simp only [Act.put, List.setIfInBounds_toArray, List.set_cons_zero, List.set_cons_succ]
  refine s_val (toV (k2, n2, s2)) (by rfl) (run_load23 (C := (Bx w1.heap.size w3.heap.size w6.heap.size w9.heap.size (ka, na, sa) (k1, n1, s1) (k2, n2, s2) w)) (.tmp 11) rfl (w9.heap.size) _ rfl rfl (fun w h => h.2.2.2.2.1)) ?_
  simp only [Act.put, List.setIfInBounds_toArray, List.set_cons_zero, List.set_cons_succ]
  refine s_val (.bool true) (by rfl) (fun w' _ => (op_eq23 (k2, n2, s2) (k2, n2, s2) rfl rfl rfl w').trans (by simp)) ?_
  simp only [Act.put, List.setIfInBounds_toArray, List.set_cons_zero, List.set_cons_succ]
  refine s_val (.bool true) (by rfl) (fun w' _ => by rfl) ?_
  simp only [Act.put, List.setIfInBounds_toArray, List.set_cons_zero, List.set_cons_succ]
  refine s_val (.bool true) (by rfl) (fun w' _ => by rfl) ?_
  simp only [Act.put, List.setIfInBounds_toArray, List.set_cons_zero, List.set_cons_succ]
  refine s_done ?_
  intro wf hf
  have F := Lib.hid hf
  clear hf
  go_wp2
  go_ret
  exact ⟨rfl, F.out.2.2.2.2.2⟩
end YtabojeleomfgnaaGreatDoor
end Go.Proofs
namespace Go.Proofs
open Go.RowKit
namespace YtabojeleomfgnaaGreatDoor
section
variable {H : Type} {enc : TypeId × Value → H}
theorem cond_and_shaped {a : Assume} {C : Checked} {os : Os} {f : FuncId} {fn : Func} {s : OpenSpec} {k : (H : Type) → List (DataW H) → Bool} (hk : s.cond = some k) {F : Stop.Interp} {conds : List PathCond} {apart fresh handsOn again : Bool} {X : World → Array Value → Prop}
    (hX : ∀ (w w' : World) (args : Array Value), w.heap = w'.heap → X w args → X w' args)
    (own : ownKnob C.prog.godebug = none) (started : os.Started) (noInit : C.prog.inits.idxOf? f = none) (hfn : C.prog.funcs[f]? = some fn)
    (witness : ∃ (w : World) (tape : Tape) (i : Input), w.os = os ∧ (w.forCall tape i).Shaped C.prog ∧ i.vars = [] ∧ Input.okWide C.prog (w.forCall tape i) .any w.heap.size f i ∧
      ((s.pre enc C.prog fn conds apart (w.forCall tape i).memory i.args ∧ X (w.forCall tape i).memory i.args) ∧ sizedMet enc C.prog fn s apart (w.forCall tape i).memory i.args) ∧ a.holds C.prog (lone (Frame.enter C.prog f i.args .normal) [] (w.forCall tape i)))
    (contract : ∀ (W : World) (base : Nat) (args : Array Value) (ds gs : List (DataW H)) (before : List MemPlace),
      (∀ (j : Nat) t v, fn.params[j]? = some t → args[j]? = some v → Value.okWide C.prog W .any base t v) →
      DataW.Whole enc C.prog fn.params.toList s.vars apart W args.toList ds gs before → k H (ds ++ gs) = true → X W args → W.ShapedOpen C.prog →
      Calls C.prog f args W fun e W' => ∃ v, e = .returned v ∧ (s.at F).post enc C.prog fn apart fresh handsOn again W args v W') :
    ReturnsInHanded a C os f .any (fun w args => (s.pre enc C.prog fn conds apart w args ∧ X w args) ∧ sizedMet enc C.prog fn s apart w args) ((s.at F).post enc C.prog fn apart fresh handsOn again) := by
  refine returnsInHanded_of_calls own started noInit witness ?_
  intro w tape i _ hsh _ hok hpre _
  obtain ⟨_, _, _, fn', hfn', _, _, _, _, hval⟩ := hok
  obtain rfl : fn' = fn := Option.some.inj (hfn'.symm.trans hfn)
  obtain ⟨⟨hp, hx⟩, _⟩ := hpre
  obtain ⟨ds, gs, before, hw, _, hkk⟩ := (OpenSpec.pre_some hk conds apart _ _).1 hp
  refine (contract (w.forCall tape i) w.heap.size i.args ds gs before hval (DataW.Whole.of_heap (w' := w.forCall tape i) (by rfl) hw) hkk (hX _ _ _ (by rfl) hx) hsh).mono fun e W' ⟨v, he, hp⟩ => ?_
  subst he
  exact ChangeSpec.post_blind hp
theorem cond_witness {C : Checked} {os : Os} {f : FuncId} {fn : Func} {s : OpenSpec} {k : (H : Type) → List (DataW H) → Bool} (hk : s.cond = some k) {conds : List PathCond} {apart : Bool} {X : World → Array Value → Prop} (w0 : World) (args : Array Value) (fuel : Nat) (hos : w0.os = os)
    (hsh : (w0.forCall (fun _ _ => 0) ⟨#[], args, []⟩).Shaped C.prog)
    (hok : Input.okWideB C.prog (w0.forCall (fun _ _ => 0) ⟨#[], args, []⟩) f ⟨#[], args, []⟩ = true)
    {x : List (DataW H) × List (DataW H) × List MemPlace} (hx : DataW.whole enc C.prog (w0.forCall (fun _ _ => 0) ⟨#[], args, []⟩).memory fn.params.toList s.vars apart args.toList fuel = some x)
    (hconds : conds.all (PathCond.test C.prog ⟨fn.params.toList, x.1, s.bare.plain.varTypes C.prog, x.2.1⟩) = true) (hkk : k H (x.1 ++ x.2.1) = true)
    (hsz : s.bare.sizedB enc C.prog fn apart (w0.forCall (fun _ _ => 0) ⟨#[], args, []⟩).memory args fuel = true)
    (hX : X (w0.forCall (fun _ _ => 0) ⟨#[], args, []⟩).memory args) :
    ∃ (w : World) (tape : Tape) (i : Input), w.os = os ∧ (w.forCall tape i).Shaped C.prog ∧ i.vars = [] ∧ Input.okWide C.prog (w.forCall tape i) .any w.heap.size f i ∧
      ((s.pre enc C.prog fn conds apart (w.forCall tape i).memory i.args ∧ X (w.forCall tape i).memory i.args) ∧ sizedMet enc C.prog fn s apart (w.forCall tape i).memory i.args) ∧ ({} : Assume).holds C.prog (lone (Frame.enter C.prog f i.args .normal) [] (w.forCall tape i)) :=
  ⟨w0, fun _ _ => 0, ⟨#[], args, []⟩, hos, hsh, (Input.okWide_of_okWideB (base := 0) hok).1, (Input.okWide_of_okWideB hok).2, ⟨⟨(OpenSpec.pre_some hk conds apart _ _).2 ⟨x.1, x.2.1, x.2.2, DataW.Whole_of_whole hx, hconds, hkk⟩, hX⟩, sizedMet_of_sizedB hsz⟩, by
    simp only [Assume.holds]
    exact ⟨by simp, by simp, fun h => (by cases h), by simp, by simp⟩⟩
end
end YtabojeleomfgnaaGreatDoor
end Go.Proofs
