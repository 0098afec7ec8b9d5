/- Guess, Read, the Cast, by the program. Cast and Can, by the program. Cast and Can, by the program; CanCast, by the reference. Cast, by the program. The moment that a text tells, by the reference. The candidates, by the reference. -/
import Derived.Test.YtabojeleomfgnaaGreatDoorCs1
import Derived.Test.YtabojeleomfgnaaGreatDoorA5
import Derived.Test.YtabojeleomfgnaaGreatDoorLq1
namespace Go.Proofs
open Go.RowKit
namespace YtabojeleomfgnaaGreatDoor
set_option maxRecDepth 100000
theorem eq_lit (s t : ByteArray) (l : List UInt8) (h : t.toList = l) : (s.toList == l) = decide (s = t) := by
  subst h
  by_cases e : s = t
  · rw [decide_eq_true e, e]; simp
  · rw [decide_eq_false e]
    have : s.toList ≠ t.toList := fun h => e ((bytes_eq s t).1 h)
    simpa using this
theorem lit_null (s : ByteArray) : (s.toList == [110, 117, 108, 108]) = decide (s = nullB) := eq_lit s nullB _ (by simp [nullB, ByteArray.toList_eq])
theorem lit_true (s : ByteArray) : (s.toList == [116, 114, 117, 101]) = decide (s = trueB) := eq_lit s trueB _ (by simp [trueB, ByteArray.toList_eq])
theorem lit_false (s : ByteArray) : (s.toList == [102, 97, 108, 115, 101]) = decide (s = falseB) := eq_lit s falseB _ (by simp [falseB, ByteArray.toList_eq])
theorem numT_right (k n : Int) : Right (numT k n) := clT_right _
theorem textT_right (s : ByteArray) : Right (textT s) := clT_right _
theorem datedT_right (a b c d e f : Int) : Right (datedT a b c d e f) := by
  unfold datedT
  split
  · exact numT_right 4 _
  · exact nullT_right
theorem guess_right (s : ByteArray) : Right (guessT s) := by
  unfold guessT
  split
  · exact nullT_right
  · split
    · exact boolT_right true
    · split
      · exact boolT_right false
      · split
        · unfold gtextT
          split
          · exact nullT_right
          · exact textT_right _
        · split
          · unfold gmomT
            split
            · exact datedT_right _ _ _ _ _ _
            · exact nullT_right
          · unfold numbT
            split
            · exact numT_right 2 _
            · exact nullT_right
set_option maxHeartbeats 2000000 in
theorem guess_t (s : ByteArray) (hs : s.size ≤ 2000000) (w : World) (hL : Lb w) : Calls Tryz.prog 104 #[.string s] w fun e w' => e = .returned (toV (guessT s)) ∧ Below w.heap.size w w' := by
  have HL := Lib.hid hL
  have CT := Lib.hid (fun w hw => gtext_t s hs w hw)
  have CM := Lib.hid (fun w hw => gmom_t s hs w hw)
  clear hL
  have hR : guessT s = if s = nullB then nullT else if s = trueB then boolT true else if s = falseB then boolT false else if hpB s ⟨#[39]⟩ = true then gtextT s else if hpB s ⟨#[64]⟩ = true then gmomT s else numbT s := rfl
  generalize guessT s = R at *
  generalize gtextT s = RT at *
  generalize gmomT s = RM at *
  have R0 : Hid ((w.alloc (.cells #[.int .i64 0, .int .i64 0, .string ⟨#[]⟩] 23)).heap[w.heap.size]? = some (.cells (cells nullT) 23 (0, 0))) := Lib.hid (heap_alloc_new w _)
  by_cases c1 : s = nullB
  · have HE : Hid (R = nullT) := Lib.hid (by rw [hR, if_pos c1])
    have n1 : (s.toList == [110, 117, 108, 108]) = true := by rw [lit_null, decide_eq_true c1]
    clear hR c1
    go_enter Tryz.func104, Tryz.ntmps104
    go_wp2_with (refine store23 rfl (.tmp 2) (.tmp 8) rfl w.heap.size nullT rfl rfl nullT (new_at _ _ _ rfl) ?_; intro wz hp; have HP := Lib.hid hp; clear hp)
    exact bodyPost_ret (ret23 rfl rfl HP.out.at') rfl ⟨by rw [HE.out], HP.out.low (by go_grown) (Nat.le_refl _)⟩
  have n1 : (s.toList == [110, 117, 108, 108]) = false := by rw [lit_null, decide_eq_false c1]
  by_cases c2 : s = trueB
  · have HE : Hid (R = boolT true) := Lib.hid (by rw [hR, if_neg c1, if_pos c2])
    have n2 : (s.toList == [116, 114, 117, 101]) = true := by rw [lit_true, decide_eq_true c2]
    clear hR c1 c2
    go_enter Tryz.func104, Tryz.ntmps104
    go_wp2_with fail
    refine (bool_t _ _).mono ?_
    rintro e w1 ⟨rfl, hb1⟩
    have R1 : Hid (w1.heap[w.heap.size]? = some (.cells (cells nullT) 23 (0, 0))) := Lib.hid ((hb1.block _ (by simp)).trans (new_at _ _ _ rfl))
    have B1 := Lib.hid (below_call (w := w) (by go_grown) hb1)
    clear hb1
    go_wp2_with (refine store23 rfl (.tmp 2) (.tmp 18) rfl w.heap.size (boolT true) rfl rfl _ R1.out ?_; intro wz hp; have HP := Lib.hid hp; clear hp)
    exact bodyPost_ret (ret23 rfl rfl HP.out.at') rfl ⟨by rw [HE.out], HP.out.low B1.out (Nat.le_refl _)⟩
  have n2 : (s.toList == [116, 114, 117, 101]) = false := by rw [lit_true, decide_eq_false c2]
  by_cases c3 : s = falseB
  · have HE : Hid (R = boolT false) := Lib.hid (by rw [hR, if_neg c1, if_neg c2, if_pos c3])
    have n3 : (s.toList == [102, 97, 108, 115, 101]) = true := by rw [lit_false, decide_eq_true c3]
    clear hR c1 c2 c3
    go_enter Tryz.func104, Tryz.ntmps104
    go_wp2_with fail
    refine (bool_t _ _).mono ?_
    rintro e w1 ⟨rfl, hb1⟩
    have R1 : Hid (w1.heap[w.heap.size]? = some (.cells (cells nullT) 23 (0, 0))) := Lib.hid ((hb1.block _ (by simp)).trans (new_at _ _ _ rfl))
    have B1 := Lib.hid (below_call (w := w) (by go_grown) hb1)
    clear hb1
    go_wp2_with (refine store23 rfl (.tmp 2) (.tmp 18) rfl w.heap.size (boolT false) rfl rfl _ R1.out ?_; intro wz hp; have HP := Lib.hid hp; clear hp)
    exact bodyPost_ret (ret23 rfl rfl HP.out.at') rfl ⟨by rw [HE.out], HP.out.low B1.out (Nat.le_refl _)⟩
  have n3 : (s.toList == [102, 97, 108, 115, 101]) = false := by rw [lit_false, decide_eq_false c3]
  rw [if_neg c1, if_neg c2, if_neg c3] at hR
  clear c1 c2 c3
  cases c4 : hpB s ⟨#[39]⟩ with
  | true =>
    have HE : Hid (R = RT) := Lib.hid (by rw [hR, if_pos c4])
    have p1 := Lib.hid c4
    clear hR c4
    go_enter Tryz.func104, Tryz.ntmps104
    go_wp2_with fail
    refine (hasPrefix_any _ _ _).mono ?_
    rintro e wx ⟨rfl, hwx⟩
    rw [← hwx]
    clear hwx wx
    simp only [p1.out]
    go_wp2_with fail
    refine (CT.out _ (HL.out.alloc _)).mono ?_
    rintro e w1 ⟨rfl, hb1⟩
    have R1 : Hid (w1.heap[w.heap.size]? = some (.cells (cells nullT) 23 (0, 0))) := Lib.hid ((hb1.block _ (by simp)).trans (new_at _ _ _ rfl))
    have B1 := Lib.hid (below_call (w := w) (by go_grown) hb1)
    clear hb1
    go_wp2_with (refine store23 rfl (.tmp 2) (.tmp 23) rfl w.heap.size (RT) rfl rfl _ R1.out ?_; intro wz hp; have HP := Lib.hid hp; clear hp)
    exact bodyPost_ret (ret23 rfl rfl HP.out.at') rfl ⟨by rw [HE.out], HP.out.low B1.out (Nat.le_refl _)⟩
  | false =>
  rw [if_neg (by rw [c4]; decide)] at hR
  have p1 := Lib.hid c4
  clear c4
  cases c5 : hpB s ⟨#[64]⟩ with
  | true =>
    have HE : Hid (R = RM) := Lib.hid (by rw [hR, if_pos c5])
    have p2 := Lib.hid c5
    clear hR c5
    go_enter Tryz.func104, Tryz.ntmps104
    go_wp2_with fail
    refine (hasPrefix_any _ _ _).mono ?_
    rintro e wx ⟨rfl, hwx⟩
    rw [← hwx]
    clear hwx wx
    simp only [p1.out]
    go_wp2_with fail
    refine (hasPrefix_any _ _ _).mono ?_
    rintro e wx ⟨rfl, hwx⟩
    rw [← hwx]
    clear hwx wx
    simp only [p2.out]
    go_wp2_with fail
    refine (CM.out _ (HL.out.alloc _)).mono ?_
    rintro e w1 ⟨rfl, hb1⟩
    have R1 : Hid (w1.heap[w.heap.size]? = some (.cells (cells nullT) 23 (0, 0))) := Lib.hid ((hb1.block _ (by simp)).trans (new_at _ _ _ rfl))
    have B1 := Lib.hid (below_call (w := w) (by go_grown) hb1)
    clear hb1
    go_wp2_with (refine store23 rfl (.tmp 2) (.tmp 28) rfl w.heap.size (RM) rfl rfl _ R1.out ?_; intro wz hp; have HP := Lib.hid hp; clear hp)
    exact bodyPost_ret (ret23 rfl rfl HP.out.at') rfl ⟨by rw [HE.out], HP.out.low B1.out (Nat.le_refl _)⟩
  | false =>
  rw [if_neg (by rw [c5]; decide)] at hR
  have p2 := Lib.hid c5
  clear c5
  cases ca : atoiT s with
  | some n =>
    have HE : Hid (R = numT 2 n) := Lib.hid (by rw [hR]; unfold numbT; rw [ca])
    have CA := Lib.hid (atoi_ok s (by omega) n ca)
    clear hR ca
    go_enter Tryz.func104, Tryz.ntmps104
    go_wp2_with fail
    refine (hasPrefix_any _ _ _).mono ?_
    rintro e wx ⟨rfl, hwx⟩
    rw [← hwx]
    clear hwx wx
    simp only [p1.out]
    go_wp2_with fail
    refine (hasPrefix_any _ _ _).mono ?_
    rintro e wx ⟨rfl, hwx⟩
    rw [← hwx]
    clear hwx wx
    simp only [p2.out]
    go_wp2_with fail
    refine (CA.out _).mono ?_
    rintro e w1 ⟨rfl, hb1⟩
    have R1 : Hid (w1.heap[w.heap.size]? = some (.cells (cells nullT) 23 (0, 0))) := Lib.hid ((hb1.block _ (by simp)).trans (new_at _ _ _ rfl))
    have B1 := Lib.hid (below_call (w := w) (by go_grown) hb1)
    clear hb1
    go_wp2_with fail
    refine (number_t _ _ _).mono ?_
    rintro e w2 ⟨rfl, hb2⟩
    have R2 : Hid (w2.heap[w.heap.size]? = some (.cells (cells nullT) 23 (0, 0))) := Lib.hid ((hb2.block _ (lt_of_block R1.out)).trans R1.out)
    have B2 := Lib.hid (below_call B1.out hb2)
    clear hb2
    go_wp2_with (refine store23 rfl (.tmp 2) (.tmp 38) rfl w.heap.size (numT 2 n) rfl rfl _ R2.out ?_; intro wz hp; have HP := Lib.hid hp; clear hp)
    exact bodyPost_ret (ret23 rfl rfl HP.out.at') rfl ⟨by rw [HE.out], HP.out.low B2.out (Nat.le_refl _)⟩
  | none =>
    have HE : Hid (R = nullT) := Lib.hid (by rw [hR]; unfold numbT; rw [ca])
    have CA := Lib.hid (fun w hw => atoi_no s (by omega) ca w hw)
    clear hR ca
    go_enter Tryz.func104, Tryz.ntmps104
    go_wp2_with fail
    refine (hasPrefix_any _ _ _).mono ?_
    rintro e wx ⟨rfl, hwx⟩
    rw [← hwx]
    clear hwx wx
    simp only [p1.out]
    go_wp2_with fail
    refine (hasPrefix_any _ _ _).mono ?_
    rintro e wx ⟨rfl, hwx⟩
    rw [← hwx]
    clear hwx wx
    simp only [p2.out]
    go_wp2_with fail
    refine (CA.out _ (HL.out.alloc _)).mono ?_
    rintro e w1 ⟨⟨k, p, rfl⟩, hb1⟩
    have R1 : Hid (w1.heap[w.heap.size]? = some (.cells (cells nullT) 23 (0, 0))) := Lib.hid ((hb1.block _ (by simp)).trans (new_at _ _ _ rfl))
    have B1 := Lib.hid (below_call (w := w) (by go_grown) hb1)
    clear hb1
    go_wp2_with (refine store23 rfl (.tmp 2) (.tmp 36) rfl w.heap.size nullT rfl rfl _ R1.out ?_; intro wz hp; have HP := Lib.hid hp; clear hp)
    exact bodyPost_ret (ret23 rfl rfl HP.out.at') rfl ⟨by rw [HE.out], HP.out.low B1.out (Nat.le_refl _)⟩
/-! Read -/
theorem ret23_tmp {fn : Func} {r q : Tmp} (h : fn.results = #[.cell r 23, .tmp q]) {tmps : Array Value} {w : World} {g : Nat} {x : V3} {v : Value} (hp : tmps.getD r undef = .pointer (some ⟨g, 0, none⟩)) (hg : w.heap[g]? = some (.cells (cells x) 23 (0, 0))) (hq : tmps.getD q undef = v) :
    (results fn tmps).run Tryz.prog w = .ok (.tuple #[toV x, v]) w := by
  have hp' : tmps[r]?.getD undef = .pointer (some ⟨g, 0, none⟩) := by simpa using hp
  have hl := run_loadVar_row (P := Tryz.prog) w g 23 23 (cells x) (0, 0) _ hg Tryz.underlying23 rfl size23
  have hq' : tmps[q]?.getD undef = v := by simpa using hq
  simp [results, h, hp', asAddr, hl, hq']
  rfl
noncomputable def readT (s : ByteArray) : V3 := if showT (guessT s) = s then guessT s else nullT
noncomputable def readE (s : ByteArray) : Int := if showT (guessT s) = s then 0 else 14
set_option maxHeartbeats 1000000 in
theorem read_t (s : ByteArray) (hs : s.size ≤ 2000000) (w : World) (hL : Lb w) : Calls Tryz.prog 32 #[.string s] w fun e w' => e = .returned (.tuple #[toV (readT s), .int .i64 (readE s)]) ∧ Below w.heap.size w w' := by
  have HL := Lib.hid hL
  have CG := Lib.hid (fun w hw => guess_t s hs w hw)
  have CS := Lib.hid (fun w hw => (clT_of_right (guess_right s)) ▸ show_t (guessT s) (guess_right s).sz w hw)
  have h1 : readT s = if showT (guessT s) = s then guessT s else nullT := rfl
  have h2 : readE s = if showT (guessT s) = s then 0 else 14 := rfl
  clear hL
  generalize readT s = R at *
  generalize readE s = E at *
  generalize showT (guessT s) = S at *
  generalize guessT s = G at *
  obtain ⟨k, n, t⟩ := G
  by_cases hc : S = s
  · have HE : Hid (R = (k, n, t) ∧ E = 0) := Lib.hid ⟨by rw [h1, if_pos hc], by rw [h2, if_pos hc]⟩
    have ne : (S.toList == s.toList) = true := by rw [hc]; simp
    clear h1 h2 hc
    go_enter Tryz.func32, Tryz.ntmps32
    go_wp2_with fail
    refine (CG.out _ (HL.out.alloc _)).mono ?_
    rintro e w1 ⟨rfl, hb1⟩
    have R1 : Hid (w1.heap[w.heap.size]? = some (.cells (cells nullT) 23 (0, 0))) := Lib.hid ((hb1.block _ (by simp)).trans (new_at _ _ _ rfl))
    have B1 := Lib.hid (below_call (w := w) (by go_grown) hb1)
    clear hb1
    go_wp2_with (refine store23 rfl (.tmp 4) (.tmp 6) rfl w1.heap.size (k, n, t) rfl rfl nullT (new_at _ _ _ rfl) ?_; intro w2 hp; have HP := Lib.hid hp; clear hp; have R2 : Hid (w2.heap[w.heap.size]? = some (.cells (cells nullT) 23 (0, 0))) := Lib.hid ((HP.out.keeps.block _ (by simp only [World.size_alloc]; have := lt_of_block R1.out; omega) (by have := lt_of_block R1.out; omega)).trans ((heap_alloc_old _ _ (lt_of_block R1.out)).trans R1.out)); have B2 := Lib.hid (HP.out.low (B1.out.alloc B1.out.size _) B1.out.size); have X2 := Lib.hid HP.out.at'; have a0 : w2.cell? ⟨w1.heap.size, 0, none⟩ = some (.int .i64 k) := (cell_of_row w2 _ 0 _ _ _ X2.out).trans rfl; have a1 : w2.cell? ⟨w1.heap.size, 1, none⟩ = some (.int .i64 n) := (cell_of_row w2 _ 1 _ _ _ X2.out).trans rfl; have a2 : w2.cell? ⟨w1.heap.size, 2, none⟩ = some (.string t) := (cell_of_row w2 _ 2 _ _ _ X2.out).trans rfl; clear HP)
    refine (CS.out _ (HL.out.below B2.out)).mono ?_
    rintro e w3 ⟨rfl, hb3⟩
    have R3 : Hid (w3.heap[w.heap.size]? = some (.cells (cells nullT) 23 (0, 0))) := Lib.hid ((hb3.block _ (lt_of_block R2.out)).trans R2.out)
    have X3 := Lib.hid ((hb3.block _ (lt_of_block X2.out)).trans X2.out)
    have B3 := Lib.hid (below_call B2.out hb3)
    clear hb3 a0 a1 a2
    have a0 : w3.cell? ⟨w1.heap.size, 0, none⟩ = some (.int .i64 k) := (cell_of_row w3 _ 0 _ _ _ X3.out).trans rfl
    have a1 : w3.cell? ⟨w1.heap.size, 1, none⟩ = some (.int .i64 n) := (cell_of_row w3 _ 1 _ _ _ X3.out).trans rfl
    have a2 : w3.cell? ⟨w1.heap.size, 2, none⟩ = some (.string t) := (cell_of_row w3 _ 2 _ _ _ X3.out).trans rfl
    go_wp2_with (refine store23 rfl (.tmp 2) (.tmp 12) rfl w.heap.size (k, n, t) rfl rfl _ R3.out ?_; intro wz hp; have HP := Lib.hid hp; clear hp)
    exact bodyPost_ret (ret23_tmp rfl rfl HP.out.at' rfl) rfl ⟨by rw [HE.out.1, HE.out.2]; rfl, HP.out.low B3.out (Nat.le_refl _)⟩
  · have HE : Hid (R = nullT ∧ E = 14) := Lib.hid ⟨by rw [h1, if_neg hc], by rw [h2, if_neg hc]⟩
    have ne : (S.toList == s.toList) = false := by
      have : S.toList ≠ s.toList := fun h => hc ((bytes_eq S s).1 h)
      simpa using this
    clear h1 h2 hc
    go_enter Tryz.func32, Tryz.ntmps32
    go_wp2_with fail
    refine (CG.out _ (HL.out.alloc _)).mono ?_
    rintro e w1 ⟨rfl, hb1⟩
    have R1 : Hid (w1.heap[w.heap.size]? = some (.cells (cells nullT) 23 (0, 0))) := Lib.hid ((hb1.block _ (by simp)).trans (new_at _ _ _ rfl))
    have B1 := Lib.hid (below_call (w := w) (by go_grown) hb1)
    clear hb1
    go_wp2_with (refine store23 rfl (.tmp 4) (.tmp 6) rfl w1.heap.size (k, n, t) rfl rfl nullT (new_at _ _ _ rfl) ?_; intro w2 hp; have HP := Lib.hid hp; clear hp; have R2 : Hid (w2.heap[w.heap.size]? = some (.cells (cells nullT) 23 (0, 0))) := Lib.hid ((HP.out.keeps.block _ (by simp only [World.size_alloc]; have := lt_of_block R1.out; omega) (by have := lt_of_block R1.out; omega)).trans ((heap_alloc_old _ _ (lt_of_block R1.out)).trans R1.out)); have B2 := Lib.hid (HP.out.low (B1.out.alloc B1.out.size _) B1.out.size); have X2 := Lib.hid HP.out.at'; have a0 : w2.cell? ⟨w1.heap.size, 0, none⟩ = some (.int .i64 k) := (cell_of_row w2 _ 0 _ _ _ X2.out).trans rfl; have a1 : w2.cell? ⟨w1.heap.size, 1, none⟩ = some (.int .i64 n) := (cell_of_row w2 _ 1 _ _ _ X2.out).trans rfl; have a2 : w2.cell? ⟨w1.heap.size, 2, none⟩ = some (.string t) := (cell_of_row w2 _ 2 _ _ _ X2.out).trans rfl; clear HP)
    refine (CS.out _ (HL.out.below B2.out)).mono ?_
    rintro e w3 ⟨rfl, hb3⟩
    have R3 : Hid (w3.heap[w.heap.size]? = some (.cells (cells nullT) 23 (0, 0))) := Lib.hid ((hb3.block _ (lt_of_block R2.out)).trans R2.out)
    have X3 := Lib.hid ((hb3.block _ (lt_of_block X2.out)).trans X2.out)
    have B3 := Lib.hid (below_call B2.out hb3)
    clear hb3 a0 a1 a2
    go_wp2_with (refine store23 rfl (.tmp 2) (.tmp 11) rfl w.heap.size nullT rfl rfl _ R3.out ?_; intro wz hp; have HP := Lib.hid hp; clear hp)
    exact bodyPost_ret (ret23_tmp rfl rfl HP.out.at' rfl) rfl ⟨by rw [HE.out.1, HE.out.2]; rfl, HP.out.low B3.out (Nat.le_refl _)⟩
end YtabojeleomfgnaaGreatDoor
end Go.Proofs
namespace Go.Proofs
open Go.RowKit
namespace YtabojeleomfgnaaGreatDoor
set_option maxRecDepth 100000
noncomputable def castS (x : V3) : ByteArray := if x.1 = 4 then momB x.2.1 else showT x
theorem showCast_t (x : V3) (hx : Right x) (w : World) (hL : Lb w) : Calls Tryz.prog 140 #[toV x] w fun e w' => e = .returned (.string (castS x)) ∧ Below w.heap.size w w' := by
  have HL := Lib.hid hL
  have CX := Lib.hid (fun w hw => (clT_of_right hx) ▸ show_t x hx.sz w hw)
  have hR : castS x = if x.1 = 4 then momB x.2.1 else showT x := rfl
  have CM := Lib.hid (fun (h4 : x.1 = 4) w hw => showMoment_t x.2.1 (hx.moment h4).1 (hx.moment h4).2.1 w hw)
  generalize castS x = R at *
  generalize showT x = S at *
  clear hL hx
  obtain ⟨K, n, s⟩ := x
  dsimp only at hR CM
  generalize momB n = Z at *
  change Calls Tryz.prog 140 #[val K n s] w _
  cases hk : (K == 4) with
  | true =>
    have h4 : K = 4 := by simpa using hk
    have HE : Hid (R = Z) := Lib.hid (by rw [hR, if_pos h4])
    have CM := Lib.hid (CM.out h4)
    clear hR h4
    go_enter Tryz.func140, Tryz.ntmps140
    go_wp2_with fail
    refine (CM.out _ (HL.out.alloc _)).mono ?_
    rintro e w1 ⟨rfl, hb1⟩
    have B1 := Lib.hid (below_call (w := w) (by go_grown) hb1)
    clear hb1
    go_wp2
    go_ret
    exact ⟨by rw [HE.out]; rfl, B1.out⟩
  | false =>
    have HE : Hid (R = S) := Lib.hid (by rw [hR, if_neg (by simpa using hk)])
    clear hR CM
    go_enter Tryz.func140, Tryz.ntmps140
    go_wp2_with fail
    refine (CX.out _ (HL.out.alloc _)).mono ?_
    rintro e w1 ⟨rfl, hb1⟩
    have B1 := Lib.hid (below_call (w := w) (by go_grown) hb1)
    clear hb1
    go_wp2
    go_ret
    exact ⟨by rw [HE.out]; rfl, B1.out⟩
theorem rc_cases (t : ByteArray) (k : Int) : (readE t = 14 ∧ rcT t k = nullT) ∨ (readE t = 0 ∧ (readT t).1 = k ∧ rcT t k = readT t) ∨ (readE t = 0 ∧ (readT t).1 ≠ k ∧ rcT t k = nullT) := by
  unfold readE readT rcT
  by_cases h : showT (guessT t) = t
  · rw [if_pos h, if_pos h]
    by_cases hk : (guessT t).1 = k
    · exact Or.inr (Or.inl ⟨rfl, hk, if_pos ⟨h, hk⟩⟩)
    · exact Or.inr (Or.inr ⟨rfl, hk, if_neg (fun h2 => hk h2.2)⟩)
  · rw [if_neg h, if_neg h]
    exact Or.inl ⟨rfl, if_neg (fun h2 => h h2.1)⟩
set_option maxHeartbeats 2000000 in
theorem readCast_t (s : ByteArray) (hs : s.size ≤ 900) (k : Int) (w : World) (hL : Lb w) : Calls Tryz.prog 141 #[.string s, .int .i64 k] w fun e w' => e = .returned (toV (rcT (if k = 4 then ⟨#[64]⟩ ++ s else s) k)) ∧ Below w.heap.size w w' := by
  have HL := Lib.hid hL
  have e4 : (⟨#[64]⟩ : ByteArray).size = 1 := rfl
  clear hL
  by_cases hk : k = 4
  · subst hk
    rw [if_pos rfl]
    have CR := Lib.hid (fun w hw => read_t (⟨#[64]⟩ ++ s) (by rw [ByteArray.size_append]; omega) w hw)
    have hc := rc_cases (⟨#[64]⟩ ++ s) 4
    generalize rcT (⟨#[64]⟩ ++ s) 4 = R at *
    generalize readE (⟨#[64]⟩ ++ s) = E at *
    generalize readT (⟨#[64]⟩ ++ s) = G at *
    obtain ⟨a, n, t⟩ := G
    dsimp only at hc
    rcases hc with ⟨rfl, h2⟩ | ⟨rfl, h1, h2⟩ | ⟨rfl, h1, h2⟩
    · have HE := Lib.hid h2
      clear h2
      go_enter Tryz.func141, Tryz.ntmps141
      go_wp2_with fail
      refine (CR.out _ (HL.out.alloc _)).mono ?_
      rintro e w1 ⟨rfl, hb1⟩
      have R1 : Hid (w1.heap[w.heap.size]? = some (.cells (cells nullT) 23 (0, 0))) := Lib.hid ((hb1.block _ (by simp)).trans (new_at _ _ _ rfl))
      have B1 := Lib.hid (below_call (w := w) (by go_grown) hb1)
      clear hb1
      go_wp2_with (first | (refine store23 rfl (.tmp 5) (.tmp 14) rfl w1.heap.size (a, n, t) rfl rfl nullT (new_at _ _ _ rfl) ?_; intro w2 hp; have HP := Lib.hid hp; clear hp; have R2 : Hid (w2.heap[w.heap.size]? = some (.cells (cells nullT) 23 (0, 0))) := Lib.hid ((HP.out.keeps.block _ (by simp only [World.size_alloc]; have := lt_of_block R1.out; omega) (by have := lt_of_block R1.out; omega)).trans ((heap_alloc_old _ _ (lt_of_block R1.out)).trans R1.out)); have B2 := Lib.hid (HP.out.low (B1.out.alloc B1.out.size _) B1.out.size); have X2 := Lib.hid HP.out.at'; have a0 : w2.cell? ⟨w1.heap.size, 0, none⟩ = some (.int .i64 a) := (cell_of_row w2 _ 0 _ _ _ X2.out).trans rfl; have a1 : w2.cell? ⟨w1.heap.size, 1, none⟩ = some (.int .i64 n) := (cell_of_row w2 _ 1 _ _ _ X2.out).trans rfl; have a2 : w2.cell? ⟨w1.heap.size, 2, none⟩ = some (.string t) := (cell_of_row w2 _ 2 _ _ _ X2.out).trans rfl; clear HP) | (refine store23 rfl (.tmp 4) (.tmp 24) rfl w.heap.size nullT rfl rfl _ R2.out ?_; intro wz hp; have HP := Lib.hid hp; clear hp))
      exact bodyPost_ret (ret23 rfl rfl HP.out.at') rfl ⟨by rw [HE.out], HP.out.low B2.out (Nat.le_refl _)⟩
    · have HE := Lib.hid h2
      clear h2
      have ne : (a == 4) = true := by simpa using h1
      clear h1
      go_enter Tryz.func141, Tryz.ntmps141
      go_wp2_with fail
      refine (CR.out _ (HL.out.alloc _)).mono ?_
      rintro e w1 ⟨rfl, hb1⟩
      have R1 : Hid (w1.heap[w.heap.size]? = some (.cells (cells nullT) 23 (0, 0))) := Lib.hid ((hb1.block _ (by simp)).trans (new_at _ _ _ rfl))
      have B1 := Lib.hid (below_call (w := w) (by go_grown) hb1)
      clear hb1
      go_wp2_with (first | (refine store23 rfl (.tmp 5) (.tmp 14) rfl w1.heap.size (a, n, t) rfl rfl nullT (new_at _ _ _ rfl) ?_; intro w2 hp; have HP := Lib.hid hp; clear hp; have R2 : Hid (w2.heap[w.heap.size]? = some (.cells (cells nullT) 23 (0, 0))) := Lib.hid ((HP.out.keeps.block _ (by simp only [World.size_alloc]; have := lt_of_block R1.out; omega) (by have := lt_of_block R1.out; omega)).trans ((heap_alloc_old _ _ (lt_of_block R1.out)).trans R1.out)); have B2 := Lib.hid (HP.out.low (B1.out.alloc B1.out.size _) B1.out.size); have X2 := Lib.hid HP.out.at'; have a0 : w2.cell? ⟨w1.heap.size, 0, none⟩ = some (.int .i64 a) := (cell_of_row w2 _ 0 _ _ _ X2.out).trans rfl; have a1 : w2.cell? ⟨w1.heap.size, 1, none⟩ = some (.int .i64 n) := (cell_of_row w2 _ 1 _ _ _ X2.out).trans rfl; have a2 : w2.cell? ⟨w1.heap.size, 2, none⟩ = some (.string t) := (cell_of_row w2 _ 2 _ _ _ X2.out).trans rfl; clear HP) | (refine store23 rfl (.tmp 4) (.tmp 25) rfl w.heap.size (a, n, t) rfl rfl _ R2.out ?_; intro wz hp; have HP := Lib.hid hp; clear hp))
      exact bodyPost_ret (ret23 rfl rfl HP.out.at') rfl ⟨by rw [HE.out], HP.out.low B2.out (Nat.le_refl _)⟩
    · have HE := Lib.hid h2
      clear h2
      have ne : (a == 4) = false := by simpa using h1
      clear h1
      go_enter Tryz.func141, Tryz.ntmps141
      go_wp2_with fail
      refine (CR.out _ (HL.out.alloc _)).mono ?_
      rintro e w1 ⟨rfl, hb1⟩
      have R1 : Hid (w1.heap[w.heap.size]? = some (.cells (cells nullT) 23 (0, 0))) := Lib.hid ((hb1.block _ (by simp)).trans (new_at _ _ _ rfl))
      have B1 := Lib.hid (below_call (w := w) (by go_grown) hb1)
      clear hb1
      go_wp2_with (first | (refine store23 rfl (.tmp 5) (.tmp 14) rfl w1.heap.size (a, n, t) rfl rfl nullT (new_at _ _ _ rfl) ?_; intro w2 hp; have HP := Lib.hid hp; clear hp; have R2 : Hid (w2.heap[w.heap.size]? = some (.cells (cells nullT) 23 (0, 0))) := Lib.hid ((HP.out.keeps.block _ (by simp only [World.size_alloc]; have := lt_of_block R1.out; omega) (by have := lt_of_block R1.out; omega)).trans ((heap_alloc_old _ _ (lt_of_block R1.out)).trans R1.out)); have B2 := Lib.hid (HP.out.low (B1.out.alloc B1.out.size _) B1.out.size); have X2 := Lib.hid HP.out.at'; have a0 : w2.cell? ⟨w1.heap.size, 0, none⟩ = some (.int .i64 a) := (cell_of_row w2 _ 0 _ _ _ X2.out).trans rfl; have a1 : w2.cell? ⟨w1.heap.size, 1, none⟩ = some (.int .i64 n) := (cell_of_row w2 _ 1 _ _ _ X2.out).trans rfl; have a2 : w2.cell? ⟨w1.heap.size, 2, none⟩ = some (.string t) := (cell_of_row w2 _ 2 _ _ _ X2.out).trans rfl; clear HP) | (refine store23 rfl (.tmp 4) (.tmp 24) rfl w.heap.size nullT rfl rfl _ R2.out ?_; intro wz hp; have HP := Lib.hid hp; clear hp))
      exact bodyPost_ret (ret23 rfl rfl HP.out.at') rfl ⟨by rw [HE.out], HP.out.low B2.out (Nat.le_refl _)⟩
  · rw [if_neg hk]
    have hk4 : (k == 4) = false := by simpa using hk
    clear hk
    have CR := Lib.hid (fun w hw => read_t (s) (by omega) w hw)
    have hc := rc_cases (s) k
    generalize rcT (s) k = R at *
    generalize readE (s) = E at *
    generalize readT (s) = G at *
    obtain ⟨a, n, t⟩ := G
    dsimp only at hc
    rcases hc with ⟨rfl, h2⟩ | ⟨rfl, h1, h2⟩ | ⟨rfl, h1, h2⟩
    · have HE := Lib.hid h2
      clear h2
      go_enter Tryz.func141, Tryz.ntmps141
      go_wp2_with fail
      refine (CR.out _ (HL.out.alloc _)).mono ?_
      rintro e w1 ⟨rfl, hb1⟩
      have R1 : Hid (w1.heap[w.heap.size]? = some (.cells (cells nullT) 23 (0, 0))) := Lib.hid ((hb1.block _ (by simp)).trans (new_at _ _ _ rfl))
      have B1 := Lib.hid (below_call (w := w) (by go_grown) hb1)
      clear hb1
      go_wp2_with (first | (refine store23 rfl (.tmp 5) (.tmp 14) rfl w1.heap.size (a, n, t) rfl rfl nullT (new_at _ _ _ rfl) ?_; intro w2 hp; have HP := Lib.hid hp; clear hp; have R2 : Hid (w2.heap[w.heap.size]? = some (.cells (cells nullT) 23 (0, 0))) := Lib.hid ((HP.out.keeps.block _ (by simp only [World.size_alloc]; have := lt_of_block R1.out; omega) (by have := lt_of_block R1.out; omega)).trans ((heap_alloc_old _ _ (lt_of_block R1.out)).trans R1.out)); have B2 := Lib.hid (HP.out.low (B1.out.alloc B1.out.size _) B1.out.size); have X2 := Lib.hid HP.out.at'; have a0 : w2.cell? ⟨w1.heap.size, 0, none⟩ = some (.int .i64 a) := (cell_of_row w2 _ 0 _ _ _ X2.out).trans rfl; have a1 : w2.cell? ⟨w1.heap.size, 1, none⟩ = some (.int .i64 n) := (cell_of_row w2 _ 1 _ _ _ X2.out).trans rfl; have a2 : w2.cell? ⟨w1.heap.size, 2, none⟩ = some (.string t) := (cell_of_row w2 _ 2 _ _ _ X2.out).trans rfl; clear HP) | (refine store23 rfl (.tmp 4) (.tmp 24) rfl w.heap.size nullT rfl rfl _ R2.out ?_; intro wz hp; have HP := Lib.hid hp; clear hp))
      exact bodyPost_ret (ret23 rfl rfl HP.out.at') rfl ⟨by rw [HE.out], HP.out.low B2.out (Nat.le_refl _)⟩
    · have HE := Lib.hid h2
      clear h2
      have ne : (a == k) = true := by simpa using h1
      clear h1
      go_enter Tryz.func141, Tryz.ntmps141
      go_wp2_with fail
      refine (CR.out _ (HL.out.alloc _)).mono ?_
      rintro e w1 ⟨rfl, hb1⟩
      have R1 : Hid (w1.heap[w.heap.size]? = some (.cells (cells nullT) 23 (0, 0))) := Lib.hid ((hb1.block _ (by simp)).trans (new_at _ _ _ rfl))
      have B1 := Lib.hid (below_call (w := w) (by go_grown) hb1)
      clear hb1
      go_wp2_with (first | (refine store23 rfl (.tmp 5) (.tmp 14) rfl w1.heap.size (a, n, t) rfl rfl nullT (new_at _ _ _ rfl) ?_; intro w2 hp; have HP := Lib.hid hp; clear hp; have R2 : Hid (w2.heap[w.heap.size]? = some (.cells (cells nullT) 23 (0, 0))) := Lib.hid ((HP.out.keeps.block _ (by simp only [World.size_alloc]; have := lt_of_block R1.out; omega) (by have := lt_of_block R1.out; omega)).trans ((heap_alloc_old _ _ (lt_of_block R1.out)).trans R1.out)); have B2 := Lib.hid (HP.out.low (B1.out.alloc B1.out.size _) B1.out.size); have X2 := Lib.hid HP.out.at'; have a0 : w2.cell? ⟨w1.heap.size, 0, none⟩ = some (.int .i64 a) := (cell_of_row w2 _ 0 _ _ _ X2.out).trans rfl; have a1 : w2.cell? ⟨w1.heap.size, 1, none⟩ = some (.int .i64 n) := (cell_of_row w2 _ 1 _ _ _ X2.out).trans rfl; have a2 : w2.cell? ⟨w1.heap.size, 2, none⟩ = some (.string t) := (cell_of_row w2 _ 2 _ _ _ X2.out).trans rfl; clear HP) | (refine store23 rfl (.tmp 4) (.tmp 25) rfl w.heap.size (a, n, t) rfl rfl _ R2.out ?_; intro wz hp; have HP := Lib.hid hp; clear hp))
      exact bodyPost_ret (ret23 rfl rfl HP.out.at') rfl ⟨by rw [HE.out], HP.out.low B2.out (Nat.le_refl _)⟩
    · have HE := Lib.hid h2
      clear h2
      have ne : (a == k) = false := by simpa using h1
      clear h1
      go_enter Tryz.func141, Tryz.ntmps141
      go_wp2_with fail
      refine (CR.out _ (HL.out.alloc _)).mono ?_
      rintro e w1 ⟨rfl, hb1⟩
      have R1 : Hid (w1.heap[w.heap.size]? = some (.cells (cells nullT) 23 (0, 0))) := Lib.hid ((hb1.block _ (by simp)).trans (new_at _ _ _ rfl))
      have B1 := Lib.hid (below_call (w := w) (by go_grown) hb1)
      clear hb1
      go_wp2_with (first | (refine store23 rfl (.tmp 5) (.tmp 14) rfl w1.heap.size (a, n, t) rfl rfl nullT (new_at _ _ _ rfl) ?_; intro w2 hp; have HP := Lib.hid hp; clear hp; have R2 : Hid (w2.heap[w.heap.size]? = some (.cells (cells nullT) 23 (0, 0))) := Lib.hid ((HP.out.keeps.block _ (by simp only [World.size_alloc]; have := lt_of_block R1.out; omega) (by have := lt_of_block R1.out; omega)).trans ((heap_alloc_old _ _ (lt_of_block R1.out)).trans R1.out)); have B2 := Lib.hid (HP.out.low (B1.out.alloc B1.out.size _) B1.out.size); have X2 := Lib.hid HP.out.at'; have a0 : w2.cell? ⟨w1.heap.size, 0, none⟩ = some (.int .i64 a) := (cell_of_row w2 _ 0 _ _ _ X2.out).trans rfl; have a1 : w2.cell? ⟨w1.heap.size, 1, none⟩ = some (.int .i64 n) := (cell_of_row w2 _ 1 _ _ _ X2.out).trans rfl; have a2 : w2.cell? ⟨w1.heap.size, 2, none⟩ = some (.string t) := (cell_of_row w2 _ 2 _ _ _ X2.out).trans rfl; clear HP) | (refine store23 rfl (.tmp 4) (.tmp 24) rfl w.heap.size nullT rfl rfl _ R2.out ?_; intro wz hp; have HP := Lib.hid hp; clear hp))
      exact bodyPost_ret (ret23 rfl rfl HP.out.at') rfl ⟨by rw [HE.out], HP.out.low B2.out (Nat.le_refl _)⟩
end YtabojeleomfgnaaGreatDoor
end Go.Proofs
namespace Go.Proofs
open Go.RowKit
namespace YtabojeleomfgnaaGreatDoor
set_option maxRecDepth 100000
def canT (a b : Int) : Bool := kindB a && (kindB b && (!((a == 1) && (b == 4)) && !((a == 4) && (b == 1))))
theorem kindB_bounds (a : Int) : kindB a = true ↔ 1 ≤ a ∧ a ≤ 4 := by unfold kindB; simp
theorem can_t (a b : Int) (w : World) : Calls Tryz.prog 69 #[.int .i64 a, .int .i64 b] w fun e w' => e = .returned (.bool (canT a b)) ∧ w' = w := by
  have HE : canT a b = (kindB a && (kindB b && (!((a == 1) && (b == 4)) && !((a == 4) && (b == 1))))) := rfl
  have CA : Hid (∀ w, Calls Tryz.prog 90 #[.int .i64 a] w fun e w' => e = .returned (.bool (kindB a)) ∧ w = w') := Lib.hid (fun w => isKind_any a w)
  have CB : Hid (∀ w, Calls Tryz.prog 90 #[.int .i64 b] w fun e w' => e = .returned (.bool (kindB b)) ∧ w = w') := Lib.hid (fun w => isKind_any b w)
  generalize canT a b = R at *
  generalize kindB a = p at *
  generalize kindB b = q at *
  cases h1 : (a == 1) <;> cases h2 : (b == 4) <;> cases h3 : (a == 4) <;> cases h4 : (b == 1) <;> cases p <;> cases q <;> rw [h1, h2, h3, h4] at HE <;> have HR := Lib.hid HE <;> clear HE
  all_goals
    go_enter Tryz.func69, Tryz.ntmps69
    go_wp2_with (first | (go_at_call_of 90 (Value.int IntKind.i64 a); refine (CA.out _).mono ?_; rintro e wx ⟨rfl, hwx⟩; rw [← hwx]; clear hwx wx) | (go_at_call_of 90 (Value.int IntKind.i64 b); refine (CB.out _).mono ?_; rintro e wx ⟨rfl, hwx⟩; rw [← hwx]; clear hwx wx))
    go_ret
    exact ⟨by rw [HR.out]; rfl, rfl⟩
theorem rcan_t (a b : Int) (w : World) : Calls Tryz.prog 70 #[.int .i64 a, .int .i64 b] w fun e w' => e = .returned (.bool (canT a b)) ∧ w' = w := by
  have HE : canT a b = (kindB a && (kindB b && (!((a == 1) && (b == 4)) && !((a == 4) && (b == 1))))) := rfl
  have CA : Hid (∀ w, Calls Tryz.prog 132 #[.int .i64 a, .int .i64 1, .int .i64 4] w fun e w' => e = .returned (.bool (kindB a)) ∧ w = w') := Lib.hid (fun w => (kind_in a) ▸ rwithin_any a 1 4 w)
  have CB : Hid (∀ w, Calls Tryz.prog 132 #[.int .i64 b, .int .i64 1, .int .i64 4] w fun e w' => e = .returned (.bool (kindB b)) ∧ w = w') := Lib.hid (fun w => (kind_in b) ▸ rwithin_any b 1 4 w)
  generalize canT a b = R at *
  generalize kindB a = p at *
  generalize kindB b = q at *
  cases h1 : (a == 1) <;> cases h2 : (b == 4) <;> cases h3 : (a == 4) <;> cases h4 : (b == 1) <;> cases p <;> cases q <;> rw [h1, h2, h3, h4] at HE <;> have HR := Lib.hid HE <;> clear HE
  all_goals
    go_enter Tryz.func70, Tryz.ntmps70
    go_wp2_with (first | (go_at_call_of 132 (Value.int IntKind.i64 a); refine (CA.out _).mono ?_; rintro e wx ⟨rfl, hwx⟩; rw [← hwx]; clear hwx wx) | (go_at_call_of 132 (Value.int IntKind.i64 b); refine (CB.out _).mono ?_; rintro e wx ⟨rfl, hwx⟩; rw [← hwx]; clear hwx wx))
    go_ret
    exact ⟨by rw [HR.out]; rfl, rfl⟩
end YtabojeleomfgnaaGreatDoor
end Go.Proofs
namespace Go.Proofs
open Go.RowKit
namespace YtabojeleomfgnaaGreatDoor
set_option maxRecDepth 100000
noncomputable def castT (x : V3) (k : Int) : V3 :=
  if canT x.1 k = false then nullT else if x.1 = k then x else if k = 3 then textT (castS x) else if x.1 = 3 then rcT (if k = 4 then ⟨#[64]⟩ ++ x.2.2 else x.2.2) k else if k = 1 then boolT (!(x.2.1 == 0)) else numT k x.2.1
theorem castS_size {x : V3} (h : Right x) : (castS x).size ≤ 400 := by
  unfold castS
  split
  · rename_i h4
    obtain ⟨m0, m1, _⟩ := h.moment h4
    have := mom_size x.2.1 m0 m1
    omega
  · exact show_size h
set_option maxHeartbeats 4000000 in
theorem cast_t (x : V3) (k : Int) (hx : Sz x) (w : World) (hL : Lb w) : Calls Tryz.prog 67 #[toV x, .int .i64 k] w fun e w' => e = .returned (toV (castT (clT x) k)) ∧ Below w.heap.size w w' := by
  have HL := Lib.hid hL
  have CX := Lib.hid (fun w => clean_t x hx w)
  have hr := clT_right x
  have CC := Lib.hid (fun w => can_t (clT x).1 k w)
  have CS := Lib.hid (fun w hw => showCast_t (clT x) hr w hw)
  have CT := Lib.hid (text_t (castS (clT x)) (by have := castS_size hr; unfold maxLen; omega))
  have CR := Lib.hid (fun w hw => readCast_t (clT x).2.2 (by have := hr.bounds; omega) k w hw)
  have hR : castT (clT x) k = if canT (clT x).1 k = false then nullT else if (clT x).1 = k then clT x else if k = 3 then textT (castS (clT x)) else if (clT x).1 = 3 then rcT (if k = 4 then ⟨#[64]⟩ ++ (clT x).2.2 else (clT x).2.2) k else if k = 1 then boolT (!((clT x).2.1 == 0)) else numT k (clT x).2.1 := rfl
  clear hL hx hr
  generalize castT (clT x) k = R at *
  generalize textT (castS (clT x)) = RT at *
  generalize castS (clT x) = ST at *
  generalize rcT (if k = 4 then ⟨#[64]⟩ ++ (clT x).2.2 else (clT x).2.2) k = RC at *
  generalize canT (clT x).1 k = C at *
  generalize clT x = X at *
  obtain ⟨ka, na, sa⟩ := x
  obtain ⟨K, n, s⟩ := X
  dsimp only at hR CC CR
  change Calls Tryz.prog 67 #[val ka na sa, .int .i64 k] w _
  change Hid (∀ w, Calls Tryz.prog 94 #[val ka na sa] w fun e w' => e = .returned (toV (K, n, s)) ∧ Below w.heap.size w w') at CX
  cases C with
  | false =>
    have HE : Hid (R = nullT) := Lib.hid (by rw [hR, if_pos rfl])
    clear hR CS CT CR
    go_enter Tryz.func67, Tryz.ntmps67
    go_wp2_with fail
    refine (CX.out _).mono ?_
    rintro e w1 ⟨rfl, hb1⟩
    have B1 : Hid (w1.heap[w.heap.size]? = some (.cells (cells (ka, na, sa)) 23 (0, 0))) := Lib.hid ((hb1.block _ (by simp only [World.size_alloc]; omega)).trans ((heap_alloc_old _ _ (by simp)).trans (heap_alloc_new w _)))
    have R1 : Hid (w1.heap[w.heap.size + 1]? = some (.cells (cells nullT) 23 (0, 0))) := Lib.hid ((hb1.block _ (by simp)).trans (new_at _ _ _ (by simp)))
    have HL1 := Lib.hid (below_call (w := w) (by go_grown) hb1)
    clear hb1
    go_wp2_with (refine store23 rfl (.tmp 2) (.tmp 6) rfl w.heap.size (K, n, s) rfl rfl _ B1.out ?_; intro w2 hp; have HP := Lib.hid hp; clear hp; have a0 : w2.cell? ⟨w.heap.size, 0, none⟩ = some (.int .i64 K) := (cell_of_row w2 _ 0 _ _ _ HP.out.at').trans rfl; have a1 : w2.cell? ⟨w.heap.size, 1, none⟩ = some (.int .i64 n) := (cell_of_row w2 _ 1 _ _ _ HP.out.at').trans rfl; have a2 : w2.cell? ⟨w.heap.size, 2, none⟩ = some (.string s) := (cell_of_row w2 _ 2 _ _ _ HP.out.at').trans rfl; have R2 : Hid (w2.heap[w.heap.size + 1]? = some (.cells (cells nullT) 23 (0, 0))) := Lib.hid ((HP.out.keeps.block _ (lt_of_block R1.out) (by omega)).trans R1.out); have HL2 := Lib.hid (HP.out.low HL1.out (Nat.le_refl _)); clear HP)
    refine (CC.out _).mono ?_
    rintro e wx ⟨rfl, hwx⟩
    rw [hwx]
    clear hwx wx
    go_wp2_with (refine store23 rfl (.tmp 4) (.tmp 13) rfl (w.heap.size + 1) (nullT) rfl rfl _ R2.out ?_; intro wz hp; have HP := Lib.hid hp; clear hp)
    exact bodyPost_ret (ret23 rfl rfl HP.out.at') rfl ⟨by rw [HE.out], HP.out.low HL2.out (by omega)⟩
  | true =>
  rw [if_neg (by decide)] at hR
  cases hKk : (K == k) with
  | true =>
    have HE : Hid (R = (K, n, s)) := Lib.hid (by rw [hR, if_pos (by simpa using hKk)])
    clear hR CS CT CR
    go_enter Tryz.func67, Tryz.ntmps67
    go_wp2_with fail
    refine (CX.out _).mono ?_
    rintro e w1 ⟨rfl, hb1⟩
    have B1 : Hid (w1.heap[w.heap.size]? = some (.cells (cells (ka, na, sa)) 23 (0, 0))) := Lib.hid ((hb1.block _ (by simp only [World.size_alloc]; omega)).trans ((heap_alloc_old _ _ (by simp)).trans (heap_alloc_new w _)))
    have R1 : Hid (w1.heap[w.heap.size + 1]? = some (.cells (cells nullT) 23 (0, 0))) := Lib.hid ((hb1.block _ (by simp)).trans (new_at _ _ _ (by simp)))
    have HL1 := Lib.hid (below_call (w := w) (by go_grown) hb1)
    clear hb1
    go_wp2_with (refine store23 rfl (.tmp 2) (.tmp 6) rfl w.heap.size (K, n, s) rfl rfl _ B1.out ?_; intro w2 hp; have HP := Lib.hid hp; clear hp; have a0 : w2.cell? ⟨w.heap.size, 0, none⟩ = some (.int .i64 K) := (cell_of_row w2 _ 0 _ _ _ HP.out.at').trans rfl; have a1 : w2.cell? ⟨w.heap.size, 1, none⟩ = some (.int .i64 n) := (cell_of_row w2 _ 1 _ _ _ HP.out.at').trans rfl; have a2 : w2.cell? ⟨w.heap.size, 2, none⟩ = some (.string s) := (cell_of_row w2 _ 2 _ _ _ HP.out.at').trans rfl; have R2 : Hid (w2.heap[w.heap.size + 1]? = some (.cells (cells nullT) 23 (0, 0))) := Lib.hid ((HP.out.keeps.block _ (lt_of_block R1.out) (by omega)).trans R1.out); have HL2 := Lib.hid (HP.out.low HL1.out (Nat.le_refl _)); clear HP)
    refine (CC.out _).mono ?_
    rintro e wx ⟨rfl, hwx⟩
    rw [hwx]
    clear hwx wx
    go_wp2_with (refine store23 rfl (.tmp 4) (.tmp 19) rfl (w.heap.size + 1) ((K, n, s)) rfl rfl _ R2.out ?_; intro wz hp; have HP := Lib.hid hp; clear hp)
    exact bodyPost_ret (ret23 rfl rfl HP.out.at') rfl ⟨by rw [HE.out], HP.out.low HL2.out (by omega)⟩
  | false =>
  rw [if_neg (by simpa using hKk)] at hR
  cases hk3 : (k == 3) with
  | true =>
    have HE : Hid (R = RT) := Lib.hid (by rw [hR, if_pos (by simpa using hk3)])
    clear hR CR
    go_enter Tryz.func67, Tryz.ntmps67
    go_wp2_with fail
    refine (CX.out _).mono ?_
    rintro e w1 ⟨rfl, hb1⟩
    have B1 : Hid (w1.heap[w.heap.size]? = some (.cells (cells (ka, na, sa)) 23 (0, 0))) := Lib.hid ((hb1.block _ (by simp only [World.size_alloc]; omega)).trans ((heap_alloc_old _ _ (by simp)).trans (heap_alloc_new w _)))
    have R1 : Hid (w1.heap[w.heap.size + 1]? = some (.cells (cells nullT) 23 (0, 0))) := Lib.hid ((hb1.block _ (by simp)).trans (new_at _ _ _ (by simp)))
    have HL1 := Lib.hid (below_call (w := w) (by go_grown) hb1)
    clear hb1
    go_wp2_with (refine store23 rfl (.tmp 2) (.tmp 6) rfl w.heap.size (K, n, s) rfl rfl _ B1.out ?_; intro w2 hp; have HP := Lib.hid hp; clear hp; have a0 : w2.cell? ⟨w.heap.size, 0, none⟩ = some (.int .i64 K) := (cell_of_row w2 _ 0 _ _ _ HP.out.at').trans rfl; have a1 : w2.cell? ⟨w.heap.size, 1, none⟩ = some (.int .i64 n) := (cell_of_row w2 _ 1 _ _ _ HP.out.at').trans rfl; have a2 : w2.cell? ⟨w.heap.size, 2, none⟩ = some (.string s) := (cell_of_row w2 _ 2 _ _ _ HP.out.at').trans rfl; have R2 : Hid (w2.heap[w.heap.size + 1]? = some (.cells (cells nullT) 23 (0, 0))) := Lib.hid ((HP.out.keeps.block _ (lt_of_block R1.out) (by omega)).trans R1.out); have HL2 := Lib.hid (HP.out.low HL1.out (Nat.le_refl _)); clear HP)
    refine (CC.out _).mono ?_
    rintro e wx ⟨rfl, hwx⟩
    rw [hwx]
    clear hwx wx
    go_wp2_with fail
    refine (CS.out _ (HL.out.below HL2.out)).mono ?_
    rintro e w3 ⟨rfl, hb3⟩
    have R3 : Hid (w3.heap[w.heap.size + 1]? = some (.cells (cells nullT) 23 (0, 0))) := Lib.hid ((hb3.block _ (lt_of_block R2.out)).trans R2.out)
    have HL3 := Lib.hid (below_call HL2.out hb3)
    clear hb3
    go_wp2_with fail
    refine (CT.out _).mono ?_
    rintro e w4 ⟨rfl, hb4⟩
    have R4 : Hid (w4.heap[w.heap.size + 1]? = some (.cells (cells nullT) 23 (0, 0))) := Lib.hid ((hb4.block _ (lt_of_block R3.out)).trans R3.out)
    have HL4 := Lib.hid (below_call HL3.out hb4)
    clear hb4
    go_wp2_with (refine store23 rfl (.tmp 4) (.tmp 25) rfl (w.heap.size + 1) (RT) rfl rfl _ R4.out ?_; intro wz hp; have HP := Lib.hid hp; clear hp)
    exact bodyPost_ret (ret23 rfl rfl HP.out.at') rfl ⟨by rw [HE.out], HP.out.low HL4.out (by omega)⟩
  | false =>
  rw [if_neg (by simpa using hk3)] at hR
  cases hK3 : (K == 3) with
  | true =>
    have HE : Hid (R = RC) := Lib.hid (by rw [hR, if_pos (by simpa using hK3)])
    clear hR CS CT
    go_enter Tryz.func67, Tryz.ntmps67
    go_wp2_with fail
    refine (CX.out _).mono ?_
    rintro e w1 ⟨rfl, hb1⟩
    have B1 : Hid (w1.heap[w.heap.size]? = some (.cells (cells (ka, na, sa)) 23 (0, 0))) := Lib.hid ((hb1.block _ (by simp only [World.size_alloc]; omega)).trans ((heap_alloc_old _ _ (by simp)).trans (heap_alloc_new w _)))
    have R1 : Hid (w1.heap[w.heap.size + 1]? = some (.cells (cells nullT) 23 (0, 0))) := Lib.hid ((hb1.block _ (by simp)).trans (new_at _ _ _ (by simp)))
    have HL1 := Lib.hid (below_call (w := w) (by go_grown) hb1)
    clear hb1
    go_wp2_with (refine store23 rfl (.tmp 2) (.tmp 6) rfl w.heap.size (K, n, s) rfl rfl _ B1.out ?_; intro w2 hp; have HP := Lib.hid hp; clear hp; have a0 : w2.cell? ⟨w.heap.size, 0, none⟩ = some (.int .i64 K) := (cell_of_row w2 _ 0 _ _ _ HP.out.at').trans rfl; have a1 : w2.cell? ⟨w.heap.size, 1, none⟩ = some (.int .i64 n) := (cell_of_row w2 _ 1 _ _ _ HP.out.at').trans rfl; have a2 : w2.cell? ⟨w.heap.size, 2, none⟩ = some (.string s) := (cell_of_row w2 _ 2 _ _ _ HP.out.at').trans rfl; have R2 : Hid (w2.heap[w.heap.size + 1]? = some (.cells (cells nullT) 23 (0, 0))) := Lib.hid ((HP.out.keeps.block _ (lt_of_block R1.out) (by omega)).trans R1.out); have HL2 := Lib.hid (HP.out.low HL1.out (Nat.le_refl _)); clear HP)
    refine (CC.out _).mono ?_
    rintro e wx ⟨rfl, hwx⟩
    rw [hwx]
    clear hwx wx
    go_wp2_with fail
    refine (CR.out _ (HL.out.below HL2.out)).mono ?_
    rintro e w3 ⟨rfl, hb3⟩
    have R3 : Hid (w3.heap[w.heap.size + 1]? = some (.cells (cells nullT) 23 (0, 0))) := Lib.hid ((hb3.block _ (lt_of_block R2.out)).trans R2.out)
    have HL3 := Lib.hid (below_call HL2.out hb3)
    clear hb3
    go_wp2_with (refine store23 rfl (.tmp 4) (.tmp 33) rfl (w.heap.size + 1) (RC) rfl rfl _ R3.out ?_; intro wz hp; have HP := Lib.hid hp; clear hp)
    exact bodyPost_ret (ret23 rfl rfl HP.out.at') rfl ⟨by rw [HE.out], HP.out.low HL3.out (by omega)⟩
  | false =>
  rw [if_neg (by simpa using hK3)] at hR
  cases hk1 : (k == 1) with
  | true =>
    have HE : Hid (R = boolT (!(n == 0))) := Lib.hid (by rw [hR, if_pos (by simpa using hk1)])
    have CB := Lib.hid (fun w => bool_t (!(n == 0)) w)
    generalize boolT (!(n == 0)) = RB at *
    clear hR CS CT CR
    go_enter Tryz.func67, Tryz.ntmps67
    go_wp2_with fail
    refine (CX.out _).mono ?_
    rintro e w1 ⟨rfl, hb1⟩
    have B1 : Hid (w1.heap[w.heap.size]? = some (.cells (cells (ka, na, sa)) 23 (0, 0))) := Lib.hid ((hb1.block _ (by simp only [World.size_alloc]; omega)).trans ((heap_alloc_old _ _ (by simp)).trans (heap_alloc_new w _)))
    have R1 : Hid (w1.heap[w.heap.size + 1]? = some (.cells (cells nullT) 23 (0, 0))) := Lib.hid ((hb1.block _ (by simp)).trans (new_at _ _ _ (by simp)))
    have HL1 := Lib.hid (below_call (w := w) (by go_grown) hb1)
    clear hb1
    go_wp2_with (refine store23 rfl (.tmp 2) (.tmp 6) rfl w.heap.size (K, n, s) rfl rfl _ B1.out ?_; intro w2 hp; have HP := Lib.hid hp; clear hp; have a0 : w2.cell? ⟨w.heap.size, 0, none⟩ = some (.int .i64 K) := (cell_of_row w2 _ 0 _ _ _ HP.out.at').trans rfl; have a1 : w2.cell? ⟨w.heap.size, 1, none⟩ = some (.int .i64 n) := (cell_of_row w2 _ 1 _ _ _ HP.out.at').trans rfl; have a2 : w2.cell? ⟨w.heap.size, 2, none⟩ = some (.string s) := (cell_of_row w2 _ 2 _ _ _ HP.out.at').trans rfl; have R2 : Hid (w2.heap[w.heap.size + 1]? = some (.cells (cells nullT) 23 (0, 0))) := Lib.hid ((HP.out.keeps.block _ (lt_of_block R1.out) (by omega)).trans R1.out); have HL2 := Lib.hid (HP.out.low HL1.out (Nat.le_refl _)); clear HP)
    refine (CC.out _).mono ?_
    rintro e wx ⟨rfl, hwx⟩
    rw [hwx]
    clear hwx wx
    go_wp2_with fail
    refine (CB.out _).mono ?_
    rintro e w3 ⟨rfl, hb3⟩
    have R3 : Hid (w3.heap[w.heap.size + 1]? = some (.cells (cells nullT) 23 (0, 0))) := Lib.hid ((hb3.block _ (lt_of_block R2.out)).trans R2.out)
    have HL3 := Lib.hid (below_call HL2.out hb3)
    clear hb3
    go_wp2_with (refine store23 rfl (.tmp 4) (.tmp 40) rfl (w.heap.size + 1) (RB) rfl rfl _ R3.out ?_; intro wz hp; have HP := Lib.hid hp; clear hp)
    exact bodyPost_ret (ret23 rfl rfl HP.out.at') rfl ⟨by rw [HE.out], HP.out.low HL3.out (by omega)⟩
  | false =>
    have HE : Hid (R = numT k n) := Lib.hid (by rw [hR, if_neg (by simpa using hk1)])
    have CB := Lib.hid (fun w => number_t k n w)
    generalize numT k n = RB at *
    clear hR CS CT CR
    go_enter Tryz.func67, Tryz.ntmps67
    go_wp2_with fail
    refine (CX.out _).mono ?_
    rintro e w1 ⟨rfl, hb1⟩
    have B1 : Hid (w1.heap[w.heap.size]? = some (.cells (cells (ka, na, sa)) 23 (0, 0))) := Lib.hid ((hb1.block _ (by simp only [World.size_alloc]; omega)).trans ((heap_alloc_old _ _ (by simp)).trans (heap_alloc_new w _)))
    have R1 : Hid (w1.heap[w.heap.size + 1]? = some (.cells (cells nullT) 23 (0, 0))) := Lib.hid ((hb1.block _ (by simp)).trans (new_at _ _ _ (by simp)))
    have HL1 := Lib.hid (below_call (w := w) (by go_grown) hb1)
    clear hb1
    go_wp2_with (refine store23 rfl (.tmp 2) (.tmp 6) rfl w.heap.size (K, n, s) rfl rfl _ B1.out ?_; intro w2 hp; have HP := Lib.hid hp; clear hp; have a0 : w2.cell? ⟨w.heap.size, 0, none⟩ = some (.int .i64 K) := (cell_of_row w2 _ 0 _ _ _ HP.out.at').trans rfl; have a1 : w2.cell? ⟨w.heap.size, 1, none⟩ = some (.int .i64 n) := (cell_of_row w2 _ 1 _ _ _ HP.out.at').trans rfl; have a2 : w2.cell? ⟨w.heap.size, 2, none⟩ = some (.string s) := (cell_of_row w2 _ 2 _ _ _ HP.out.at').trans rfl; have R2 : Hid (w2.heap[w.heap.size + 1]? = some (.cells (cells nullT) 23 (0, 0))) := Lib.hid ((HP.out.keeps.block _ (lt_of_block R1.out) (by omega)).trans R1.out); have HL2 := Lib.hid (HP.out.low HL1.out (Nat.le_refl _)); clear HP)
    refine (CC.out _).mono ?_
    rintro e wx ⟨rfl, hwx⟩
    rw [hwx]
    clear hwx wx
    go_wp2_with fail
    refine (CB.out _).mono ?_
    rintro e w3 ⟨rfl, hb3⟩
    have R3 : Hid (w3.heap[w.heap.size + 1]? = some (.cells (cells nullT) 23 (0, 0))) := Lib.hid ((hb3.block _ (lt_of_block R2.out)).trans R2.out)
    have HL3 := Lib.hid (below_call HL2.out hb3)
    clear hb3
    go_wp2_with (refine store23 rfl (.tmp 4) (.tmp 44) rfl (w.heap.size + 1) (RB) rfl rfl _ R3.out ?_; intro wz hp; have HP := Lib.hid hp; clear hp)
    exact bodyPost_ret (ret23 rfl rfl HP.out.at') rfl ⟨by rw [HE.out], HP.out.low HL3.out (by omega)⟩
end YtabojeleomfgnaaGreatDoor
end Go.Proofs
namespace Go.Proofs
open Go.RowKit
namespace YtabojeleomfgnaaGreatDoor
set_option maxRecDepth 100000
def loN : Nat → Nat
  | 0 => 0
  | 1 => 5
  | 2 => 8
  | 3 => 11
  | 4 => 14
  | _ => 17
def hiN : Nat → Nat
  | 0 => 4
  | 1 => 7
  | 2 => 10
  | 3 => 13
  | 4 => 16
  | _ => 19
theorem lohi (i : Nat) (h : i < 6) : loN i ≤ hiN i ∧ hiN i ≤ 19 := by
  rcases (by omega : i = 0 ∨ i = 1 ∨ i = 2 ∨ i = 3 ∨ i = 4 ∨ i = 5) with rfl | rfl | rfl | rfl | rfl | rfl <;> decide
def numAt (s : ByteArray) (i : Nat) : Option Int := atoiT (s.extract (loN i) (hiN i))
def numsTo (s : ByteArray) (i : Nat) : List Int := (List.range i).map fun j => (numAt s j).getD 0
theorem numsTo_succ {s : ByteArray} {i : Nat} {m : Int} (h : numAt s i = some m) : numsTo s (i + 1) = numsTo s i ++ [m] := by
  unfold numsTo
  rw [List.range_succ, List.map_append, List.map_singleton, h]; rfl
theorem numsTo_length (s : ByteArray) (i : Nat) : (numsTo s i).length = i := by unfold numsTo; simp
theorem mf_size {s : ByteArray} (h : s.size ≠ 19) : mfT s = none := by unfold mfT; rw [if_neg h]
theorem mf_bad {s : ByteArray} {i : Nat} (hi : i < 6) (h : numAt s i = none) : mfT s = none := by
  unfold mfT
  split
  · split
    · rename_i ha hb hc hd he hf
      exfalso
      rcases (by omega : i = 0 ∨ i = 1 ∨ i = 2 ∨ i = 3 ∨ i = 4 ∨ i = 5) with rfl | rfl | rfl | rfl | rfl | rfl
      · cases (show atoiT (s.extract 0 4) = none from h).symm.trans ha
      · cases (show atoiT (s.extract 5 7) = none from h).symm.trans hb
      · cases (show atoiT (s.extract 8 10) = none from h).symm.trans hc
      · cases (show atoiT (s.extract 11 13) = none from h).symm.trans hd
      · cases (show atoiT (s.extract 14 16) = none from h).symm.trans he
      · cases (show atoiT (s.extract 17 19) = none from h).symm.trans hf
    · rfl
  · rfl
theorem mf_six {s : ByteArray} (hz : s.size = 19) {a b c d e f : Int} (ha : numAt s 0 = some a) (hb : numAt s 1 = some b) (hc : numAt s 2 = some c) (hd : numAt s 3 = some d) (he : numAt s 4 = some e) (hf : numAt s 5 = some f) :
    mfT s = if (datedT a b c d e f).1 = 4 ∧ momB (datedT a b c d e f).2.1 = s then some (datedT a b c d e f) else none := by
  unfold mfT
  rw [if_pos hz, show atoiT (s.extract 0 4) = some a from ha, show atoiT (s.extract 5 7) = some b from hb, show atoiT (s.extract 8 10) = some c from hc, show atoiT (s.extract 11 13) = some d from hd, show atoiT (s.extract 14 16) = some e from he, show atoiT (s.extract 17 19) = some f from hf]
abbrev DRow : Array Value := #[.int .i64 0, .int .i64 4, .int .i64 5, .int .i64 7, .int .i64 8, .int .i64 10, .int .i64 11, .int .i64 13, .int .i64 14, .int .i64 16, .int .i64 17, .int .i64 19]
theorem drow_lo (i : Nat) (h : i < 6) : DRow[i * 2]? = some (.int .i64 (loN i)) := by
  rcases (by omega : i = 0 ∨ i = 1 ∨ i = 2 ∨ i = 3 ∨ i = 4 ∨ i = 5) with rfl | rfl | rfl | rfl | rfl | rfl <;> rfl
theorem drow_hi (i : Nat) (h : i < 6) : DRow[i * 2 + 1]? = some (.int .i64 (hiN i)) := by
  rcases (by omega : i = 0 ∨ i = 1 ∨ i = 2 ∨ i = 3 ∨ i = 4 ∨ i = 5) with rfl | rfl | rfl | rfl | rfl | rfl <;> rfl
theorem Ac.below {acc : List Int} {v : Value} {w0 w w' : World} (h : Ac acc v w0 w) (hb : Below w.heap.size w w') : Ac acc v w0 w' := by
  refine ⟨?_, below_call h.2 hb⟩
  obtain ⟨⟨h1, h2⟩, _⟩ := h
  refine ⟨h1, ?_⟩
  rcases h2 with h2 | ⟨g, cap, cur, hv, h3, h4, h5⟩
  · exact Or.inl h2
  · exact Or.inr ⟨g, cap, cur, hv, h3, (hb.block _ (lt_of_block h4)).trans h4, h5⟩
def MfP (s : ByteArray) (e : Ending) : Prop := ∃ (v : V3) (b : Bool), e = .returned (.tuple #[toV v, .bool b]) ∧ Right v ∧ mfT s = if b = true then some v else none
theorem MfP.mk (s : ByteArray) (v : V3) (b : Bool) (h : Right v) (hm : mfT s = if b = true then some v else none) : MfP s (.returned (.tuple #[toV v, .bool b])) := ⟨v, b, rfl, h, hm⟩
def Sd (g : Nat) (x : V3) (w0 w : World) : Prop := w.heap[g]? = some (.cells (cells x) 23 (0, 0)) ∧ Below w0.heap.size w0 w
theorem Sd.below {g : Nat} {x : V3} {w0 w w' : World} (h : Sd g x w0 w) (hb : Below w.heap.size w w') : Sd g x w0 w' :=
  ⟨(hb.block _ (lt_of_block h.1)).trans h.1, below_call h.2 hb⟩
theorem if_lit {α : Type} (Z s : ByteArray) (x : α) : (if Z = s then some x else none) = if (Z.toList == s.toList) = true then some x else none := by
  rw [eq_lit Z s s.toList rfl]
  by_cases h : Z = s <;> simp [h]
set_option maxHeartbeats 4000000 in
theorem momFrom_t (s : ByteArray) (w : World) (hL : Lb w) :
    Calls Tryz.prog 180 #[.string s] w fun e w' => MfP s e ∧ Below w.heap.size w w' := by
  have HL := Lib.hid hL
  clear hL
  by_cases hz : s.size = 19
  · have R0 : Hid (((w.alloc (.cells #[.int .i64 0, .int .i64 0, .string ⟨#[]⟩] 23)).alloc (.cells DRow 203)).heap[w.heap.size]? = some (.cells (cells nullT) 23 (0, 0))) := Lib.hid ((heap_alloc_old _ _ (by simp)).trans (heap_alloc_new w _))
    have D0 : Hid (((w.alloc (.cells #[.int .i64 0, .int .i64 0, .string ⟨#[]⟩] 23)).alloc (.cells DRow 203)).heap[w.heap.size + 1]? = some (.cells DRow 203 (0, 0))) := Lib.hid (new_at _ _ _ (by simp))
    have B0 : Hid (Below w.heap.size w ((w.alloc (.cells #[.int .i64 0, .int .i64 0, .string ⟨#[]⟩] 23)).alloc (.cells DRow 203))) := Lib.hid (by go_grown)
    obtain ⟨wB, hwB⟩ : ∃ wB, wB = (w.alloc (.cells #[.int .i64 0, .int .i64 0, .string ⟨#[]⟩] 23)).alloc (.cells DRow 203) := ⟨_, rfl⟩
    have hA0 : Hid (Ac [] (.slice none 0 0) wB wB) := Lib.hid ⟨World.ownsRow_nil _ _ _ _, Below.refl _ _⟩
    rw [← hwB] at R0 D0 B0
    have hN0 : Hid (numsTo s 0 = []) := Lib.hid rfl
    go_enter Tryz.func180, Tryz.ntmps180
    go_wp2_with fail
    rw [← hwB]
    clear hwB
    go_loopw [4, 22] (fun x y wr => ∃ (i : Nat) (v : Value), v = x ∧ y = .int .i64 i ∧ i ≤ 6 ∧ Hid (Ac (numsTo s i) v wB wr) ∧ Hid (∀ j, j < i → (numAt s j).isSome = true)) (fun _ y _ => (6 - intOf y).toNat)
    case atStart => exact ⟨0, .slice none 0 0, rfl, rfl, by omega, hA0, Lib.hid (fun j hj => by omega)⟩
    case round =>
      obtain ⟨i, v, rfl, rfl, hi, hA, hok⟩ := hrel
      by_cases hlt : i < 6
      · obtain ⟨l1, l2⟩ := lohi i hlt
        have D1 := Lib.hid ((hA.out.2.block _ (lt_of_block D0.out)).trans D0.out)
        have c0 : wr.cell? ⟨w.heap.size + 1, i * 2, none⟩ = some (.int .i64 (loN i)) := (cell_of_row wr _ (i * 2) _ _ _ D1.out).trans (drow_lo i hlt)
        have c1 : wr.cell? ⟨w.heap.size + 1, i * 2 + 1, none⟩ = some (.int .i64 (hiN i)) := (cell_of_row wr _ (i * 2 + 1) _ _ _ D1.out).trans (drow_hi i hlt)
        have hA2 := Lib.hid (hA.out.1)
        cases ha : numAt s i with
        | some m =>
          have hz1 : (s.extract (loN i) (hiN i)).size ≤ 2000000 := by rw [ByteArray.size_extract]; omega
          have CA := Lib.hid (atoi_ok (s.extract (loN i) (hiN i)) (by omega) m ha)
          have HN := Lib.hid (numsTo_succ ha)
          have HK : Hid (∀ j, j < i + 1 → (numAt s j).isSome = true) := Lib.hid (fun j hj => by
            rcases (by omega : j < i ∨ j = i) with h | h
            · exact hok.out j h
            · rw [h, ha]; rfl)
          clear ha hz1
          go_wp2_with fail
          refine (CA.out _).mono ?_
          rintro e w1 ⟨rfl, hb1⟩
          have A1 : Hid (Ac (numsTo s i) v wB w1) := Lib.hid (Ac.below ⟨hA.out.1.alloc _, hA.out.2.alloc hA.out.2.size _⟩ hb1)
          clear hb1 c0 c1
          go_wp2_with (at_builtin; go_must (refine wpList_push rfl (.tmp 39) (.tmp 41) rfl wB w1 (numsTo s i) v m rfl A1.out rfl rfl (by rw [numsTo_length]; omega) ?_); intro v' w' hA'; have A2 := Lib.hid hA'; clear hA')
          go_wp2_with fail
          go_roundw
          case rel => exact ⟨i + 1, _, rfl, by go_num, by omega, by rw [HN.out]; exact A2, HK⟩
          case measure => simp [intOf]; omega
        | none =>
          have hz1 : (s.extract (loN i) (hiN i)).size ≤ 2000000 := by rw [ByteArray.size_extract]; omega
          have CA := Lib.hid (fun w hw => atoi_no (s.extract (loN i) (hiN i)) (by omega) ha w hw)
          have HN := Lib.hid (mf_bad hlt ha)
          clear ha hz1
          have Bw : Hid (Below w.heap.size w wr) := Lib.hid (B0.out.trans (hA.out.2.mono B0.out.size))
          have Rw := Lib.hid ((hA.out.2.block _ (lt_of_block R0.out)).trans R0.out)
          go_wp2_with fail
          refine (CA.out _ (HL.out.below (Bw.out.alloc Bw.out.size _))).mono ?_
          rintro e w1 ⟨⟨k, p, rfl⟩, hb1⟩
          have R1 : Hid (w1.heap[w.heap.size]? = some (.cells (cells nullT) 23 (0, 0))) := Lib.hid ((hb1.block _ (by simp only [World.size_alloc]; have := lt_of_block Rw.out; omega)).trans ((heap_alloc_old _ _ (lt_of_block Rw.out)).trans Rw.out))
          have B1 := Lib.hid (below_call (Bw.out.alloc Bw.out.size _) hb1)
          clear hb1 c0 c1
          go_wp2_with (refine store23 rfl (.tmp 2) (.tmp 38) rfl w.heap.size nullT rfl rfl nullT R1.out ?_; intro wz hp; have HP := Lib.hid hp; clear hp)
          exact bodyPost_ret (ret23_tmp (x := nullT) (v := .bool false) rfl rfl HP.out.at' rfl) rfl ⟨MfP.mk s nullT false nullT_right (by rw [HN.out]; rfl), HP.out.low B1.out (Nat.le_refl _)⟩
      · obtain rfl : i = 6 := by omega
        have some_of : ∀ j, j < 6 → ∃ m, numAt s j = some m := fun j hj => Option.isSome_iff_exists.1 (hok.out j hj)
        obtain ⟨a, ha⟩ := some_of 0 (by omega)
        obtain ⟨b, hb⟩ := some_of 1 (by omega)
        obtain ⟨c, hc⟩ := some_of 2 (by omega)
        obtain ⟨d, hd⟩ := some_of 3 (by omega)
        obtain ⟨e, he⟩ := some_of 4 (by omega)
        obtain ⟨f, hf⟩ := some_of 5 (by omega)
        have HM : mfT s = if (datedT a b c d e f).1 = 4 ∧ momB (datedT a b c d e f).2.1 = s then some (datedT a b c d e f) else none := mf_six hz ha hb hc hd he hf
        have HS : numsTo s 6 = [a, b, c, d, e, f] := by
          rw [numsTo_succ hf, numsTo_succ he, numsTo_succ hd, numsTo_succ hc, numsTo_succ hb, numsTo_succ ha]; rfl
        clear ha hb hc hd he hf some_of
        rw [HS] at hA
        have hDr := datedT_right a b c d e f
        obtain ⟨ad, cap, rfl, hls⟩ := hA.out.list
        obtain ⟨g, o, rfl, k0⟩ := hls 0 a rfl
        have bl := block_lt_of_cell k0
        obtain ⟨g1, o1, q1, k1⟩ := hls 1 b rfl
        simp only [Option.some.injEq, Addr.mk.injEq] at q1
        obtain ⟨rfl, rfl, -⟩ := q1
        obtain ⟨g2, o2, q2, k2⟩ := hls 2 c rfl
        simp only [Option.some.injEq, Addr.mk.injEq] at q2
        obtain ⟨rfl, rfl, -⟩ := q2
        obtain ⟨g3, o3, q3, k3⟩ := hls 3 d rfl
        simp only [Option.some.injEq, Addr.mk.injEq] at q3
        obtain ⟨rfl, rfl, -⟩ := q3
        obtain ⟨g4, o4, q4, k4⟩ := hls 4 e rfl
        simp only [Option.some.injEq, Addr.mk.injEq] at q4
        obtain ⟨rfl, rfl, -⟩ := q4
        obtain ⟨g5, o5, q5, k5⟩ := hls 5 f rfl
        simp only [Option.some.injEq, Addr.mk.injEq] at q5
        obtain ⟨rfl, rfl, -⟩ := q5
        have K0 := Lib.hid k0
        have K1 := Lib.hid k1
        have K2 := Lib.hid k2
        have K3 := Lib.hid k3
        have K4 := Lib.hid k4
        have K5 := Lib.hid k5
        clear k0 k1 k2 k3 k4 k5 hls HS
        have CD := Lib.hid (dated_t a b c d e f)
        generalize datedT a b c d e f = D at *
        obtain ⟨dk, dn, dt⟩ := D
        dsimp only at HM
        have CM := Lib.hid (fun (h4 : dk = 4) w hw => momentText_t dn (hDr.moment h4).1 (hDr.moment h4).2.1 w hw)
        generalize momB dn = Z at *
        have Bw : Hid (Below w.heap.size w wr) := Lib.hid (B0.out.trans (hA.out.2.mono B0.out.size))
        have Rw := Lib.hid ((hA.out.2.block _ (lt_of_block R0.out)).trans R0.out)
        have HM0 := Lib.hid HM
        have HDR := Lib.hid hDr
        clear HM hDr hA hok
        go_wp2_with fail
        refine wp_region_held_drew (S := fun w' => Below wr.heap.size wr w') (by kernel_rfl) (by go_grown) ?_
        intro hS
        have Rd : Hid (wr.drew.heap[w.heap.size]? = some (.cells (cells nullT) 23 (0, 0))) := Lib.hid Rw.out
        have hzd : wr.heap.size = wr.drew.heap.size := rfl
        generalize wr.drew = wd at hS Rd hzd ⊢
        refine wpAnyH_take (i := 0) (oi := ⟨some 44, _, _, _, _, _⟩) (v := .slice (some ⟨g, o, none⟩) 6 cap) rfl (by kernel_rfl) (by kernel_rfl) (by kernel_rfl) (fun _ _ _ h => h) (Or.inl ⟨rfl, fun w' h => by go_simp⟩) hS ?_
        simp only [Act.put, List.setIfInBounds_toArray, List.set_cons_zero, List.set_cons_succ]
        refine wpAnyH_take (i := 1) (oi := ⟨some 45, _, _, _, _, _⟩) (v := .pointer (some ⟨g, o + 0, none⟩)) rfl (by kernel_rfl) (by kernel_rfl) (by kernel_rfl) (fun _ _ _ h => h) (Or.inl ⟨rfl, fun w' h => by go_simp⟩) hS ?_
        simp only [Act.put, List.setIfInBounds_toArray, List.set_cons_zero, List.set_cons_succ]
        refine wpAnyH_take (i := 2) (oi := ⟨some 46, _, _, _, _, _⟩) (v := .int .i64 a) rfl (by kernel_rfl) (by kernel_rfl) (by kernel_rfl) (fun _ _ _ h => h) (Or.inl ⟨rfl, fun w' h => run_ld3 (C := fun w' => Below wr.heap.size wr w') (.tmp 45) rfl g (o + 0) a rfl (fun w h => (h.cell (p := ⟨g, o + 0, none⟩) bl).trans K0.out) w' h⟩) hS ?_
        simp only [Act.put, List.setIfInBounds_toArray, List.set_cons_zero, List.set_cons_succ]
        refine wpAnyH_take (i := 3) (oi := ⟨some 47, _, _, _, _, _⟩) (v := .slice (some ⟨g, o, none⟩) 6 cap) rfl (by kernel_rfl) (by kernel_rfl) (by kernel_rfl) (fun _ _ _ h => h) (Or.inl ⟨rfl, fun w' h => by go_simp⟩) hS ?_
        simp only [Act.put, List.setIfInBounds_toArray, List.set_cons_zero, List.set_cons_succ]
        refine wpAnyH_take (i := 4) (oi := ⟨some 48, _, _, _, _, _⟩) (v := .pointer (some ⟨g, o + 1, none⟩)) rfl (by kernel_rfl) (by kernel_rfl) (by kernel_rfl) (fun _ _ _ h => h) (Or.inl ⟨rfl, fun w' h => by go_simp⟩) hS ?_
        simp only [Act.put, List.setIfInBounds_toArray, List.set_cons_zero, List.set_cons_succ]
        refine wpAnyH_take (i := 5) (oi := ⟨some 49, _, _, _, _, _⟩) (v := .int .i64 b) rfl (by kernel_rfl) (by kernel_rfl) (by kernel_rfl) (fun _ _ _ h => h) (Or.inl ⟨rfl, fun w' h => run_ld3 (C := fun w' => Below wr.heap.size wr w') (.tmp 48) rfl g (o + 1) b rfl (fun w h => (h.cell (p := ⟨g, o + 1, none⟩) bl).trans K1.out) w' h⟩) hS ?_
        simp only [Act.put, List.setIfInBounds_toArray, List.set_cons_zero, List.set_cons_succ]
        refine wpAnyH_take (i := 6) (oi := ⟨some 50, _, _, _, _, _⟩) (v := .slice (some ⟨g, o, none⟩) 6 cap) rfl (by kernel_rfl) (by kernel_rfl) (by kernel_rfl) (fun _ _ _ h => h) (Or.inl ⟨rfl, fun w' h => by go_simp⟩) hS ?_
        simp only [Act.put, List.setIfInBounds_toArray, List.set_cons_zero, List.set_cons_succ]
        refine wpAnyH_take (i := 7) (oi := ⟨some 51, _, _, _, _, _⟩) (v := .pointer (some ⟨g, o + 2, none⟩)) rfl (by kernel_rfl) (by kernel_rfl) (by kernel_rfl) (fun _ _ _ h => h) (Or.inl ⟨rfl, fun w' h => by go_simp⟩) hS ?_
        simp only [Act.put, List.setIfInBounds_toArray, List.set_cons_zero, List.set_cons_succ]
        refine wpAnyH_take (i := 8) (oi := ⟨some 52, _, _, _, _, _⟩) (v := .int .i64 c) rfl (by kernel_rfl) (by kernel_rfl) (by kernel_rfl) (fun _ _ _ h => h) (Or.inl ⟨rfl, fun w' h => run_ld3 (C := fun w' => Below wr.heap.size wr w') (.tmp 51) rfl g (o + 2) c rfl (fun w h => (h.cell (p := ⟨g, o + 2, none⟩) bl).trans K2.out) w' h⟩) hS ?_
        simp only [Act.put, List.setIfInBounds_toArray, List.set_cons_zero, List.set_cons_succ]
        refine wpAnyH_take (i := 9) (oi := ⟨some 53, _, _, _, _, _⟩) (v := .slice (some ⟨g, o, none⟩) 6 cap) rfl (by kernel_rfl) (by kernel_rfl) (by kernel_rfl) (fun _ _ _ h => h) (Or.inl ⟨rfl, fun w' h => by go_simp⟩) hS ?_
        simp only [Act.put, List.setIfInBounds_toArray, List.set_cons_zero, List.set_cons_succ]
        refine wpAnyH_take (i := 10) (oi := ⟨some 54, _, _, _, _, _⟩) (v := .pointer (some ⟨g, o + 3, none⟩)) rfl (by kernel_rfl) (by kernel_rfl) (by kernel_rfl) (fun _ _ _ h => h) (Or.inl ⟨rfl, fun w' h => by go_simp⟩) hS ?_
        simp only [Act.put, List.setIfInBounds_toArray, List.set_cons_zero, List.set_cons_succ]
        refine wpAnyH_take (i := 11) (oi := ⟨some 55, _, _, _, _, _⟩) (v := .int .i64 d) rfl (by kernel_rfl) (by kernel_rfl) (by kernel_rfl) (fun _ _ _ h => h) (Or.inl ⟨rfl, fun w' h => run_ld3 (C := fun w' => Below wr.heap.size wr w') (.tmp 54) rfl g (o + 3) d rfl (fun w h => (h.cell (p := ⟨g, o + 3, none⟩) bl).trans K3.out) w' h⟩) hS ?_
        simp only [Act.put, List.setIfInBounds_toArray, List.set_cons_zero, List.set_cons_succ]
        refine wpAnyH_take (i := 12) (oi := ⟨some 56, _, _, _, _, _⟩) (v := .slice (some ⟨g, o, none⟩) 6 cap) rfl (by kernel_rfl) (by kernel_rfl) (by kernel_rfl) (fun _ _ _ h => h) (Or.inl ⟨rfl, fun w' h => by go_simp⟩) hS ?_
        simp only [Act.put, List.setIfInBounds_toArray, List.set_cons_zero, List.set_cons_succ]
        refine wpAnyH_take (i := 13) (oi := ⟨some 57, _, _, _, _, _⟩) (v := .pointer (some ⟨g, o + 4, none⟩)) rfl (by kernel_rfl) (by kernel_rfl) (by kernel_rfl) (fun _ _ _ h => h) (Or.inl ⟨rfl, fun w' h => by go_simp⟩) hS ?_
        simp only [Act.put, List.setIfInBounds_toArray, List.set_cons_zero, List.set_cons_succ]
        refine wpAnyH_take (i := 14) (oi := ⟨some 58, _, _, _, _, _⟩) (v := .int .i64 e) rfl (by kernel_rfl) (by kernel_rfl) (by kernel_rfl) (fun _ _ _ h => h) (Or.inl ⟨rfl, fun w' h => run_ld3 (C := fun w' => Below wr.heap.size wr w') (.tmp 57) rfl g (o + 4) e rfl (fun w h => (h.cell (p := ⟨g, o + 4, none⟩) bl).trans K4.out) w' h⟩) hS ?_
        simp only [Act.put, List.setIfInBounds_toArray, List.set_cons_zero, List.set_cons_succ]
        refine wpAnyH_take (i := 15) (oi := ⟨some 59, _, _, _, _, _⟩) (v := .slice (some ⟨g, o, none⟩) 6 cap) rfl (by kernel_rfl) (by kernel_rfl) (by kernel_rfl) (fun _ _ _ h => h) (Or.inl ⟨rfl, fun w' h => by go_simp⟩) hS ?_
        simp only [Act.put, List.setIfInBounds_toArray, List.set_cons_zero, List.set_cons_succ]
        refine wpAnyH_take (i := 16) (oi := ⟨some 60, _, _, _, _, _⟩) (v := .pointer (some ⟨g, o + 5, none⟩)) rfl (by kernel_rfl) (by kernel_rfl) (by kernel_rfl) (fun _ _ _ h => h) (Or.inl ⟨rfl, fun w' h => by go_simp⟩) hS ?_
        simp only [Act.put, List.setIfInBounds_toArray, List.set_cons_zero, List.set_cons_succ]
        refine wpAnyH_take (i := 17) (oi := ⟨some 61, _, _, _, _, _⟩) (v := .int .i64 f) rfl (by kernel_rfl) (by kernel_rfl) (by kernel_rfl) (fun _ _ _ h => h) (Or.inl ⟨rfl, fun w' h => run_ld3 (C := fun w' => Below wr.heap.size wr w') (.tmp 60) rfl g (o + 5) f rfl (fun w h => (h.cell (p := ⟨g, o + 5, none⟩) bl).trans K5.out) w' h⟩) hS ?_
        simp only [Act.put, List.setIfInBounds_toArray, List.set_cons_zero, List.set_cons_succ]
        refine wpAnyH_ready (rs := [18, 19]) (by kernel_rfl) (by simp) ?_
        refine AllReadyH.cons rfl (fun K hK => ?_) (AllReadyH.cons rfl (fun K hK => ?_) AllReadyH.nil)
        · go_simp
          refine (CD.out _).mono ?_
          rintro e w7 ⟨rfl, hb7⟩
          have R7 : Hid (w7.heap[w.heap.size]? = some (.cells (cells nullT) 23 (0, 0))) := Lib.hid ((hb7.block _ (lt_of_block Rd.out)).trans Rd.out)
          have hS7 : Below wr.heap.size wr w7 := below_call hS hb7
          refine hK.out _ _ hS7 ?_
          clear hK K hb7
          intro _
          try simp only [Act.put, List.setIfInBounds_toArray, List.set_cons_zero, List.set_cons_succ]
          refine wpAnyH_ready (rs := [19]) (by kernel_rfl) (by simp) ?_
          refine AllReadyH.cons rfl (fun K hK => ?_) AllReadyH.nil
          go_simp
          have hS8 : Below wr.heap.size wr (w7.alloc (.cells #[.int .i64 0, .int .i64 0, .string ⟨#[]⟩] 23)) := hS7.alloc hS7.size _
          refine hK.out _ _ hS8 ?_
          clear hK K
          intro _
          try simp only [Act.put, List.setIfInBounds_toArray, List.set_cons_zero, List.set_cons_succ]
          have R8 : Hid ((w7.alloc (.cells #[.int .i64 0, .int .i64 0, .string ⟨#[]⟩] 23)).heap[w.heap.size]? = some (.cells (cells nullT) 23 (0, 0))) := Lib.hid ((heap_alloc_old _ _ (lt_of_block R7.out)).trans R7.out)
          have X8 : Hid ((w7.alloc (.cells #[.int .i64 0, .int .i64 0, .string ⟨#[]⟩] 23)).heap[w7.heap.size]? = some (.cells (cells nullT) 23 (0, 0))) := Lib.hid (heap_alloc_new w7 _)
          have S8 := Lib.hid hS8
          have B8 : Hid (Below w.heap.size w (w7.alloc (.cells #[.int .i64 0, .int .i64 0, .string ⟨#[]⟩] 23))) := Lib.hid (below_call Bw.out hS8)
          have hgD : w.heap.size < w7.heap.size := lt_of_block R7.out
          have hgr : wr.heap.size ≤ w7.heap.size := hS7.size
          generalize w7.alloc (.cells #[.int .i64 0, .int .i64 0, .string ⟨#[]⟩] 23) = w8 at R8 X8 S8 B8 ⊢
          generalize w7.heap.size = gD at X8 hgD hgr ⊢
          clear hS hS7 hS8
          refine wpAnyH_ready (rs := [20]) (by kernel_rfl) (by simp) ?_
          refine AllReadyH.cons rfl (fun K hK => ?_) AllReadyH.nil
          rw [if_pos (by rfl)]
          refine wp_store_row 23 (.tmp 9) (.tmp 62) rfl gD (cells (dk, dn, dt)) rfl rfl 23 (cells nullT) X8.out size23 rfl (by simp [Value.oneCell']) ?_
          have hP := puts_setRow (cells := cells (dk, dn, dt)) X8.out
          generalize World.setRow _ gD (cells (dk, dn, dt)) = w9 at hP ⊢
          have R9 : Hid (w9.heap[w.heap.size]? = some (.cells (cells nullT) 23 (0, 0))) := Lib.hid ((hP.keeps.block _ (lt_of_block R8.out) (by omega)).trans R8.out)
          have X9 := Lib.hid hP.at'
          have B9 : Hid (Below w.heap.size w w9) := Lib.hid (hP.below B8.out (by omega))
          refine hK.out _ _ (hP.below (w0 := wr) S8.out hgr) ?_
          clear hK K hP
          intro _
          try simp only [Act.put]
          refine wpAnyH_done (by kernel_rfl) ?_ _
          go_wp2_with fail
          cases hk4 : (dk == 4) with
          | true =>
            obtain rfl : dk = 4 := by simpa using hk4
            have HMM := Lib.hid (show mfT s = if Z = s then some (4, dn, dt) else none by rw [HM0.out]; simp only [true_and])
            have CMM := Lib.hid (CM.out rfl)
            clear HM0 CM hk4
            refine wp_region_held_drew (S := Sd gD (4, dn, dt) w) (by kernel_rfl) ⟨X9.out, B9.out.drew⟩ ?_
            intro hS
            have Re : Hid (w9.drew.heap[w.heap.size]? = some (.cells (cells nullT) 23 (0, 0))) := Lib.hid R9.out
            generalize w9.drew = we at hS Re ⊢
            refine wpAnyH_take (i := 0) (oi := ⟨some 63, _, _, _, _, _⟩) (v := toV (4, dn, dt)) rfl (by kernel_rfl) (by kernel_rfl) (by kernel_rfl) (fun _ _ _ h => h) (Or.inl ⟨rfl, fun w' h => run_load23 (C := Sd gD (4, dn, dt) w) (.tmp 9) rfl gD _ rfl rfl (fun w h => h.1) w' h⟩) hS ?_
            simp only [Act.put, List.setIfInBounds_toArray, List.set_cons_zero, List.set_cons_succ]
            refine wpAnyH_take (i := 1) (oi := ⟨some 64, _, _, _, _, _⟩) (v := .pointer (some ⟨gD, 0, none⟩)) rfl (by kernel_rfl) (by kernel_rfl) (by kernel_rfl) (fun _ _ _ h => h) (Or.inl ⟨rfl, fun w' h => by go_simp⟩) hS ?_
            simp only [Act.put, List.setIfInBounds_toArray, List.set_cons_zero, List.set_cons_succ]
            refine wpAnyH_take (i := 2) (oi := ⟨some 65, _, _, _, _, _⟩) (v := .int .i64 4) rfl (by kernel_rfl) (by kernel_rfl) (by kernel_rfl) (fun _ _ _ h => h) (Or.inl ⟨rfl, fun w' h => run_ld3 (C := Sd gD (4, dn, dt) w) (.tmp 64) rfl gD 0 4 rfl (fun w h => (cell_of_row w _ 0 _ _ _ h.1).trans rfl) w' h⟩) hS ?_
            simp only [Act.put, List.setIfInBounds_toArray, List.set_cons_zero, List.set_cons_succ]
            refine wpAnyH_take (i := 3) (oi := ⟨some 66, _, _, _, _, _⟩) (v := .bool true) rfl (by kernel_rfl) (by kernel_rfl) (by kernel_rfl) (fun _ _ _ h => h) (Or.inl ⟨rfl, fun w' h => by go_simp⟩) hS ?_
            simp only [Act.put, List.setIfInBounds_toArray, List.set_cons_zero, List.set_cons_succ]
            refine wpAnyH_take (i := 4) (oi := ⟨some 67, _, _, _, _, _⟩) (v := .bool true) rfl (by kernel_rfl) (by kernel_rfl) (by kernel_rfl) (fun _ _ _ h => h) (Or.inl ⟨rfl, fun w' h => by go_simp⟩) hS ?_
            simp only [Act.put, List.setIfInBounds_toArray, List.set_cons_zero, List.set_cons_succ]
            refine wpAnyH_take (i := 5) (oi := ⟨some 68, _, _, _, _, _⟩) (v := .pointer (some ⟨gD, 1, none⟩)) rfl (by kernel_rfl) (by kernel_rfl) (by kernel_rfl) (fun _ _ _ h => h) (Or.inl ⟨rfl, fun w' h => by go_simp⟩) hS ?_
            simp only [Act.put, List.setIfInBounds_toArray, List.set_cons_zero, List.set_cons_succ]
            refine wpAnyH_take (i := 6) (oi := ⟨some 69, _, _, _, _, _⟩) (v := .int .i64 dn) rfl (by kernel_rfl) (by kernel_rfl) (by kernel_rfl) (fun _ _ _ h => h) (Or.inl ⟨rfl, fun w' h => run_ld3 (C := Sd gD (4, dn, dt) w) (.tmp 68) rfl gD 1 dn rfl (fun w h => (cell_of_row w _ 1 _ _ _ h.1).trans rfl) w' h⟩) hS ?_
            simp only [Act.put, List.setIfInBounds_toArray, List.set_cons_zero, List.set_cons_succ]
            refine wpAnyH_take (i := 8) (oi := ⟨some 71, _, _, _, _, _⟩) (v := .string s) rfl (by kernel_rfl) (by kernel_rfl) (by kernel_rfl) (fun _ _ _ h => h) (Or.inl ⟨rfl, fun w' h => by go_simp⟩) hS ?_
            simp only [Act.put, List.setIfInBounds_toArray, List.set_cons_zero, List.set_cons_succ]
            refine wpAnyH_ready (rs := [7]) (by kernel_rfl) (by simp) ?_
            refine AllReadyH.cons rfl (fun K hK => ?_) AllReadyH.nil
            rw [if_pos (by rfl)]
            go_simp
            refine (CMM.out _ (HL.out.below hS.2)).mono ?_
            rintro e wf ⟨rfl, hbf⟩
            have Rf : Hid (wf.heap[w.heap.size]? = some (.cells (cells nullT) 23 (0, 0))) := Lib.hid ((hbf.block _ (lt_of_block Re.out)).trans Re.out)
            refine hK.out _ _ (hS.below hbf) ?_
            clear hK K hS hbf
            intro hS
            try simp only [Act.put, List.setIfInBounds_toArray, List.set_cons_zero, List.set_cons_succ]
            refine wpAnyH_take (i := 9) (oi := ⟨some 72, _, _, _, _, _⟩) (v := .bool (Z.toList == s.toList)) rfl (by kernel_rfl) (by kernel_rfl) (by kernel_rfl) (fun _ _ _ h => h) (Or.inl ⟨rfl, fun w' h => by go_simp⟩) hS ?_
            simp only [Act.put, List.setIfInBounds_toArray, List.set_cons_zero, List.set_cons_succ]
            refine wpAnyH_take (i := 10) (oi := ⟨some 73, _, _, _, _, _⟩) (v := .bool (Z.toList == s.toList)) rfl (by kernel_rfl) (by kernel_rfl) (by kernel_rfl) (fun _ _ _ h => h) (Or.inl ⟨rfl, fun w' h => by go_simp⟩) hS ?_
            simp only [Act.put, List.setIfInBounds_toArray, List.set_cons_zero, List.set_cons_succ]
            refine wpAnyH_ready (rs := [11]) (by kernel_rfl) (by simp) ?_
            refine AllReadyH.cons rfl (fun K hK => ?_) AllReadyH.nil
            rw [if_pos (by rfl)]
            refine wp_store_row 23 (.tmp 2) (.tmp 63) rfl w.heap.size (cells (4, dn, dt)) rfl rfl 23 (cells nullT) Rf.out size23 rfl (by simp [Value.oneCell']) ?_
            have hP := puts_setRow (cells := cells (4, dn, dt)) Rf.out
            generalize World.setRow _ w.heap.size (cells (4, dn, dt)) = wz at hP ⊢
            refine hK.out _ _ ⟨(hP.keeps.block _ (lt_of_block hS.1) (by omega)).trans hS.1, hP.below hS.2 (Nat.le_refl _)⟩ ?_
            have HP := Lib.hid hP
            have BZ := Lib.hid (hP.below hS.2 (Nat.le_refl _))
            clear hK K hP hS
            intro hS
            try simp only [Act.put]
            refine wpAnyH_take (i := 12) (oi := ⟨some 3, _, _, _, _, _⟩) (v := .bool (Z.toList == s.toList)) rfl (by kernel_rfl) (by kernel_rfl) (by kernel_rfl) (fun _ _ _ h => h) (Or.inl ⟨rfl, fun w' h => by go_simp⟩) hS ?_
            simp only [Act.put]
            refine wpAnyH_done (by kernel_rfl) ?_ _
            clear hS
            go_wp2
            exact bodyPost_ret (ret23_tmp (x := (4, dn, dt)) (v := .bool (Z.toList == s.toList)) rfl rfl HP.out.at' rfl) rfl ⟨MfP.mk s (4, dn, dt) (Z.toList == s.toList) HDR.out (by rw [HMM.out]; exact if_lit Z s _), BZ.out⟩
          | false =>
            have HMM := Lib.hid (show mfT s = none by rw [HM0.out, if_neg (fun h => absurd h.1 (by simpa using hk4))])
            clear HM0 CM
            refine wp_region_held_drew (S := Sd gD (dk, dn, dt) w) (by kernel_rfl) ⟨X9.out, B9.out.drew⟩ ?_
            intro hS
            have Re : Hid (w9.drew.heap[w.heap.size]? = some (.cells (cells nullT) 23 (0, 0))) := Lib.hid R9.out
            generalize w9.drew = we at hS Re ⊢
            refine wpAnyH_take (i := 0) (oi := ⟨some 63, _, _, _, _, _⟩) (v := toV (dk, dn, dt)) rfl (by kernel_rfl) (by kernel_rfl) (by kernel_rfl) (fun _ _ _ h => h) (Or.inl ⟨rfl, fun w' h => run_load23 (C := Sd gD (dk, dn, dt) w) (.tmp 9) rfl gD _ rfl rfl (fun w h => h.1) w' h⟩) hS ?_
            simp only [Act.put, List.setIfInBounds_toArray, List.set_cons_zero, List.set_cons_succ]
            refine wpAnyH_take (i := 1) (oi := ⟨some 64, _, _, _, _, _⟩) (v := .pointer (some ⟨gD, 0, none⟩)) rfl (by kernel_rfl) (by kernel_rfl) (by kernel_rfl) (fun _ _ _ h => h) (Or.inl ⟨rfl, fun w' h => by go_simp⟩) hS ?_
            simp only [Act.put, List.setIfInBounds_toArray, List.set_cons_zero, List.set_cons_succ]
            refine wpAnyH_take (i := 2) (oi := ⟨some 65, _, _, _, _, _⟩) (v := .int .i64 dk) rfl (by kernel_rfl) (by kernel_rfl) (by kernel_rfl) (fun _ _ _ h => h) (Or.inl ⟨rfl, fun w' h => run_ld3 (C := Sd gD (dk, dn, dt) w) (.tmp 64) rfl gD 0 dk rfl (fun w h => (cell_of_row w _ 0 _ _ _ h.1).trans rfl) w' h⟩) hS ?_
            simp only [Act.put, List.setIfInBounds_toArray, List.set_cons_zero, List.set_cons_succ]
            refine wpAnyH_take (i := 3) (oi := ⟨some 66, _, _, _, _, _⟩) (v := .bool false) rfl (by kernel_rfl) (by kernel_rfl) (by kernel_rfl) (fun _ _ _ h => h) (Or.inl ⟨rfl, fun w' h => by go_simp⟩) hS ?_
            simp only [Act.put, List.setIfInBounds_toArray, List.set_cons_zero, List.set_cons_succ]
            refine wpAnyH_take (i := 4) (oi := ⟨some 67, _, _, _, _, _⟩) (v := .bool false) rfl (by kernel_rfl) (by kernel_rfl) (by kernel_rfl) (fun _ _ _ h => h) (Or.inl ⟨rfl, fun w' h => by go_simp⟩) hS ?_
            simp only [Act.put, List.setIfInBounds_toArray, List.set_cons_zero, List.set_cons_succ]
            refine wpAnyH_take (i := 5) (oi := ⟨some 68, _, _, _, _, _⟩) (v := undef) rfl (by kernel_rfl) (by kernel_rfl) (by kernel_rfl) (fun _ _ _ h => h) (Or.inr ⟨rfl, rfl⟩) hS ?_
            simp only [Act.put, List.setIfInBounds_toArray, List.set_cons_zero, List.set_cons_succ]
            refine wpAnyH_take (i := 6) (oi := ⟨some 69, _, _, _, _, _⟩) (v := undef) rfl (by kernel_rfl) (by kernel_rfl) (by kernel_rfl) (fun _ _ _ h => h) (Or.inr ⟨rfl, rfl⟩) hS ?_
            simp only [Act.put, List.setIfInBounds_toArray, List.set_cons_zero, List.set_cons_succ]
            refine wpAnyH_take (i := 7) (oi := ⟨some 70, _, _, _, _, _⟩) (v := undef) rfl (by kernel_rfl) (by kernel_rfl) (by kernel_rfl) (fun _ _ _ h => h) (Or.inr ⟨rfl, rfl⟩) hS ?_
            simp only [Act.put, List.setIfInBounds_toArray, List.set_cons_zero, List.set_cons_succ]
            refine wpAnyH_take (i := 8) (oi := ⟨some 71, _, _, _, _, _⟩) (v := undef) rfl (by kernel_rfl) (by kernel_rfl) (by kernel_rfl) (fun _ _ _ h => h) (Or.inr ⟨rfl, rfl⟩) hS ?_
            simp only [Act.put, List.setIfInBounds_toArray, List.set_cons_zero, List.set_cons_succ]
            refine wpAnyH_take (i := 9) (oi := ⟨some 72, _, _, _, _, _⟩) (v := undef) rfl (by kernel_rfl) (by kernel_rfl) (by kernel_rfl) (fun _ _ _ h => h) (Or.inr ⟨rfl, rfl⟩) hS ?_
            simp only [Act.put, List.setIfInBounds_toArray, List.set_cons_zero, List.set_cons_succ]
            refine wpAnyH_take (i := 10) (oi := ⟨some 73, _, _, _, _, _⟩) (v := .bool false) rfl (by kernel_rfl) (by kernel_rfl) (by kernel_rfl) (fun _ _ _ h => h) (Or.inl ⟨rfl, fun w' h => by go_simp⟩) hS ?_
            simp only [Act.put, List.setIfInBounds_toArray, List.set_cons_zero, List.set_cons_succ]
            refine wpAnyH_ready (rs := [11]) (by kernel_rfl) (by simp) ?_
            refine AllReadyH.cons rfl (fun K hK => ?_) AllReadyH.nil
            rw [if_pos (by rfl)]
            refine wp_store_row 23 (.tmp 2) (.tmp 63) rfl w.heap.size (cells (dk, dn, dt)) rfl rfl 23 (cells nullT) Re.out size23 rfl (by simp [Value.oneCell']) ?_
            have hP := puts_setRow (cells := cells (dk, dn, dt)) Re.out
            generalize World.setRow _ w.heap.size (cells (dk, dn, dt)) = wz at hP ⊢
            refine hK.out _ _ ⟨(hP.keeps.block _ (lt_of_block hS.1) (by omega)).trans hS.1, hP.below hS.2 (Nat.le_refl _)⟩ ?_
            have HP := Lib.hid hP
            have BZ := Lib.hid (hP.below hS.2 (Nat.le_refl _))
            clear hK K hP hS
            intro hS
            try simp only [Act.put]
            refine wpAnyH_take (i := 12) (oi := ⟨some 3, _, _, _, _, _⟩) (v := .bool false) rfl (by kernel_rfl) (by kernel_rfl) (by kernel_rfl) (fun _ _ _ h => h) (Or.inl ⟨rfl, fun w' h => by go_simp⟩) hS ?_
            simp only [Act.put]
            refine wpAnyH_done (by kernel_rfl) ?_ _
            clear hS
            go_wp2
            exact bodyPost_ret (ret23_tmp (x := (dk, dn, dt)) (v := .bool false) rfl rfl HP.out.at' rfl) rfl ⟨MfP.mk s (dk, dn, dt) false HDR.out (by rw [HMM.out]; rfl), BZ.out⟩
        · go_simp
          have hS8 : Below wr.heap.size wr (wd.alloc (.cells #[.int .i64 0, .int .i64 0, .string ⟨#[]⟩] 23)) := hS.alloc hS.size _
          refine hK.out _ _ hS8 ?_
          clear hK K
          intro _
          try simp only [Act.put, List.setIfInBounds_toArray, List.set_cons_zero, List.set_cons_succ]
          have R7 : Hid ((wd.alloc (.cells #[.int .i64 0, .int .i64 0, .string ⟨#[]⟩] 23)).heap[w.heap.size]? = some (.cells (cells nullT) 23 (0, 0))) := Lib.hid ((heap_alloc_old _ _ (lt_of_block Rd.out)).trans Rd.out)
          have X7 : Hid ((wd.alloc (.cells #[.int .i64 0, .int .i64 0, .string ⟨#[]⟩] 23)).heap[wd.heap.size]? = some (.cells (cells nullT) 23 (0, 0))) := Lib.hid (heap_alloc_new wd _)
          have hgD : w.heap.size < wd.heap.size := lt_of_block Rd.out
          have hgr : wr.heap.size ≤ wd.heap.size := hS.size
          generalize wd.alloc (.cells #[.int .i64 0, .int .i64 0, .string ⟨#[]⟩] 23) = w7 at R7 X7 hS8 ⊢
          generalize wd.heap.size = gD at X7 hgD hgr ⊢
          refine wpAnyH_ready (rs := [18]) (by kernel_rfl) (by simp) ?_
          refine AllReadyH.cons rfl (fun K hK => ?_) AllReadyH.nil
          go_simp
          refine (CD.out _).mono ?_
          rintro e w8 ⟨rfl, hb8⟩
          have R8 : Hid (w8.heap[w.heap.size]? = some (.cells (cells nullT) 23 (0, 0))) := Lib.hid ((hb8.block _ (lt_of_block R7.out)).trans R7.out)
          have X8 := Lib.hid ((hb8.block _ (lt_of_block X7.out)).trans X7.out)
          have S8 := Lib.hid (below_call hS8 hb8)
          have B8 : Hid (Below w.heap.size w w8) := Lib.hid (below_call Bw.out S8.out)
          refine hK.out _ _ S8.out ?_
          clear hK K hb8 hS hS8
          intro _
          try simp only [Act.put, List.setIfInBounds_toArray, List.set_cons_zero, List.set_cons_succ]
          refine wpAnyH_ready (rs := [20]) (by kernel_rfl) (by simp) ?_
          refine AllReadyH.cons rfl (fun K hK => ?_) AllReadyH.nil
          rw [if_pos (by rfl)]
          refine wp_store_row 23 (.tmp 9) (.tmp 62) rfl gD (cells (dk, dn, dt)) rfl rfl 23 (cells nullT) X8.out size23 rfl (by simp [Value.oneCell']) ?_
          have hP := puts_setRow (cells := cells (dk, dn, dt)) X8.out
          generalize World.setRow _ gD (cells (dk, dn, dt)) = w9 at hP ⊢
          have R9 : Hid (w9.heap[w.heap.size]? = some (.cells (cells nullT) 23 (0, 0))) := Lib.hid ((hP.keeps.block _ (lt_of_block R8.out) (by omega)).trans R8.out)
          have X9 := Lib.hid hP.at'
          have B9 : Hid (Below w.heap.size w w9) := Lib.hid (hP.below B8.out (by omega))
          refine hK.out _ _ (hP.below (w0 := wr) S8.out hgr) ?_
          clear hK K hP
          intro _
          try simp only [Act.put]
          refine wpAnyH_done (by kernel_rfl) ?_ _
          go_wp2_with fail
          cases hk4 : (dk == 4) with
          | true =>
            obtain rfl : dk = 4 := by simpa using hk4
            have HMM := Lib.hid (show mfT s = if Z = s then some (4, dn, dt) else none by rw [HM0.out]; simp only [true_and])
            have CMM := Lib.hid (CM.out rfl)
            clear HM0 CM hk4
            refine wp_region_held_drew (S := Sd gD (4, dn, dt) w) (by kernel_rfl) ⟨X9.out, B9.out.drew⟩ ?_
            intro hS
            have Re : Hid (w9.drew.heap[w.heap.size]? = some (.cells (cells nullT) 23 (0, 0))) := Lib.hid R9.out
            generalize w9.drew = we at hS Re ⊢
            refine wpAnyH_take (i := 0) (oi := ⟨some 63, _, _, _, _, _⟩) (v := toV (4, dn, dt)) rfl (by kernel_rfl) (by kernel_rfl) (by kernel_rfl) (fun _ _ _ h => h) (Or.inl ⟨rfl, fun w' h => run_load23 (C := Sd gD (4, dn, dt) w) (.tmp 9) rfl gD _ rfl rfl (fun w h => h.1) w' h⟩) hS ?_
            simp only [Act.put, List.setIfInBounds_toArray, List.set_cons_zero, List.set_cons_succ]
            refine wpAnyH_take (i := 1) (oi := ⟨some 64, _, _, _, _, _⟩) (v := .pointer (some ⟨gD, 0, none⟩)) rfl (by kernel_rfl) (by kernel_rfl) (by kernel_rfl) (fun _ _ _ h => h) (Or.inl ⟨rfl, fun w' h => by go_simp⟩) hS ?_
            simp only [Act.put, List.setIfInBounds_toArray, List.set_cons_zero, List.set_cons_succ]
            refine wpAnyH_take (i := 2) (oi := ⟨some 65, _, _, _, _, _⟩) (v := .int .i64 4) rfl (by kernel_rfl) (by kernel_rfl) (by kernel_rfl) (fun _ _ _ h => h) (Or.inl ⟨rfl, fun w' h => run_ld3 (C := Sd gD (4, dn, dt) w) (.tmp 64) rfl gD 0 4 rfl (fun w h => (cell_of_row w _ 0 _ _ _ h.1).trans rfl) w' h⟩) hS ?_
            simp only [Act.put, List.setIfInBounds_toArray, List.set_cons_zero, List.set_cons_succ]
            refine wpAnyH_take (i := 3) (oi := ⟨some 66, _, _, _, _, _⟩) (v := .bool true) rfl (by kernel_rfl) (by kernel_rfl) (by kernel_rfl) (fun _ _ _ h => h) (Or.inl ⟨rfl, fun w' h => by go_simp⟩) hS ?_
            simp only [Act.put, List.setIfInBounds_toArray, List.set_cons_zero, List.set_cons_succ]
            refine wpAnyH_take (i := 4) (oi := ⟨some 67, _, _, _, _, _⟩) (v := .bool true) rfl (by kernel_rfl) (by kernel_rfl) (by kernel_rfl) (fun _ _ _ h => h) (Or.inl ⟨rfl, fun w' h => by go_simp⟩) hS ?_
            simp only [Act.put, List.setIfInBounds_toArray, List.set_cons_zero, List.set_cons_succ]
            refine wpAnyH_take (i := 5) (oi := ⟨some 68, _, _, _, _, _⟩) (v := .pointer (some ⟨gD, 1, none⟩)) rfl (by kernel_rfl) (by kernel_rfl) (by kernel_rfl) (fun _ _ _ h => h) (Or.inl ⟨rfl, fun w' h => by go_simp⟩) hS ?_
            simp only [Act.put, List.setIfInBounds_toArray, List.set_cons_zero, List.set_cons_succ]
            refine wpAnyH_take (i := 6) (oi := ⟨some 69, _, _, _, _, _⟩) (v := .int .i64 dn) rfl (by kernel_rfl) (by kernel_rfl) (by kernel_rfl) (fun _ _ _ h => h) (Or.inl ⟨rfl, fun w' h => run_ld3 (C := Sd gD (4, dn, dt) w) (.tmp 68) rfl gD 1 dn rfl (fun w h => (cell_of_row w _ 1 _ _ _ h.1).trans rfl) w' h⟩) hS ?_
            simp only [Act.put, List.setIfInBounds_toArray, List.set_cons_zero, List.set_cons_succ]
            refine wpAnyH_take (i := 8) (oi := ⟨some 71, _, _, _, _, _⟩) (v := .string s) rfl (by kernel_rfl) (by kernel_rfl) (by kernel_rfl) (fun _ _ _ h => h) (Or.inl ⟨rfl, fun w' h => by go_simp⟩) hS ?_
            simp only [Act.put, List.setIfInBounds_toArray, List.set_cons_zero, List.set_cons_succ]
            refine wpAnyH_ready (rs := [7]) (by kernel_rfl) (by simp) ?_
            refine AllReadyH.cons rfl (fun K hK => ?_) AllReadyH.nil
            rw [if_pos (by rfl)]
            go_simp
            refine (CMM.out _ (HL.out.below hS.2)).mono ?_
            rintro e wf ⟨rfl, hbf⟩
            have Rf : Hid (wf.heap[w.heap.size]? = some (.cells (cells nullT) 23 (0, 0))) := Lib.hid ((hbf.block _ (lt_of_block Re.out)).trans Re.out)
            refine hK.out _ _ (hS.below hbf) ?_
            clear hK K hS hbf
            intro hS
            try simp only [Act.put, List.setIfInBounds_toArray, List.set_cons_zero, List.set_cons_succ]
            refine wpAnyH_take (i := 9) (oi := ⟨some 72, _, _, _, _, _⟩) (v := .bool (Z.toList == s.toList)) rfl (by kernel_rfl) (by kernel_rfl) (by kernel_rfl) (fun _ _ _ h => h) (Or.inl ⟨rfl, fun w' h => by go_simp⟩) hS ?_
            simp only [Act.put, List.setIfInBounds_toArray, List.set_cons_zero, List.set_cons_succ]
            refine wpAnyH_take (i := 10) (oi := ⟨some 73, _, _, _, _, _⟩) (v := .bool (Z.toList == s.toList)) rfl (by kernel_rfl) (by kernel_rfl) (by kernel_rfl) (fun _ _ _ h => h) (Or.inl ⟨rfl, fun w' h => by go_simp⟩) hS ?_
            simp only [Act.put, List.setIfInBounds_toArray, List.set_cons_zero, List.set_cons_succ]
            refine wpAnyH_ready (rs := [11]) (by kernel_rfl) (by simp) ?_
            refine AllReadyH.cons rfl (fun K hK => ?_) AllReadyH.nil
            rw [if_pos (by rfl)]
            refine wp_store_row 23 (.tmp 2) (.tmp 63) rfl w.heap.size (cells (4, dn, dt)) rfl rfl 23 (cells nullT) Rf.out size23 rfl (by simp [Value.oneCell']) ?_
            have hP := puts_setRow (cells := cells (4, dn, dt)) Rf.out
            generalize World.setRow _ w.heap.size (cells (4, dn, dt)) = wz at hP ⊢
            refine hK.out _ _ ⟨(hP.keeps.block _ (lt_of_block hS.1) (by omega)).trans hS.1, hP.below hS.2 (Nat.le_refl _)⟩ ?_
            have HP := Lib.hid hP
            have BZ := Lib.hid (hP.below hS.2 (Nat.le_refl _))
            clear hK K hP hS
            intro hS
            try simp only [Act.put]
            refine wpAnyH_take (i := 12) (oi := ⟨some 3, _, _, _, _, _⟩) (v := .bool (Z.toList == s.toList)) rfl (by kernel_rfl) (by kernel_rfl) (by kernel_rfl) (fun _ _ _ h => h) (Or.inl ⟨rfl, fun w' h => by go_simp⟩) hS ?_
            simp only [Act.put]
            refine wpAnyH_done (by kernel_rfl) ?_ _
            clear hS
            go_wp2
            exact bodyPost_ret (ret23_tmp (x := (4, dn, dt)) (v := .bool (Z.toList == s.toList)) rfl rfl HP.out.at' rfl) rfl ⟨MfP.mk s (4, dn, dt) (Z.toList == s.toList) HDR.out (by rw [HMM.out]; exact if_lit Z s _), BZ.out⟩
          | false =>
            have HMM := Lib.hid (show mfT s = none by rw [HM0.out, if_neg (fun h => absurd h.1 (by simpa using hk4))])
            clear HM0 CM
            refine wp_region_held_drew (S := Sd gD (dk, dn, dt) w) (by kernel_rfl) ⟨X9.out, B9.out.drew⟩ ?_
            intro hS
            have Re : Hid (w9.drew.heap[w.heap.size]? = some (.cells (cells nullT) 23 (0, 0))) := Lib.hid R9.out
            generalize w9.drew = we at hS Re ⊢
            refine wpAnyH_take (i := 0) (oi := ⟨some 63, _, _, _, _, _⟩) (v := toV (dk, dn, dt)) rfl (by kernel_rfl) (by kernel_rfl) (by kernel_rfl) (fun _ _ _ h => h) (Or.inl ⟨rfl, fun w' h => run_load23 (C := Sd gD (dk, dn, dt) w) (.tmp 9) rfl gD _ rfl rfl (fun w h => h.1) w' h⟩) hS ?_
            simp only [Act.put, List.setIfInBounds_toArray, List.set_cons_zero, List.set_cons_succ]
            refine wpAnyH_take (i := 1) (oi := ⟨some 64, _, _, _, _, _⟩) (v := .pointer (some ⟨gD, 0, none⟩)) rfl (by kernel_rfl) (by kernel_rfl) (by kernel_rfl) (fun _ _ _ h => h) (Or.inl ⟨rfl, fun w' h => by go_simp⟩) hS ?_
            simp only [Act.put, List.setIfInBounds_toArray, List.set_cons_zero, List.set_cons_succ]
            refine wpAnyH_take (i := 2) (oi := ⟨some 65, _, _, _, _, _⟩) (v := .int .i64 dk) rfl (by kernel_rfl) (by kernel_rfl) (by kernel_rfl) (fun _ _ _ h => h) (Or.inl ⟨rfl, fun w' h => run_ld3 (C := Sd gD (dk, dn, dt) w) (.tmp 64) rfl gD 0 dk rfl (fun w h => (cell_of_row w _ 0 _ _ _ h.1).trans rfl) w' h⟩) hS ?_
            simp only [Act.put, List.setIfInBounds_toArray, List.set_cons_zero, List.set_cons_succ]
            refine wpAnyH_take (i := 3) (oi := ⟨some 66, _, _, _, _, _⟩) (v := .bool false) rfl (by kernel_rfl) (by kernel_rfl) (by kernel_rfl) (fun _ _ _ h => h) (Or.inl ⟨rfl, fun w' h => by go_simp⟩) hS ?_
            simp only [Act.put, List.setIfInBounds_toArray, List.set_cons_zero, List.set_cons_succ]
            refine wpAnyH_take (i := 4) (oi := ⟨some 67, _, _, _, _, _⟩) (v := .bool false) rfl (by kernel_rfl) (by kernel_rfl) (by kernel_rfl) (fun _ _ _ h => h) (Or.inl ⟨rfl, fun w' h => by go_simp⟩) hS ?_
            simp only [Act.put, List.setIfInBounds_toArray, List.set_cons_zero, List.set_cons_succ]
            refine wpAnyH_take (i := 5) (oi := ⟨some 68, _, _, _, _, _⟩) (v := undef) rfl (by kernel_rfl) (by kernel_rfl) (by kernel_rfl) (fun _ _ _ h => h) (Or.inr ⟨rfl, rfl⟩) hS ?_
            simp only [Act.put, List.setIfInBounds_toArray, List.set_cons_zero, List.set_cons_succ]
            refine wpAnyH_take (i := 6) (oi := ⟨some 69, _, _, _, _, _⟩) (v := undef) rfl (by kernel_rfl) (by kernel_rfl) (by kernel_rfl) (fun _ _ _ h => h) (Or.inr ⟨rfl, rfl⟩) hS ?_
            simp only [Act.put, List.setIfInBounds_toArray, List.set_cons_zero, List.set_cons_succ]
            refine wpAnyH_take (i := 7) (oi := ⟨some 70, _, _, _, _, _⟩) (v := undef) rfl (by kernel_rfl) (by kernel_rfl) (by kernel_rfl) (fun _ _ _ h => h) (Or.inr ⟨rfl, rfl⟩) hS ?_
            simp only [Act.put, List.setIfInBounds_toArray, List.set_cons_zero, List.set_cons_succ]
            refine wpAnyH_take (i := 8) (oi := ⟨some 71, _, _, _, _, _⟩) (v := undef) rfl (by kernel_rfl) (by kernel_rfl) (by kernel_rfl) (fun _ _ _ h => h) (Or.inr ⟨rfl, rfl⟩) hS ?_
            simp only [Act.put, List.setIfInBounds_toArray, List.set_cons_zero, List.set_cons_succ]
            refine wpAnyH_take (i := 9) (oi := ⟨some 72, _, _, _, _, _⟩) (v := undef) rfl (by kernel_rfl) (by kernel_rfl) (by kernel_rfl) (fun _ _ _ h => h) (Or.inr ⟨rfl, rfl⟩) hS ?_
            simp only [Act.put, List.setIfInBounds_toArray, List.set_cons_zero, List.set_cons_succ]
            refine wpAnyH_take (i := 10) (oi := ⟨some 73, _, _, _, _, _⟩) (v := .bool false) rfl (by kernel_rfl) (by kernel_rfl) (by kernel_rfl) (fun _ _ _ h => h) (Or.inl ⟨rfl, fun w' h => by go_simp⟩) hS ?_
            simp only [Act.put, List.setIfInBounds_toArray, List.set_cons_zero, List.set_cons_succ]
            refine wpAnyH_ready (rs := [11]) (by kernel_rfl) (by simp) ?_
            refine AllReadyH.cons rfl (fun K hK => ?_) AllReadyH.nil
            rw [if_pos (by rfl)]
            refine wp_store_row 23 (.tmp 2) (.tmp 63) rfl w.heap.size (cells (dk, dn, dt)) rfl rfl 23 (cells nullT) Re.out size23 rfl (by simp [Value.oneCell']) ?_
            have hP := puts_setRow (cells := cells (dk, dn, dt)) Re.out
            generalize World.setRow _ w.heap.size (cells (dk, dn, dt)) = wz at hP ⊢
            refine hK.out _ _ ⟨(hP.keeps.block _ (lt_of_block hS.1) (by omega)).trans hS.1, hP.below hS.2 (Nat.le_refl _)⟩ ?_
            have HP := Lib.hid hP
            have BZ := Lib.hid (hP.below hS.2 (Nat.le_refl _))
            clear hK K hP hS
            intro hS
            try simp only [Act.put]
            refine wpAnyH_take (i := 12) (oi := ⟨some 3, _, _, _, _, _⟩) (v := .bool false) rfl (by kernel_rfl) (by kernel_rfl) (by kernel_rfl) (fun _ _ _ h => h) (Or.inl ⟨rfl, fun w' h => by go_simp⟩) hS ?_
            simp only [Act.put]
            refine wpAnyH_done (by kernel_rfl) ?_ _
            clear hS
            go_wp2
            exact bodyPost_ret (ret23_tmp (x := (dk, dn, dt)) (v := .bool false) rfl rfl HP.out.at' rfl) rfl ⟨MfP.mk s (dk, dn, dt) false HDR.out (by rw [HMM.out]; rfl), BZ.out⟩
  · have HE := Lib.hid (mf_size hz)
    have hz' : (((s.size : Nat) : Int) != 19) = true := by simp; omega
    clear hz
    go_enter Tryz.func180, Tryz.ntmps180
    go_wp2_with (refine store23 rfl (.tmp 2) (.tmp 13) rfl w.heap.size nullT rfl rfl nullT (new_at _ _ _ rfl) ?_; intro wz hp; have HP := Lib.hid hp; clear hp)
    exact bodyPost_ret (ret23_tmp (x := nullT) (v := .bool false) rfl rfl HP.out.at' rfl) rfl ⟨MfP.mk s nullT false nullT_right (by rw [HE.out]; rfl), HP.out.low (by go_grown) (Nat.le_refl _)⟩
end YtabojeleomfgnaaGreatDoor
end Go.Proofs
namespace Go.Proofs
open Go.RowKit
namespace YtabojeleomfgnaaGreatDoor
set_option maxRecDepth 100000
/-- the cells of a list of values -/
def flatV (L : List V3) : List Value := L.flatMap fun x => [.int .i64 x.1, .int .i64 x.2.1, .string x.2.2]
theorem flatV_append (L M : List V3) : flatV (L ++ M) = flatV L ++ flatV M := List.flatMap_append
theorem flatV_length : ∀ L : List V3, (flatV L).length = L.length * 3
  | [] => rfl
  | x :: L => by
    have := flatV_length L
    show ([Value.int .i64 x.1, .int .i64 x.2.1, .string x.2.2] ++ flatV L).length = _
    rw [List.length_append, this]; simp; omega
theorem flatV_one (x : V3) : ∀ u ∈ flatV [x], u.oneCell' = true := by
  intro u hu
  simp only [flatV, List.flatMap_cons, List.flatMap_nil, List.append_nil, List.mem_cons, List.not_mem_nil, or_false] at hu
  rcases hu with rfl | rfl | rfl <;> rfl
theorem info23i : (Tryz.prog.info? 23).map (fun i => (i.zero, i.size, i.bytes)) = some (some (.agg #[.int .i64 0, .int .i64 0, .string ⟨#[]⟩]), 3, 32) := by kernel_rfl
def Av (L : List V3) (v : Value) (w0 w : World) : Prop := w.ownsRow w0.heap.size 23 3 v L.length (flatV L) ∧ Below w0.heap.size w0 w
theorem Av.below {L : List V3} {v : Value} {w0 w w' : World} (h : Av L v w0 w) (hb : Below w.heap.size w w') : Av L v w0 w' := by
  refine ⟨?_, below_call h.2 hb⟩
  obtain ⟨⟨h1, h2⟩, _⟩ := h
  refine ⟨h1, ?_⟩
  rcases h2 with h2 | ⟨g, cap, cur, hv, h3, h4, h5⟩
  · exact Or.inl h2
  · exact Or.inr ⟨g, cap, cur, hv, h3, (hb.block _ (lt_of_block h4)).trans h4, h5⟩
theorem Av.alloc {L : List V3} {v : Value} {w0 w : World} (h : Av L v w0 w) (o : Obj) : Av L v w0 (w.alloc o) := h.below ((Below.refl _ w).alloc (Nat.le_refl _) o)
theorem news23 (w : World) (x : V3) (j : Nat) (u : Value) (h : (flatV [x])[j]? = some u) : (w.alloc (.cells (cells x) 23)).cell? ((⟨w.heap.size, 0, none⟩ : Addr).add j) = some u := by
  have hr : (w.alloc (.cells (cells x) 23)).heap[w.heap.size]? = some (.cells (cells x) 23 (0, 0)) := heap_alloc_new w _
  have hj : j < 3 := by
    have := (List.getElem?_eq_some_iff.1 h).1
    rw [flatV_length] at this
    simpa using this
  rcases (by omega : j = 0 ∨ j = 1 ∨ j = 2) with rfl | rfl | rfl
  · exact (cell_of_row _ _ 0 _ _ _ hr).trans h
  · exact (cell_of_row _ _ 1 _ _ _ hr).trans h
  · exact (cell_of_row _ _ 2 _ _ _ hr).trans h
theorem wpList_pushV {ops : Array Oper} {rest : List Oper} {o : Oper} {a : Act} {w : World} {Q : Exit → Act → World → Prop} (hgd : o.guard = none) (s x : Operand) (ho : o.op = .call { callee := .builtin .append, args := #[s, x], argTypes := #[28, 28] })
    (w0 wr : World) (L : List V3) (v : Value) (p : V3) (hs : a.eval s = v) (hA : Av L v w0 wr) (hw : w = wr.alloc (.cells (cells p) 23)) (hx : a.eval x = .slice (some ⟨wr.heap.size, 0, none⟩) 1 1) (hlen : L.length ≤ 1000)
    (h : ∀ v' w', Av (L ++ [p]) v' w0 w' → wpList Tryz.prog ops Q rest (a.put o.dst v') w') : wpList Tryz.prog ops Q (o :: rest) a w := by
  subst hw
  obtain ⟨i3, hi, hz0, hz1, hz2⟩ := info_parts info23i
  have hA1 := hA.alloc (.cells (cells p) 23)
  refine wpList_append_own _ hgd s x 28 ho w0.heap.size 23 i3 (.agg #[.int .i64 0, .int .i64 0, .string ⟨#[]⟩]) 3 32 Tryz.underlying28 hi hz0 hz1 hz2 rfl (by decide) v L.length _ hs hA1.1 ⟨wr.heap.size, 0, none⟩ 1 1 (flatV [p]) hx (by rw [flatV_length]; rfl) (news23 wr p) (flatV_one p) (by unfold maxLen; omega) (by omega) hA1.2.size ?_
  intro v' w' h1 h2 _
  refine h v' w' ⟨?_, hA1.2.grown h2 hA1.2.size (fun k hk => (hA1.1.lt k hk).1)⟩
  rw [flatV_append]
  simpa using h1
abbrev BaseL : List V3 := [nullT, boolT true, boolT false]
theorem Av.base (w : World) (w0 : World) (hb : Below w0.heap.size w0 w) : Av BaseL (.slice (some ⟨w.heap.size, 0, none⟩) 3 3) w0 (w.alloc (.cells #[.int .i64 0, .int .i64 0, .string ⟨#[]⟩, .int .i64 1, .int .i64 1, .string ⟨#[]⟩, .int .i64 1, .int .i64 0, .string ⟨#[]⟩] 23)) :=
  ⟨⟨rfl, Or.inr ⟨w.heap.size, 3, _, rfl, hb.size, heap_alloc_new w _, by decide, by unfold maxLen; omega, rfl, rfl⟩⟩, hb.alloc hb.size _⟩
theorem cnum_len (s : ByteArray) : (cnumT s).length ≤ 1 := by unfold cnumT; split <;> simp
theorem ctxt_len (s : ByteArray) : (ctxtT s).length ≤ 1 := by unfold ctxtT; split <;> simp
theorem cmom_len (s : ByteArray) : (cmomT s).length ≤ 1 := by unfold cmomT; split <;> simp
theorem cand_len (s : ByteArray) : (candT s).length ≤ 6 := by
  unfold candT
  have := cnum_len s
  have := ctxt_len s
  have := cmom_len s
  simp only [List.length_append, List.length_cons, List.length_nil]
  omega
theorem hp_first (s : ByteArray) (h : 0 < s.size) : (hpB s ⟨#[39]⟩ = true) ↔ ((s[0].toNat : Int) == 39) = true := by
  rw [hp_head]
  have e : s.data.toList[0]? = some s[0] := by
    rw [List.getElem?_eq_getElem (by simpa using h)]; rfl
  constructor
  · rintro ⟨r, hr⟩
    rw [hr] at e
    have : (39 : UInt8) = s[0] := by simpa using e
    rw [← this]; rfl
  · intro hb
    have h2 : (s[0].toNat : Int) = 39 := by simpa using hb
    have h3 : s[0] = 39 := UInt8.toNat_inj.1 (by show s[0].toNat = 39; omega)
    rw [h3] at e
    cases hl : s.data.toList with
    | nil => rw [hl] at e; cases e
    | cons a r => rw [hl] at e; exact ⟨r, by rw [Option.some.inj e]⟩
def CandP (L : List V3) (w0 : World) (e : Ending) (w : World) : Prop := ∃ v, e = .returned v ∧ Av L v w0 w
theorem CandP.mk {L M : List V3} {v : Value} {w0 w : World} (h : Av M v w0 w) (hL : L = M) : CandP L w0 (.returned v) w := ⟨v, rfl, hL ▸ h⟩
set_option maxHeartbeats 8000000 in
theorem cands_t (s : ByteArray) (hs : s.size ≤ 2000000) (w : World) (hL : Lb w) : Calls Tryz.prog 105 #[.string s] w fun e w' => CandP (candT s) w e w' := by
  have HL := Lib.hid hL
  have HC : Hid (candT s = BaseL ++ cnumT s ++ ctxtT s ++ cmomT s) := Lib.hid rfl
  have l1 := cnum_len s
  have l2 := ctxt_len s
  have hl0 : BaseL.length ≤ 1000 := by decide
  have hl1 : (BaseL ++ cnumT s).length ≤ 1000 := by simp only [List.length_append, List.length_cons, List.length_nil]; omega
  have hl2 : (BaseL ++ cnumT s ++ ctxtT s).length ≤ 1000 := by simp only [List.length_append, List.length_cons, List.length_nil]; omega
  have CT1 : Hid (∀ w, Calls Tryz.prog 116 #[.bool true] w fun e w' => e = .returned (val 1 1 ⟨#[]⟩) ∧ Below w.heap.size w w') := Lib.hid (truth_t true)
  have CT2 : Hid (∀ w, Calls Tryz.prog 116 #[.bool false] w fun e w' => e = .returned (val 1 0 ⟨#[]⟩) ∧ Below w.heap.size w w') := Lib.hid (truth_t false)
  have CTR := Lib.hid (trim_t s)
  have CMF := Lib.hid (fun w hw => momFrom_t (trimB s) w hw)
  have H3 : Hid (∀ (v : V3) (b : Bool), mfT (trimB s) = (if b = true then some v else none) → cmomT s = if b = true then [v] else []) := Lib.hid (fun v b h => by unfold cmomT; rw [h]; cases b <;> rfl)
  generalize candT s = CL at *
  generalize trimB s = TR at *
  generalize cmomT s = L3 at *
  clear hL l1 l2
  by_cases h1 : 1 < s.size
  · have h0 : 0 < s.size := by omega
    have hq := hp_first s h0
    cases hb : ((s[0].toNat : Int) == 39) with
    | true =>
      have hq2 := hq.2 hb
      have hx : (s.extract 1 (s.size - 1)).size ≤ 2000000 := by rw [ByteArray.size_extract]; omega
      have CU := Lib.hid (fun w hw => unq_t (s.extract 1 (s.size - 1)) (by omega) w hw)
      have hy := unq_size (s.extract 1 (s.size - 1))
      have CW : ∀ w, Calls Tryz.prog 179 #[.string (unqB (s.extract 1 (s.size - 1)))] w fun e w' => e = .returned (toV (textT (unqB (s.extract 1 (s.size - 1))))) ∧ Below w.heap.size w w' := word_t (unqB (s.extract 1 (s.size - 1))) (by unfold maxLen; omega)
      have HX : ctxtT s = [textT (unqB (s.extract 1 (s.size - 1)))] := by unfold ctxtT; rw [if_pos ⟨h1, hq2⟩]
      generalize textT (unqB (s.extract 1 (s.size - 1))) = XX at *
      obtain ⟨xk, xn, xt⟩ := XX
      have CW : Hid (∀ w, Calls Tryz.prog 179 #[.string (unqB (s.extract 1 (s.size - 1)))] w fun e w' => e = .returned (val xk xn xt) ∧ Below w.heap.size w w') := Lib.hid CW
      have HX := Lib.hid HX
      clear hq hq2 hx hy
      cases ha : atoiT s with
      | some n =>
        have HN : cnumT s = [numT 2 n] := by unfold cnumT; rw [ha]
        have CA := Lib.hid (atoi_ok s (by omega) n ha)
        have CN : ∀ w, Calls Tryz.prog 118 #[.int .i64 n] w fun e w' => e = .returned (toV (numT 2 n)) ∧ Below w.heap.size w w' := rnumber_t n
        generalize numT 2 n = NN at *
        obtain ⟨nk, nn, nt⟩ := NN
        have CN : Hid (∀ w, Calls Tryz.prog 118 #[.int .i64 n] w fun e w' => e = .returned (val nk nn nt) ∧ Below w.heap.size w w') := Lib.hid CN
        have HN := Lib.hid HN
        clear ha
        go_enter Tryz.func105, Tryz.ntmps105
        go_wp2_with fail
        refine (CT1.out _).mono ?_
        rintro e w1 ⟨rfl, hb1⟩
        have B1 := Lib.hid hb1
        clear hb1
        go_wp2_with fail
        refine (CT2.out _).mono ?_
        rintro e w2 ⟨rfl, hb2⟩
        have B2 := Lib.hid (B1.out.trans (hb2.mono B1.out.size))
        clear hb2
        go_wp2_with fail
        have A0 := Lib.hid (Av.base w2 w B2.out)
        generalize w2.alloc (.cells #[.int .i64 0, .int .i64 0, .string ⟨#[]⟩, .int .i64 1, .int .i64 1, .string ⟨#[]⟩, .int .i64 1, .int .i64 0, .string ⟨#[]⟩] 23) = w3 at A0 ⊢
        refine (CA.out _).mono ?_
        rintro e w4 ⟨rfl, hb4⟩
        have A0b := Lib.hid (A0.out.below hb4)
        clear hb4
        go_wp2_with fail
        refine (CN.out _).mono ?_
        rintro e w5 ⟨rfl, hb5⟩
        have A0c := Lib.hid (A0b.out.below hb5)
        clear hb5
        go_wp2_with (at_builtin; go_must (refine wpList_pushV rfl (.tmp 19) (.tmp 22) rfl w w5 _ _ (nk, nn, nt) rfl A0c.out rfl rfl hl0 ?_); intro v2 w5b hA'; have A1 := Lib.hid (show Av (BaseL ++ cnumT s) v2 w w5b from by rw [HN.out]; exact hA'); clear hA')
        go_wp2_with fail
        refine (CU.out _ (HL.out.below A1.out.2)).mono ?_
        rintro e w6 ⟨rfl, hb6⟩
        have A1b := Lib.hid (A1.out.below hb6)
        clear hb6
        go_wp2_with fail
        refine (CW.out _).mono ?_
        rintro e w7 ⟨rfl, hb7⟩
        have A1c := Lib.hid (A1b.out.below hb7)
        clear hb7
        go_wp2_with (at_builtin; go_must (refine wpList_pushV rfl (.tmp 32) (.tmp 40) rfl w w7 _ _ (xk, xn, xt) rfl A1c.out rfl rfl hl1 ?_); intro v4 w7b hA'; have A2 := Lib.hid (show Av (BaseL ++ cnumT s ++ ctxtT s) v4 w w7b from by rw [HX.out]; exact hA'); clear hA')
        go_wp2_with fail
        refine (CTR.out _).mono ?_
        rintro e wx ⟨rfl, hwx⟩
        rw [hwx]
        clear hwx wx
        go_wp2_with fail
        refine (CMF.out _ (HL.out.below A2.out.2)).mono ?_
        rintro e w8 ⟨⟨⟨mk, mn, mt⟩, b, rfl, hmr, hm⟩, hb8⟩
        have A3 := Lib.hid (A2.out.below hb8)
        have hm2 := H3.out _ _ hm
        clear hb8 hmr hm
        cases b with
        | true =>
          have HM := Lib.hid (show L3 = [(mk, mn, mt)] from hm2)
          clear hm2
          go_wp2_with (first | (refine store23 rfl (.tmp 6) (.tmp 46) rfl w8.heap.size (mk, mn, mt) rfl rfl nullT (new_at _ _ _ rfl) ?_; intro w9 hp; have A4 := Lib.hid (A3.out.below ((hp.below ((Below.refl _ w8).alloc (Nat.le_refl _) _) (Nat.le_refl _)))); have a0 : w9.cell? ⟨w8.heap.size, 0, none⟩ = some (.int .i64 mk) := (cell_of_row w9 _ 0 _ _ _ hp.at').trans rfl; have a1 : w9.cell? ⟨w8.heap.size, 1, none⟩ = some (.int .i64 mn) := (cell_of_row w9 _ 1 _ _ _ hp.at').trans rfl; have a2 : w9.cell? ⟨w8.heap.size, 2, none⟩ = some (.string mt) := (cell_of_row w9 _ 2 _ _ _ hp.at').trans rfl; clear hp) | (at_builtin; go_must (refine wpList_pushV rfl (.tmp 49) (.tmp 51) rfl w w9 _ _ (mk, mn, mt) rfl A4.out rfl rfl hl2 ?_); intro v5 w10 hA'; have A5 := Lib.hid hA'; clear hA'))
          go_ret
          exact CandP.mk A5.out (by rw [HC.out, HM.out])
        | false =>
          have HM := Lib.hid (show L3 = [] from hm2)
          clear hm2
          go_wp2_with (refine store23 rfl (.tmp 6) (.tmp 46) rfl w8.heap.size (mk, mn, mt) rfl rfl nullT (new_at _ _ _ rfl) ?_; intro w9 hp; have A4 := Lib.hid (A3.out.below ((hp.below ((Below.refl _ w8).alloc (Nat.le_refl _) _) (Nat.le_refl _)))); clear hp)
          go_ret
          exact CandP.mk A4.out (by rw [HC.out, HM.out, List.append_nil])
      | none =>
        have HN : Hid (cnumT s = []) := Lib.hid (by unfold cnumT; rw [ha])
        have CA := Lib.hid (fun w hw => atoi_no s (by omega) ha w hw)
        clear ha
        go_enter Tryz.func105, Tryz.ntmps105
        go_wp2_with fail
        refine (CT1.out _).mono ?_
        rintro e w1 ⟨rfl, hb1⟩
        have B1 := Lib.hid hb1
        clear hb1
        go_wp2_with fail
        refine (CT2.out _).mono ?_
        rintro e w2 ⟨rfl, hb2⟩
        have B2 := Lib.hid (B1.out.trans (hb2.mono B1.out.size))
        clear hb2
        go_wp2_with fail
        have A0 := Lib.hid (Av.base w2 w B2.out)
        generalize w2.alloc (.cells #[.int .i64 0, .int .i64 0, .string ⟨#[]⟩, .int .i64 1, .int .i64 1, .string ⟨#[]⟩, .int .i64 1, .int .i64 0, .string ⟨#[]⟩] 23) = w3 at A0 ⊢
        refine (CA.out _ (HL.out.below A0.out.2)).mono ?_
        rintro e w4 ⟨⟨ek, ep, rfl⟩, hb4⟩
        have A1 := Lib.hid (show Av (BaseL ++ cnumT s) _ w _ from by rw [HN.out, List.append_nil]; exact A0.out.below hb4)
        clear hb4
        go_wp2_with fail
        refine (CU.out _ (HL.out.below A1.out.2)).mono ?_
        rintro e w6 ⟨rfl, hb6⟩
        have A1b := Lib.hid (A1.out.below hb6)
        clear hb6
        go_wp2_with fail
        refine (CW.out _).mono ?_
        rintro e w7 ⟨rfl, hb7⟩
        have A1c := Lib.hid (A1b.out.below hb7)
        clear hb7
        go_wp2_with (at_builtin; go_must (refine wpList_pushV rfl (.tmp 32) (.tmp 40) rfl w w7 _ _ (xk, xn, xt) rfl A1c.out rfl rfl hl1 ?_); intro v4 w7b hA'; have A2 := Lib.hid (show Av (BaseL ++ cnumT s ++ ctxtT s) v4 w w7b from by rw [HX.out]; exact hA'); clear hA')
        go_wp2_with fail
        refine (CTR.out _).mono ?_
        rintro e wx ⟨rfl, hwx⟩
        rw [hwx]
        clear hwx wx
        go_wp2_with fail
        refine (CMF.out _ (HL.out.below A2.out.2)).mono ?_
        rintro e w8 ⟨⟨⟨mk, mn, mt⟩, b, rfl, hmr, hm⟩, hb8⟩
        have A3 := Lib.hid (A2.out.below hb8)
        have hm2 := H3.out _ _ hm
        clear hb8 hmr hm
        cases b with
        | true =>
          have HM := Lib.hid (show L3 = [(mk, mn, mt)] from hm2)
          clear hm2
          go_wp2_with (first | (refine store23 rfl (.tmp 6) (.tmp 46) rfl w8.heap.size (mk, mn, mt) rfl rfl nullT (new_at _ _ _ rfl) ?_; intro w9 hp; have A4 := Lib.hid (A3.out.below ((hp.below ((Below.refl _ w8).alloc (Nat.le_refl _) _) (Nat.le_refl _)))); have a0 : w9.cell? ⟨w8.heap.size, 0, none⟩ = some (.int .i64 mk) := (cell_of_row w9 _ 0 _ _ _ hp.at').trans rfl; have a1 : w9.cell? ⟨w8.heap.size, 1, none⟩ = some (.int .i64 mn) := (cell_of_row w9 _ 1 _ _ _ hp.at').trans rfl; have a2 : w9.cell? ⟨w8.heap.size, 2, none⟩ = some (.string mt) := (cell_of_row w9 _ 2 _ _ _ hp.at').trans rfl; clear hp) | (at_builtin; go_must (refine wpList_pushV rfl (.tmp 49) (.tmp 51) rfl w w9 _ _ (mk, mn, mt) rfl A4.out rfl rfl hl2 ?_); intro v5 w10 hA'; have A5 := Lib.hid hA'; clear hA'))
          go_ret
          exact CandP.mk A5.out (by rw [HC.out, HM.out])
        | false =>
          have HM := Lib.hid (show L3 = [] from hm2)
          clear hm2
          go_wp2_with (refine store23 rfl (.tmp 6) (.tmp 46) rfl w8.heap.size (mk, mn, mt) rfl rfl nullT (new_at _ _ _ rfl) ?_; intro w9 hp; have A4 := Lib.hid (A3.out.below ((hp.below ((Below.refl _ w8).alloc (Nat.le_refl _) _) (Nat.le_refl _)))); clear hp)
          go_ret
          exact CandP.mk A4.out (by rw [HC.out, HM.out, List.append_nil])
    | false =>
      have HX : Hid (ctxtT s = []) := Lib.hid (by unfold ctxtT; rw [if_neg (fun h => by rw [hq.1 h.2] at hb; cases hb)])
      clear hq
      cases ha : atoiT s with
      | some n =>
        have HN : cnumT s = [numT 2 n] := by unfold cnumT; rw [ha]
        have CA := Lib.hid (atoi_ok s (by omega) n ha)
        have CN : ∀ w, Calls Tryz.prog 118 #[.int .i64 n] w fun e w' => e = .returned (toV (numT 2 n)) ∧ Below w.heap.size w w' := rnumber_t n
        generalize numT 2 n = NN at *
        obtain ⟨nk, nn, nt⟩ := NN
        have CN : Hid (∀ w, Calls Tryz.prog 118 #[.int .i64 n] w fun e w' => e = .returned (val nk nn nt) ∧ Below w.heap.size w w') := Lib.hid CN
        have HN := Lib.hid HN
        clear ha
        go_enter Tryz.func105, Tryz.ntmps105
        go_wp2_with fail
        refine (CT1.out _).mono ?_
        rintro e w1 ⟨rfl, hb1⟩
        have B1 := Lib.hid hb1
        clear hb1
        go_wp2_with fail
        refine (CT2.out _).mono ?_
        rintro e w2 ⟨rfl, hb2⟩
        have B2 := Lib.hid (B1.out.trans (hb2.mono B1.out.size))
        clear hb2
        go_wp2_with fail
        have A0 := Lib.hid (Av.base w2 w B2.out)
        generalize w2.alloc (.cells #[.int .i64 0, .int .i64 0, .string ⟨#[]⟩, .int .i64 1, .int .i64 1, .string ⟨#[]⟩, .int .i64 1, .int .i64 0, .string ⟨#[]⟩] 23) = w3 at A0 ⊢
        refine (CA.out _).mono ?_
        rintro e w4 ⟨rfl, hb4⟩
        have A0b := Lib.hid (A0.out.below hb4)
        clear hb4
        go_wp2_with fail
        refine (CN.out _).mono ?_
        rintro e w5 ⟨rfl, hb5⟩
        have A0c := Lib.hid (A0b.out.below hb5)
        clear hb5
        go_wp2_with (at_builtin; go_must (refine wpList_pushV rfl (.tmp 19) (.tmp 22) rfl w w5 _ _ (nk, nn, nt) rfl A0c.out rfl rfl hl0 ?_); intro v2 w5b hA'; have A1 := Lib.hid (show Av (BaseL ++ cnumT s) v2 w w5b from by rw [HN.out]; exact hA'); clear hA')
        have A2 := Lib.hid (show Av (BaseL ++ cnumT s ++ ctxtT s) _ w _ from by rw [HX.out, List.append_nil]; exact A1.out)
        go_wp2_with fail
        refine (CTR.out _).mono ?_
        rintro e wx ⟨rfl, hwx⟩
        rw [hwx]
        clear hwx wx
        go_wp2_with fail
        refine (CMF.out _ (HL.out.below A2.out.2)).mono ?_
        rintro e w8 ⟨⟨⟨mk, mn, mt⟩, b, rfl, hmr, hm⟩, hb8⟩
        have A3 := Lib.hid (A2.out.below hb8)
        have hm2 := H3.out _ _ hm
        clear hb8 hmr hm
        cases b with
        | true =>
          have HM := Lib.hid (show L3 = [(mk, mn, mt)] from hm2)
          clear hm2
          go_wp2_with (first | (refine store23 rfl (.tmp 6) (.tmp 46) rfl w8.heap.size (mk, mn, mt) rfl rfl nullT (new_at _ _ _ rfl) ?_; intro w9 hp; have A4 := Lib.hid (A3.out.below ((hp.below ((Below.refl _ w8).alloc (Nat.le_refl _) _) (Nat.le_refl _)))); have a0 : w9.cell? ⟨w8.heap.size, 0, none⟩ = some (.int .i64 mk) := (cell_of_row w9 _ 0 _ _ _ hp.at').trans rfl; have a1 : w9.cell? ⟨w8.heap.size, 1, none⟩ = some (.int .i64 mn) := (cell_of_row w9 _ 1 _ _ _ hp.at').trans rfl; have a2 : w9.cell? ⟨w8.heap.size, 2, none⟩ = some (.string mt) := (cell_of_row w9 _ 2 _ _ _ hp.at').trans rfl; clear hp) | (at_builtin; go_must (refine wpList_pushV rfl (.tmp 49) (.tmp 51) rfl w w9 _ _ (mk, mn, mt) rfl A4.out rfl rfl hl2 ?_); intro v5 w10 hA'; have A5 := Lib.hid hA'; clear hA'))
          go_ret
          exact CandP.mk A5.out (by rw [HC.out, HM.out])
        | false =>
          have HM := Lib.hid (show L3 = [] from hm2)
          clear hm2
          go_wp2_with (refine store23 rfl (.tmp 6) (.tmp 46) rfl w8.heap.size (mk, mn, mt) rfl rfl nullT (new_at _ _ _ rfl) ?_; intro w9 hp; have A4 := Lib.hid (A3.out.below ((hp.below ((Below.refl _ w8).alloc (Nat.le_refl _) _) (Nat.le_refl _)))); clear hp)
          go_ret
          exact CandP.mk A4.out (by rw [HC.out, HM.out, List.append_nil])
      | none =>
        have HN : Hid (cnumT s = []) := Lib.hid (by unfold cnumT; rw [ha])
        have CA := Lib.hid (fun w hw => atoi_no s (by omega) ha w hw)
        clear ha
        go_enter Tryz.func105, Tryz.ntmps105
        go_wp2_with fail
        refine (CT1.out _).mono ?_
        rintro e w1 ⟨rfl, hb1⟩
        have B1 := Lib.hid hb1
        clear hb1
        go_wp2_with fail
        refine (CT2.out _).mono ?_
        rintro e w2 ⟨rfl, hb2⟩
        have B2 := Lib.hid (B1.out.trans (hb2.mono B1.out.size))
        clear hb2
        go_wp2_with fail
        have A0 := Lib.hid (Av.base w2 w B2.out)
        generalize w2.alloc (.cells #[.int .i64 0, .int .i64 0, .string ⟨#[]⟩, .int .i64 1, .int .i64 1, .string ⟨#[]⟩, .int .i64 1, .int .i64 0, .string ⟨#[]⟩] 23) = w3 at A0 ⊢
        refine (CA.out _ (HL.out.below A0.out.2)).mono ?_
        rintro e w4 ⟨⟨ek, ep, rfl⟩, hb4⟩
        have A1 := Lib.hid (show Av (BaseL ++ cnumT s) _ w _ from by rw [HN.out, List.append_nil]; exact A0.out.below hb4)
        clear hb4
        have A2 := Lib.hid (show Av (BaseL ++ cnumT s ++ ctxtT s) _ w _ from by rw [HX.out, List.append_nil]; exact A1.out)
        go_wp2_with fail
        refine (CTR.out _).mono ?_
        rintro e wx ⟨rfl, hwx⟩
        rw [hwx]
        clear hwx wx
        go_wp2_with fail
        refine (CMF.out _ (HL.out.below A2.out.2)).mono ?_
        rintro e w8 ⟨⟨⟨mk, mn, mt⟩, b, rfl, hmr, hm⟩, hb8⟩
        have A3 := Lib.hid (A2.out.below hb8)
        have hm2 := H3.out _ _ hm
        clear hb8 hmr hm
        cases b with
        | true =>
          have HM := Lib.hid (show L3 = [(mk, mn, mt)] from hm2)
          clear hm2
          go_wp2_with (first | (refine store23 rfl (.tmp 6) (.tmp 46) rfl w8.heap.size (mk, mn, mt) rfl rfl nullT (new_at _ _ _ rfl) ?_; intro w9 hp; have A4 := Lib.hid (A3.out.below ((hp.below ((Below.refl _ w8).alloc (Nat.le_refl _) _) (Nat.le_refl _)))); have a0 : w9.cell? ⟨w8.heap.size, 0, none⟩ = some (.int .i64 mk) := (cell_of_row w9 _ 0 _ _ _ hp.at').trans rfl; have a1 : w9.cell? ⟨w8.heap.size, 1, none⟩ = some (.int .i64 mn) := (cell_of_row w9 _ 1 _ _ _ hp.at').trans rfl; have a2 : w9.cell? ⟨w8.heap.size, 2, none⟩ = some (.string mt) := (cell_of_row w9 _ 2 _ _ _ hp.at').trans rfl; clear hp) | (at_builtin; go_must (refine wpList_pushV rfl (.tmp 49) (.tmp 51) rfl w w9 _ _ (mk, mn, mt) rfl A4.out rfl rfl hl2 ?_); intro v5 w10 hA'; have A5 := Lib.hid hA'; clear hA'))
          go_ret
          exact CandP.mk A5.out (by rw [HC.out, HM.out])
        | false =>
          have HM := Lib.hid (show L3 = [] from hm2)
          clear hm2
          go_wp2_with (refine store23 rfl (.tmp 6) (.tmp 46) rfl w8.heap.size (mk, mn, mt) rfl rfl nullT (new_at _ _ _ rfl) ?_; intro w9 hp; have A4 := Lib.hid (A3.out.below ((hp.below ((Below.refl _ w8).alloc (Nat.le_refl _) _) (Nat.le_refl _)))); clear hp)
          go_ret
          exact CandP.mk A4.out (by rw [HC.out, HM.out, List.append_nil])
  · have HX : Hid (ctxtT s = []) := Lib.hid (by unfold ctxtT; rw [if_neg (fun h => h1 h.1)])
    cases ha : atoiT s with
    | some n =>
      have HN : cnumT s = [numT 2 n] := by unfold cnumT; rw [ha]
      have CA := Lib.hid (atoi_ok s (by omega) n ha)
      have CN : ∀ w, Calls Tryz.prog 118 #[.int .i64 n] w fun e w' => e = .returned (toV (numT 2 n)) ∧ Below w.heap.size w w' := rnumber_t n
      generalize numT 2 n = NN at *
      obtain ⟨nk, nn, nt⟩ := NN
      have CN : Hid (∀ w, Calls Tryz.prog 118 #[.int .i64 n] w fun e w' => e = .returned (val nk nn nt) ∧ Below w.heap.size w w') := Lib.hid CN
      have HN := Lib.hid HN
      clear ha
      go_enter Tryz.func105, Tryz.ntmps105
      go_wp2_with fail
      refine (CT1.out _).mono ?_
      rintro e w1 ⟨rfl, hb1⟩
      have B1 := Lib.hid hb1
      clear hb1
      go_wp2_with fail
      refine (CT2.out _).mono ?_
      rintro e w2 ⟨rfl, hb2⟩
      have B2 := Lib.hid (B1.out.trans (hb2.mono B1.out.size))
      clear hb2
      go_wp2_with fail
      have A0 := Lib.hid (Av.base w2 w B2.out)
      generalize w2.alloc (.cells #[.int .i64 0, .int .i64 0, .string ⟨#[]⟩, .int .i64 1, .int .i64 1, .string ⟨#[]⟩, .int .i64 1, .int .i64 0, .string ⟨#[]⟩] 23) = w3 at A0 ⊢
      refine (CA.out _).mono ?_
      rintro e w4 ⟨rfl, hb4⟩
      have A0b := Lib.hid (A0.out.below hb4)
      clear hb4
      go_wp2_with fail
      refine (CN.out _).mono ?_
      rintro e w5 ⟨rfl, hb5⟩
      have A0c := Lib.hid (A0b.out.below hb5)
      clear hb5
      go_wp2_with (at_builtin; go_must (refine wpList_pushV rfl (.tmp 19) (.tmp 22) rfl w w5 _ _ (nk, nn, nt) rfl A0c.out rfl rfl hl0 ?_); intro v2 w5b hA'; have A1 := Lib.hid (show Av (BaseL ++ cnumT s) v2 w w5b from by rw [HN.out]; exact hA'); clear hA')
      have A2 := Lib.hid (show Av (BaseL ++ cnumT s ++ ctxtT s) _ w _ from by rw [HX.out, List.append_nil]; exact A1.out)
      go_wp2_with fail
      refine (CTR.out _).mono ?_
      rintro e wx ⟨rfl, hwx⟩
      rw [hwx]
      clear hwx wx
      go_wp2_with fail
      refine (CMF.out _ (HL.out.below A2.out.2)).mono ?_
      rintro e w8 ⟨⟨⟨mk, mn, mt⟩, b, rfl, hmr, hm⟩, hb8⟩
      have A3 := Lib.hid (A2.out.below hb8)
      have hm2 := H3.out _ _ hm
      clear hb8 hmr hm
      cases b with
      | true =>
        have HM := Lib.hid (show L3 = [(mk, mn, mt)] from hm2)
        clear hm2
        go_wp2_with (first | (refine store23 rfl (.tmp 6) (.tmp 46) rfl w8.heap.size (mk, mn, mt) rfl rfl nullT (new_at _ _ _ rfl) ?_; intro w9 hp; have A4 := Lib.hid (A3.out.below ((hp.below ((Below.refl _ w8).alloc (Nat.le_refl _) _) (Nat.le_refl _)))); have a0 : w9.cell? ⟨w8.heap.size, 0, none⟩ = some (.int .i64 mk) := (cell_of_row w9 _ 0 _ _ _ hp.at').trans rfl; have a1 : w9.cell? ⟨w8.heap.size, 1, none⟩ = some (.int .i64 mn) := (cell_of_row w9 _ 1 _ _ _ hp.at').trans rfl; have a2 : w9.cell? ⟨w8.heap.size, 2, none⟩ = some (.string mt) := (cell_of_row w9 _ 2 _ _ _ hp.at').trans rfl; clear hp) | (at_builtin; go_must (refine wpList_pushV rfl (.tmp 49) (.tmp 51) rfl w w9 _ _ (mk, mn, mt) rfl A4.out rfl rfl hl2 ?_); intro v5 w10 hA'; have A5 := Lib.hid hA'; clear hA'))
        go_ret
        exact CandP.mk A5.out (by rw [HC.out, HM.out])
      | false =>
        have HM := Lib.hid (show L3 = [] from hm2)
        clear hm2
        go_wp2_with (refine store23 rfl (.tmp 6) (.tmp 46) rfl w8.heap.size (mk, mn, mt) rfl rfl nullT (new_at _ _ _ rfl) ?_; intro w9 hp; have A4 := Lib.hid (A3.out.below ((hp.below ((Below.refl _ w8).alloc (Nat.le_refl _) _) (Nat.le_refl _)))); clear hp)
        go_ret
        exact CandP.mk A4.out (by rw [HC.out, HM.out, List.append_nil])
    | none =>
      have HN : Hid (cnumT s = []) := Lib.hid (by unfold cnumT; rw [ha])
      have CA := Lib.hid (fun w hw => atoi_no s (by omega) ha w hw)
      clear ha
      go_enter Tryz.func105, Tryz.ntmps105
      go_wp2_with fail
      refine (CT1.out _).mono ?_
      rintro e w1 ⟨rfl, hb1⟩
      have B1 := Lib.hid hb1
      clear hb1
      go_wp2_with fail
      refine (CT2.out _).mono ?_
      rintro e w2 ⟨rfl, hb2⟩
      have B2 := Lib.hid (B1.out.trans (hb2.mono B1.out.size))
      clear hb2
      go_wp2_with fail
      have A0 := Lib.hid (Av.base w2 w B2.out)
      generalize w2.alloc (.cells #[.int .i64 0, .int .i64 0, .string ⟨#[]⟩, .int .i64 1, .int .i64 1, .string ⟨#[]⟩, .int .i64 1, .int .i64 0, .string ⟨#[]⟩] 23) = w3 at A0 ⊢
      refine (CA.out _ (HL.out.below A0.out.2)).mono ?_
      rintro e w4 ⟨⟨ek, ep, rfl⟩, hb4⟩
      have A1 := Lib.hid (show Av (BaseL ++ cnumT s) _ w _ from by rw [HN.out, List.append_nil]; exact A0.out.below hb4)
      clear hb4
      have A2 := Lib.hid (show Av (BaseL ++ cnumT s ++ ctxtT s) _ w _ from by rw [HX.out, List.append_nil]; exact A1.out)
      go_wp2_with fail
      refine (CTR.out _).mono ?_
      rintro e wx ⟨rfl, hwx⟩
      rw [hwx]
      clear hwx wx
      go_wp2_with fail
      refine (CMF.out _ (HL.out.below A2.out.2)).mono ?_
      rintro e w8 ⟨⟨⟨mk, mn, mt⟩, b, rfl, hmr, hm⟩, hb8⟩
      have A3 := Lib.hid (A2.out.below hb8)
      have hm2 := H3.out _ _ hm
      clear hb8 hmr hm
      cases b with
      | true =>
        have HM := Lib.hid (show L3 = [(mk, mn, mt)] from hm2)
        clear hm2
        go_wp2_with (first | (refine store23 rfl (.tmp 6) (.tmp 46) rfl w8.heap.size (mk, mn, mt) rfl rfl nullT (new_at _ _ _ rfl) ?_; intro w9 hp; have A4 := Lib.hid (A3.out.below ((hp.below ((Below.refl _ w8).alloc (Nat.le_refl _) _) (Nat.le_refl _)))); have a0 : w9.cell? ⟨w8.heap.size, 0, none⟩ = some (.int .i64 mk) := (cell_of_row w9 _ 0 _ _ _ hp.at').trans rfl; have a1 : w9.cell? ⟨w8.heap.size, 1, none⟩ = some (.int .i64 mn) := (cell_of_row w9 _ 1 _ _ _ hp.at').trans rfl; have a2 : w9.cell? ⟨w8.heap.size, 2, none⟩ = some (.string mt) := (cell_of_row w9 _ 2 _ _ _ hp.at').trans rfl; clear hp) | (at_builtin; go_must (refine wpList_pushV rfl (.tmp 49) (.tmp 51) rfl w w9 _ _ (mk, mn, mt) rfl A4.out rfl rfl hl2 ?_); intro v5 w10 hA'; have A5 := Lib.hid hA'; clear hA'))
        go_ret
        exact CandP.mk A5.out (by rw [HC.out, HM.out])
      | false =>
        have HM := Lib.hid (show L3 = [] from hm2)
        clear hm2
        go_wp2_with (refine store23 rfl (.tmp 6) (.tmp 46) rfl w8.heap.size (mk, mn, mt) rfl rfl nullT (new_at _ _ _ rfl) ?_; intro w9 hp; have A4 := Lib.hid (A3.out.below ((hp.below ((Below.refl _ w8).alloc (Nat.le_refl _) _) (Nat.le_refl _)))); clear hp)
        go_ret
        exact CandP.mk A4.out (by rw [HC.out, HM.out, List.append_nil])
end YtabojeleomfgnaaGreatDoor
end Go.Proofs
