/- Tokens: the terms that a token is made of, by the program and by the reference. -/
import Derived.Test.YtbihfgcejlgffaaVa
namespace Go.Proofs
open Go.RowKit
namespace Ytbihfgcejlgffaa
set_option maxRecDepth 100000
/-- the cells of a list of numbers -/
def Zs (w : World) (a : Option Addr) (zs : List Int) : Prop := zs = [] ∨ ∃ b o, a = some ⟨b, o, none⟩ ∧ ∀ j, j < zs.length → w.cell? ⟨b, o + j, none⟩ = some (.int .i64 (zs.getD j 0))
theorem Zs.below {w w' : World} {a : Option Addr} {zs : List Int} (h : Zs w a zs) (hb : Below w.heap.size w w') : Zs w' a zs := by
  rcases h with h | ⟨b, o, ha, hf⟩
  · exact Or.inl h
  · exact Or.inr ⟨b, o, ha, fun j hj => (hb.cell (p := ⟨b, o + j, none⟩) (block_lt_of_cell (hf j hj))).trans (hf j hj)⟩
def badB (x : Int) : Bool := decide (x < 1 ∨ 999999999999999 < x)
def momB (x : Int) : Bool := decide (0 ≤ x ∧ x ≤ 253402300799)
theorem tenant_t (x : Int) (w : World) : Calls Try.prog 34 #[.int .i64 x] w fun e w' => e = .returned (.bool (!badB x)) ∧ w' = w := by
  go_enter Try.func34, Try.ntmps34
  go_wp2
  all_goals (go_ret; exact ⟨ret_bool (by rw [Bool.eq_iff_iff]; simp [badB] <;> omega), rfl⟩)
theorem bad33_t (x : Int) (w : World) : Calls Try.prog 33 #[.int .i64 x] w fun e w' => e = .returned (.bool (badB x)) ∧ w' = w := by
  go_enter Try.func33, Try.ntmps33
  go_wp2_with fail
  refine (tenant_t _ _).mono ?_
  rintro e wx ⟨rfl, hwx⟩
  rw [hwx]
  clear hwx wx
  go_wp2
  go_ret
  exact ⟨by simp, rfl⟩
theorem bad38_t (x : Int) (w : World) : Calls Try.prog 38 #[.int .i64 x] w fun e w' => e = .returned (.bool (badB x)) ∧ w' = w := by
  go_enter Try.func38, Try.ntmps38
  go_wp2
  all_goals (go_ret; exact ⟨ret_bool (by rw [Bool.eq_iff_iff]; simp [badB] <;> omega), rfl⟩)
theorem moment_t (x : Int) (w : World) : Calls Try.prog 24 #[.int .i64 x] w fun e w' => e = .returned (.bool (momB x)) ∧ w' = w := by
  go_enter Try.func24, Try.ntmps24
  go_wp2
  all_goals (go_ret; exact ⟨ret_bool (by rw [Bool.eq_iff_iff]; simp [momB] <;> omega), rfl⟩)
theorem any_no {zs : List Int} (h : ∀ j, j < zs.length → badB (zs.getD j 0) = false) : zs.any badB = false := by
  rw [List.any_eq_false]
  intro x hx
  obtain ⟨j, hj, rfl⟩ := List.getElem_of_mem hx
  have := h j hj
  simp only [List.getD, List.getElem?_eq_getElem hj, Option.getD_some] at this
  simp [this]
theorem any_yes {zs : List Int} {j : Nat} (hj : j < zs.length) (h : badB (zs.getD j 0) = true) : zs.any badB = true := by
  simp only [List.getD, List.getElem?_eq_getElem hj, Option.getD_some] at h
  exact List.any_eq_true.mpr ⟨_, List.getElem_mem hj, h⟩
set_option maxHeartbeats 1000000 in
theorem index33_t (a : Option Addr) (c : Nat) (zs : List Int) (hl : zs.length ≤ 100000) (w : World) (hz : Zs w a zs) :
    Calls Try.prog 55 #[.slice a zs.length c, .func (.func 33) #[] #[]] w fun e w' => (∃ r : Int, e = .returned (.int .i64 r) ∧ decide (0 ≤ r) = zs.any badB) ∧ w' = w := by
  have CB := Lib.hid (fun x w => bad33_t x w)
  have HZ := Lib.hid hz
  have HN := Lib.hid (@any_no zs)
  have HY : Hid (∀ j, j < zs.length → badB (zs.getD j 0) = true → zs.any badB = true) := Lib.hid (fun j hj h => any_yes hj h)
  clear hz
  go_enter Try.func55, Try.ntmps55
  go_wp2
  go_loop [8] (fun i => ∃ k : Nat, k ≤ zs.length ∧ i = .int .i64 k ∧ Hid (∀ j, j < k → badB (zs.getD j 0) = false)) (fun i => zs.length - (intOf i).toNat)
  case atStart => exact ⟨0, Nat.zero_le _, rfl, Lib.hid (fun j hj => absurd hj (Nat.not_lt_zero _))⟩
  case round =>
    obtain ⟨k, hk, rfl, hk2⟩ := hrel
    by_cases hlt : k < zs.length
    · obtain ⟨b, o, rfl, hf⟩ := HZ.out.resolve_left (fun e => by subst e; exact absurd hlt (Nat.not_lt_zero _))
      have c0 := hf k hlt
      clear hf
      have HK : Hid (badB (zs.getD k 0) = badB (zs.getD k 0)) := Lib.hid rfl
      generalize hx : zs.getD k 0 = x at c0
      have HX := Lib.hid hx
      clear hx
      go_wp2_with fail
      refine (CB.out _ _).mono ?_
      rintro e wx ⟨rfl, hwx⟩
      rw [hwx]
      clear hwx wx
      cases hb : badB x with
      | true =>
        go_wp2_with fail
        go_ret
        exact ⟨⟨_, rfl, by rw [HY.out k hlt (by rw [HX.out]; exact hb)]; simp⟩, rfl⟩
      | false =>
        go_wp2_with fail
        go_round
        case rel =>
          refine ⟨k + 1, by omega, by go_num, Lib.hid (fun j hj => ?_)⟩
          rcases Nat.lt_or_ge j k with h | h
          · exact hk2.out j h
          · obtain rfl : j = k := by omega
            rw [HX.out]; exact hb
        case measure => simp [intOf]; omega
    · obtain rfl : k = zs.length := by omega
      go_wp2_with fail
      go_ret
      exact ⟨⟨_, rfl, by rw [HN.out hk2.out]; simp⟩, rfl⟩
theorem contains33_t (a : Option Addr) (c : Nat) (zs : List Int) (hl : zs.length ≤ 100000) (w : World) (hz : Zs w a zs) :
    Calls Try.prog 32 #[.slice a zs.length c, .func (.func 33) #[] #[]] w fun e w' => e = .returned (.bool (zs.any badB)) ∧ w' = w := by
  have CI := Lib.hid (index33_t a c zs hl w hz)
  clear hz
  go_enter Try.func32, Try.ntmps32
  go_wp2_with fail
  refine CI.out.mono ?_
  rintro e wx ⟨⟨r, rfl, hr⟩, hwx⟩
  rw [hwx]
  clear hwx wx CI
  have HR := Lib.hid hr
  clear hr
  go_wp2_with fail
  go_ret
  exact ⟨by rw [← HR.out]; simp, rfl⟩
set_option maxHeartbeats 1000000 in
theorem index38_t (a : Option Addr) (c : Nat) (zs : List Int) (hl : zs.length ≤ 100000) (w : World) (hz : Zs w a zs) :
    Calls Try.prog 55 #[.slice a zs.length c, .func (.func 38) #[] #[]] w fun e w' => (∃ r : Int, e = .returned (.int .i64 r) ∧ decide (0 ≤ r) = zs.any badB) ∧ w' = w := by
  have CB := Lib.hid (fun x w => bad38_t x w)
  have HZ := Lib.hid hz
  have HN := Lib.hid (@any_no zs)
  have HY : Hid (∀ j, j < zs.length → badB (zs.getD j 0) = true → zs.any badB = true) := Lib.hid (fun j hj h => any_yes hj h)
  clear hz
  go_enter Try.func55, Try.ntmps55
  go_wp2
  go_loop [8] (fun i => ∃ k : Nat, k ≤ zs.length ∧ i = .int .i64 k ∧ Hid (∀ j, j < k → badB (zs.getD j 0) = false)) (fun i => zs.length - (intOf i).toNat)
  case atStart => exact ⟨0, Nat.zero_le _, rfl, Lib.hid (fun j hj => absurd hj (Nat.not_lt_zero _))⟩
  case round =>
    obtain ⟨k, hk, rfl, hk2⟩ := hrel
    by_cases hlt : k < zs.length
    · obtain ⟨b, o, rfl, hf⟩ := HZ.out.resolve_left (fun e => by subst e; exact absurd hlt (Nat.not_lt_zero _))
      have c0 := hf k hlt
      clear hf
      have HK : Hid (badB (zs.getD k 0) = badB (zs.getD k 0)) := Lib.hid rfl
      generalize hx : zs.getD k 0 = x at c0
      have HX := Lib.hid hx
      clear hx
      go_wp2_with fail
      refine (CB.out _ _).mono ?_
      rintro e wx ⟨rfl, hwx⟩
      rw [hwx]
      clear hwx wx
      cases hb : badB x with
      | true =>
        go_wp2_with fail
        go_ret
        exact ⟨⟨_, rfl, by rw [HY.out k hlt (by rw [HX.out]; exact hb)]; simp⟩, rfl⟩
      | false =>
        go_wp2_with fail
        go_round
        case rel =>
          refine ⟨k + 1, by omega, by go_num, Lib.hid (fun j hj => ?_)⟩
          rcases Nat.lt_or_ge j k with h | h
          · exact hk2.out j h
          · obtain rfl : j = k := by omega
            rw [HX.out]; exact hb
        case measure => simp [intOf]; omega
    · obtain rfl : k = zs.length := by omega
      go_wp2_with fail
      go_ret
      exact ⟨⟨_, rfl, by rw [HN.out hk2.out]; simp⟩, rfl⟩
theorem contains38_t (a : Option Addr) (c : Nat) (zs : List Int) (hl : zs.length ≤ 100000) (w : World) (hz : Zs w a zs) :
    Calls Try.prog 32 #[.slice a zs.length c, .func (.func 38) #[] #[]] w fun e w' => e = .returned (.bool (zs.any badB)) ∧ w' = w := by
  have CI := Lib.hid (index38_t a c zs hl w hz)
  clear hz
  go_enter Try.func32, Try.ntmps32
  go_wp2_with fail
  refine CI.out.mono ?_
  rintro e wx ⟨⟨r, rfl, hr⟩, hwx⟩
  rw [hwx]
  clear hwx wx CI
  have HR := Lib.hid hr
  clear hr
  go_wp2_with fail
  go_ret
  exact ⟨by rw [← HR.out]; simp, rfl⟩
/-- what is wrong with the terms of a token -/
def termB (s : ByteArray) (zs : List Int) (u : Int) : Bool := s.toList.isEmpty || (checkN 3 3 0 s != 0) || zs.any badB || !momB u
set_option maxHeartbeats 1000000 in
theorem terms_t (s : ByteArray) (hs : s.size ≤ 1000) (a : Option Addr) (c : Nat) (zs : List Int) (hl : zs.length ≤ 100000) (u : Int) (w : World) (hz : Zs w a zs) :
    Calls Try.prog 15 #[.string s, .slice a zs.length c, .int .i64 u] w fun e w' => e = .returned (.int .i64 (if termB s zs u = true then 1 else 0)) ∧ Below w.heap.size w w' := by
  have CC := Lib.hid (fun w => check_any 3 3 0 s (by unfold maxLen; omega) w)
  have CF := Lib.hid (fun w (hz : Zs w a zs) => contains33_t a c zs hl w hz)
  have HZ := Lib.hid hz
  unfold val at CC
  clear hz
  have HT : Hid ((if termB s zs u = true then (1 : Int) else 0) = if (s.toList.isEmpty || (checkN 3 3 0 s != 0) || zs.any badB || !momB u) = true then 1 else 0) := Lib.hid rfl
  generalize (if termB s zs u = true then (1 : Int) else 0) = T at HT ⊢
  generalize checkN 3 3 0 s = K at CC HT
  generalize zs.any badB = B at CF HT
  go_enter Try.func15, Try.ntmps15
  go_wp2_with fail
  refine (CC.out _).mono ?_
  rintro e w1 ⟨rfl, hb⟩
  have HB := Lib.hid hb
  clear hb
  by_cases h0 : s.toList = []
  · go_wp2_with fail
    all_goals (go_ret; exact ⟨by rw [HT.out]; simp_all, HB.out⟩)
  · by_cases hk : K = 0
    · go_wp2_with fail
      refine (CF.out _ (HZ.out.below HB.out)).mono ?_
      rintro e wx ⟨rfl, hwx⟩
      rw [hwx]
      clear hwx wx
      cases B with
      | true =>
        go_wp2_with fail
        all_goals (go_ret; exact ⟨by rw [HT.out]; simp_all, HB.out⟩)
      | false =>
        go_wp2_with fail
        refine (moment_t _ _).mono ?_
        rintro e wx ⟨rfl, hwx⟩
        rw [hwx]
        clear hwx wx
        generalize momB u = M at HT
        cases M with
        | true =>
          go_wp2_with fail
          all_goals (go_ret; exact ⟨by rw [HT.out]; simp_all, HB.out⟩)
        | false =>
          go_wp2_with fail
          all_goals (go_ret; exact ⟨by rw [HT.out]; simp_all, HB.out⟩)
    · go_wp2_with fail
      all_goals (go_ret; exact ⟨by rw [HT.out]; simp_all, HB.out⟩)
set_option maxHeartbeats 1000000 in
theorem rterms_t (s : ByteArray) (hs : s.size ≤ 1000) (a : Option Addr) (c : Nat) (zs : List Int) (hl : zs.length ≤ 100000) (u : Int) (w : World) (hz : Zs w a zs) :
    Calls Try.prog 19 #[.string s, .slice a zs.length c, .int .i64 u] w fun e w' => e = .returned (.bool (termB s zs u)) ∧ Below w.heap.size w w' := by
  have CC := Lib.hid (fun w => valueFault_any 3 3 0 s (by unfold maxLen; omega) w)
  have CF := Lib.hid (fun w (hz : Zs w a zs) => contains38_t a c zs hl w hz)
  have HZ := Lib.hid hz
  unfold val at CC
  clear hz
  have HT : Hid (termB s zs u = (s.toList.isEmpty || (checkN 3 3 0 s != 0) || zs.any badB || !momB u)) := Lib.hid rfl
  have HM : Hid (momB u = decide (0 ≤ u ∧ u ≤ 253402300799)) := Lib.hid rfl
  generalize termB s zs u = T at HT ⊢
  generalize checkN 3 3 0 s = K at CC HT
  generalize zs.any badB = B at CF HT
  generalize momB u = M at HT HM
  by_cases h0 : s.toList = []
  · go_enter Try.func19, Try.ntmps19
    go_wp2_with fail
    all_goals (go_ret; exact ⟨ret_bool (by rw [HT.out]; simp_all), Below.refl _ _⟩)
  · go_enter Try.func19, Try.ntmps19
    go_wp2_with fail
    refine (CC.out _).mono ?_
    rintro e w1 ⟨rfl, hb⟩
    have HB := Lib.hid hb
    clear hb
    by_cases hk : K = 0
    · go_wp2_with fail
      refine (CF.out _ (HZ.out.below HB.out)).mono ?_
      rintro e wx ⟨rfl, hwx⟩
      rw [hwx]
      clear hwx wx
      cases B with
      | true =>
        go_wp2_with fail
        all_goals (go_ret; exact ⟨ret_bool (by rw [HT.out]; simp_all), HB.out⟩)
      | false =>
        go_wp2_with fail
        all_goals (go_ret; exact ⟨ret_bool (by rw [HT.out, HM.out]; rw [Bool.eq_iff_iff]; simp_all <;> omega), HB.out⟩)
    · go_wp2_with fail
      all_goals (go_ret; exact ⟨ret_bool (by rw [HT.out]; simp_all), HB.out⟩)
end Ytbihfgcejlgffaa
end Go.Proofs
