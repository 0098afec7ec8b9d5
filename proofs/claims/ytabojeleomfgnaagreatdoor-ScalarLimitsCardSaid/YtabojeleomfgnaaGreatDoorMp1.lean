/- The calendar; the store of one int; the callees that reckon alone. Dates become moments. -/
import Derived.Test.YtabojeleomfgnaaGreatDoorT3
import Derived.Test.YtabojeleomfgnaaGreatDoorNu1
namespace Go.Proofs
open Go.RowKit
namespace YtabojeleomfgnaaGreatDoor
set_option maxRecDepth 100000
/-! the calendar -/
def leapB (y : Int) : Bool := (y.tmod 4 == 0 && y.tmod 100 != 0) || y.tmod 400 == 0
def mdays (y m : Int) : Int := if m = 2 then (if leapB y = true then 29 else 28) else if m = 4 ∨ m = 6 ∨ m = 9 ∨ m = 11 then 30 else 31
def ydays (y : Int) : Int := if leapB y = true then 366 else 365
def leaps (y : Int) : Int := (y - 1) / 4 - (y - 1) / 100 + (y - 1) / 400
def ahead (y : Int) : Int := (y - 1970) * 365 + leaps y - 477
/-- the days of a year ahead of a month -/
def beforeL (l m : Int) : Int :=
  if m = 1 then 0 else if m = 2 then 31 else if m = 3 then 59 + l else if m = 4 then 90 + l else if m = 5 then 120 + l else if m = 6 then 151 + l else if m = 7 then 181 + l
  else if m = 8 then 212 + l else if m = 9 then 243 + l else if m = 10 then 273 + l else if m = 11 then 304 + l else 334 + l
def before (y m : Int) : Int := beforeL (if leapB y = true then 1 else 0) m
theorem tmod_pos (y k : Int) (h : 0 ≤ y) : y.tmod k = y % k := Int.tmod_eq_emod_of_nonneg h
theorem leap_iff (y : Int) (h : 0 ≤ y) : leapB y = true ↔ (y % 4 = 0 ∧ ¬ y % 100 = 0) ∨ y % 400 = 0 := by
  unfold leapB
  rw [tmod_pos _ _ h, tmod_pos _ _ h, tmod_pos _ _ h]
  simp
theorem ahead_succ (y : Int) (h : 1970 ≤ y) : ahead (y + 1) = ahead y + ydays y := by
  unfold ahead leaps ydays
  by_cases hl : leapB y = true
  · rw [if_pos hl]; rw [leap_iff y (by omega)] at hl; omega
  · rw [if_neg hl]; rw [leap_iff y (by omega)] at hl; omega
theorem ydays_pos (y : Int) : 365 ≤ ydays y ∧ ydays y ≤ 366 := by unfold ydays; split <;> omega
theorem ahead_mono (y z : Int) (hz : y ≤ z) : ahead y + 365 * (z - y) ≤ ahead z := by
  unfold ahead leaps; omega
theorem ahead_high (y : Int) (h : 1970 ≤ y) : ahead y ≤ 366 * (y - 1970) := by unfold ahead leaps; omega
theorem ahead_low (y : Int) (h : 1970 ≤ y) : 365 * (y - 1970) ≤ ahead y := by unfold ahead leaps; omega
theorem ahead0 : ahead 1970 = 0 := by decide
theorem mdays_bounds (y m : Int) : 28 ≤ mdays y m ∧ mdays y m ≤ 31 := by unfold mdays; split <;> split <;> omega
theorem before_succ (y m : Int) (h1 : 1 ≤ m) (h2 : m ≤ 11) : before y (m + 1) = before y m + mdays y m := by
  rcases (by omega : m = 1 ∨ m = 2 ∨ m = 3 ∨ m = 4 ∨ m = 5 ∨ m = 6 ∨ m = 7 ∨ m = 8 ∨ m = 9 ∨ m = 10 ∨ m = 11) with rfl | rfl | rfl | rfl | rfl | rfl | rfl | rfl | rfl | rfl | rfl <;>
    (unfold before beforeL mdays; by_cases hl : leapB y = true <;> simp [hl])
theorem before_end (y : Int) : before y 12 + mdays y 12 = ydays y := by
  unfold before beforeL mdays ydays; by_cases hl : leapB y = true <;> simp [hl]
theorem before1 (y : Int) : before y 1 = 0 := by unfold before beforeL; simp
theorem beforeL_bounds (l m : Int) (h0 : 0 ≤ l) (h1 : l ≤ 1) : 0 ≤ beforeL l m ∧ beforeL l m ≤ 335 := by
  unfold beforeL
  (repeat' split) <;> omega
theorem before_bounds (y m : Int) : 0 ≤ before y m ∧ before y m ≤ 335 := by
  unfold before
  exact beforeL_bounds _ m (by split <;> omega) (by split <;> omega)
/-- a day of the calendar -/
def IsDay (days y m d : Int) : Prop := 1970 ≤ y ∧ 1 ≤ m ∧ m ≤ 12 ∧ 1 ≤ d ∧ d ≤ mdays y m ∧ days = ahead y + before y m + d - 1
theorem before_le (y m k : Int) (h1 : 1 ≤ m) (hk : m < k) (h2 : k ≤ 12) : before y m + mdays y m ≤ before y k := by
  have key : ∀ j : Nat, m + 1 + j ≤ 12 → before y m + mdays y m ≤ before y (m + 1 + j) := by
    intro j
    induction j with
    | zero => intro _; rw [show m + 1 + ((0 : Nat) : Int) = m + 1 by omega, before_succ y m h1 (by omega)]; omega
    | succ j ih =>
      intro hj
      have := ih (by omega)
      have hs := before_succ y (m + 1 + j) (by omega) (by omega)
      have hb := mdays_bounds y (m + 1 + j)
      rw [show m + 1 + ((j + 1 : Nat) : Int) = m + 1 + (j : Int) + 1 by omega, hs]
      omega
  have := key (k - m - 1).toNat (by omega)
  rwa [show m + 1 + ((k - m - 1).toNat : Int) = k by omega] at this
theorem day_in_year (y m d : Int) (h1 : 1 ≤ m) (h2 : m ≤ 12) (hd : d ≤ mdays y m) : before y m + d ≤ ydays y := by
  rcases (by omega : m = 12 ∨ m < 12) with rfl | h
  · have := before_end y; omega
  · have := before_le y m 12 h1 h (by omega); have := before_end y; have := mdays_bounds y 12; omega
theorem day_unique {days y m d y' m' d' : Int} (h : IsDay days y m d) (h' : IsDay days y' m' d') : y = y' ∧ m = m' ∧ d = d' := by
  obtain ⟨a1, a2, a3, a4, a5, a6⟩ := h
  obtain ⟨b1, b2, b3, b4, b5, b6⟩ := h'
  have hA := day_in_year y m d a2 a3 a5
  have hB := day_in_year y' m' d' b2 b3 b5
  have hA' := before_bounds y m
  have hB' := before_bounds y' m'
  have hy : y = y' := by
    rcases (by omega : y = y' ∨ y < y' ∨ y' < y) with h | h | h
    · exact h
    · have := ahead_succ y a1; have := ahead_mono (y + 1) y' (by omega); omega
    · have := ahead_succ y' b1; have := ahead_mono (y' + 1) y (by omega); omega
  subst hy
  have hm : m = m' := by
    rcases (by omega : m = m' ∨ m < m' ∨ m' < m) with h | h | h
    · exact h
    · have := before_le y m m' a2 h b3; omega
    · have := before_le y m' m b2 h a3; omega
  subst hm
  exact ⟨rfl, rfl, by omega⟩
theorem year_exists (days : Int) (h0 : 0 ≤ days) : ∀ k : Nat, days < ahead (1970 + k) → ∃ y : Int, 1970 ≤ y ∧ y < 1970 + k ∧ ahead y ≤ days ∧ days < ahead (y + 1)
  | 0, h => by rw [show (1970 : Int) + ((0 : Nat) : Int) = 1970 by omega, ahead0] at h; omega
  | k + 1, h => by
    by_cases hk : days < ahead (1970 + k)
    · obtain ⟨y, a, b, c, d⟩ := year_exists days h0 k hk
      exact ⟨y, a, by omega, c, d⟩
    · exact ⟨1970 + k, by omega, by omega, by omega, by rw [show (1970 : Int) + (k : Int) + 1 = 1970 + ((k + 1 : Nat) : Int) by omega]; exact h⟩
theorem month_exists (y r : Int) (h0 : 0 ≤ r) : ∀ k : Nat, k ≤ 12 → (k = 12 → r < ydays y) → (k < 12 → r < before y (1 + k)) → ∃ m d, 1 ≤ m ∧ m ≤ 12 ∧ 1 ≤ d ∧ d ≤ mdays y m ∧ r = before y m + d - 1
  | 0, _, _, h => by have := h (by omega); rw [show (1 : Int) + ((0 : Nat) : Int) = 1 by omega, before1] at this; omega
  | k + 1, hk, h12, h => by
    by_cases hr : r < before y (1 + k)
    · exact month_exists y r h0 k (by omega) (by omega) (fun _ => hr)
    · refine ⟨1 + k, r - before y (1 + k) + 1, by omega, by omega, by omega, ?_, by omega⟩
      rcases (by omega : k = 11 ∨ k < 11) with rfl | h11
      · have := h12 rfl
        have := before_end y
        rw [show (1 : Int) + ((11 : Nat) : Int) = 12 by omega] at *
        omega
      · have := h (by omega)
        have hs := before_succ y (1 + k) (by omega) (by omega)
        rw [show (1 : Int) + ((k + 1 : Nat) : Int) = 1 + (k : Int) + 1 by omega] at this
        omega
theorem day_exists (days : Int) (h0 : 0 ≤ days) (h1 : days ≤ 2932896) : ∃ t : Int × Int × Int, IsDay days t.1 t.2.1 t.2.2 := by
  obtain ⟨y, a, _, c, d⟩ := year_exists days h0 8100 (by have := ahead_low (1970 + ((8100 : Nat) : Int)) (by omega); omega)
  have := ahead_succ y a
  obtain ⟨m, e, f1, f2, f3, f4, f5⟩ := month_exists y (days - ahead y) (by omega) 12 (by omega) (by intro _; omega) (by omega)
  exact ⟨(y, m, e), a, f1, f2, f3, f4, by show days = ahead y + before y m + e - 1; omega⟩
theorem day_year {days y m d : Int} (h : IsDay days y m d) (h1 : days ≤ 2932896) : y ≤ 9999 := by
  obtain ⟨a1, a2, a3, a4, a5, a6⟩ := h
  have hb := before_bounds y m
  rcases (by omega : y ≤ 9999 ∨ 10000 ≤ y) with h | h
  · exact h
  · have := ahead_mono 10000 y h
    have : ahead 10000 = 2932897 := by decide
    omega
open Classical in
noncomputable def dayOf (days : Int) : Int × Int × Int := if h : ∃ t : Int × Int × Int, IsDay days t.1 t.2.1 t.2.2 then h.choose else (1970, 1, 1)
theorem dayOf_is (days : Int) (h0 : 0 ≤ days) (h1 : days ≤ 2932896) : IsDay days (dayOf days).1 (dayOf days).2.1 (dayOf days).2.2 := by
  unfold dayOf
  rw [dif_pos (day_exists days h0 h1)]
  exact (day_exists days h0 h1).choose_spec
theorem dayOf_eq {days y m d : Int} (h : IsDay days y m d) (h0 : 0 ≤ days) (h1 : days ≤ 2932896) : dayOf days = (y, m, d) := by
  obtain ⟨a, b, c⟩ := day_unique (dayOf_is days h0 h1) h
  rw [← a, ← b, ← c]
/-! the store of one int -/
theorem run_store_int (w : World) (g i : Nat) (n : Int) (old : Array Value) (t : TypeId) (hg : w.heap[g]? = some (.cells old t (0, 0))) (hi : i < old.size) :
    (storeVar 3 ⟨g, i, none⟩ (.int .i64 n)).run Tryz.prog w = .ok () (w.setCells g i [.int .i64 n]) := by
  have ht := there_of_block (n := 1) (o := i) hg (by omega)
  have := run_storeCells_cells (P := Tryz.prog) g i [.int .i64 n] 0 w (fun j hj => by simpa using (ht j (by simpa using hj)).1) (fun j hj => by simpa using (ht j (by simpa using hj)).2) (fun v hv => by simp at hv; subst hv; rfl)
  simp only [Nat.add_zero] at this
  have hi : (Tryz.prog.info? 3).map (·.size) = some 1 := by kernel_rfl
  cases hq : Tryz.prog.info? 3 with
  | none => simp [hq] at hi
  | some i =>
    have hs : i.size = 1 := by simpa [hq] using hi
    simp [storeVar, sizeOf, typeInfo, hq, Value.cells, hs, this]
theorem store_int {ops : Array Oper} {rest : List Oper} {o : Oper} {a : Act} {w : World} {Q : Exit → Act → World → Prop} (hgd : o.guard = none) (u v : Operand) (ho : o.op = .store 3 u v)
    (g i : Nat) (n : Int) (hx : a.eval u = .pointer (some ⟨g, i, none⟩)) (hy : a.eval v = .int .i64 n) (old : Array Value) (t : TypeId) (hg : w.heap[g]? = some (.cells old t (0, 0))) (hi : i < old.size)
    (h : ∀ w', Puts g (old.setIfInBounds i (.int .i64 n)) t w w' → wpList Tryz.prog ops Q rest (a.put o.dst undef) w') : wpList Tryz.prog ops Q (o :: rest) a w :=
  wpList_plain hgd fun _ hK => by
    unfold Oper.wp execOp
    simp only [ho, hx, hy, Instr.storeAt, Instr.sureAddr, Sem.run_bind, Sem.run_pure, Result.andThen_ok, run_store_int w g i n old t hg hi]
    exact hK _ _ (h _ (puts_setCell _ hg))
/-! the callees that reckon alone -/
theorem within_t (n a b : Int) (w : World) : Calls Tryz.prog 194 #[.int .i64 n, .int .i64 a, .int .i64 b] w fun e w' => e = .returned (.bool (decide (a ≤ n) && decide (n ≤ b))) ∧ w' = w := by
  by_cases h1 : a ≤ n
  · by_cases h2 : n ≤ b
    · go_enter Tryz.func194, Tryz.ntmps194
      go_wp2
      go_ret
      exact ⟨by simp [h1, h2], rfl⟩
    · go_enter Tryz.func194, Tryz.ntmps194
      go_wp2
      go_ret
      exact ⟨by simp [h2], rfl⟩
  · go_enter Tryz.func194, Tryz.ntmps194
    go_wp2
    go_ret
    exact ⟨by rw [show decide (a ≤ n) = false from decide_eq_false (by omega)]; rfl, rfl⟩
theorem rwithin_t (n a b : Int) (w : World) : Calls Tryz.prog 132 #[.int .i64 n, .int .i64 a, .int .i64 b] w fun e w' => e = .returned (.bool (decide (a ≤ n) && decide (n ≤ b))) ∧ w' = w := by
  by_cases h1 : a ≤ n
  · by_cases h2 : n ≤ b
    · go_enter Tryz.func132, Tryz.ntmps132
      go_wp2
      go_ret
      exact ⟨by simp [h1, h2], rfl⟩
    · go_enter Tryz.func132, Tryz.ntmps132
      go_wp2
      go_ret
      exact ⟨by simp [h2], rfl⟩
  · go_enter Tryz.func132, Tryz.ntmps132
    go_wp2
    go_ret
    exact ⟨by rw [show decide (a ≤ n) = false from decide_eq_false (by omega)]; rfl, rfl⟩
set_option maxHeartbeats 1000000 in
theorem leap_t (y : Int) (w : World) : Calls Tryz.prog 195 #[.int .i64 y] w fun e w' => e = .returned (.bool (leapB y)) ∧ w' = w := by
  cases h1 : (y.tmod 4 == 0) with
  | false =>
    cases h3 : (y.tmod 400 == 0) with
    | false =>
      have hl : leapB y = false := by unfold leapB; rw [h1, h3]; rfl
      rw [hl]
      clear hl
      go_enter Tryz.func195, Tryz.ntmps195
      go_wp2
      go_ret
      exact ⟨by first | rfl | (rw [h3]) | (simp_all), rfl⟩
    | true =>
      have hl : leapB y = true := by unfold leapB; rw [h1, h3]; rfl
      rw [hl]
      clear hl
      go_enter Tryz.func195, Tryz.ntmps195
      go_wp2
      go_ret
      exact ⟨by first | rfl | (rw [h3]) | (simp_all), rfl⟩
  | true =>
    cases h2 : (y.tmod 100 != 0) with
    | true =>
      have hl : leapB y = true := by unfold leapB; rw [h1, h2]; rfl
      rw [hl]
      clear hl
      go_enter Tryz.func195, Tryz.ntmps195
      go_wp2
      go_ret
      exact ⟨by first | rfl | (rw [h3]) | (simp_all), rfl⟩
    | false =>
      cases h3 : (y.tmod 400 == 0) with
      | false =>
        have hl : leapB y = false := by unfold leapB; rw [h1, h2, h3]; rfl
        rw [hl]
        clear hl
        go_enter Tryz.func195, Tryz.ntmps195
        go_wp2
        go_ret
        exact ⟨by first | rfl | (rw [h3]) | (simp_all), rfl⟩
      | true =>
        have hl : leapB y = true := by unfold leapB; rw [h1, h2, h3]; rfl
        rw [hl]
        clear hl
        go_enter Tryz.func195, Tryz.ntmps195
        go_wp2
        go_ret
        exact ⟨by first | rfl | (rw [h3]) | (simp_all), rfl⟩
theorem ydays_t (y : Int) (w : World) : Calls Tryz.prog 136 #[.int .i64 y] w fun e w' => e = .returned (.int .i64 (ydays y)) ∧ w' = w := by
  have CL := Lib.hid (fun w => leap_t y w)
  unfold ydays
  generalize leapB y = b at CL ⊢
  cases b <;> (
    go_enter Tryz.func136, Tryz.ntmps136
    go_wp2_with fail
    refine (CL.out _).mono ?_
    rintro e w1 ⟨rfl, rfl⟩
    go_wp2
    go_ret
    exact ⟨rfl, rfl⟩)
set_option maxHeartbeats 1000000 in
theorem mdays_t (y m : Int) (w : World) : Calls Tryz.prog 138 #[.int .i64 y, .int .i64 m] w fun e w' => e = .returned (.int .i64 (mdays y m)) ∧ w' = w := by
  rcases (by omega : m = 2 ∨ m = 4 ∨ m = 6 ∨ m = 9 ∨ m = 11 ∨ (¬ m = 2 ∧ ¬ m = 4 ∧ ¬ m = 6 ∧ ¬ m = 9 ∧ ¬ m = 11)) with rfl | rfl | rfl | rfl | rfl | ⟨a, b, c, d, e⟩
  · rw [show mdays y 2 = if leapB y = true then 29 else 28 from rfl]
    cases h1 : (y.tmod 4 == 0) with
    | false =>
      cases h3 : (y.tmod 400 == 0) with
      | false =>
        have hl : leapB y = false := by unfold leapB; rw [h1, h3]; rfl
        rw [hl]
        clear hl
        go_enter Tryz.func138, Tryz.ntmps138
        go_wp2
        go_ret
        exact ⟨rfl, rfl⟩
      | true =>
        have hl : leapB y = true := by unfold leapB; rw [h1, h3]; rfl
        rw [hl]
        clear hl
        go_enter Tryz.func138, Tryz.ntmps138
        go_wp2
        go_ret
        exact ⟨rfl, rfl⟩
    | true =>
      cases h2 : (y.tmod 100 != 0) with
      | true =>
        have hl : leapB y = true := by unfold leapB; rw [h1, h2]; rfl
        rw [hl]
        clear hl
        go_enter Tryz.func138, Tryz.ntmps138
        go_wp2
        go_ret
        exact ⟨rfl, rfl⟩
      | false =>
        cases h3 : (y.tmod 400 == 0) with
        | false =>
          have hl : leapB y = false := by unfold leapB; rw [h1, h2, h3]; rfl
          rw [hl]
          clear hl
          go_enter Tryz.func138, Tryz.ntmps138
          go_wp2
          go_ret
          exact ⟨rfl, rfl⟩
        | true =>
          have hl : leapB y = true := by unfold leapB; rw [h1, h2, h3]; rfl
          rw [hl]
          clear hl
          go_enter Tryz.func138, Tryz.ntmps138
          go_wp2
          go_ret
          exact ⟨rfl, rfl⟩
  · rw [show mdays y 4 = 30 from by simp [mdays]]
    go_enter Tryz.func138, Tryz.ntmps138
    go_wp2
    go_ret
    exact ⟨rfl, rfl⟩
  · rw [show mdays y 6 = 30 from by simp [mdays]]
    go_enter Tryz.func138, Tryz.ntmps138
    go_wp2
    go_ret
    exact ⟨rfl, rfl⟩
  · rw [show mdays y 9 = 30 from by simp [mdays]]
    go_enter Tryz.func138, Tryz.ntmps138
    go_wp2
    go_ret
    exact ⟨rfl, rfl⟩
  · rw [show mdays y 11 = 30 from by simp [mdays]]
    go_enter Tryz.func138, Tryz.ntmps138
    go_wp2
    go_ret
    exact ⟨rfl, rfl⟩
  · rw [show mdays y m = 31 from by simp [mdays, a, b, c, d, e]]
    have q2 : (m == 2) = false := by simpa using a
    have q4 : (m == 4) = false := by simpa using b
    have q6 : (m == 6) = false := by simpa using c
    have q9 : (m == 9) = false := by simpa using d
    have q11 : (m == 11) = false := by simpa using e
    go_enter Tryz.func138, Tryz.ntmps138
    go_wp2
    go_ret
    exact ⟨rfl, rfl⟩
set_option maxHeartbeats 1000000 in
theorem rmdays_t (y m : Int) (w : World) : Calls Tryz.prog 135 #[.int .i64 y, .int .i64 m] w fun e w' => e = .returned (.int .i64 (mdays y m)) ∧ w' = w := by
  rcases (by omega : m = 2 ∨ m = 4 ∨ m = 6 ∨ m = 9 ∨ m = 11 ∨ (¬ m = 2 ∧ ¬ m = 4 ∧ ¬ m = 6 ∧ ¬ m = 9 ∧ ¬ m = 11)) with rfl | rfl | rfl | rfl | rfl | ⟨a, b, c, d, e⟩
  · rw [show mdays y 2 = if leapB y = true then 29 else 28 from rfl]
    have CL := Lib.hid (fun w => leap_t y w)
    generalize leapB y = b at CL ⊢
    cases b <;> (
      go_enter Tryz.func135, Tryz.ntmps135
      go_wp2_with fail
      refine (CL.out _).mono ?_
      rintro e w1 ⟨rfl, rfl⟩
      go_wp2
      go_ret
      exact ⟨rfl, rfl⟩)
  · rw [show mdays y 4 = 30 from by simp [mdays]]
    go_enter Tryz.func135, Tryz.ntmps135
    go_wp2
    go_ret
    exact ⟨rfl, rfl⟩
  · rw [show mdays y 6 = 30 from by simp [mdays]]
    go_enter Tryz.func135, Tryz.ntmps135
    go_wp2
    go_ret
    exact ⟨rfl, rfl⟩
  · rw [show mdays y 9 = 30 from by simp [mdays]]
    go_enter Tryz.func135, Tryz.ntmps135
    go_wp2
    go_ret
    exact ⟨rfl, rfl⟩
  · rw [show mdays y 11 = 30 from by simp [mdays]]
    go_enter Tryz.func135, Tryz.ntmps135
    go_wp2
    go_ret
    exact ⟨rfl, rfl⟩
  · rw [show mdays y m = 31 from by simp [mdays, a, b, c, d, e]]
    have q2 : (m == 2) = false := by simpa using a
    have q4 : (m == 4) = false := by simpa using b
    have q6 : (m == 6) = false := by simpa using c
    have q9 : (m == 9) = false := by simpa using d
    have q11 : (m == 11) = false := by simpa using e
    go_enter Tryz.func135, Tryz.ntmps135
    go_wp2
    go_ret
    exact ⟨rfl, rfl⟩
theorem leaps_bounds (y : Int) (h1 : 1 ≤ y) (h2 : y ≤ 20000) : 0 ≤ leaps y ∧ leaps y ≤ 20000 := by unfold leaps; omega
theorem leaps_t (y : Int) (h1 : 1 ≤ y) (h2 : y ≤ 20000) (w : World) : Calls Tryz.prog 246 #[.int .i64 y] w fun e w' => e = .returned (.int .i64 (leaps y)) ∧ w' = w := by
  unfold leaps
  go_enter Tryz.func246, Tryz.ntmps246
  go_wp2
  go_ret
  exact ⟨rfl, rfl⟩
theorem ahead_t (y : Int) (h1 : 1 ≤ y) (h2 : y ≤ 20000) (w : World) : Calls Tryz.prog 193 #[.int .i64 y] w fun e w' => e = .returned (.int .i64 (ahead y)) ∧ w' = w := by
  have CL := Lib.hid (fun w => leaps_t y h1 h2 w)
  have C0 : Hid (∀ w, Calls Tryz.prog 246 #[.int .i64 1970] w fun e w' => e = .returned (.int .i64 477) ∧ w' = w) := Lib.hid (fun w => leaps_t 1970 (by omega) (by omega) w)
  obtain ⟨l1, l2⟩ := leaps_bounds y h1 h2
  unfold ahead
  generalize leaps y = l at *
  go_enter Tryz.func193, Tryz.ntmps193
  go_wp2_with fail
  refine (CL.out _).mono ?_
  rintro e w1 ⟨rfl, rfl⟩
  go_wp2_with fail
  refine (C0.out _).mono ?_
  rintro e w1 ⟨rfl, rfl⟩
  go_wp2
  go_ret
  exact ⟨rfl, rfl⟩
end YtabojeleomfgnaaGreatDoor
end Go.Proofs
namespace Go.Proofs
open Go.RowKit
namespace YtabojeleomfgnaaGreatDoor
set_option maxRecDepth 100000
def secsOf (y m d h i s : Int) : Int := (ahead y + before y m + d - 1) * 86400 + h * 3600 + i * 60 + s
def yearB (y : Int) : Bool := decide (1970 ≤ y) && decide (y ≤ 9999)
def monthB (m : Int) : Bool := decide (1 ≤ m) && decide (m ≤ 12)
def dayB (y m d : Int) : Bool := decide (1 ≤ d) && decide (d ≤ mdays y m)
def hourB (h : Int) : Bool := decide (0 ≤ h) && decide (h ≤ 23)
def sixtyB (i : Int) : Bool := decide (0 ≤ i) && decide (i ≤ 59)
def datedT (y m d h i s : Int) : V3 := if (yearB y && (monthB m && (dayB y m d && (hourB h && (sixtyB i && sixtyB s))))) = true then numT 4 (secsOf y m d h i s) else nullT
theorem two_true {a b : Prop} [Decidable a] [Decidable b] (h : (decide a && decide b) = true) : a ∧ b := by simpa using h
set_option maxHeartbeats 1000000 in
theorem momentOf_t (y m d h i s : Int) (w : World) : Calls Tryz.prog 134 #[.agg #[.int .i64 y, .int .i64 m, .int .i64 d, .int .i64 h, .int .i64 i, .int .i64 s]] w fun e w' => e = .returned (toV (datedT y m d h i s)) ∧ Below w.heap.size w w' := by
  have HE := Lib.hid (show datedT y m d h i s = if (yearB y && (monthB m && (dayB y m d && (hourB h && (sixtyB i && sixtyB s))))) = true then numT 4 (secsOf y m d h i s) else nullT from rfl)
  generalize datedT y m d h i s = R at HE ⊢
  have WY : Hid (∀ w, Calls Tryz.prog 194 #[.int .i64 y, .int .i64 1970, .int .i64 9999] w fun e w' => e = .returned (.bool (yearB y)) ∧ w' = w) := Lib.hid (fun w => within_t y 1970 9999 w)
  have WM : Hid (∀ w, Calls Tryz.prog 194 #[.int .i64 m, .int .i64 1, .int .i64 12] w fun e w' => e = .returned (.bool (monthB m)) ∧ w' = w) := Lib.hid (fun w => within_t m 1 12 w)
  have WD : Hid (∀ w, Calls Tryz.prog 194 #[.int .i64 d, .int .i64 1, .int .i64 (mdays y m)] w fun e w' => e = .returned (.bool (dayB y m d)) ∧ w' = w) := Lib.hid (fun w => within_t d 1 (mdays y m) w)
  have WH : Hid (∀ w, Calls Tryz.prog 194 #[.int .i64 h, .int .i64 0, .int .i64 23] w fun e w' => e = .returned (.bool (hourB h)) ∧ w' = w) := Lib.hid (fun w => within_t h 0 23 w)
  have WI : Hid (∀ w, Calls Tryz.prog 194 #[.int .i64 i, .int .i64 0, .int .i64 59] w fun e w' => e = .returned (.bool (sixtyB i)) ∧ w' = w) := Lib.hid (fun w => within_t i 0 59 w)
  have WS : Hid (∀ w, Calls Tryz.prog 194 #[.int .i64 s, .int .i64 0, .int .i64 59] w fun e w' => e = .returned (.bool (sixtyB s)) ∧ w' = w) := Lib.hid (fun w => within_t s 0 59 w)
  have CM := Lib.hid (fun w => mdays_t y m w)
  cases hY : yearB y with
  | false =>
    rw [hY] at WY HE
    clear hY
    have HN : Hid (R = nullT) := Lib.hid (by rw [HE.out]; rfl)
    clear HE
    have HL0 : Hid (Below w.heap.size w (((w.alloc (.cells #[.int .i64 y, .int .i64 m, .int .i64 d, .int .i64 h, .int .i64 i, .int .i64 s] 120)).alloc (.cells #[.int .i64 0, .int .i64 0, .string ⟨#[]⟩] 23)))) := Lib.hid (by go_grown)
    have R0 : Hid ((((w.alloc (.cells #[.int .i64 y, .int .i64 m, .int .i64 d, .int .i64 h, .int .i64 i, .int .i64 s] 120)).alloc (.cells #[.int .i64 0, .int .i64 0, .string ⟨#[]⟩] 23))).heap[w.heap.size + 1]? = some (.cells (cells nullT) 23 (0, 0))) := Lib.hid (new_at _ _ _ (by simp))
    have B0 : Hid ((((w.alloc (.cells #[.int .i64 y, .int .i64 m, .int .i64 d, .int .i64 h, .int .i64 i, .int .i64 s] 120)).alloc (.cells #[.int .i64 0, .int .i64 0, .string ⟨#[]⟩] 23))).heap[w.heap.size]? = some (.cells #[.int .i64 y, .int .i64 m, .int .i64 d, .int .i64 h, .int .i64 i, .int .i64 s] 120 (0, 0))) := Lib.hid ((heap_alloc_old _ _ (by simp)).trans (heap_alloc_new w _))
    go_enter Tryz.func134, Tryz.ntmps134
    go_wp2_with fail
    go_quiet (first | (go_at_call_of 194 (Value.int IntKind.i64 y); refine Calls.quiet_of_same (WY.out _)) | (go_at_call_of 194 (Value.int IntKind.i64 m); refine Calls.quiet_of_same (WM.out _)) | (go_at_call_of 194 (Value.int IntKind.i64 d); refine Calls.quiet_of_same (WD.out _)) | (go_at_call 138; refine Calls.quiet_of_same (CM.out _)))
    have HL1 : Hid (Below w.heap.size w (World.drewN (((w.alloc (.cells #[.int .i64 y, .int .i64 m, .int .i64 d, .int .i64 h, .int .i64 i, .int .i64 s] 120)).alloc (.cells #[.int .i64 0, .int .i64 0, .string ⟨#[]⟩] 23))) nq)) := Lib.hid (below_drewN HL0.out _)
    have R1 : Hid ((World.drewN (((w.alloc (.cells #[.int .i64 y, .int .i64 m, .int .i64 d, .int .i64 h, .int .i64 i, .int .i64 s] 120)).alloc (.cells #[.int .i64 0, .int .i64 0, .string ⟨#[]⟩] 23))) nq).heap[w.heap.size + 1]? = some (.cells (cells nullT) 23 (0, 0))) := Lib.hid R0.out
    have B1 : Hid ((World.drewN (((w.alloc (.cells #[.int .i64 y, .int .i64 m, .int .i64 d, .int .i64 h, .int .i64 i, .int .i64 s] 120)).alloc (.cells #[.int .i64 0, .int .i64 0, .string ⟨#[]⟩] 23))) nq).heap[w.heap.size]? = some (.cells #[.int .i64 y, .int .i64 m, .int .i64 d, .int .i64 h, .int .i64 i, .int .i64 s] 120 (0, 0))) := Lib.hid B0.out
    generalize World.drewN (((w.alloc (.cells #[.int .i64 y, .int .i64 m, .int .i64 d, .int .i64 h, .int .i64 i, .int .i64 s] 120)).alloc (.cells #[.int .i64 0, .int .i64 0, .string ⟨#[]⟩] 23))) nq = W1 at *
    have c0 : W1.cell? ⟨w.heap.size, 0, none⟩ = some (.int .i64 y) := (cell_of_row W1 _ 0 _ _ _ B1.out).trans rfl
    have c1 : W1.cell? ⟨w.heap.size, 1, none⟩ = some (.int .i64 m) := (cell_of_row W1 _ 1 _ _ _ B1.out).trans rfl
    have c2 : W1.cell? ⟨w.heap.size, 2, none⟩ = some (.int .i64 d) := (cell_of_row W1 _ 2 _ _ _ B1.out).trans rfl
    have c3 : W1.cell? ⟨w.heap.size, 3, none⟩ = some (.int .i64 h) := (cell_of_row W1 _ 3 _ _ _ B1.out).trans rfl
    have c4 : W1.cell? ⟨w.heap.size, 4, none⟩ = some (.int .i64 i) := (cell_of_row W1 _ 4 _ _ _ B1.out).trans rfl
    have c5 : W1.cell? ⟨w.heap.size, 5, none⟩ = some (.int .i64 s) := (cell_of_row W1 _ 5 _ _ _ B1.out).trans rfl
    go_wp2_with (refine store23 rfl (.tmp 2) (.tmp 26) rfl (w.heap.size + 1) (nullT) rfl rfl nullT R1.out ?_; intro wz hp; have HP := Lib.hid hp; clear hp)
    exact bodyPost_ret (ret23 rfl rfl HP.out.at') rfl ⟨by rw [HN.out], HP.out.low HL1.out (by omega)⟩
  | true =>
    rw [hY] at WY HE
    cases hM : monthB m with
    | false =>
      rw [hM] at WM HE
      have PY := Lib.hid hY
      clear hY
      clear hM
      have HN : Hid (R = nullT) := Lib.hid (by rw [HE.out]; rfl)
      clear HE
      have HL0 : Hid (Below w.heap.size w (((w.alloc (.cells #[.int .i64 y, .int .i64 m, .int .i64 d, .int .i64 h, .int .i64 i, .int .i64 s] 120)).alloc (.cells #[.int .i64 0, .int .i64 0, .string ⟨#[]⟩] 23)))) := Lib.hid (by go_grown)
      have R0 : Hid ((((w.alloc (.cells #[.int .i64 y, .int .i64 m, .int .i64 d, .int .i64 h, .int .i64 i, .int .i64 s] 120)).alloc (.cells #[.int .i64 0, .int .i64 0, .string ⟨#[]⟩] 23))).heap[w.heap.size + 1]? = some (.cells (cells nullT) 23 (0, 0))) := Lib.hid (new_at _ _ _ (by simp))
      have B0 : Hid ((((w.alloc (.cells #[.int .i64 y, .int .i64 m, .int .i64 d, .int .i64 h, .int .i64 i, .int .i64 s] 120)).alloc (.cells #[.int .i64 0, .int .i64 0, .string ⟨#[]⟩] 23))).heap[w.heap.size]? = some (.cells #[.int .i64 y, .int .i64 m, .int .i64 d, .int .i64 h, .int .i64 i, .int .i64 s] 120 (0, 0))) := Lib.hid ((heap_alloc_old _ _ (by simp)).trans (heap_alloc_new w _))
      go_enter Tryz.func134, Tryz.ntmps134
      go_wp2_with fail
      go_quiet (first | (go_at_call_of 194 (Value.int IntKind.i64 y); refine Calls.quiet_of_same (WY.out _)) | (go_at_call_of 194 (Value.int IntKind.i64 m); refine Calls.quiet_of_same (WM.out _)) | (go_at_call_of 194 (Value.int IntKind.i64 d); refine Calls.quiet_of_same (WD.out _)) | (go_at_call 138; refine Calls.quiet_of_same (CM.out _)))
      have HL1 : Hid (Below w.heap.size w (World.drewN (((w.alloc (.cells #[.int .i64 y, .int .i64 m, .int .i64 d, .int .i64 h, .int .i64 i, .int .i64 s] 120)).alloc (.cells #[.int .i64 0, .int .i64 0, .string ⟨#[]⟩] 23))) nq)) := Lib.hid (below_drewN HL0.out _)
      have R1 : Hid ((World.drewN (((w.alloc (.cells #[.int .i64 y, .int .i64 m, .int .i64 d, .int .i64 h, .int .i64 i, .int .i64 s] 120)).alloc (.cells #[.int .i64 0, .int .i64 0, .string ⟨#[]⟩] 23))) nq).heap[w.heap.size + 1]? = some (.cells (cells nullT) 23 (0, 0))) := Lib.hid R0.out
      have B1 : Hid ((World.drewN (((w.alloc (.cells #[.int .i64 y, .int .i64 m, .int .i64 d, .int .i64 h, .int .i64 i, .int .i64 s] 120)).alloc (.cells #[.int .i64 0, .int .i64 0, .string ⟨#[]⟩] 23))) nq).heap[w.heap.size]? = some (.cells #[.int .i64 y, .int .i64 m, .int .i64 d, .int .i64 h, .int .i64 i, .int .i64 s] 120 (0, 0))) := Lib.hid B0.out
      generalize World.drewN (((w.alloc (.cells #[.int .i64 y, .int .i64 m, .int .i64 d, .int .i64 h, .int .i64 i, .int .i64 s] 120)).alloc (.cells #[.int .i64 0, .int .i64 0, .string ⟨#[]⟩] 23))) nq = W1 at *
      have c0 : W1.cell? ⟨w.heap.size, 0, none⟩ = some (.int .i64 y) := (cell_of_row W1 _ 0 _ _ _ B1.out).trans rfl
      have c1 : W1.cell? ⟨w.heap.size, 1, none⟩ = some (.int .i64 m) := (cell_of_row W1 _ 1 _ _ _ B1.out).trans rfl
      have c2 : W1.cell? ⟨w.heap.size, 2, none⟩ = some (.int .i64 d) := (cell_of_row W1 _ 2 _ _ _ B1.out).trans rfl
      have c3 : W1.cell? ⟨w.heap.size, 3, none⟩ = some (.int .i64 h) := (cell_of_row W1 _ 3 _ _ _ B1.out).trans rfl
      have c4 : W1.cell? ⟨w.heap.size, 4, none⟩ = some (.int .i64 i) := (cell_of_row W1 _ 4 _ _ _ B1.out).trans rfl
      have c5 : W1.cell? ⟨w.heap.size, 5, none⟩ = some (.int .i64 s) := (cell_of_row W1 _ 5 _ _ _ B1.out).trans rfl
      go_wp2_with (refine store23 rfl (.tmp 2) (.tmp 26) rfl (w.heap.size + 1) (nullT) rfl rfl nullT R1.out ?_; intro wz hp; have HP := Lib.hid hp; clear hp)
      exact bodyPost_ret (ret23 rfl rfl HP.out.at') rfl ⟨by rw [HN.out], HP.out.low HL1.out (by omega)⟩
    | true =>
      rw [hM] at WM HE
      cases hD : dayB y m d with
      | false =>
        rw [hD] at WD HE
        have PY := Lib.hid hY
        clear hY
        have PM := Lib.hid hM
        clear hM
        clear hD
        have HN : Hid (R = nullT) := Lib.hid (by rw [HE.out]; rfl)
        clear HE
        have HL0 : Hid (Below w.heap.size w (((w.alloc (.cells #[.int .i64 y, .int .i64 m, .int .i64 d, .int .i64 h, .int .i64 i, .int .i64 s] 120)).alloc (.cells #[.int .i64 0, .int .i64 0, .string ⟨#[]⟩] 23)))) := Lib.hid (by go_grown)
        have R0 : Hid ((((w.alloc (.cells #[.int .i64 y, .int .i64 m, .int .i64 d, .int .i64 h, .int .i64 i, .int .i64 s] 120)).alloc (.cells #[.int .i64 0, .int .i64 0, .string ⟨#[]⟩] 23))).heap[w.heap.size + 1]? = some (.cells (cells nullT) 23 (0, 0))) := Lib.hid (new_at _ _ _ (by simp))
        have B0 : Hid ((((w.alloc (.cells #[.int .i64 y, .int .i64 m, .int .i64 d, .int .i64 h, .int .i64 i, .int .i64 s] 120)).alloc (.cells #[.int .i64 0, .int .i64 0, .string ⟨#[]⟩] 23))).heap[w.heap.size]? = some (.cells #[.int .i64 y, .int .i64 m, .int .i64 d, .int .i64 h, .int .i64 i, .int .i64 s] 120 (0, 0))) := Lib.hid ((heap_alloc_old _ _ (by simp)).trans (heap_alloc_new w _))
        go_enter Tryz.func134, Tryz.ntmps134
        go_wp2_with fail
        go_quiet (first | (go_at_call_of 194 (Value.int IntKind.i64 y); refine Calls.quiet_of_same (WY.out _)) | (go_at_call_of 194 (Value.int IntKind.i64 m); refine Calls.quiet_of_same (WM.out _)) | (go_at_call_of 194 (Value.int IntKind.i64 d); refine Calls.quiet_of_same (WD.out _)) | (go_at_call 138; refine Calls.quiet_of_same (CM.out _)))
        have HL1 : Hid (Below w.heap.size w (World.drewN (((w.alloc (.cells #[.int .i64 y, .int .i64 m, .int .i64 d, .int .i64 h, .int .i64 i, .int .i64 s] 120)).alloc (.cells #[.int .i64 0, .int .i64 0, .string ⟨#[]⟩] 23))) nq)) := Lib.hid (below_drewN HL0.out _)
        have R1 : Hid ((World.drewN (((w.alloc (.cells #[.int .i64 y, .int .i64 m, .int .i64 d, .int .i64 h, .int .i64 i, .int .i64 s] 120)).alloc (.cells #[.int .i64 0, .int .i64 0, .string ⟨#[]⟩] 23))) nq).heap[w.heap.size + 1]? = some (.cells (cells nullT) 23 (0, 0))) := Lib.hid R0.out
        have B1 : Hid ((World.drewN (((w.alloc (.cells #[.int .i64 y, .int .i64 m, .int .i64 d, .int .i64 h, .int .i64 i, .int .i64 s] 120)).alloc (.cells #[.int .i64 0, .int .i64 0, .string ⟨#[]⟩] 23))) nq).heap[w.heap.size]? = some (.cells #[.int .i64 y, .int .i64 m, .int .i64 d, .int .i64 h, .int .i64 i, .int .i64 s] 120 (0, 0))) := Lib.hid B0.out
        generalize World.drewN (((w.alloc (.cells #[.int .i64 y, .int .i64 m, .int .i64 d, .int .i64 h, .int .i64 i, .int .i64 s] 120)).alloc (.cells #[.int .i64 0, .int .i64 0, .string ⟨#[]⟩] 23))) nq = W1 at *
        have c0 : W1.cell? ⟨w.heap.size, 0, none⟩ = some (.int .i64 y) := (cell_of_row W1 _ 0 _ _ _ B1.out).trans rfl
        have c1 : W1.cell? ⟨w.heap.size, 1, none⟩ = some (.int .i64 m) := (cell_of_row W1 _ 1 _ _ _ B1.out).trans rfl
        have c2 : W1.cell? ⟨w.heap.size, 2, none⟩ = some (.int .i64 d) := (cell_of_row W1 _ 2 _ _ _ B1.out).trans rfl
        have c3 : W1.cell? ⟨w.heap.size, 3, none⟩ = some (.int .i64 h) := (cell_of_row W1 _ 3 _ _ _ B1.out).trans rfl
        have c4 : W1.cell? ⟨w.heap.size, 4, none⟩ = some (.int .i64 i) := (cell_of_row W1 _ 4 _ _ _ B1.out).trans rfl
        have c5 : W1.cell? ⟨w.heap.size, 5, none⟩ = some (.int .i64 s) := (cell_of_row W1 _ 5 _ _ _ B1.out).trans rfl
        go_wp2_with (refine store23 rfl (.tmp 2) (.tmp 26) rfl (w.heap.size + 1) (nullT) rfl rfl nullT R1.out ?_; intro wz hp; have HP := Lib.hid hp; clear hp)
        exact bodyPost_ret (ret23 rfl rfl HP.out.at') rfl ⟨by rw [HN.out], HP.out.low HL1.out (by omega)⟩
      | true =>
        rw [hD] at WD HE
        cases hH : hourB h with
        | false =>
          rw [hH] at WH HE
          have PY := Lib.hid hY
          clear hY
          have PM := Lib.hid hM
          clear hM
          have PD := Lib.hid hD
          clear hD
          clear hH
          have HN : Hid (R = nullT) := Lib.hid (by rw [HE.out]; rfl)
          clear HE
          have HL0 : Hid (Below w.heap.size w (((w.alloc (.cells #[.int .i64 y, .int .i64 m, .int .i64 d, .int .i64 h, .int .i64 i, .int .i64 s] 120)).alloc (.cells #[.int .i64 0, .int .i64 0, .string ⟨#[]⟩] 23)))) := Lib.hid (by go_grown)
          have R0 : Hid ((((w.alloc (.cells #[.int .i64 y, .int .i64 m, .int .i64 d, .int .i64 h, .int .i64 i, .int .i64 s] 120)).alloc (.cells #[.int .i64 0, .int .i64 0, .string ⟨#[]⟩] 23))).heap[w.heap.size + 1]? = some (.cells (cells nullT) 23 (0, 0))) := Lib.hid (new_at _ _ _ (by simp))
          have B0 : Hid ((((w.alloc (.cells #[.int .i64 y, .int .i64 m, .int .i64 d, .int .i64 h, .int .i64 i, .int .i64 s] 120)).alloc (.cells #[.int .i64 0, .int .i64 0, .string ⟨#[]⟩] 23))).heap[w.heap.size]? = some (.cells #[.int .i64 y, .int .i64 m, .int .i64 d, .int .i64 h, .int .i64 i, .int .i64 s] 120 (0, 0))) := Lib.hid ((heap_alloc_old _ _ (by simp)).trans (heap_alloc_new w _))
          go_enter Tryz.func134, Tryz.ntmps134
          go_wp2_with fail
          go_quiet (first | (go_at_call_of 194 (Value.int IntKind.i64 y); refine Calls.quiet_of_same (WY.out _)) | (go_at_call_of 194 (Value.int IntKind.i64 m); refine Calls.quiet_of_same (WM.out _)) | (go_at_call_of 194 (Value.int IntKind.i64 d); refine Calls.quiet_of_same (WD.out _)) | (go_at_call 138; refine Calls.quiet_of_same (CM.out _)))
          have HL1 : Hid (Below w.heap.size w (World.drewN (((w.alloc (.cells #[.int .i64 y, .int .i64 m, .int .i64 d, .int .i64 h, .int .i64 i, .int .i64 s] 120)).alloc (.cells #[.int .i64 0, .int .i64 0, .string ⟨#[]⟩] 23))) nq)) := Lib.hid (below_drewN HL0.out _)
          have R1 : Hid ((World.drewN (((w.alloc (.cells #[.int .i64 y, .int .i64 m, .int .i64 d, .int .i64 h, .int .i64 i, .int .i64 s] 120)).alloc (.cells #[.int .i64 0, .int .i64 0, .string ⟨#[]⟩] 23))) nq).heap[w.heap.size + 1]? = some (.cells (cells nullT) 23 (0, 0))) := Lib.hid R0.out
          have B1 : Hid ((World.drewN (((w.alloc (.cells #[.int .i64 y, .int .i64 m, .int .i64 d, .int .i64 h, .int .i64 i, .int .i64 s] 120)).alloc (.cells #[.int .i64 0, .int .i64 0, .string ⟨#[]⟩] 23))) nq).heap[w.heap.size]? = some (.cells #[.int .i64 y, .int .i64 m, .int .i64 d, .int .i64 h, .int .i64 i, .int .i64 s] 120 (0, 0))) := Lib.hid B0.out
          generalize World.drewN (((w.alloc (.cells #[.int .i64 y, .int .i64 m, .int .i64 d, .int .i64 h, .int .i64 i, .int .i64 s] 120)).alloc (.cells #[.int .i64 0, .int .i64 0, .string ⟨#[]⟩] 23))) nq = W1 at *
          have c0 : W1.cell? ⟨w.heap.size, 0, none⟩ = some (.int .i64 y) := (cell_of_row W1 _ 0 _ _ _ B1.out).trans rfl
          have c1 : W1.cell? ⟨w.heap.size, 1, none⟩ = some (.int .i64 m) := (cell_of_row W1 _ 1 _ _ _ B1.out).trans rfl
          have c2 : W1.cell? ⟨w.heap.size, 2, none⟩ = some (.int .i64 d) := (cell_of_row W1 _ 2 _ _ _ B1.out).trans rfl
          have c3 : W1.cell? ⟨w.heap.size, 3, none⟩ = some (.int .i64 h) := (cell_of_row W1 _ 3 _ _ _ B1.out).trans rfl
          have c4 : W1.cell? ⟨w.heap.size, 4, none⟩ = some (.int .i64 i) := (cell_of_row W1 _ 4 _ _ _ B1.out).trans rfl
          have c5 : W1.cell? ⟨w.heap.size, 5, none⟩ = some (.int .i64 s) := (cell_of_row W1 _ 5 _ _ _ B1.out).trans rfl
          go_wp2_with fail
          refine (WH.out _).mono ?_
          rintro e wx ⟨rfl, hwx⟩
          rw [hwx]
          clear hwx wx
          go_wp2_with (refine store23 rfl (.tmp 2) (.tmp 43) rfl (w.heap.size + 1) (nullT) rfl rfl nullT R1.out ?_; intro wz hp; have HP := Lib.hid hp; clear hp)
          exact bodyPost_ret (ret23 rfl rfl HP.out.at') rfl ⟨by rw [HN.out], HP.out.low HL1.out (by omega)⟩
        | true =>
          rw [hH] at WH HE
          cases hI : sixtyB i with
          | false =>
            rw [hI] at WI HE
            have PY := Lib.hid hY
            clear hY
            have PM := Lib.hid hM
            clear hM
            have PD := Lib.hid hD
            clear hD
            have PH := Lib.hid hH
            clear hH
            clear hI
            have HN : Hid (R = nullT) := Lib.hid (by rw [HE.out]; rfl)
            clear HE
            have HL0 : Hid (Below w.heap.size w (((w.alloc (.cells #[.int .i64 y, .int .i64 m, .int .i64 d, .int .i64 h, .int .i64 i, .int .i64 s] 120)).alloc (.cells #[.int .i64 0, .int .i64 0, .string ⟨#[]⟩] 23)))) := Lib.hid (by go_grown)
            have R0 : Hid ((((w.alloc (.cells #[.int .i64 y, .int .i64 m, .int .i64 d, .int .i64 h, .int .i64 i, .int .i64 s] 120)).alloc (.cells #[.int .i64 0, .int .i64 0, .string ⟨#[]⟩] 23))).heap[w.heap.size + 1]? = some (.cells (cells nullT) 23 (0, 0))) := Lib.hid (new_at _ _ _ (by simp))
            have B0 : Hid ((((w.alloc (.cells #[.int .i64 y, .int .i64 m, .int .i64 d, .int .i64 h, .int .i64 i, .int .i64 s] 120)).alloc (.cells #[.int .i64 0, .int .i64 0, .string ⟨#[]⟩] 23))).heap[w.heap.size]? = some (.cells #[.int .i64 y, .int .i64 m, .int .i64 d, .int .i64 h, .int .i64 i, .int .i64 s] 120 (0, 0))) := Lib.hid ((heap_alloc_old _ _ (by simp)).trans (heap_alloc_new w _))
            go_enter Tryz.func134, Tryz.ntmps134
            go_wp2_with fail
            go_quiet (first | (go_at_call_of 194 (Value.int IntKind.i64 y); refine Calls.quiet_of_same (WY.out _)) | (go_at_call_of 194 (Value.int IntKind.i64 m); refine Calls.quiet_of_same (WM.out _)) | (go_at_call_of 194 (Value.int IntKind.i64 d); refine Calls.quiet_of_same (WD.out _)) | (go_at_call 138; refine Calls.quiet_of_same (CM.out _)))
            have HL1 : Hid (Below w.heap.size w (World.drewN (((w.alloc (.cells #[.int .i64 y, .int .i64 m, .int .i64 d, .int .i64 h, .int .i64 i, .int .i64 s] 120)).alloc (.cells #[.int .i64 0, .int .i64 0, .string ⟨#[]⟩] 23))) nq)) := Lib.hid (below_drewN HL0.out _)
            have R1 : Hid ((World.drewN (((w.alloc (.cells #[.int .i64 y, .int .i64 m, .int .i64 d, .int .i64 h, .int .i64 i, .int .i64 s] 120)).alloc (.cells #[.int .i64 0, .int .i64 0, .string ⟨#[]⟩] 23))) nq).heap[w.heap.size + 1]? = some (.cells (cells nullT) 23 (0, 0))) := Lib.hid R0.out
            have B1 : Hid ((World.drewN (((w.alloc (.cells #[.int .i64 y, .int .i64 m, .int .i64 d, .int .i64 h, .int .i64 i, .int .i64 s] 120)).alloc (.cells #[.int .i64 0, .int .i64 0, .string ⟨#[]⟩] 23))) nq).heap[w.heap.size]? = some (.cells #[.int .i64 y, .int .i64 m, .int .i64 d, .int .i64 h, .int .i64 i, .int .i64 s] 120 (0, 0))) := Lib.hid B0.out
            generalize World.drewN (((w.alloc (.cells #[.int .i64 y, .int .i64 m, .int .i64 d, .int .i64 h, .int .i64 i, .int .i64 s] 120)).alloc (.cells #[.int .i64 0, .int .i64 0, .string ⟨#[]⟩] 23))) nq = W1 at *
            have c0 : W1.cell? ⟨w.heap.size, 0, none⟩ = some (.int .i64 y) := (cell_of_row W1 _ 0 _ _ _ B1.out).trans rfl
            have c1 : W1.cell? ⟨w.heap.size, 1, none⟩ = some (.int .i64 m) := (cell_of_row W1 _ 1 _ _ _ B1.out).trans rfl
            have c2 : W1.cell? ⟨w.heap.size, 2, none⟩ = some (.int .i64 d) := (cell_of_row W1 _ 2 _ _ _ B1.out).trans rfl
            have c3 : W1.cell? ⟨w.heap.size, 3, none⟩ = some (.int .i64 h) := (cell_of_row W1 _ 3 _ _ _ B1.out).trans rfl
            have c4 : W1.cell? ⟨w.heap.size, 4, none⟩ = some (.int .i64 i) := (cell_of_row W1 _ 4 _ _ _ B1.out).trans rfl
            have c5 : W1.cell? ⟨w.heap.size, 5, none⟩ = some (.int .i64 s) := (cell_of_row W1 _ 5 _ _ _ B1.out).trans rfl
            go_wp2_with fail
            refine (WH.out _).mono ?_
            rintro e wx ⟨rfl, hwx⟩
            rw [hwx]
            clear hwx wx
            go_wp2_with fail
            refine (WI.out _).mono ?_
            rintro e wx ⟨rfl, hwx⟩
            rw [hwx]
            clear hwx wx
            go_wp2_with (refine store23 rfl (.tmp 2) (.tmp 43) rfl (w.heap.size + 1) (nullT) rfl rfl nullT R1.out ?_; intro wz hp; have HP := Lib.hid hp; clear hp)
            exact bodyPost_ret (ret23 rfl rfl HP.out.at') rfl ⟨by rw [HN.out], HP.out.low HL1.out (by omega)⟩
          | true =>
            rw [hI] at WI HE
            cases hS : sixtyB s with
            | false =>
              rw [hS] at WS HE
              have PY := Lib.hid hY
              clear hY
              have PM := Lib.hid hM
              clear hM
              have PD := Lib.hid hD
              clear hD
              have PH := Lib.hid hH
              clear hH
              have PI := Lib.hid hI
              clear hI
              clear hS
              have HN : Hid (R = nullT) := Lib.hid (by rw [HE.out]; rfl)
              clear HE
              have HL0 : Hid (Below w.heap.size w (((w.alloc (.cells #[.int .i64 y, .int .i64 m, .int .i64 d, .int .i64 h, .int .i64 i, .int .i64 s] 120)).alloc (.cells #[.int .i64 0, .int .i64 0, .string ⟨#[]⟩] 23)))) := Lib.hid (by go_grown)
              have R0 : Hid ((((w.alloc (.cells #[.int .i64 y, .int .i64 m, .int .i64 d, .int .i64 h, .int .i64 i, .int .i64 s] 120)).alloc (.cells #[.int .i64 0, .int .i64 0, .string ⟨#[]⟩] 23))).heap[w.heap.size + 1]? = some (.cells (cells nullT) 23 (0, 0))) := Lib.hid (new_at _ _ _ (by simp))
              have B0 : Hid ((((w.alloc (.cells #[.int .i64 y, .int .i64 m, .int .i64 d, .int .i64 h, .int .i64 i, .int .i64 s] 120)).alloc (.cells #[.int .i64 0, .int .i64 0, .string ⟨#[]⟩] 23))).heap[w.heap.size]? = some (.cells #[.int .i64 y, .int .i64 m, .int .i64 d, .int .i64 h, .int .i64 i, .int .i64 s] 120 (0, 0))) := Lib.hid ((heap_alloc_old _ _ (by simp)).trans (heap_alloc_new w _))
              go_enter Tryz.func134, Tryz.ntmps134
              go_wp2_with fail
              go_quiet (first | (go_at_call_of 194 (Value.int IntKind.i64 y); refine Calls.quiet_of_same (WY.out _)) | (go_at_call_of 194 (Value.int IntKind.i64 m); refine Calls.quiet_of_same (WM.out _)) | (go_at_call_of 194 (Value.int IntKind.i64 d); refine Calls.quiet_of_same (WD.out _)) | (go_at_call 138; refine Calls.quiet_of_same (CM.out _)))
              have HL1 : Hid (Below w.heap.size w (World.drewN (((w.alloc (.cells #[.int .i64 y, .int .i64 m, .int .i64 d, .int .i64 h, .int .i64 i, .int .i64 s] 120)).alloc (.cells #[.int .i64 0, .int .i64 0, .string ⟨#[]⟩] 23))) nq)) := Lib.hid (below_drewN HL0.out _)
              have R1 : Hid ((World.drewN (((w.alloc (.cells #[.int .i64 y, .int .i64 m, .int .i64 d, .int .i64 h, .int .i64 i, .int .i64 s] 120)).alloc (.cells #[.int .i64 0, .int .i64 0, .string ⟨#[]⟩] 23))) nq).heap[w.heap.size + 1]? = some (.cells (cells nullT) 23 (0, 0))) := Lib.hid R0.out
              have B1 : Hid ((World.drewN (((w.alloc (.cells #[.int .i64 y, .int .i64 m, .int .i64 d, .int .i64 h, .int .i64 i, .int .i64 s] 120)).alloc (.cells #[.int .i64 0, .int .i64 0, .string ⟨#[]⟩] 23))) nq).heap[w.heap.size]? = some (.cells #[.int .i64 y, .int .i64 m, .int .i64 d, .int .i64 h, .int .i64 i, .int .i64 s] 120 (0, 0))) := Lib.hid B0.out
              generalize World.drewN (((w.alloc (.cells #[.int .i64 y, .int .i64 m, .int .i64 d, .int .i64 h, .int .i64 i, .int .i64 s] 120)).alloc (.cells #[.int .i64 0, .int .i64 0, .string ⟨#[]⟩] 23))) nq = W1 at *
              have c0 : W1.cell? ⟨w.heap.size, 0, none⟩ = some (.int .i64 y) := (cell_of_row W1 _ 0 _ _ _ B1.out).trans rfl
              have c1 : W1.cell? ⟨w.heap.size, 1, none⟩ = some (.int .i64 m) := (cell_of_row W1 _ 1 _ _ _ B1.out).trans rfl
              have c2 : W1.cell? ⟨w.heap.size, 2, none⟩ = some (.int .i64 d) := (cell_of_row W1 _ 2 _ _ _ B1.out).trans rfl
              have c3 : W1.cell? ⟨w.heap.size, 3, none⟩ = some (.int .i64 h) := (cell_of_row W1 _ 3 _ _ _ B1.out).trans rfl
              have c4 : W1.cell? ⟨w.heap.size, 4, none⟩ = some (.int .i64 i) := (cell_of_row W1 _ 4 _ _ _ B1.out).trans rfl
              have c5 : W1.cell? ⟨w.heap.size, 5, none⟩ = some (.int .i64 s) := (cell_of_row W1 _ 5 _ _ _ B1.out).trans rfl
              go_wp2_with fail
              refine (WH.out _).mono ?_
              rintro e wx ⟨rfl, hwx⟩
              rw [hwx]
              clear hwx wx
              go_wp2_with fail
              refine (WI.out _).mono ?_
              rintro e wx ⟨rfl, hwx⟩
              rw [hwx]
              clear hwx wx
              go_wp2_with fail
              refine (WS.out _).mono ?_
              rintro e wx ⟨rfl, hwx⟩
              rw [hwx]
              clear hwx wx
              go_wp2_with (refine store23 rfl (.tmp 2) (.tmp 43) rfl (w.heap.size + 1) (nullT) rfl rfl nullT R1.out ?_; intro wz hp; have HP := Lib.hid hp; clear hp)
              exact bodyPost_ret (ret23 rfl rfl HP.out.at') rfl ⟨by rw [HN.out], HP.out.low HL1.out (by omega)⟩
            | true =>
              rw [hS] at WS HE
              have PY := Lib.hid hY
              clear hY
              have PM := Lib.hid hM
              clear hM
              have PD := Lib.hid hD
              clear hD
              have PH := Lib.hid hH
              clear hH
              have PI := Lib.hid hI
              clear hI
              have PS := Lib.hid hS
              clear hS
              have HN : Hid (R = numT 4 (secsOf y m d h i s)) := Lib.hid (by rw [HE.out]; rfl)
              clear HE
              obtain ⟨y1, y2⟩ := two_true PY.out
              obtain ⟨m1, m2⟩ := two_true PM.out
              obtain ⟨d1, d2⟩ := two_true PD.out
              obtain ⟨i1, i2⟩ := two_true PH.out
              obtain ⟨j1, j2⟩ := two_true PI.out
              obtain ⟨s1, s2⟩ := two_true PS.out
              have ml := mdays_bounds y m
              have CA := Lib.hid (fun w => ahead_t y (by omega) (by omega) w)
              have a1 := ahead_low y y1
              have a2 := ahead_high y y1
              have HS := Lib.hid (show secsOf y m d h i s = (ahead y + before y m + d - 1) * 86400 + h * 3600 + i * 60 + s from rfl)
              have HB := Lib.hid (before_bounds y)
              have HU := Lib.hid (before_succ y)
              have H1 := Lib.hid (before1 y)
              have CK := Lib.hid (fun k w => mdays_t y k w)
              have HM := Lib.hid (fun k => mdays_bounds y k)
              generalize ahead y = A at *
              generalize mdays y m = ml at *
              have HL0 : Hid (Below w.heap.size w (((w.alloc (.cells #[.int .i64 y, .int .i64 m, .int .i64 d, .int .i64 h, .int .i64 i, .int .i64 s] 120)).alloc (.cells #[.int .i64 0, .int .i64 0, .string ⟨#[]⟩] 23)))) := Lib.hid (by go_grown)
              have R0 : Hid ((((w.alloc (.cells #[.int .i64 y, .int .i64 m, .int .i64 d, .int .i64 h, .int .i64 i, .int .i64 s] 120)).alloc (.cells #[.int .i64 0, .int .i64 0, .string ⟨#[]⟩] 23))).heap[w.heap.size + 1]? = some (.cells (cells nullT) 23 (0, 0))) := Lib.hid (new_at _ _ _ (by simp))
              have B0 : Hid ((((w.alloc (.cells #[.int .i64 y, .int .i64 m, .int .i64 d, .int .i64 h, .int .i64 i, .int .i64 s] 120)).alloc (.cells #[.int .i64 0, .int .i64 0, .string ⟨#[]⟩] 23))).heap[w.heap.size]? = some (.cells #[.int .i64 y, .int .i64 m, .int .i64 d, .int .i64 h, .int .i64 i, .int .i64 s] 120 (0, 0))) := Lib.hid ((heap_alloc_old _ _ (by simp)).trans (heap_alloc_new w _))
              go_enter Tryz.func134, Tryz.ntmps134
              go_wp2_with fail
              go_quiet (first | (go_at_call_of 194 (Value.int IntKind.i64 y); refine Calls.quiet_of_same (WY.out _)) | (go_at_call_of 194 (Value.int IntKind.i64 m); refine Calls.quiet_of_same (WM.out _)) | (go_at_call_of 194 (Value.int IntKind.i64 d); refine Calls.quiet_of_same (WD.out _)) | (go_at_call 138; refine Calls.quiet_of_same (CM.out _)))
              have HL1 : Hid (Below w.heap.size w (World.drewN (((w.alloc (.cells #[.int .i64 y, .int .i64 m, .int .i64 d, .int .i64 h, .int .i64 i, .int .i64 s] 120)).alloc (.cells #[.int .i64 0, .int .i64 0, .string ⟨#[]⟩] 23))) nq)) := Lib.hid (below_drewN HL0.out _)
              have R1 : Hid ((World.drewN (((w.alloc (.cells #[.int .i64 y, .int .i64 m, .int .i64 d, .int .i64 h, .int .i64 i, .int .i64 s] 120)).alloc (.cells #[.int .i64 0, .int .i64 0, .string ⟨#[]⟩] 23))) nq).heap[w.heap.size + 1]? = some (.cells (cells nullT) 23 (0, 0))) := Lib.hid R0.out
              have B1 : Hid ((World.drewN (((w.alloc (.cells #[.int .i64 y, .int .i64 m, .int .i64 d, .int .i64 h, .int .i64 i, .int .i64 s] 120)).alloc (.cells #[.int .i64 0, .int .i64 0, .string ⟨#[]⟩] 23))) nq).heap[w.heap.size]? = some (.cells #[.int .i64 y, .int .i64 m, .int .i64 d, .int .i64 h, .int .i64 i, .int .i64 s] 120 (0, 0))) := Lib.hid B0.out
              generalize World.drewN (((w.alloc (.cells #[.int .i64 y, .int .i64 m, .int .i64 d, .int .i64 h, .int .i64 i, .int .i64 s] 120)).alloc (.cells #[.int .i64 0, .int .i64 0, .string ⟨#[]⟩] 23))) nq = W1 at *
              have c0 : W1.cell? ⟨w.heap.size, 0, none⟩ = some (.int .i64 y) := (cell_of_row W1 _ 0 _ _ _ B1.out).trans rfl
              have c1 : W1.cell? ⟨w.heap.size, 1, none⟩ = some (.int .i64 m) := (cell_of_row W1 _ 1 _ _ _ B1.out).trans rfl
              have c2 : W1.cell? ⟨w.heap.size, 2, none⟩ = some (.int .i64 d) := (cell_of_row W1 _ 2 _ _ _ B1.out).trans rfl
              have c3 : W1.cell? ⟨w.heap.size, 3, none⟩ = some (.int .i64 h) := (cell_of_row W1 _ 3 _ _ _ B1.out).trans rfl
              have c4 : W1.cell? ⟨w.heap.size, 4, none⟩ = some (.int .i64 i) := (cell_of_row W1 _ 4 _ _ _ B1.out).trans rfl
              have c5 : W1.cell? ⟨w.heap.size, 5, none⟩ = some (.int .i64 s) := (cell_of_row W1 _ 5 _ _ _ B1.out).trans rfl
              go_wp2_with fail
              refine (WH.out _).mono ?_
              rintro e wx ⟨rfl, hwx⟩
              rw [hwx]
              clear hwx wx
              go_wp2_with fail
              refine (WI.out _).mono ?_
              rintro e wx ⟨rfl, hwx⟩
              rw [hwx]
              clear hwx wx
              go_wp2_with fail
              refine (WS.out _).mono ?_
              rintro e wx ⟨rfl, hwx⟩
              rw [hwx]
              clear hwx wx
              go_wp2_with fail
              go_quiet ((go_at_call 193; refine Calls.quiet_of_same (CA.out _)))
              clear c0 c1 c2 c3 c4 c5
              have HL2 : Hid (Below w.heap.size w (World.drewN W1 nq)) := Lib.hid (below_drewN HL1.out _)
              have R2 : Hid ((World.drewN W1 nq).heap[w.heap.size + 1]? = some (.cells (cells nullT) 23 (0, 0))) := Lib.hid R1.out
              have B2 : Hid ((World.drewN W1 nq).heap[w.heap.size]? = some (.cells #[.int .i64 y, .int .i64 m, .int .i64 d, .int .i64 h, .int .i64 i, .int .i64 s] 120 (0, 0))) := Lib.hid B1.out
              generalize World.drewN W1 nq = W2 at *
              have c0 : W2.cell? ⟨w.heap.size, 0, none⟩ = some (.int .i64 y) := (cell_of_row W2 _ 0 _ _ _ B2.out).trans rfl
              have c1 : W2.cell? ⟨w.heap.size, 1, none⟩ = some (.int .i64 m) := (cell_of_row W2 _ 1 _ _ _ B2.out).trans rfl
              have c2 : W2.cell? ⟨w.heap.size, 2, none⟩ = some (.int .i64 d) := (cell_of_row W2 _ 2 _ _ _ B2.out).trans rfl
              have c3 : W2.cell? ⟨w.heap.size, 3, none⟩ = some (.int .i64 h) := (cell_of_row W2 _ 3 _ _ _ B2.out).trans rfl
              have c4 : W2.cell? ⟨w.heap.size, 4, none⟩ = some (.int .i64 i) := (cell_of_row W2 _ 4 _ _ _ B2.out).trans rfl
              have c5 : W2.cell? ⟨w.heap.size, 5, none⟩ = some (.int .i64 s) := (cell_of_row W2 _ 5 _ _ _ B2.out).trans rfl
              go_wp2_with fail
              go_loop [3, 4] (fun q j => ∃ k : Int, 1 ≤ k ∧ k ≤ m ∧ j = .int .i64 k ∧ q = .int .i64 (A + d - 1 + before y k)) (fun _ j => (m - intOf j).toNat)
              case atStart => exact ⟨1, by omega, by omega, rfl, congrArg (Value.int .i64) (by rw [H1.out]; omega)⟩
              case round =>
                obtain ⟨k, k1, k2, rfl, rfl⟩ := hrel
                obtain ⟨b1, b2⟩ := HB.out k
                obtain ⟨e1, e2⟩ := HM.out k
                by_cases hlt : k < m
                · have hu := Lib.hid (HU.out k k1 (by omega))
                  have CKk := Lib.hid (CK.out k)
                  generalize before y k = bk at *
                  generalize mdays y k = mk at *
                  go_wp2_with fail
                  refine (CKk.out _).mono ?_
                  rintro e wx ⟨rfl, hwx⟩
                  rw [hwx]
                  clear hwx wx
                  go_wp2
                  exact ⟨⟨k + 1, by omega, by omega, rfl, congrArg (Value.int .i64) (by rw [hu.out]; omega)⟩, by simp [intOf]; omega⟩
                · have hk : k = m := by omega
                  subst hk
                  generalize before y k = bk at *
                  go_wp2_with fail
                  refine (number_t _ _ _).mono ?_
                  rintro e w3 ⟨rfl, hb3⟩
                  have R3 : Hid (w3.heap[w.heap.size + 1]? = some (.cells (cells nullT) 23 (0, 0))) := Lib.hid ((hb3.block _ (lt_of_block R2.out)).trans R2.out)
                  have HL3 := Lib.hid (below_call HL2.out hb3)
                  clear hb3
                  go_wp2_with (refine store23 rfl (.tmp 2) (.tmp 76) rfl (w.heap.size + 1) (numT 4 ((A + d - 1 + bk) * 86400 + h * 3600 + i * 60 + s)) rfl rfl _ R3.out ?_; intro wz hp; have HP := Lib.hid hp; clear hp)
                  exact bodyPost_ret (ret23 rfl rfl HP.out.at') rfl ⟨by rw [HN.out, HS.out]; rw [show A + bk + d - 1 = A + d - 1 + bk by omega], HP.out.low HL3.out (by omega)⟩
theorem date_t (y m d h i s : Int) (w : World) : Calls Tryz.prog 63 #[.int .i64 y, .int .i64 m, .int .i64 d, .int .i64 h, .int .i64 i, .int .i64 s] w fun e w' => e = .returned (toV (datedT y m d h i s)) ∧ Below w.heap.size w w' := by
  have CK := Lib.hid (fun w => momentOf_t y m d h i s w)
  generalize datedT y m d h i s = R at CK ⊢
  go_enter Tryz.func63, Tryz.ntmps63
  go_wp2_with fail
  refine (CK.out _).mono ?_
  rintro e w1 ⟨rfl, hb1⟩
  have R1 : Hid (w1.heap[w.heap.size]? = some (.cells (cells nullT) 23 (0, 0))) := Lib.hid ((hb1.block _ (by simp)).trans (new_at _ _ _ (by simp)))
  have HL1 := Lib.hid (below_call (w := w) (by go_grown) hb1)
  clear hb1
  go_wp2_with (refine store23 rfl (.tmp 12) (.tmp 20) rfl w.heap.size (R) rfl rfl _ R1.out ?_; intro wz hp; have HP := Lib.hid hp; clear hp)
  exact bodyPost_ret (ret23 rfl rfl HP.out.at') rfl ⟨rfl, HP.out.low HL1.out (Nat.le_refl _)⟩
set_option maxHeartbeats 1000000 in
theorem dated_t (y m d h i s : Int) (w : World) : Calls Tryz.prog 64 #[.int .i64 y, .int .i64 m, .int .i64 d, .int .i64 h, .int .i64 i, .int .i64 s] w fun e w' => e = .returned (toV (datedT y m d h i s)) ∧ Below w.heap.size w w' := by
  have HE := Lib.hid (show datedT y m d h i s = if (yearB y && (monthB m && (dayB y m d && (hourB h && (sixtyB i && sixtyB s))))) = true then numT 4 (secsOf y m d h i s) else nullT from rfl)
  generalize datedT y m d h i s = R at HE ⊢
  have WY : Hid (∀ w, Calls Tryz.prog 132 #[.int .i64 y, .int .i64 1970, .int .i64 9999] w fun e w' => e = .returned (.bool (yearB y)) ∧ w' = w) := Lib.hid (fun w => rwithin_t y 1970 9999 w)
  have WM : Hid (∀ w, Calls Tryz.prog 132 #[.int .i64 m, .int .i64 1, .int .i64 12] w fun e w' => e = .returned (.bool (monthB m)) ∧ w' = w) := Lib.hid (fun w => rwithin_t m 1 12 w)
  have WD : Hid (∀ w, Calls Tryz.prog 132 #[.int .i64 d, .int .i64 1, .int .i64 (mdays y m)] w fun e w' => e = .returned (.bool (dayB y m d)) ∧ w' = w) := Lib.hid (fun w => rwithin_t d 1 (mdays y m) w)
  have WH : Hid (∀ w, Calls Tryz.prog 132 #[.int .i64 h, .int .i64 0, .int .i64 23] w fun e w' => e = .returned (.bool (hourB h)) ∧ w' = w) := Lib.hid (fun w => rwithin_t h 0 23 w)
  have WI : Hid (∀ w, Calls Tryz.prog 132 #[.int .i64 i, .int .i64 0, .int .i64 59] w fun e w' => e = .returned (.bool (sixtyB i)) ∧ w' = w) := Lib.hid (fun w => rwithin_t i 0 59 w)
  have WS : Hid (∀ w, Calls Tryz.prog 132 #[.int .i64 s, .int .i64 0, .int .i64 59] w fun e w' => e = .returned (.bool (sixtyB s)) ∧ w' = w) := Lib.hid (fun w => rwithin_t s 0 59 w)
  have CM := Lib.hid (fun w => rmdays_t y m w)
  cases hY : yearB y with
  | false =>
    rw [hY] at WY HE
    clear hY
    have HN : Hid (R = nullT) := Lib.hid (by rw [HE.out]; rfl)
    clear HE
    go_enter Tryz.func64, Tryz.ntmps64
    go_wp2_with fail
    refine (WY.out _).mono ?_
    rintro e wx ⟨rfl, hwx⟩
    rw [hwx]
    clear hwx wx
    go_wp2_with (refine store23 rfl (.tmp 12) (.tmp 47) rfl w.heap.size (nullT) rfl rfl nullT (new_at _ _ _ rfl) ?_; intro wz hp; have HP := Lib.hid hp; clear hp)
    exact bodyPost_ret (ret23 rfl rfl HP.out.at') rfl ⟨by rw [HN.out], HP.out.low (by go_grown) (Nat.le_refl _)⟩
  | true =>
    rw [hY] at WY HE
    cases hM : monthB m with
    | false =>
      rw [hM] at WM HE
      have PY := Lib.hid hY
      clear hY
      clear hM
      have HN : Hid (R = nullT) := Lib.hid (by rw [HE.out]; rfl)
      clear HE
      go_enter Tryz.func64, Tryz.ntmps64
      go_wp2_with fail
      refine (WY.out _).mono ?_
      rintro e wx ⟨rfl, hwx⟩
      rw [hwx]
      clear hwx wx
      go_wp2_with fail
      refine (WM.out _).mono ?_
      rintro e wx ⟨rfl, hwx⟩
      rw [hwx]
      clear hwx wx
      go_wp2_with (refine store23 rfl (.tmp 12) (.tmp 47) rfl w.heap.size (nullT) rfl rfl nullT (new_at _ _ _ rfl) ?_; intro wz hp; have HP := Lib.hid hp; clear hp)
      exact bodyPost_ret (ret23 rfl rfl HP.out.at') rfl ⟨by rw [HN.out], HP.out.low (by go_grown) (Nat.le_refl _)⟩
    | true =>
      rw [hM] at WM HE
      cases hD : dayB y m d with
      | false =>
        rw [hD] at WD HE
        have PY := Lib.hid hY
        clear hY
        have PM := Lib.hid hM
        clear hM
        clear hD
        have HN : Hid (R = nullT) := Lib.hid (by rw [HE.out]; rfl)
        clear HE
        go_enter Tryz.func64, Tryz.ntmps64
        go_wp2_with fail
        refine (WY.out _).mono ?_
        rintro e wx ⟨rfl, hwx⟩
        rw [hwx]
        clear hwx wx
        go_wp2_with fail
        refine (WM.out _).mono ?_
        rintro e wx ⟨rfl, hwx⟩
        rw [hwx]
        clear hwx wx
        go_wp2_with fail
        refine (CM.out _).mono ?_
        rintro e wx ⟨rfl, hwx⟩
        rw [hwx]
        clear hwx wx
        go_wp2_with fail
        refine (WD.out _).mono ?_
        rintro e wx ⟨rfl, hwx⟩
        rw [hwx]
        clear hwx wx
        go_wp2_with (refine store23 rfl (.tmp 12) (.tmp 47) rfl w.heap.size (nullT) rfl rfl nullT (new_at _ _ _ rfl) ?_; intro wz hp; have HP := Lib.hid hp; clear hp)
        exact bodyPost_ret (ret23 rfl rfl HP.out.at') rfl ⟨by rw [HN.out], HP.out.low (by go_grown) (Nat.le_refl _)⟩
      | true =>
        rw [hD] at WD HE
        cases hH : hourB h with
        | false =>
          rw [hH] at WH HE
          have PY := Lib.hid hY
          clear hY
          have PM := Lib.hid hM
          clear hM
          have PD := Lib.hid hD
          clear hD
          clear hH
          have HN : Hid (R = nullT) := Lib.hid (by rw [HE.out]; rfl)
          clear HE
          go_enter Tryz.func64, Tryz.ntmps64
          go_wp2_with fail
          refine (WY.out _).mono ?_
          rintro e wx ⟨rfl, hwx⟩
          rw [hwx]
          clear hwx wx
          go_wp2_with fail
          refine (WM.out _).mono ?_
          rintro e wx ⟨rfl, hwx⟩
          rw [hwx]
          clear hwx wx
          go_wp2_with fail
          refine (CM.out _).mono ?_
          rintro e wx ⟨rfl, hwx⟩
          rw [hwx]
          clear hwx wx
          go_wp2_with fail
          refine (WD.out _).mono ?_
          rintro e wx ⟨rfl, hwx⟩
          rw [hwx]
          clear hwx wx
          go_wp2_with fail
          refine (WH.out _).mono ?_
          rintro e wx ⟨rfl, hwx⟩
          rw [hwx]
          clear hwx wx
          go_wp2_with (refine store23 rfl (.tmp 12) (.tmp 47) rfl w.heap.size (nullT) rfl rfl nullT (new_at _ _ _ rfl) ?_; intro wz hp; have HP := Lib.hid hp; clear hp)
          exact bodyPost_ret (ret23 rfl rfl HP.out.at') rfl ⟨by rw [HN.out], HP.out.low (by go_grown) (Nat.le_refl _)⟩
        | true =>
          rw [hH] at WH HE
          cases hI : sixtyB i with
          | false =>
            rw [hI] at WI HE
            have PY := Lib.hid hY
            clear hY
            have PM := Lib.hid hM
            clear hM
            have PD := Lib.hid hD
            clear hD
            have PH := Lib.hid hH
            clear hH
            clear hI
            have HN : Hid (R = nullT) := Lib.hid (by rw [HE.out]; rfl)
            clear HE
            go_enter Tryz.func64, Tryz.ntmps64
            go_wp2_with fail
            refine (WY.out _).mono ?_
            rintro e wx ⟨rfl, hwx⟩
            rw [hwx]
            clear hwx wx
            go_wp2_with fail
            refine (WM.out _).mono ?_
            rintro e wx ⟨rfl, hwx⟩
            rw [hwx]
            clear hwx wx
            go_wp2_with fail
            refine (CM.out _).mono ?_
            rintro e wx ⟨rfl, hwx⟩
            rw [hwx]
            clear hwx wx
            go_wp2_with fail
            refine (WD.out _).mono ?_
            rintro e wx ⟨rfl, hwx⟩
            rw [hwx]
            clear hwx wx
            go_wp2_with fail
            refine (WH.out _).mono ?_
            rintro e wx ⟨rfl, hwx⟩
            rw [hwx]
            clear hwx wx
            go_wp2_with fail
            refine (WI.out _).mono ?_
            rintro e wx ⟨rfl, hwx⟩
            rw [hwx]
            clear hwx wx
            go_wp2_with (refine store23 rfl (.tmp 12) (.tmp 47) rfl w.heap.size (nullT) rfl rfl nullT (new_at _ _ _ rfl) ?_; intro wz hp; have HP := Lib.hid hp; clear hp)
            exact bodyPost_ret (ret23 rfl rfl HP.out.at') rfl ⟨by rw [HN.out], HP.out.low (by go_grown) (Nat.le_refl _)⟩
          | true =>
            rw [hI] at WI HE
            cases hS : sixtyB s with
            | false =>
              rw [hS] at WS HE
              have PY := Lib.hid hY
              clear hY
              have PM := Lib.hid hM
              clear hM
              have PD := Lib.hid hD
              clear hD
              have PH := Lib.hid hH
              clear hH
              have PI := Lib.hid hI
              clear hI
              clear hS
              have HN : Hid (R = nullT) := Lib.hid (by rw [HE.out]; rfl)
              clear HE
              go_enter Tryz.func64, Tryz.ntmps64
              go_wp2_with fail
              refine (WY.out _).mono ?_
              rintro e wx ⟨rfl, hwx⟩
              rw [hwx]
              clear hwx wx
              go_wp2_with fail
              refine (WM.out _).mono ?_
              rintro e wx ⟨rfl, hwx⟩
              rw [hwx]
              clear hwx wx
              go_wp2_with fail
              refine (CM.out _).mono ?_
              rintro e wx ⟨rfl, hwx⟩
              rw [hwx]
              clear hwx wx
              go_wp2_with fail
              refine (WD.out _).mono ?_
              rintro e wx ⟨rfl, hwx⟩
              rw [hwx]
              clear hwx wx
              go_wp2_with fail
              refine (WH.out _).mono ?_
              rintro e wx ⟨rfl, hwx⟩
              rw [hwx]
              clear hwx wx
              go_wp2_with fail
              refine (WI.out _).mono ?_
              rintro e wx ⟨rfl, hwx⟩
              rw [hwx]
              clear hwx wx
              go_wp2_with fail
              refine (WS.out _).mono ?_
              rintro e wx ⟨rfl, hwx⟩
              rw [hwx]
              clear hwx wx
              go_wp2_with (refine store23 rfl (.tmp 12) (.tmp 47) rfl w.heap.size (nullT) rfl rfl nullT (new_at _ _ _ rfl) ?_; intro wz hp; have HP := Lib.hid hp; clear hp)
              exact bodyPost_ret (ret23 rfl rfl HP.out.at') rfl ⟨by rw [HN.out], HP.out.low (by go_grown) (Nat.le_refl _)⟩
            | true =>
              rw [hS] at WS HE
              have PY := Lib.hid hY
              clear hY
              have PM := Lib.hid hM
              clear hM
              have PD := Lib.hid hD
              clear hD
              have PH := Lib.hid hH
              clear hH
              have PI := Lib.hid hI
              clear hI
              have PS := Lib.hid hS
              clear hS
              have HN : Hid (R = numT 4 (secsOf y m d h i s)) := Lib.hid (by rw [HE.out]; rfl)
              clear HE
              obtain ⟨y1, y2⟩ := two_true PY.out
              obtain ⟨m1, m2⟩ := two_true PM.out
              obtain ⟨d1, d2⟩ := two_true PD.out
              obtain ⟨i1, i2⟩ := two_true PH.out
              obtain ⟨j1, j2⟩ := two_true PI.out
              obtain ⟨s1, s2⟩ := two_true PS.out
              have ml := mdays_bounds y m
              have HS := Lib.hid (show secsOf y m d h i s = (ahead y + before y m + d - 1) * 86400 + h * 3600 + i * 60 + s from rfl)
              have HB := Lib.hid (before_bounds y)
              have HU := Lib.hid (before_succ y)
              have H1 := Lib.hid (before1 y)
              have CK := Lib.hid (fun k w => rmdays_t y k w)
              have HM := Lib.hid (fun k => mdays_bounds y k)
              generalize mdays y m = ml at *
              go_enter Tryz.func64, Tryz.ntmps64
              go_wp2_with fail
              refine (WY.out _).mono ?_
              rintro e wx ⟨rfl, hwx⟩
              rw [hwx]
              clear hwx wx
              go_wp2_with fail
              refine (WM.out _).mono ?_
              rintro e wx ⟨rfl, hwx⟩
              rw [hwx]
              clear hwx wx
              go_wp2_with fail
              refine (CM.out _).mono ?_
              rintro e wx ⟨rfl, hwx⟩
              rw [hwx]
              clear hwx wx
              go_wp2_with fail
              refine (WD.out _).mono ?_
              rintro e wx ⟨rfl, hwx⟩
              rw [hwx]
              clear hwx wx
              go_wp2_with fail
              refine (WH.out _).mono ?_
              rintro e wx ⟨rfl, hwx⟩
              rw [hwx]
              clear hwx wx
              go_wp2_with fail
              refine (WI.out _).mono ?_
              rintro e wx ⟨rfl, hwx⟩
              rw [hwx]
              clear hwx wx
              go_wp2_with fail
              refine (WS.out _).mono ?_
              rintro e wx ⟨rfl, hwx⟩
              rw [hwx]
              clear hwx wx
              go_wp2_with fail
              go_loop [13, 14] (fun q j => ∃ k : Int, 1970 ≤ k ∧ k ≤ y ∧ j = .int .i64 k ∧ q = .int .i64 (d - 1 + ahead k)) (fun _ j => (y - intOf j).toNat)
              case atStart => exact ⟨1970, by omega, by omega, rfl, congrArg (Value.int .i64) (by rw [ahead0]; omega)⟩
              case round =>
                obtain ⟨k, k1, k2, rfl, rfl⟩ := hrel
                have a1 := ahead_low k k1
                have a2 := ahead_high k k1
                by_cases hlt : k < y
                · have hu := Lib.hid (ahead_succ k k1)
                  have CY := Lib.hid (fun w => ydays_t k w)
                  obtain ⟨e1, e2⟩ := ydays_pos k
                  generalize ahead k = A at *
                  generalize ydays k = yk at *
                  go_wp2_with fail
                  refine (CY.out _).mono ?_
                  rintro e wx ⟨rfl, rfl⟩
                  go_wp2
                  exact ⟨⟨k + 1, by omega, by omega, rfl, congrArg (Value.int .i64) (by rw [hu.out]; omega)⟩, by simp [intOf]; omega⟩
                · have hk : k = y := by omega
                  subst hk
                  generalize ahead k = A at *
                  go_wp2_with fail
                  go_loop [13, 15] (fun q j => ∃ l : Int, 1 ≤ l ∧ l ≤ m ∧ j = .int .i64 l ∧ q = .int .i64 (d - 1 + A + before k l)) (fun _ j => (m - intOf j).toNat)
                  case atStart => exact ⟨1, by omega, by omega, rfl, congrArg (Value.int .i64) (by rw [H1.out]; omega)⟩
                  case round =>
                    obtain ⟨l, l1, l2, rfl, rfl⟩ := hrel
                    obtain ⟨b1, b2⟩ := HB.out l
                    obtain ⟨e1, e2⟩ := HM.out l
                    by_cases hlm : l < m
                    · have hu := Lib.hid (HU.out l l1 (by omega))
                      have CKk := Lib.hid (CK.out l)
                      generalize before k l = bk at *
                      generalize mdays k l = mk at *
                      go_wp2_with fail
                      refine (CKk.out _).mono ?_
                      rintro e wx ⟨rfl, rfl⟩
                      go_wp2
                      exact ⟨⟨l + 1, by omega, by omega, rfl, congrArg (Value.int .i64) (by rw [hu.out]; omega)⟩, by simp [intOf]; omega⟩
                    · have hk : l = m := by omega
                      subst hk
                      generalize before k l = bk at *
                      go_wp2_with fail
                      refine (rmoment_t _ _).mono ?_
                      rintro e w3 ⟨rfl, hb3⟩
                      have R3 : Hid (w3.heap[w.heap.size]? = some (.cells (cells nullT) 23 (0, 0))) := Lib.hid ((hb3.block _ (by simp)).trans (new_at _ _ _ rfl))
                      have HL3 := Lib.hid (below_call (w := w) (by go_grown) hb3)
                      clear hb3
                      go_wp2_with (refine store23 rfl (.tmp 12) (.tmp 79) rfl w.heap.size (numT 4 ((((d - 1 + A + bk) * 24 + h) * 60 + i) * 60 + s)) rfl rfl _ R3.out ?_; intro wz hp; have HP := Lib.hid hp; clear hp)
                      exact bodyPost_ret (ret23 rfl rfl HP.out.at') rfl ⟨by rw [HN.out, HS.out]; rw [show (((d - 1 + A + bk) * 24 + h) * 60 + i) * 60 + s = (A + bk + d - 1) * 86400 + h * 3600 + i * 60 + s by omega], HP.out.low HL3.out (Nat.le_refl _)⟩
end YtabojeleomfgnaaGreatDoor
end Go.Proofs
