/- The date of a moment. The parts of a moment, by the reference. Unit. UnitOf. Trunc. Trunc, by the reference. -/
import Derived.Test.YtabojeleomfgnaaGreatDoorMp1
namespace Go.Proofs
open Go.RowKit
namespace YtabojeleomfgnaaGreatDoor
set_option maxRecDepth 100000
def hourOf (n : Int) : Int := n / 3600 % 24
def minOf (n : Int) : Int := n / 60 % 60
def secOf (n : Int) : Int := n % 60
abbrev six (a b c d e f : Int) : Array Value := #[.int .i64 a, .int .i64 b, .int .i64 c, .int .i64 d, .int .i64 e, .int .i64 f]
theorem size120 : (Tryz.prog.info? 120).map (·.size) = some 6 := by kernel_rfl
theorem size123 : (Tryz.prog.info? 123).map (·.size) = some 6 := by kernel_rfl
theorem store120 {ops : Array Oper} {rest : List Oper} {o : Oper} {a : Act} {w : World} {Q : Exit → Act → World → Prop} (hgd : o.guard = none) (u v : Operand) (ho : o.op = .store 120 u v)
    (g : Nat) (p q r s t z : Int) (hx : a.eval u = .pointer (some ⟨g, 0, none⟩)) (hy : a.eval v = .agg (six p q r s t z)) (p' q' r' s' t' z' : Int) (hg : w.heap[g]? = some (.cells (six p' q' r' s' t' z') 120 (0, 0)))
    (h : ∀ w', Puts g (six p q r s t z) 120 w w' → wpList Tryz.prog ops Q rest (a.put o.dst undef) w') : wpList Tryz.prog ops Q (o :: rest) a w :=
  wpList_store_row hgd 120 u v ho g (six p q r s t z) hx hy 120 _ hg size120 rfl (by simp [Value.oneCell']) (h _ (puts_setRow hg))
theorem store123 {ops : Array Oper} {rest : List Oper} {o : Oper} {a : Act} {w : World} {Q : Exit → Act → World → Prop} (hgd : o.guard = none) (u v : Operand) (ho : o.op = .store 123 u v)
    (g : Nat) (p q r s t z : Int) (hx : a.eval u = .pointer (some ⟨g, 0, none⟩)) (hy : a.eval v = .agg (six p q r s t z)) (p' q' r' s' t' z' : Int) (hg : w.heap[g]? = some (.cells (six p' q' r' s' t' z') 123 (0, 0)))
    (h : ∀ w', Puts g (six p q r s t z) 123 w w' → wpList Tryz.prog ops Q rest (a.put o.dst undef) w') : wpList Tryz.prog ops Q (o :: rest) a w :=
  wpList_store_row hgd 123 u v ho g (six p q r s t z) hx hy 123 _ hg size123 rfl (by simp [Value.oneCell']) (h _ (puts_setRow hg))
theorem ret120 {fn : Func} {r : Tmp} (h : fn.results = #[.cell r 120]) {tmps : Array Value} {w : World} {g : Nat} {a b c d e f : Int} (hp : tmps.getD r undef = .pointer (some ⟨g, 0, none⟩)) (hg : w.heap[g]? = some (.cells (six a b c d e f) 120 (0, 0))) :
    (results fn tmps).run Tryz.prog w = .ok (.agg (six a b c d e f)) w :=
  results_cell_row h tmps w g 120 (six a b c d e f) (0, 0) _ hp hg Tryz.underlying120 rfl size120
theorem ret123 {fn : Func} {r : Tmp} (h : fn.results = #[.cell r 123]) {tmps : Array Value} {w : World} {g : Nat} {a b c d e f : Int} (hp : tmps.getD r undef = .pointer (some ⟨g, 0, none⟩)) (hg : w.heap[g]? = some (.cells (six a b c d e f) 123 (0, 0))) :
    (results fn tmps).run Tryz.prog w = .ok (.agg (six a b c d e f)) w :=
  results_cell_row h tmps w g 123 (six a b c d e f) (0, 0) _ hp hg Tryz.underlying123 rfl size123
/-- the result's box, the date's box -/
def Dx (a b c d e f : Int) (w0 w : World) : Prop :=
  w.heap[w0.heap.size]? = some (.cells (six 0 0 0 0 0 0) 120 (0, 0)) ∧ w.heap[w0.heap.size + 1]? = some (.cells (six a b c d e f) 120 (0, 0)) ∧ Below w0.heap.size w0 w
theorem Dx.puts {a b c d e f a' b' c' d' e' f' : Int} {C : Array Value} {w0 w w' : World} (h : Dx a b c d e f w0 w) (hp : Puts (w0.heap.size + 1) C 120 w w') (hC : C = six a' b' c' d' e' f') : Dx a' b' c' d' e' f' w0 w' := by
  subst hC
  exact ⟨(hp.keeps.block _ (lt_of_block h.1) (by omega)).trans h.1, hp.at', hp.below h.2.2 (by omega)⟩
theorem Dx.year {a b c d e f : Int} {w0 w : World} (h : Dx a b c d e f w0 w) : intOf ((w.cell? ⟨w0.heap.size + 1, 0, none⟩).getD undef) = a := by
  rw [cell_of_row w _ 0 _ _ _ h.2.1]; rfl
theorem Dx.month {a b c d e f : Int} {w0 w : World} (h : Dx a b c d e f w0 w) : intOf ((w.cell? ⟨w0.heap.size + 1, 1, none⟩).getD undef) = b := by
  rw [cell_of_row w _ 1 _ _ _ h.2.1]; rfl
set_option maxHeartbeats 1000000 in
theorem dateOf_day (n y m d : Int) (h0 : 0 ≤ n) (h1 : n ≤ 253402300799) (hd : IsDay (n / 86400) y m d) (w : World) :
    Calls Tryz.prog 131 #[.int .i64 n] w fun e w' => e = .returned (.agg (six y m d (hourOf n) (minOf n) (secOf n))) ∧ Below w.heap.size w w' := by
  have hy9 := day_year hd (by omega)
  obtain ⟨y1, m1, m2, d1, d2, hq⟩ := hd
  have hin := day_in_year y m d m1 m2 d2
  have hbm := before_bounds y m
  have hA := ahead_succ y y1
  have e1 : n % 86400 / 3600 = hourOf n := by unfold hourOf; omega
  have e2 : n % 3600 / 60 = minOf n := by unfold minOf; omega
  have e3 : n % 60 = secOf n := by unfold secOf; omega
  have lo1 : ahead y ≤ n / 86400 := by omega
  have lo2 : n / 86400 < ahead (y + 1) := by omega
  have E1 := Lib.hid e1
  have E2 := Lib.hid e2
  have E3 := Lib.hid e3
  clear e1 e2 e3
  have D0 : Hid (Dx 0 0 0 0 0 0 w ((w.alloc (.cells #[.int .i64 0, .int .i64 0, .int .i64 0, .int .i64 0, .int .i64 0, .int .i64 0] 120)).alloc (.cells #[.int .i64 0, .int .i64 0, .int .i64 0, .int .i64 0, .int .i64 0, .int .i64 0] 120))) := Lib.hid ⟨(heap_alloc_old _ _ (by simp)).trans (heap_alloc_new w _), new_at _ _ _ (by simp), by go_grown⟩
  have q0 : 0 ≤ n / 86400 := by omega
  have q1 : n / 86400 ≤ 2932896 := by omega
  have yy1 : 1970 ≤ 1970 + n / 86400 * 400 / 146097 := by omega
  have yy2 : 1970 + n / 86400 * 400 / 146097 ≤ 10000 := by omega
  have HQ := Lib.hid hq
  clear hq hin hA
  go_enter Tryz.func131, Tryz.ntmps131
  go_wp2_with (refine store120 rfl (.tmp 5) (.tmp 14) rfl (w.heap.size + 1) (1970 + n / 86400 * 400 / 146097) 1 0 0 0 0 rfl rfl _ _ _ _ _ _ D0.out.2.1 ?_; intro wa hp; have D1 := Lib.hid (D0.out.puts hp rfl); clear hp)
  simp only [Act.put]
  go_loopw [] (fun wr => ∃ x, 1970 ≤ x ∧ x ≤ 10000 ∧ Hid (Dx x 1 0 0 0 0 w wr)) (fun wr => (intOf ((wr.cell? ⟨w.heap.size + 1, 0, none⟩).getD undef) - 1970).toNat)
  case atStart => exact ⟨1970 + n / 86400 * 400 / 146097, yy1, yy2, D1⟩
  case round =>
    obtain ⟨x, x1, x2, hD⟩ := hrel
    have c0 : wr.cell? ⟨w.heap.size + 1, 0, none⟩ = some (.int .i64 x) := (cell_of_row wr _ 0 _ _ _ hD.out.2.1).trans rfl
    have c1 : wr.cell? ⟨w.heap.size + 1, 1, none⟩ = some (.int .i64 1) := (cell_of_row wr _ 1 _ _ _ hD.out.2.1).trans rfl
    have c2 : wr.cell? ⟨w.heap.size + 1, 2, none⟩ = some (.int .i64 0) := (cell_of_row wr _ 2 _ _ _ hD.out.2.1).trans rfl
    have c3 : wr.cell? ⟨w.heap.size + 1, 3, none⟩ = some (.int .i64 0) := (cell_of_row wr _ 3 _ _ _ hD.out.2.1).trans rfl
    have c4 : wr.cell? ⟨w.heap.size + 1, 4, none⟩ = some (.int .i64 0) := (cell_of_row wr _ 4 _ _ _ hD.out.2.1).trans rfl
    have c5 : wr.cell? ⟨w.heap.size + 1, 5, none⟩ = some (.int .i64 0) := (cell_of_row wr _ 5 _ _ _ hD.out.2.1).trans rfl
    have CA := Lib.hid (fun w => ahead_t x (by omega) (by omega) w)
    by_cases hgt : n / 86400 < ahead x
    · have hx0 : 1970 ≤ x - 1 := by
        rcases (by omega : x = 1970 ∨ 1970 ≤ x - 1) with h | h
        · subst h; rw [ahead0] at hgt; omega
        · exact h
      generalize ahead x = ax at *
      go_wp2_with fail
      refine (CA.out _).mono ?_
      rintro e wx ⟨rfl, hwx⟩
      rw [hwx]
      clear hwx wx
      go_wp2_with (refine store_int rfl (.tmp 23) (.tmp 22) rfl (w.heap.size + 1) 0 (x - 1) rfl rfl (six x 1 0 0 0 0) 120 hD.out.2.1 (by simp) ?_; intro wn hp; have hN := Lib.hid (hD.out.puts (a' := x - 1) (b' := 1) (c' := 0) (d' := 0) (e' := 0) (f' := 0) hp rfl); clear hp)
      simp only [Act.put]
      go_roundw
      case rel => exact ⟨x - 1, by omega, by omega, hN⟩
      case measure => simp only [hD.out.year, hN.out.year]; omega
    · have hxy : x ≤ y := by
        rcases (by omega : x ≤ y ∨ y + 1 ≤ x) with h | h
        · exact h
        · have := ahead_mono (y + 1) x h; omega
      have HX := Lib.hid hgt
      generalize ahead x = ax at CA hgt
      go_wp2_with fail
      refine (CA.out _).mono ?_
      rintro e wx ⟨rfl, hwx⟩
      rw [hwx]
      clear hwx wx
      go_wp2_with fail
      clear c0 c1 c2 c3 c4 c5 CA hgt HX
      go_loopw [] (fun wr => ∃ z, 1970 ≤ z ∧ z ≤ y ∧ Hid (Dx z 1 0 0 0 0 w wr)) (fun wr => (y - intOf ((wr.cell? ⟨w.heap.size + 1, 0, none⟩).getD undef)).toNat)
      case atStart => exact ⟨x, x1, hxy, hD⟩
      case round =>
        obtain ⟨z, z1, z2, hD⟩ := hrel
        have c0 : wr.cell? ⟨w.heap.size + 1, 0, none⟩ = some (.int .i64 z) := (cell_of_row wr _ 0 _ _ _ hD.out.2.1).trans rfl
        have c1 : wr.cell? ⟨w.heap.size + 1, 1, none⟩ = some (.int .i64 1) := (cell_of_row wr _ 1 _ _ _ hD.out.2.1).trans rfl
        have c2 : wr.cell? ⟨w.heap.size + 1, 2, none⟩ = some (.int .i64 0) := (cell_of_row wr _ 2 _ _ _ hD.out.2.1).trans rfl
        have c3 : wr.cell? ⟨w.heap.size + 1, 3, none⟩ = some (.int .i64 0) := (cell_of_row wr _ 3 _ _ _ hD.out.2.1).trans rfl
        have c4 : wr.cell? ⟨w.heap.size + 1, 4, none⟩ = some (.int .i64 0) := (cell_of_row wr _ 4 _ _ _ hD.out.2.1).trans rfl
        have c5 : wr.cell? ⟨w.heap.size + 1, 5, none⟩ = some (.int .i64 0) := (cell_of_row wr _ 5 _ _ _ hD.out.2.1).trans rfl
        have CA := Lib.hid (fun w => ahead_t (z + 1) (by omega) (by omega) w)
        by_cases hle : ahead (z + 1) ≤ n / 86400
        · have hzy : z + 1 ≤ y := by
            rcases (by omega : z + 1 ≤ y ∨ z = y) with h | h
            · exact h
            · subst h; omega
          generalize ahead (z + 1) = az at *
          go_wp2_with fail
          refine (CA.out _).mono ?_
          rintro e wx ⟨rfl, hwx⟩
          rw [hwx]
          clear hwx wx
          go_wp2_with (refine store_int rfl (.tmp 33) (.tmp 32) rfl (w.heap.size + 1) 0 (z + 1) rfl rfl (six z 1 0 0 0 0) 120 hD.out.2.1 (by simp) ?_; intro wn hp; have hN := Lib.hid (hD.out.puts (a' := z + 1) (b' := 1) (c' := 0) (d' := 0) (e' := 0) (f' := 0) hp rfl); clear hp)
          simp only [Act.put]
          go_roundw
          case rel => exact ⟨z + 1, by omega, by omega, hN⟩
          case measure => simp only [hD.out.year, hN.out.year]; omega
        · have hzy : z = y := by
            rcases (by omega : z = y ∨ z + 1 ≤ y) with h | h
            · exact h
            · have := ahead_mono (z + 1) y h; omega
          rw [hzy] at hD CA hle c0
          clear hzy z1 z2
          have CA2 := Lib.hid (fun w => ahead_t y (by omega) (by omega) w)
          have B1 := Lib.hid (before1 y)
          have BB := Lib.hid (before_bounds y)
          have a0 := ahead_low y y1
          generalize ahead (z + 1) = az at *
          generalize ahead y = A at *
          go_wp2_with fail
          refine (CA.out _).mono ?_
          rintro e wx ⟨rfl, hwx⟩
          rw [hwx]
          clear hwx wx
          go_wp2_with fail
          refine (CA2.out _).mono ?_
          rintro e wx ⟨rfl, hwx⟩
          rw [hwx]
          clear hwx wx
          go_wp2_with fail
          clear c0 c1 c2 c3 c4 c5
          go_loopw [3] (fun r wr => ∃ k, 1 ≤ k ∧ k ≤ m ∧ r = .int .i64 (n / 86400 - A - before y k) ∧ Hid (Dx y k 0 0 0 0 w wr)) (fun _ wr => (m - intOf ((wr.cell? ⟨w.heap.size + 1, 1, none⟩).getD undef)).toNat)
          case atStart => exact ⟨1, by omega, by omega, congrArg (Value.int .i64) (by rw [B1.out]; omega), hD⟩
          case round =>
            obtain ⟨k, k1, k2, rfl, hD⟩ := hrel
            have c0 : wr.cell? ⟨w.heap.size + 1, 0, none⟩ = some (.int .i64 y) := (cell_of_row wr _ 0 _ _ _ hD.out.2.1).trans rfl
            have c1 : wr.cell? ⟨w.heap.size + 1, 1, none⟩ = some (.int .i64 k) := (cell_of_row wr _ 1 _ _ _ hD.out.2.1).trans rfl
            have c2 : wr.cell? ⟨w.heap.size + 1, 2, none⟩ = some (.int .i64 0) := (cell_of_row wr _ 2 _ _ _ hD.out.2.1).trans rfl
            have c3 : wr.cell? ⟨w.heap.size + 1, 3, none⟩ = some (.int .i64 0) := (cell_of_row wr _ 3 _ _ _ hD.out.2.1).trans rfl
            have c4 : wr.cell? ⟨w.heap.size + 1, 4, none⟩ = some (.int .i64 0) := (cell_of_row wr _ 4 _ _ _ hD.out.2.1).trans rfl
            have c5 : wr.cell? ⟨w.heap.size + 1, 5, none⟩ = some (.int .i64 0) := (cell_of_row wr _ 5 _ _ _ hD.out.2.1).trans rfl
            have CM := Lib.hid (fun w => mdays_t y k w)
            obtain ⟨mb1, mb2⟩ := mdays_bounds y k
            obtain ⟨bb1, bb2⟩ := BB.out k
            by_cases hlt : k < m
            · have hs := Lib.hid (before_succ y k k1 (by omega))
              have hl := before_le y k m k1 hlt m2
              have hqq2 := HQ.out
              have hge : mdays y k ≤ n / 86400 - A - before y k := by omega
              clear hqq2 hl
              generalize before y k = bk at *
              generalize mdays y k = mk at *
              go_wp2_with fail
              refine (CM.out _).mono ?_
              rintro e wx ⟨rfl, hwx⟩
              rw [hwx]
              clear hwx wx
              go_wp2_with fail
              refine (CM.out _).mono ?_
              rintro e wx ⟨rfl, hwx⟩
              rw [hwx]
              clear hwx wx
              go_wp2_with (refine store_int rfl (.tmp 56) (.tmp 55) rfl (w.heap.size + 1) 1 (k + 1) rfl rfl (six y k 0 0 0 0) 120 hD.out.2.1 (by simp) ?_; intro wn hp; have hN := Lib.hid (hD.out.puts (a' := y) (b' := k + 1) (c' := 0) (d' := 0) (e' := 0) (f' := 0) hp rfl); clear hp)
              simp only [Act.put]
              go_roundw
              case rel => exact ⟨k + 1, by omega, by omega, congrArg (Value.int .i64) (by rw [hs.out]; omega), hN⟩
              case measure => simp only [hD.out.month, hN.out.month]; omega
            · have hk : k = m := by omega
              subst hk
              have hqq2 := HQ.out
              have hlt2 : n / 86400 - A - before y k < mdays y k := by omega
              have hday : n / 86400 - A - before y k = d - 1 := by omega
              have HDAY := Lib.hid hday
              clear hqq2 hday
              generalize before y k = bk at *
              generalize mdays y k = mk at *
              go_wp2_with fail
              refine (CM.out _).mono ?_
              rintro e wx ⟨rfl, hwx⟩
              rw [hwx]
              clear hwx wx
              clear c0 c1 c2 c3 c4 c5
              go_wp2_with (first | (refine store_int rfl (.tmp 59) (.tmp 58) rfl (w.heap.size + 1) 2 (n / 86400 - A - bk + 1) rfl rfl (six y k 0 0 0 0) 120 hD.out.2.1 (by simp) ?_; intro wn1 hp; have hN1 := Lib.hid (hD.out.puts (a' := y) (b' := k) (c' := n / 86400 - A - bk + 1) (d' := 0) (e' := 0) (f' := 0) hp rfl); clear hp) | (refine store_int rfl (.tmp 67) (.tmp 61) rfl (w.heap.size + 1) 3 (n % 86400 / 3600) rfl rfl (six y k (n / 86400 - A - bk + 1) 0 0 0) 120 hN1.out.2.1 (by simp) ?_; intro wn2 hp; have hN2 := Lib.hid (hN1.out.puts (a' := y) (b' := k) (c' := n / 86400 - A - bk + 1) (d' := n % 86400 / 3600) (e' := 0) (f' := 0) hp rfl); clear hp) | (refine store_int rfl (.tmp 68) (.tmp 64) rfl (w.heap.size + 1) 4 (n % 3600 / 60) rfl rfl (six y k (n / 86400 - A - bk + 1) (n % 86400 / 3600) 0 0) 120 hN2.out.2.1 (by simp) ?_; intro wn3 hp; have hN3 := Lib.hid (hN2.out.puts (a' := y) (b' := k) (c' := n / 86400 - A - bk + 1) (d' := n % 86400 / 3600) (e' := n % 3600 / 60) (f' := 0) hp rfl); clear hp) | (refine store_int rfl (.tmp 69) (.tmp 66) rfl (w.heap.size + 1) 5 (n % 60) rfl rfl (six y k (n / 86400 - A - bk + 1) (n % 86400 / 3600) (n % 3600 / 60) 0) 120 hN3.out.2.1 (by simp) ?_; intro wn4 hp; have hN4 := Lib.hid (hN3.out.puts (a' := y) (b' := k) (c' := n / 86400 - A - bk + 1) (d' := n % 86400 / 3600) (e' := n % 3600 / 60) (f' := n % 60) hp rfl); clear hp; have c0 : wn4.cell? ⟨w.heap.size + 1, 0, none⟩ = some (.int .i64 y) := (cell_of_row wn4 _ 0 _ _ _ hN4.out.2.1).trans rfl; have c1 : wn4.cell? ⟨w.heap.size + 1, 1, none⟩ = some (.int .i64 k) := (cell_of_row wn4 _ 1 _ _ _ hN4.out.2.1).trans rfl; have c2 : wn4.cell? ⟨w.heap.size + 1, 2, none⟩ = some (.int .i64 (n / 86400 - A - bk + 1)) := (cell_of_row wn4 _ 2 _ _ _ hN4.out.2.1).trans rfl; have c3 : wn4.cell? ⟨w.heap.size + 1, 3, none⟩ = some (.int .i64 (n % 86400 / 3600)) := (cell_of_row wn4 _ 3 _ _ _ hN4.out.2.1).trans rfl; have c4 : wn4.cell? ⟨w.heap.size + 1, 4, none⟩ = some (.int .i64 (n % 3600 / 60)) := (cell_of_row wn4 _ 4 _ _ _ hN4.out.2.1).trans rfl; have c5 : wn4.cell? ⟨w.heap.size + 1, 5, none⟩ = some (.int .i64 (n % 60)) := (cell_of_row wn4 _ 5 _ _ _ hN4.out.2.1).trans rfl) | (refine store120 rfl (.tmp 2) (.tmp 70) rfl w.heap.size y k (n / 86400 - A - bk + 1) (n % 86400 / 3600) (n % 3600 / 60) (n % 60) rfl rfl _ _ _ _ _ _ hN4.out.1 ?_; intro wz hp; have HP := Lib.hid hp; clear hp))
              exact bodyPost_ret (ret120 rfl rfl HP.out.at') rfl ⟨by rw [show n / 86400 - A - bk + 1 = d by have := HDAY.out; omega, E1.out, E2.out, E3.out], HP.out.below hN4.out.2.2 (Nat.le_refl _)⟩
end YtabojeleomfgnaaGreatDoor
end Go.Proofs
namespace Go.Proofs
open Go.RowKit
namespace YtabojeleomfgnaaGreatDoor
set_option maxRecDepth 100000
set_option maxHeartbeats 1000000 in
theorem parts_day (n y m d : Int) (h0 : 0 ≤ n) (h1 : n ≤ 253402300799) (hd : IsDay (n / 86400) y m d) (w : World) :
    Calls Tryz.prog 133 #[.int .i64 n] w fun e w' => e = .returned (.agg (six (secOf n) (minOf n) (hourOf n) d m y)) ∧ Below w.heap.size w w' := by
  have hy9 := day_year hd (by omega)
  obtain ⟨y1, m1, m2, d1, d2, hq⟩ := hd
  have hin := day_in_year y m d m1 m2 d2
  have hbm := before_bounds y m
  have q0 : 0 ≤ n / 86400 := by omega
  have q1 : n / 86400 ≤ 2932896 := by omega
  have lo1 : ahead y ≤ n / 86400 := by omega
  have hdy : n / 86400 - ahead y < ydays y := by omega
  have HQ := Lib.hid hq
  have E1 := Lib.hid (show n / 3600 % 24 = hourOf n from rfl)
  have E2 := Lib.hid (show n / 60 % 60 = minOf n from rfl)
  have E3 := Lib.hid (show n % 60 = secOf n from rfl)
  clear hq hin
  go_enter Tryz.func133, Tryz.ntmps133
  go_wp2
  go_loop [3, 4] (fun r j => ∃ x, 1970 ≤ x ∧ x ≤ y ∧ j = .int .i64 x ∧ r = .int .i64 (n / 86400 - ahead x)) (fun _ j => (y - intOf j).toNat)
  case atStart => exact ⟨1970, by omega, y1, rfl, congrArg (Value.int .i64) (by rw [ahead0]; omega)⟩
  case round =>
    obtain ⟨x, x1, x2, rfl, rfl⟩ := hrel
    have CY := Lib.hid (fun w => ydays_t x w)
    obtain ⟨yb1, yb2⟩ := ydays_pos x
    have al := ahead_low x x1
    by_cases hlt : x < y
    · have hs := Lib.hid (ahead_succ x x1)
      have hm := ahead_mono (x + 1) y (by omega)
      have hss := ahead_succ x x1
      have hge : ydays x ≤ n / 86400 - ahead x := by omega
      clear hm hss lo1 hdy
      generalize ahead x = A at *
      generalize ydays x = yk at *
      go_wp2_with fail
      refine (CY.out _).mono ?_
      rintro e wx ⟨rfl, hwx⟩
      rw [hwx]
      clear hwx wx
      go_wp2_with fail
      refine (CY.out _).mono ?_
      rintro e wx ⟨rfl, hwx⟩
      rw [hwx]
      clear hwx wx
      go_wp2
      exact ⟨⟨x + 1, by omega, by omega, by go_num, congrArg (Value.int .i64) (by rw [hs.out]; omega)⟩, by simp [intOf]; omega⟩
    · have hx : x = y := by omega
      have B1 := Lib.hid (before1 y)
      have BB := Lib.hid (before_bounds y)
      rw [hx] at CY al ⊢
      clear hx x1 x2 hlt
      generalize ahead y = A at *
      generalize ydays y = yk at *
      go_wp2_with fail
      refine (CY.out _).mono ?_
      rintro e wx ⟨rfl, hwx⟩
      rw [hwx]
      clear hwx wx
      go_wp2_with fail
      go_loop [3, 5] (fun r j => ∃ k, 1 ≤ k ∧ k ≤ m ∧ j = .int .i64 k ∧ r = .int .i64 (n / 86400 - A - before y k)) (fun _ j => (m - intOf j).toNat)
      case atStart => exact ⟨1, by omega, by omega, rfl, congrArg (Value.int .i64) (by rw [B1.out]; omega)⟩
      case round =>
        obtain ⟨k, k1, k2, rfl, rfl⟩ := hrel
        have CM := Lib.hid (fun w => rmdays_t y k w)
        obtain ⟨mb1, mb2⟩ := mdays_bounds y k
        obtain ⟨bb1, bb2⟩ := BB.out k
        by_cases hlt : k < m
        · have hs := Lib.hid (before_succ y k k1 (by omega))
          have hl := before_le y k m k1 hlt m2
          have hqq2 := HQ.out
          have hge : mdays y k ≤ n / 86400 - A - before y k := by omega
          clear hqq2 hl
          generalize before y k = bk at *
          generalize mdays y k = mk at *
          go_wp2_with fail
          refine (CM.out _).mono ?_
          rintro e wx ⟨rfl, hwx⟩
          rw [hwx]
          clear hwx wx
          go_wp2_with fail
          refine (CM.out _).mono ?_
          rintro e wx ⟨rfl, hwx⟩
          rw [hwx]
          clear hwx wx
          go_wp2
          exact ⟨⟨k + 1, by omega, by omega, by go_num, congrArg (Value.int .i64) (by rw [hs.out]; omega)⟩, by simp [intOf]; omega⟩
        · have hk : k = m := by omega
          subst hk
          have hqq2 := HQ.out
          have hlt2 : n / 86400 - A - before y k < mdays y k := by omega
          have hday : n / 86400 - A - before y k = d - 1 := by omega
          have HDAY := Lib.hid hday
          clear hqq2 hday
          generalize before y k = bk at *
          generalize mdays y k = mk at *
          go_wp2_with fail
          refine (CM.out _).mono ?_
          rintro e wx ⟨rfl, hwx⟩
          rw [hwx]
          clear hwx wx
          go_wp2_with (refine store123 rfl (.tmp 2) (.tmp 42) rfl w.heap.size (n % 60) (n / 60 % 60) (n / 3600 % 24) (n / 86400 - A - bk + 1) k y rfl rfl 0 0 0 0 0 0 (new_at _ _ _ rfl) ?_; intro wz hp; have HP := Lib.hid hp; clear hp)
          exact bodyPost_ret (ret123 rfl rfl HP.out.at') rfl ⟨by rw [show n / 86400 - A - bk + 1 = d by have := HDAY.out; omega, E1.out, E2.out, E3.out], HP.out.below (by go_grown) (Nat.le_refl _)⟩
end YtabojeleomfgnaaGreatDoor
end Go.Proofs
namespace Go.Proofs
open Go.RowKit
namespace YtabojeleomfgnaaGreatDoor
set_option maxRecDepth 100000
/-- year, month, day, hour, minute, second of a moment -/
noncomputable def yOf (n : Int) : Int := (dayOf (n / 86400)).1
noncomputable def mOf (n : Int) : Int := (dayOf (n / 86400)).2.1
noncomputable def dOf (n : Int) : Int := (dayOf (n / 86400)).2.2
theorem day_is (n : Int) (h0 : 0 ≤ n) (h1 : n ≤ 253402300799) : IsDay (n / 86400) (yOf n) (mOf n) (dOf n) := dayOf_is _ (by omega) (by omega)
theorem dateOf_t (n : Int) (h0 : 0 ≤ n) (h1 : n ≤ 253402300799) (w : World) : Calls Tryz.prog 131 #[.int .i64 n] w fun e w' => e = .returned (.agg (six (yOf n) (mOf n) (dOf n) (hourOf n) (minOf n) (secOf n))) ∧ Below w.heap.size w w' := dateOf_day n _ _ _ h0 h1 (day_is n h0 h1) w
theorem parts_t (n : Int) (h0 : 0 ≤ n) (h1 : n ≤ 253402300799) (w : World) : Calls Tryz.prog 133 #[.int .i64 n] w fun e w' => e = .returned (.agg (six (secOf n) (minOf n) (hourOf n) (dOf n) (mOf n) (yOf n))) ∧ Below w.heap.size w w' := parts_day n _ _ _ h0 h1 (day_is n h0 h1) w
theorem Right.moment {x : V3} (h : Right x) (h4 : x.1 = 4) : 0 ≤ x.2.1 ∧ x.2.1 ≤ 253402300799 ∧ x.2.2 = ByteArray.empty := by
  obtain ⟨k, n, s⟩ := x
  dsimp only at h4
  subst h4
  unfold Right rightB formedB inRangeB inB at h
  have := h
  simp [ByteArray.toList_eq] at this
  refine ⟨show 0 ≤ n by omega, show n ≤ 253402300799 by omega, ?_⟩
  obtain ⟨⟨l⟩⟩ := s
  simp at this
  obtain ⟨h1, _⟩ := this
  subst h1
  rfl
noncomputable def unitT (X : V3) (u : Int) : V3 := if (X.1 != 4) = true then nullT else if u = 1 then numT 2 (secOf X.2.1) else if u = 2 then numT 2 (minOf X.2.1) else if u = 3 then numT 2 (hourOf X.2.1) else if u = 4 then numT 2 (dOf X.2.1) else if u = 5 then numT 2 (mOf X.2.1) else if u = 6 then numT 2 (yOf X.2.1) else nullT
set_option maxHeartbeats 2000000 in
theorem unit_t (x : V3) (u : Int) (hx : Sz x) (w : World) : Calls Tryz.prog 59 #[toV x, .int .i64 u] w fun e w' => e = .returned (toV (unitT (clT x) u)) ∧ Below w.heap.size w w' := by
  have CX := Lib.hid (fun w => clean_t x hx w)
  have RX := Lib.hid (clT_right x)
  clear hx
  have HE := Lib.hid (show unitT (clT x) u = unitT (clT x) u from rfl)
  generalize hR : unitT (clT x) u = R at HE ⊢
  clear HE
  generalize clT x = X at *
  obtain ⟨ka, na, sa⟩ := x
  obtain ⟨K, n, s⟩ := X
  change Calls Tryz.prog 59 #[val ka na sa, .int .i64 u] w _
  change Hid (∀ w, Calls Tryz.prog 94 #[val ka na sa] w fun e w' => e = .returned (toV (K, n, s)) ∧ Below w.heap.size w w') at CX
  cases hk : (K != 4) with
  | true =>
    have HE : Hid (R = nullT) := Lib.hid (by rw [← hR]; unfold unitT; rw [hk]; rfl)
    clear hR RX
    go_enter Tryz.func59, Tryz.ntmps59
    go_wp2_with fail
    refine (CX.out _).mono ?_
    rintro e w1 ⟨rfl, hb1⟩
    have B1 : Hid (w1.heap[w.heap.size]? = some (.cells (cells (ka, na, sa)) 23 (0, 0))) := Lib.hid ((hb1.block _ (by simp only [World.size_alloc]; omega)).trans ((heap_alloc_old _ _ (by simp)).trans (heap_alloc_new w _)))
    have R1 : Hid (w1.heap[w.heap.size + 1]? = some (.cells (cells nullT) 23 (0, 0))) := Lib.hid ((hb1.block _ (by simp)).trans (new_at _ _ _ (by simp)))
    have HL1 := Lib.hid (below_call (w := w) (by go_grown) hb1)
    clear hb1
    go_wp2_with (first | (refine store23 rfl (.tmp 2) (.tmp 7) rfl w.heap.size (K, n, s) rfl rfl _ B1.out ?_; intro w2 hp; have HP := Lib.hid hp; clear hp; have a0 : w2.cell? ⟨w.heap.size, 0, none⟩ = some (.int .i64 K) := (cell_of_row w2 _ 0 _ _ _ HP.out.at').trans rfl; have a1 : w2.cell? ⟨w.heap.size, 1, none⟩ = some (.int .i64 n) := (cell_of_row w2 _ 1 _ _ _ HP.out.at').trans rfl; have a2 : w2.cell? ⟨w.heap.size, 2, none⟩ = some (.string s) := (cell_of_row w2 _ 2 _ _ _ HP.out.at').trans rfl; have R2 : Hid (w2.heap[w.heap.size + 1]? = some (.cells (cells nullT) 23 (0, 0))) := Lib.hid ((HP.out.keeps.block _ (lt_of_block R1.out) (by omega)).trans R1.out); have HL2 := Lib.hid (HP.out.low HL1.out (Nat.le_refl _)); have X2 := Lib.hid HP.out.at') | (refine store23 rfl (.tmp 4) (.tmp 11) rfl (w.heap.size + 1) nullT rfl rfl _ R2.out ?_; intro wy hp; have HQ := Lib.hid hp; clear hp))
    exact bodyPost_ret (ret23 rfl rfl HQ.out.at') rfl ⟨by rw [HE.out], HQ.out.low HL2.out (by omega)⟩
  | false =>
    have hk4 : K = 4 := by simpa using hk
    subst hk4
    clear hk
    obtain ⟨n0, n1, hs0⟩ := RX.out.moment rfl
    clear hs0
    have CD := Lib.hid (fun w => dateOf_t n n0 n1 w)
    have hU : R = if u = 1 then numT 2 (secOf n) else if u = 2 then numT 2 (minOf n) else if u = 3 then numT 2 (hourOf n) else if u = 4 then numT 2 (dOf n) else if u = 5 then numT 2 (mOf n) else if u = 6 then numT 2 (yOf n) else nullT := by rw [← hR]; rfl
    clear hR RX n0 n1
    generalize yOf n = Y at *
    generalize mOf n = M at *
    generalize dOf n = D at *
    generalize hourOf n = H at *
    generalize minOf n = I at *
    generalize secOf n = SS at *
    rcases (by omega : u = 1 ∨ u = 2 ∨ u = 3 ∨ u = 4 ∨ u = 5 ∨ u = 6 ∨ (¬ u = 1 ∧ ¬ u = 2 ∧ ¬ u = 3 ∧ ¬ u = 4 ∧ ¬ u = 5 ∧ ¬ u = 6)) with rfl | rfl | rfl | rfl | rfl | rfl | ⟨u1, u2, u3, u4, u5, u6⟩
    · have HE : Hid (R = numT 2 SS) := Lib.hid (by rw [hU]; simp)
      clear hU
      go_enter Tryz.func59, Tryz.ntmps59
      go_wp2_with fail
      refine (CX.out _).mono ?_
      rintro e w1 ⟨rfl, hb1⟩
      have B1 : Hid (w1.heap[w.heap.size]? = some (.cells (cells (ka, na, sa)) 23 (0, 0))) := Lib.hid ((hb1.block _ (by simp only [World.size_alloc]; omega)).trans ((heap_alloc_old _ _ (by simp)).trans (heap_alloc_new w _)))
      have R1 : Hid (w1.heap[w.heap.size + 1]? = some (.cells (cells nullT) 23 (0, 0))) := Lib.hid ((hb1.block _ (by simp)).trans (new_at _ _ _ (by simp)))
      have HL1 := Lib.hid (below_call (w := w) (by go_grown) hb1)
      clear hb1
      go_wp2_with (refine store23 rfl (.tmp 2) (.tmp 7) rfl w.heap.size (4, n, s) rfl rfl _ B1.out ?_; intro w2 hp; have HP := Lib.hid hp; clear hp; have a0 : w2.cell? ⟨w.heap.size, 0, none⟩ = some (.int .i64 4) := (cell_of_row w2 _ 0 _ _ _ HP.out.at').trans rfl; have a1 : w2.cell? ⟨w.heap.size, 1, none⟩ = some (.int .i64 n) := (cell_of_row w2 _ 1 _ _ _ HP.out.at').trans rfl; have a2 : w2.cell? ⟨w.heap.size, 2, none⟩ = some (.string s) := (cell_of_row w2 _ 2 _ _ _ HP.out.at').trans rfl; have R2 : Hid (w2.heap[w.heap.size + 1]? = some (.cells (cells nullT) 23 (0, 0))) := Lib.hid ((HP.out.keeps.block _ (lt_of_block R1.out) (by omega)).trans R1.out); have HL2 := Lib.hid (HP.out.low HL1.out (Nat.le_refl _)); have X2 := Lib.hid HP.out.at')
      go_wp2_with fail
      refine (CD.out _).mono ?_
      rintro e w3 ⟨rfl, hb3⟩
      have R3 : Hid (w3.heap[w.heap.size + 1]? = some (.cells (cells nullT) 23 (0, 0))) := Lib.hid ((hb3.block _ (lt_of_block R2.out)).trans R2.out)
      have X3 := Lib.hid ((hb3.block _ (lt_of_block X2.out)).trans X2.out)
      have HL3 := Lib.hid (below_call HL2.out hb3)
      clear hb3 a0 a1 a2
      go_wp2_with (refine store120 rfl (.tmp 5) (.tmp 14) rfl w3.heap.size Y M D H I SS rfl rfl 0 0 0 0 0 0 (new_at _ _ _ rfl) ?_; intro w4 hp; have HD4 := Lib.hid hp; clear hp; have c0 : w4.cell? ⟨w3.heap.size, 0, none⟩ = some (.int .i64 Y) := (cell_of_row w4 _ 0 _ _ _ HD4.out.at').trans rfl; have c1 : w4.cell? ⟨w3.heap.size, 1, none⟩ = some (.int .i64 M) := (cell_of_row w4 _ 1 _ _ _ HD4.out.at').trans rfl; have c2 : w4.cell? ⟨w3.heap.size, 2, none⟩ = some (.int .i64 D) := (cell_of_row w4 _ 2 _ _ _ HD4.out.at').trans rfl; have c3 : w4.cell? ⟨w3.heap.size, 3, none⟩ = some (.int .i64 H) := (cell_of_row w4 _ 3 _ _ _ HD4.out.at').trans rfl; have c4 : w4.cell? ⟨w3.heap.size, 4, none⟩ = some (.int .i64 I) := (cell_of_row w4 _ 4 _ _ _ HD4.out.at').trans rfl; have c5 : w4.cell? ⟨w3.heap.size, 5, none⟩ = some (.int .i64 SS) := (cell_of_row w4 _ 5 _ _ _ HD4.out.at').trans rfl; have R4 : Hid (w4.heap[w.heap.size + 1]? = some (.cells (cells nullT) 23 (0, 0))) := Lib.hid ((HD4.out.keeps.block _ (by simp only [World.size_alloc]; have := lt_of_block R3.out; omega) (by have := lt_of_block R3.out; omega)).trans ((heap_alloc_old _ _ (lt_of_block R3.out)).trans R3.out)); have X4 : Hid (w4.heap[w.heap.size]? = some (.cells (cells (4, n, s)) 23 (0, 0))) := Lib.hid ((HD4.out.keeps.block _ (by simp only [World.size_alloc]; have := lt_of_block X3.out; omega) (by have := lt_of_block X3.out; omega)).trans ((heap_alloc_old _ _ (lt_of_block X3.out)).trans X3.out)); have HL4 := Lib.hid (HD4.out.below (HL3.out.alloc HL3.out.size _) HL3.out.size))
      go_wp2_with fail
      refine (number_t _ _ _).mono ?_
      rintro e w5 ⟨rfl, hb5⟩
      have R5 : Hid (w5.heap[w.heap.size + 1]? = some (.cells (cells nullT) 23 (0, 0))) := Lib.hid ((hb5.block _ (lt_of_block R4.out)).trans R4.out)
      have X5 := Lib.hid ((hb5.block _ (lt_of_block X4.out)).trans X4.out)
      have HL5 := Lib.hid (below_call HL4.out hb5)
      clear hb5 c0 c1 c2 c3 c4 c5
      go_wp2_with (refine store23 rfl (.tmp 4) (.tmp 20) rfl (w.heap.size + 1) (numT 2 SS) rfl rfl _ R5.out ?_; intro wy hp; have HQ := Lib.hid hp; clear hp)
      exact bodyPost_ret (ret23 rfl rfl HQ.out.at') rfl ⟨by rw [HE.out], HQ.out.low HL5.out (by omega)⟩
    · have HE : Hid (R = numT 2 I) := Lib.hid (by rw [hU]; simp)
      clear hU
      go_enter Tryz.func59, Tryz.ntmps59
      go_wp2_with fail
      refine (CX.out _).mono ?_
      rintro e w1 ⟨rfl, hb1⟩
      have B1 : Hid (w1.heap[w.heap.size]? = some (.cells (cells (ka, na, sa)) 23 (0, 0))) := Lib.hid ((hb1.block _ (by simp only [World.size_alloc]; omega)).trans ((heap_alloc_old _ _ (by simp)).trans (heap_alloc_new w _)))
      have R1 : Hid (w1.heap[w.heap.size + 1]? = some (.cells (cells nullT) 23 (0, 0))) := Lib.hid ((hb1.block _ (by simp)).trans (new_at _ _ _ (by simp)))
      have HL1 := Lib.hid (below_call (w := w) (by go_grown) hb1)
      clear hb1
      go_wp2_with (refine store23 rfl (.tmp 2) (.tmp 7) rfl w.heap.size (4, n, s) rfl rfl _ B1.out ?_; intro w2 hp; have HP := Lib.hid hp; clear hp; have a0 : w2.cell? ⟨w.heap.size, 0, none⟩ = some (.int .i64 4) := (cell_of_row w2 _ 0 _ _ _ HP.out.at').trans rfl; have a1 : w2.cell? ⟨w.heap.size, 1, none⟩ = some (.int .i64 n) := (cell_of_row w2 _ 1 _ _ _ HP.out.at').trans rfl; have a2 : w2.cell? ⟨w.heap.size, 2, none⟩ = some (.string s) := (cell_of_row w2 _ 2 _ _ _ HP.out.at').trans rfl; have R2 : Hid (w2.heap[w.heap.size + 1]? = some (.cells (cells nullT) 23 (0, 0))) := Lib.hid ((HP.out.keeps.block _ (lt_of_block R1.out) (by omega)).trans R1.out); have HL2 := Lib.hid (HP.out.low HL1.out (Nat.le_refl _)); have X2 := Lib.hid HP.out.at')
      go_wp2_with fail
      refine (CD.out _).mono ?_
      rintro e w3 ⟨rfl, hb3⟩
      have R3 : Hid (w3.heap[w.heap.size + 1]? = some (.cells (cells nullT) 23 (0, 0))) := Lib.hid ((hb3.block _ (lt_of_block R2.out)).trans R2.out)
      have X3 := Lib.hid ((hb3.block _ (lt_of_block X2.out)).trans X2.out)
      have HL3 := Lib.hid (below_call HL2.out hb3)
      clear hb3 a0 a1 a2
      go_wp2_with (refine store120 rfl (.tmp 5) (.tmp 14) rfl w3.heap.size Y M D H I SS rfl rfl 0 0 0 0 0 0 (new_at _ _ _ rfl) ?_; intro w4 hp; have HD4 := Lib.hid hp; clear hp; have c0 : w4.cell? ⟨w3.heap.size, 0, none⟩ = some (.int .i64 Y) := (cell_of_row w4 _ 0 _ _ _ HD4.out.at').trans rfl; have c1 : w4.cell? ⟨w3.heap.size, 1, none⟩ = some (.int .i64 M) := (cell_of_row w4 _ 1 _ _ _ HD4.out.at').trans rfl; have c2 : w4.cell? ⟨w3.heap.size, 2, none⟩ = some (.int .i64 D) := (cell_of_row w4 _ 2 _ _ _ HD4.out.at').trans rfl; have c3 : w4.cell? ⟨w3.heap.size, 3, none⟩ = some (.int .i64 H) := (cell_of_row w4 _ 3 _ _ _ HD4.out.at').trans rfl; have c4 : w4.cell? ⟨w3.heap.size, 4, none⟩ = some (.int .i64 I) := (cell_of_row w4 _ 4 _ _ _ HD4.out.at').trans rfl; have c5 : w4.cell? ⟨w3.heap.size, 5, none⟩ = some (.int .i64 SS) := (cell_of_row w4 _ 5 _ _ _ HD4.out.at').trans rfl; have R4 : Hid (w4.heap[w.heap.size + 1]? = some (.cells (cells nullT) 23 (0, 0))) := Lib.hid ((HD4.out.keeps.block _ (by simp only [World.size_alloc]; have := lt_of_block R3.out; omega) (by have := lt_of_block R3.out; omega)).trans ((heap_alloc_old _ _ (lt_of_block R3.out)).trans R3.out)); have X4 : Hid (w4.heap[w.heap.size]? = some (.cells (cells (4, n, s)) 23 (0, 0))) := Lib.hid ((HD4.out.keeps.block _ (by simp only [World.size_alloc]; have := lt_of_block X3.out; omega) (by have := lt_of_block X3.out; omega)).trans ((heap_alloc_old _ _ (lt_of_block X3.out)).trans X3.out)); have HL4 := Lib.hid (HD4.out.below (HL3.out.alloc HL3.out.size _) HL3.out.size))
      go_wp2_with fail
      refine (number_t _ _ _).mono ?_
      rintro e w5 ⟨rfl, hb5⟩
      have R5 : Hid (w5.heap[w.heap.size + 1]? = some (.cells (cells nullT) 23 (0, 0))) := Lib.hid ((hb5.block _ (lt_of_block R4.out)).trans R4.out)
      have X5 := Lib.hid ((hb5.block _ (lt_of_block X4.out)).trans X4.out)
      have HL5 := Lib.hid (below_call HL4.out hb5)
      clear hb5 c0 c1 c2 c3 c4 c5
      go_wp2_with (refine store23 rfl (.tmp 4) (.tmp 25) rfl (w.heap.size + 1) (numT 2 I) rfl rfl _ R5.out ?_; intro wy hp; have HQ := Lib.hid hp; clear hp)
      exact bodyPost_ret (ret23 rfl rfl HQ.out.at') rfl ⟨by rw [HE.out], HQ.out.low HL5.out (by omega)⟩
    · have HE : Hid (R = numT 2 H) := Lib.hid (by rw [hU]; simp)
      clear hU
      go_enter Tryz.func59, Tryz.ntmps59
      go_wp2_with fail
      refine (CX.out _).mono ?_
      rintro e w1 ⟨rfl, hb1⟩
      have B1 : Hid (w1.heap[w.heap.size]? = some (.cells (cells (ka, na, sa)) 23 (0, 0))) := Lib.hid ((hb1.block _ (by simp only [World.size_alloc]; omega)).trans ((heap_alloc_old _ _ (by simp)).trans (heap_alloc_new w _)))
      have R1 : Hid (w1.heap[w.heap.size + 1]? = some (.cells (cells nullT) 23 (0, 0))) := Lib.hid ((hb1.block _ (by simp)).trans (new_at _ _ _ (by simp)))
      have HL1 := Lib.hid (below_call (w := w) (by go_grown) hb1)
      clear hb1
      go_wp2_with (refine store23 rfl (.tmp 2) (.tmp 7) rfl w.heap.size (4, n, s) rfl rfl _ B1.out ?_; intro w2 hp; have HP := Lib.hid hp; clear hp; have a0 : w2.cell? ⟨w.heap.size, 0, none⟩ = some (.int .i64 4) := (cell_of_row w2 _ 0 _ _ _ HP.out.at').trans rfl; have a1 : w2.cell? ⟨w.heap.size, 1, none⟩ = some (.int .i64 n) := (cell_of_row w2 _ 1 _ _ _ HP.out.at').trans rfl; have a2 : w2.cell? ⟨w.heap.size, 2, none⟩ = some (.string s) := (cell_of_row w2 _ 2 _ _ _ HP.out.at').trans rfl; have R2 : Hid (w2.heap[w.heap.size + 1]? = some (.cells (cells nullT) 23 (0, 0))) := Lib.hid ((HP.out.keeps.block _ (lt_of_block R1.out) (by omega)).trans R1.out); have HL2 := Lib.hid (HP.out.low HL1.out (Nat.le_refl _)); have X2 := Lib.hid HP.out.at')
      go_wp2_with fail
      refine (CD.out _).mono ?_
      rintro e w3 ⟨rfl, hb3⟩
      have R3 : Hid (w3.heap[w.heap.size + 1]? = some (.cells (cells nullT) 23 (0, 0))) := Lib.hid ((hb3.block _ (lt_of_block R2.out)).trans R2.out)
      have X3 := Lib.hid ((hb3.block _ (lt_of_block X2.out)).trans X2.out)
      have HL3 := Lib.hid (below_call HL2.out hb3)
      clear hb3 a0 a1 a2
      go_wp2_with (refine store120 rfl (.tmp 5) (.tmp 14) rfl w3.heap.size Y M D H I SS rfl rfl 0 0 0 0 0 0 (new_at _ _ _ rfl) ?_; intro w4 hp; have HD4 := Lib.hid hp; clear hp; have c0 : w4.cell? ⟨w3.heap.size, 0, none⟩ = some (.int .i64 Y) := (cell_of_row w4 _ 0 _ _ _ HD4.out.at').trans rfl; have c1 : w4.cell? ⟨w3.heap.size, 1, none⟩ = some (.int .i64 M) := (cell_of_row w4 _ 1 _ _ _ HD4.out.at').trans rfl; have c2 : w4.cell? ⟨w3.heap.size, 2, none⟩ = some (.int .i64 D) := (cell_of_row w4 _ 2 _ _ _ HD4.out.at').trans rfl; have c3 : w4.cell? ⟨w3.heap.size, 3, none⟩ = some (.int .i64 H) := (cell_of_row w4 _ 3 _ _ _ HD4.out.at').trans rfl; have c4 : w4.cell? ⟨w3.heap.size, 4, none⟩ = some (.int .i64 I) := (cell_of_row w4 _ 4 _ _ _ HD4.out.at').trans rfl; have c5 : w4.cell? ⟨w3.heap.size, 5, none⟩ = some (.int .i64 SS) := (cell_of_row w4 _ 5 _ _ _ HD4.out.at').trans rfl; have R4 : Hid (w4.heap[w.heap.size + 1]? = some (.cells (cells nullT) 23 (0, 0))) := Lib.hid ((HD4.out.keeps.block _ (by simp only [World.size_alloc]; have := lt_of_block R3.out; omega) (by have := lt_of_block R3.out; omega)).trans ((heap_alloc_old _ _ (lt_of_block R3.out)).trans R3.out)); have X4 : Hid (w4.heap[w.heap.size]? = some (.cells (cells (4, n, s)) 23 (0, 0))) := Lib.hid ((HD4.out.keeps.block _ (by simp only [World.size_alloc]; have := lt_of_block X3.out; omega) (by have := lt_of_block X3.out; omega)).trans ((heap_alloc_old _ _ (lt_of_block X3.out)).trans X3.out)); have HL4 := Lib.hid (HD4.out.below (HL3.out.alloc HL3.out.size _) HL3.out.size))
      go_wp2_with fail
      refine (number_t _ _ _).mono ?_
      rintro e w5 ⟨rfl, hb5⟩
      have R5 : Hid (w5.heap[w.heap.size + 1]? = some (.cells (cells nullT) 23 (0, 0))) := Lib.hid ((hb5.block _ (lt_of_block R4.out)).trans R4.out)
      have X5 := Lib.hid ((hb5.block _ (lt_of_block X4.out)).trans X4.out)
      have HL5 := Lib.hid (below_call HL4.out hb5)
      clear hb5 c0 c1 c2 c3 c4 c5
      go_wp2_with (refine store23 rfl (.tmp 4) (.tmp 30) rfl (w.heap.size + 1) (numT 2 H) rfl rfl _ R5.out ?_; intro wy hp; have HQ := Lib.hid hp; clear hp)
      exact bodyPost_ret (ret23 rfl rfl HQ.out.at') rfl ⟨by rw [HE.out], HQ.out.low HL5.out (by omega)⟩
    · have HE : Hid (R = numT 2 D) := Lib.hid (by rw [hU]; simp)
      clear hU
      go_enter Tryz.func59, Tryz.ntmps59
      go_wp2_with fail
      refine (CX.out _).mono ?_
      rintro e w1 ⟨rfl, hb1⟩
      have B1 : Hid (w1.heap[w.heap.size]? = some (.cells (cells (ka, na, sa)) 23 (0, 0))) := Lib.hid ((hb1.block _ (by simp only [World.size_alloc]; omega)).trans ((heap_alloc_old _ _ (by simp)).trans (heap_alloc_new w _)))
      have R1 : Hid (w1.heap[w.heap.size + 1]? = some (.cells (cells nullT) 23 (0, 0))) := Lib.hid ((hb1.block _ (by simp)).trans (new_at _ _ _ (by simp)))
      have HL1 := Lib.hid (below_call (w := w) (by go_grown) hb1)
      clear hb1
      go_wp2_with (refine store23 rfl (.tmp 2) (.tmp 7) rfl w.heap.size (4, n, s) rfl rfl _ B1.out ?_; intro w2 hp; have HP := Lib.hid hp; clear hp; have a0 : w2.cell? ⟨w.heap.size, 0, none⟩ = some (.int .i64 4) := (cell_of_row w2 _ 0 _ _ _ HP.out.at').trans rfl; have a1 : w2.cell? ⟨w.heap.size, 1, none⟩ = some (.int .i64 n) := (cell_of_row w2 _ 1 _ _ _ HP.out.at').trans rfl; have a2 : w2.cell? ⟨w.heap.size, 2, none⟩ = some (.string s) := (cell_of_row w2 _ 2 _ _ _ HP.out.at').trans rfl; have R2 : Hid (w2.heap[w.heap.size + 1]? = some (.cells (cells nullT) 23 (0, 0))) := Lib.hid ((HP.out.keeps.block _ (lt_of_block R1.out) (by omega)).trans R1.out); have HL2 := Lib.hid (HP.out.low HL1.out (Nat.le_refl _)); have X2 := Lib.hid HP.out.at')
      go_wp2_with fail
      refine (CD.out _).mono ?_
      rintro e w3 ⟨rfl, hb3⟩
      have R3 : Hid (w3.heap[w.heap.size + 1]? = some (.cells (cells nullT) 23 (0, 0))) := Lib.hid ((hb3.block _ (lt_of_block R2.out)).trans R2.out)
      have X3 := Lib.hid ((hb3.block _ (lt_of_block X2.out)).trans X2.out)
      have HL3 := Lib.hid (below_call HL2.out hb3)
      clear hb3 a0 a1 a2
      go_wp2_with (refine store120 rfl (.tmp 5) (.tmp 14) rfl w3.heap.size Y M D H I SS rfl rfl 0 0 0 0 0 0 (new_at _ _ _ rfl) ?_; intro w4 hp; have HD4 := Lib.hid hp; clear hp; have c0 : w4.cell? ⟨w3.heap.size, 0, none⟩ = some (.int .i64 Y) := (cell_of_row w4 _ 0 _ _ _ HD4.out.at').trans rfl; have c1 : w4.cell? ⟨w3.heap.size, 1, none⟩ = some (.int .i64 M) := (cell_of_row w4 _ 1 _ _ _ HD4.out.at').trans rfl; have c2 : w4.cell? ⟨w3.heap.size, 2, none⟩ = some (.int .i64 D) := (cell_of_row w4 _ 2 _ _ _ HD4.out.at').trans rfl; have c3 : w4.cell? ⟨w3.heap.size, 3, none⟩ = some (.int .i64 H) := (cell_of_row w4 _ 3 _ _ _ HD4.out.at').trans rfl; have c4 : w4.cell? ⟨w3.heap.size, 4, none⟩ = some (.int .i64 I) := (cell_of_row w4 _ 4 _ _ _ HD4.out.at').trans rfl; have c5 : w4.cell? ⟨w3.heap.size, 5, none⟩ = some (.int .i64 SS) := (cell_of_row w4 _ 5 _ _ _ HD4.out.at').trans rfl; have R4 : Hid (w4.heap[w.heap.size + 1]? = some (.cells (cells nullT) 23 (0, 0))) := Lib.hid ((HD4.out.keeps.block _ (by simp only [World.size_alloc]; have := lt_of_block R3.out; omega) (by have := lt_of_block R3.out; omega)).trans ((heap_alloc_old _ _ (lt_of_block R3.out)).trans R3.out)); have X4 : Hid (w4.heap[w.heap.size]? = some (.cells (cells (4, n, s)) 23 (0, 0))) := Lib.hid ((HD4.out.keeps.block _ (by simp only [World.size_alloc]; have := lt_of_block X3.out; omega) (by have := lt_of_block X3.out; omega)).trans ((heap_alloc_old _ _ (lt_of_block X3.out)).trans X3.out)); have HL4 := Lib.hid (HD4.out.below (HL3.out.alloc HL3.out.size _) HL3.out.size))
      go_wp2_with fail
      refine (number_t _ _ _).mono ?_
      rintro e w5 ⟨rfl, hb5⟩
      have R5 : Hid (w5.heap[w.heap.size + 1]? = some (.cells (cells nullT) 23 (0, 0))) := Lib.hid ((hb5.block _ (lt_of_block R4.out)).trans R4.out)
      have X5 := Lib.hid ((hb5.block _ (lt_of_block X4.out)).trans X4.out)
      have HL5 := Lib.hid (below_call HL4.out hb5)
      clear hb5 c0 c1 c2 c3 c4 c5
      go_wp2_with (refine store23 rfl (.tmp 4) (.tmp 35) rfl (w.heap.size + 1) (numT 2 D) rfl rfl _ R5.out ?_; intro wy hp; have HQ := Lib.hid hp; clear hp)
      exact bodyPost_ret (ret23 rfl rfl HQ.out.at') rfl ⟨by rw [HE.out], HQ.out.low HL5.out (by omega)⟩
    · have HE : Hid (R = numT 2 M) := Lib.hid (by rw [hU]; simp)
      clear hU
      go_enter Tryz.func59, Tryz.ntmps59
      go_wp2_with fail
      refine (CX.out _).mono ?_
      rintro e w1 ⟨rfl, hb1⟩
      have B1 : Hid (w1.heap[w.heap.size]? = some (.cells (cells (ka, na, sa)) 23 (0, 0))) := Lib.hid ((hb1.block _ (by simp only [World.size_alloc]; omega)).trans ((heap_alloc_old _ _ (by simp)).trans (heap_alloc_new w _)))
      have R1 : Hid (w1.heap[w.heap.size + 1]? = some (.cells (cells nullT) 23 (0, 0))) := Lib.hid ((hb1.block _ (by simp)).trans (new_at _ _ _ (by simp)))
      have HL1 := Lib.hid (below_call (w := w) (by go_grown) hb1)
      clear hb1
      go_wp2_with (refine store23 rfl (.tmp 2) (.tmp 7) rfl w.heap.size (4, n, s) rfl rfl _ B1.out ?_; intro w2 hp; have HP := Lib.hid hp; clear hp; have a0 : w2.cell? ⟨w.heap.size, 0, none⟩ = some (.int .i64 4) := (cell_of_row w2 _ 0 _ _ _ HP.out.at').trans rfl; have a1 : w2.cell? ⟨w.heap.size, 1, none⟩ = some (.int .i64 n) := (cell_of_row w2 _ 1 _ _ _ HP.out.at').trans rfl; have a2 : w2.cell? ⟨w.heap.size, 2, none⟩ = some (.string s) := (cell_of_row w2 _ 2 _ _ _ HP.out.at').trans rfl; have R2 : Hid (w2.heap[w.heap.size + 1]? = some (.cells (cells nullT) 23 (0, 0))) := Lib.hid ((HP.out.keeps.block _ (lt_of_block R1.out) (by omega)).trans R1.out); have HL2 := Lib.hid (HP.out.low HL1.out (Nat.le_refl _)); have X2 := Lib.hid HP.out.at')
      go_wp2_with fail
      refine (CD.out _).mono ?_
      rintro e w3 ⟨rfl, hb3⟩
      have R3 : Hid (w3.heap[w.heap.size + 1]? = some (.cells (cells nullT) 23 (0, 0))) := Lib.hid ((hb3.block _ (lt_of_block R2.out)).trans R2.out)
      have X3 := Lib.hid ((hb3.block _ (lt_of_block X2.out)).trans X2.out)
      have HL3 := Lib.hid (below_call HL2.out hb3)
      clear hb3 a0 a1 a2
      go_wp2_with (refine store120 rfl (.tmp 5) (.tmp 14) rfl w3.heap.size Y M D H I SS rfl rfl 0 0 0 0 0 0 (new_at _ _ _ rfl) ?_; intro w4 hp; have HD4 := Lib.hid hp; clear hp; have c0 : w4.cell? ⟨w3.heap.size, 0, none⟩ = some (.int .i64 Y) := (cell_of_row w4 _ 0 _ _ _ HD4.out.at').trans rfl; have c1 : w4.cell? ⟨w3.heap.size, 1, none⟩ = some (.int .i64 M) := (cell_of_row w4 _ 1 _ _ _ HD4.out.at').trans rfl; have c2 : w4.cell? ⟨w3.heap.size, 2, none⟩ = some (.int .i64 D) := (cell_of_row w4 _ 2 _ _ _ HD4.out.at').trans rfl; have c3 : w4.cell? ⟨w3.heap.size, 3, none⟩ = some (.int .i64 H) := (cell_of_row w4 _ 3 _ _ _ HD4.out.at').trans rfl; have c4 : w4.cell? ⟨w3.heap.size, 4, none⟩ = some (.int .i64 I) := (cell_of_row w4 _ 4 _ _ _ HD4.out.at').trans rfl; have c5 : w4.cell? ⟨w3.heap.size, 5, none⟩ = some (.int .i64 SS) := (cell_of_row w4 _ 5 _ _ _ HD4.out.at').trans rfl; have R4 : Hid (w4.heap[w.heap.size + 1]? = some (.cells (cells nullT) 23 (0, 0))) := Lib.hid ((HD4.out.keeps.block _ (by simp only [World.size_alloc]; have := lt_of_block R3.out; omega) (by have := lt_of_block R3.out; omega)).trans ((heap_alloc_old _ _ (lt_of_block R3.out)).trans R3.out)); have X4 : Hid (w4.heap[w.heap.size]? = some (.cells (cells (4, n, s)) 23 (0, 0))) := Lib.hid ((HD4.out.keeps.block _ (by simp only [World.size_alloc]; have := lt_of_block X3.out; omega) (by have := lt_of_block X3.out; omega)).trans ((heap_alloc_old _ _ (lt_of_block X3.out)).trans X3.out)); have HL4 := Lib.hid (HD4.out.below (HL3.out.alloc HL3.out.size _) HL3.out.size))
      go_wp2_with fail
      refine (number_t _ _ _).mono ?_
      rintro e w5 ⟨rfl, hb5⟩
      have R5 : Hid (w5.heap[w.heap.size + 1]? = some (.cells (cells nullT) 23 (0, 0))) := Lib.hid ((hb5.block _ (lt_of_block R4.out)).trans R4.out)
      have X5 := Lib.hid ((hb5.block _ (lt_of_block X4.out)).trans X4.out)
      have HL5 := Lib.hid (below_call HL4.out hb5)
      clear hb5 c0 c1 c2 c3 c4 c5
      go_wp2_with (refine store23 rfl (.tmp 4) (.tmp 40) rfl (w.heap.size + 1) (numT 2 M) rfl rfl _ R5.out ?_; intro wy hp; have HQ := Lib.hid hp; clear hp)
      exact bodyPost_ret (ret23 rfl rfl HQ.out.at') rfl ⟨by rw [HE.out], HQ.out.low HL5.out (by omega)⟩
    · have HE : Hid (R = numT 2 Y) := Lib.hid (by rw [hU]; simp)
      clear hU
      go_enter Tryz.func59, Tryz.ntmps59
      go_wp2_with fail
      refine (CX.out _).mono ?_
      rintro e w1 ⟨rfl, hb1⟩
      have B1 : Hid (w1.heap[w.heap.size]? = some (.cells (cells (ka, na, sa)) 23 (0, 0))) := Lib.hid ((hb1.block _ (by simp only [World.size_alloc]; omega)).trans ((heap_alloc_old _ _ (by simp)).trans (heap_alloc_new w _)))
      have R1 : Hid (w1.heap[w.heap.size + 1]? = some (.cells (cells nullT) 23 (0, 0))) := Lib.hid ((hb1.block _ (by simp)).trans (new_at _ _ _ (by simp)))
      have HL1 := Lib.hid (below_call (w := w) (by go_grown) hb1)
      clear hb1
      go_wp2_with (refine store23 rfl (.tmp 2) (.tmp 7) rfl w.heap.size (4, n, s) rfl rfl _ B1.out ?_; intro w2 hp; have HP := Lib.hid hp; clear hp; have a0 : w2.cell? ⟨w.heap.size, 0, none⟩ = some (.int .i64 4) := (cell_of_row w2 _ 0 _ _ _ HP.out.at').trans rfl; have a1 : w2.cell? ⟨w.heap.size, 1, none⟩ = some (.int .i64 n) := (cell_of_row w2 _ 1 _ _ _ HP.out.at').trans rfl; have a2 : w2.cell? ⟨w.heap.size, 2, none⟩ = some (.string s) := (cell_of_row w2 _ 2 _ _ _ HP.out.at').trans rfl; have R2 : Hid (w2.heap[w.heap.size + 1]? = some (.cells (cells nullT) 23 (0, 0))) := Lib.hid ((HP.out.keeps.block _ (lt_of_block R1.out) (by omega)).trans R1.out); have HL2 := Lib.hid (HP.out.low HL1.out (Nat.le_refl _)); have X2 := Lib.hid HP.out.at')
      go_wp2_with fail
      refine (CD.out _).mono ?_
      rintro e w3 ⟨rfl, hb3⟩
      have R3 : Hid (w3.heap[w.heap.size + 1]? = some (.cells (cells nullT) 23 (0, 0))) := Lib.hid ((hb3.block _ (lt_of_block R2.out)).trans R2.out)
      have X3 := Lib.hid ((hb3.block _ (lt_of_block X2.out)).trans X2.out)
      have HL3 := Lib.hid (below_call HL2.out hb3)
      clear hb3 a0 a1 a2
      go_wp2_with (refine store120 rfl (.tmp 5) (.tmp 14) rfl w3.heap.size Y M D H I SS rfl rfl 0 0 0 0 0 0 (new_at _ _ _ rfl) ?_; intro w4 hp; have HD4 := Lib.hid hp; clear hp; have c0 : w4.cell? ⟨w3.heap.size, 0, none⟩ = some (.int .i64 Y) := (cell_of_row w4 _ 0 _ _ _ HD4.out.at').trans rfl; have c1 : w4.cell? ⟨w3.heap.size, 1, none⟩ = some (.int .i64 M) := (cell_of_row w4 _ 1 _ _ _ HD4.out.at').trans rfl; have c2 : w4.cell? ⟨w3.heap.size, 2, none⟩ = some (.int .i64 D) := (cell_of_row w4 _ 2 _ _ _ HD4.out.at').trans rfl; have c3 : w4.cell? ⟨w3.heap.size, 3, none⟩ = some (.int .i64 H) := (cell_of_row w4 _ 3 _ _ _ HD4.out.at').trans rfl; have c4 : w4.cell? ⟨w3.heap.size, 4, none⟩ = some (.int .i64 I) := (cell_of_row w4 _ 4 _ _ _ HD4.out.at').trans rfl; have c5 : w4.cell? ⟨w3.heap.size, 5, none⟩ = some (.int .i64 SS) := (cell_of_row w4 _ 5 _ _ _ HD4.out.at').trans rfl; have R4 : Hid (w4.heap[w.heap.size + 1]? = some (.cells (cells nullT) 23 (0, 0))) := Lib.hid ((HD4.out.keeps.block _ (by simp only [World.size_alloc]; have := lt_of_block R3.out; omega) (by have := lt_of_block R3.out; omega)).trans ((heap_alloc_old _ _ (lt_of_block R3.out)).trans R3.out)); have X4 : Hid (w4.heap[w.heap.size]? = some (.cells (cells (4, n, s)) 23 (0, 0))) := Lib.hid ((HD4.out.keeps.block _ (by simp only [World.size_alloc]; have := lt_of_block X3.out; omega) (by have := lt_of_block X3.out; omega)).trans ((heap_alloc_old _ _ (lt_of_block X3.out)).trans X3.out)); have HL4 := Lib.hid (HD4.out.below (HL3.out.alloc HL3.out.size _) HL3.out.size))
      go_wp2_with fail
      refine (number_t _ _ _).mono ?_
      rintro e w5 ⟨rfl, hb5⟩
      have R5 : Hid (w5.heap[w.heap.size + 1]? = some (.cells (cells nullT) 23 (0, 0))) := Lib.hid ((hb5.block _ (lt_of_block R4.out)).trans R4.out)
      have X5 := Lib.hid ((hb5.block _ (lt_of_block X4.out)).trans X4.out)
      have HL5 := Lib.hid (below_call HL4.out hb5)
      clear hb5 c0 c1 c2 c3 c4 c5
      go_wp2_with (refine store23 rfl (.tmp 4) (.tmp 45) rfl (w.heap.size + 1) (numT 2 Y) rfl rfl _ R5.out ?_; intro wy hp; have HQ := Lib.hid hp; clear hp)
      exact bodyPost_ret (ret23 rfl rfl HQ.out.at') rfl ⟨by rw [HE.out], HQ.out.low HL5.out (by omega)⟩
    · have HE : Hid (R = nullT) := Lib.hid (by rw [hU]; simp [u1, u2, u3, u4, u5, u6])
      clear hU
      have q1 : (u == 1) = false := by simpa using u1
      have q2 : (u == 2) = false := by simpa using u2
      have q3 : (u == 3) = false := by simpa using u3
      have q4 : (u == 4) = false := by simpa using u4
      have q5 : (u == 5) = false := by simpa using u5
      have q6 : (u == 6) = false := by simpa using u6
      go_enter Tryz.func59, Tryz.ntmps59
      go_wp2_with fail
      refine (CX.out _).mono ?_
      rintro e w1 ⟨rfl, hb1⟩
      have B1 : Hid (w1.heap[w.heap.size]? = some (.cells (cells (ka, na, sa)) 23 (0, 0))) := Lib.hid ((hb1.block _ (by simp only [World.size_alloc]; omega)).trans ((heap_alloc_old _ _ (by simp)).trans (heap_alloc_new w _)))
      have R1 : Hid (w1.heap[w.heap.size + 1]? = some (.cells (cells nullT) 23 (0, 0))) := Lib.hid ((hb1.block _ (by simp)).trans (new_at _ _ _ (by simp)))
      have HL1 := Lib.hid (below_call (w := w) (by go_grown) hb1)
      clear hb1
      go_wp2_with (refine store23 rfl (.tmp 2) (.tmp 7) rfl w.heap.size (4, n, s) rfl rfl _ B1.out ?_; intro w2 hp; have HP := Lib.hid hp; clear hp; have a0 : w2.cell? ⟨w.heap.size, 0, none⟩ = some (.int .i64 4) := (cell_of_row w2 _ 0 _ _ _ HP.out.at').trans rfl; have a1 : w2.cell? ⟨w.heap.size, 1, none⟩ = some (.int .i64 n) := (cell_of_row w2 _ 1 _ _ _ HP.out.at').trans rfl; have a2 : w2.cell? ⟨w.heap.size, 2, none⟩ = some (.string s) := (cell_of_row w2 _ 2 _ _ _ HP.out.at').trans rfl; have R2 : Hid (w2.heap[w.heap.size + 1]? = some (.cells (cells nullT) 23 (0, 0))) := Lib.hid ((HP.out.keeps.block _ (lt_of_block R1.out) (by omega)).trans R1.out); have HL2 := Lib.hid (HP.out.low HL1.out (Nat.le_refl _)); have X2 := Lib.hid HP.out.at')
      go_wp2_with fail
      refine (CD.out _).mono ?_
      rintro e w3 ⟨rfl, hb3⟩
      have R3 : Hid (w3.heap[w.heap.size + 1]? = some (.cells (cells nullT) 23 (0, 0))) := Lib.hid ((hb3.block _ (lt_of_block R2.out)).trans R2.out)
      have X3 := Lib.hid ((hb3.block _ (lt_of_block X2.out)).trans X2.out)
      have HL3 := Lib.hid (below_call HL2.out hb3)
      clear hb3 a0 a1 a2
      go_wp2_with (first | (refine store120 rfl (.tmp 5) (.tmp 14) rfl w3.heap.size Y M D H I SS rfl rfl 0 0 0 0 0 0 (new_at _ _ _ rfl) ?_; intro w4 hp; have HD4 := Lib.hid hp; clear hp; have c0 : w4.cell? ⟨w3.heap.size, 0, none⟩ = some (.int .i64 Y) := (cell_of_row w4 _ 0 _ _ _ HD4.out.at').trans rfl; have c1 : w4.cell? ⟨w3.heap.size, 1, none⟩ = some (.int .i64 M) := (cell_of_row w4 _ 1 _ _ _ HD4.out.at').trans rfl; have c2 : w4.cell? ⟨w3.heap.size, 2, none⟩ = some (.int .i64 D) := (cell_of_row w4 _ 2 _ _ _ HD4.out.at').trans rfl; have c3 : w4.cell? ⟨w3.heap.size, 3, none⟩ = some (.int .i64 H) := (cell_of_row w4 _ 3 _ _ _ HD4.out.at').trans rfl; have c4 : w4.cell? ⟨w3.heap.size, 4, none⟩ = some (.int .i64 I) := (cell_of_row w4 _ 4 _ _ _ HD4.out.at').trans rfl; have c5 : w4.cell? ⟨w3.heap.size, 5, none⟩ = some (.int .i64 SS) := (cell_of_row w4 _ 5 _ _ _ HD4.out.at').trans rfl; have R4 : Hid (w4.heap[w.heap.size + 1]? = some (.cells (cells nullT) 23 (0, 0))) := Lib.hid ((HD4.out.keeps.block _ (by simp only [World.size_alloc]; have := lt_of_block R3.out; omega) (by have := lt_of_block R3.out; omega)).trans ((heap_alloc_old _ _ (lt_of_block R3.out)).trans R3.out)); have X4 : Hid (w4.heap[w.heap.size]? = some (.cells (cells (4, n, s)) 23 (0, 0))) := Lib.hid ((HD4.out.keeps.block _ (by simp only [World.size_alloc]; have := lt_of_block X3.out; omega) (by have := lt_of_block X3.out; omega)).trans ((heap_alloc_old _ _ (lt_of_block X3.out)).trans X3.out)); have HL4 := Lib.hid (HD4.out.below (HL3.out.alloc HL3.out.size _) HL3.out.size)) | (refine store23 rfl (.tmp 4) (.tmp 46) rfl (w.heap.size + 1) nullT rfl rfl _ R4.out ?_; intro wy hp; have HQ := Lib.hid hp; clear hp))
      exact bodyPost_ret (ret23 rfl rfl HQ.out.at') rfl ⟨by rw [HE.out], HQ.out.low HL4.out (by omega)⟩
end YtabojeleomfgnaaGreatDoor
end Go.Proofs
namespace Go.Proofs
open Go.RowKit
namespace YtabojeleomfgnaaGreatDoor
set_option maxRecDepth 100000
theorem index6_0 (a b c d e f : Int) (w : World) : (Instr.index 123 (.agg (six a b c d e f)) (.int .i64 0)).run Tryz.prog w = .ok (.int .i64 a) w := by kernel_rfl
theorem index6_1 (a b c d e f : Int) (w : World) : (Instr.index 123 (.agg (six a b c d e f)) (.int .i64 1)).run Tryz.prog w = .ok (.int .i64 b) w := by kernel_rfl
theorem index6_2 (a b c d e f : Int) (w : World) : (Instr.index 123 (.agg (six a b c d e f)) (.int .i64 2)).run Tryz.prog w = .ok (.int .i64 c) w := by kernel_rfl
theorem index6_3 (a b c d e f : Int) (w : World) : (Instr.index 123 (.agg (six a b c d e f)) (.int .i64 3)).run Tryz.prog w = .ok (.int .i64 d) w := by kernel_rfl
theorem index6_4 (a b c d e f : Int) (w : World) : (Instr.index 123 (.agg (six a b c d e f)) (.int .i64 4)).run Tryz.prog w = .ok (.int .i64 e) w := by kernel_rfl
theorem index6_5 (a b c d e f : Int) (w : World) : (Instr.index 123 (.agg (six a b c d e f)) (.int .i64 5)).run Tryz.prog w = .ok (.int .i64 f) w := by kernel_rfl
set_option maxHeartbeats 2000000 in
theorem runit_t (x : V3) (u : Int) (hx : Sz x) (w : World) : Calls Tryz.prog 60 #[toV x, .int .i64 u] w fun e w' => e = .returned (toV (unitT (clT x) u)) ∧ Below w.heap.size w w' := by
  have CX := Lib.hid (fun w => right_t x hx w)
  have RX := Lib.hid (clT_right x)
  clear hx
  have HE := Lib.hid (show unitT (clT x) u = unitT (clT x) u from rfl)
  generalize hR : unitT (clT x) u = R at HE ⊢
  clear HE
  generalize clT x = X at *
  obtain ⟨ka, na, sa⟩ := x
  obtain ⟨K, n, s⟩ := X
  change Calls Tryz.prog 60 #[val ka na sa, .int .i64 u] w _
  change Hid (∀ w, Calls Tryz.prog 97 #[val ka na sa] w fun e w' => e = .returned (toV (K, n, s)) ∧ Below w.heap.size w w') at CX
  cases hk : (K != 4) with
  | true =>
    have HE : Hid (R = nullT) := Lib.hid (by rw [← hR]; unfold unitT; rw [hk]; rfl)
    clear hR RX
    go_enter Tryz.func60, Tryz.ntmps60
    go_wp2_with fail
    refine (CX.out _).mono ?_
    rintro e w1 ⟨rfl, hb1⟩
    have B1 : Hid (w1.heap[w.heap.size]? = some (.cells (cells (ka, na, sa)) 23 (0, 0))) := Lib.hid ((hb1.block _ (by simp only [World.size_alloc]; omega)).trans ((heap_alloc_old _ _ (by simp)).trans (heap_alloc_new w _)))
    have R1 : Hid (w1.heap[w.heap.size + 1]? = some (.cells (cells nullT) 23 (0, 0))) := Lib.hid ((hb1.block _ (by simp)).trans (new_at _ _ _ (by simp)))
    have HL1 := Lib.hid (below_call (w := w) (by go_grown) hb1)
    clear hb1
    go_wp2_with (first | (refine store23 rfl (.tmp 2) (.tmp 6) rfl w.heap.size (K, n, s) rfl rfl _ B1.out ?_; intro w2 hp; have HP := Lib.hid hp; clear hp; have a0 : w2.cell? ⟨w.heap.size, 0, none⟩ = some (.int .i64 K) := (cell_of_row w2 _ 0 _ _ _ HP.out.at').trans rfl; have a1 : w2.cell? ⟨w.heap.size, 1, none⟩ = some (.int .i64 n) := (cell_of_row w2 _ 1 _ _ _ HP.out.at').trans rfl; have a2 : w2.cell? ⟨w.heap.size, 2, none⟩ = some (.string s) := (cell_of_row w2 _ 2 _ _ _ HP.out.at').trans rfl; have R2 : Hid (w2.heap[w.heap.size + 1]? = some (.cells (cells nullT) 23 (0, 0))) := Lib.hid ((HP.out.keeps.block _ (lt_of_block R1.out) (by omega)).trans R1.out); have HL2 := Lib.hid (HP.out.low HL1.out (Nat.le_refl _)); have X2 := Lib.hid HP.out.at') | (refine store23 rfl (.tmp 4) (.tmp 15) rfl (w.heap.size + 1) nullT rfl rfl _ R2.out ?_; intro wy hp; have HQ := Lib.hid hp; clear hp))
    exact bodyPost_ret (ret23 rfl rfl HQ.out.at') rfl ⟨by rw [HE.out], HQ.out.low HL2.out (by omega)⟩
  | false =>
    have hk4 : K = 4 := by simpa using hk
    subst hk4
    clear hk
    obtain ⟨n0, n1, hs0⟩ := RX.out.moment rfl
    clear hs0
    have CD := Lib.hid (fun w => parts_t n n0 n1 w)
    have hU : R = if u = 1 then numT 2 (secOf n) else if u = 2 then numT 2 (minOf n) else if u = 3 then numT 2 (hourOf n) else if u = 4 then numT 2 (dOf n) else if u = 5 then numT 2 (mOf n) else if u = 6 then numT 2 (yOf n) else nullT := by rw [← hR]; rfl
    clear hR RX n0 n1
    have CW := Lib.hid (fun w => rwithin_t u 1 6 w)
    generalize yOf n = Y at *
    generalize mOf n = M at *
    generalize dOf n = D at *
    generalize hourOf n = H at *
    generalize minOf n = I at *
    generalize secOf n = SS at *
    rcases (by omega : u = 1 ∨ u = 2 ∨ u = 3 ∨ u = 4 ∨ u = 5 ∨ u = 6 ∨ (u < 1 ∨ 6 < u)) with rfl | rfl | rfl | rfl | rfl | rfl | hu
    · have HE : Hid (R = numT 2 SS) := Lib.hid (by rw [hU]; simp)
      clear hU
      have ix := index6_0 SS I H D M Y
      go_enter Tryz.func60, Tryz.ntmps60
      go_wp2_with fail
      refine (CX.out _).mono ?_
      rintro e w1 ⟨rfl, hb1⟩
      have B1 : Hid (w1.heap[w.heap.size]? = some (.cells (cells (ka, na, sa)) 23 (0, 0))) := Lib.hid ((hb1.block _ (by simp only [World.size_alloc]; omega)).trans ((heap_alloc_old _ _ (by simp)).trans (heap_alloc_new w _)))
      have R1 : Hid (w1.heap[w.heap.size + 1]? = some (.cells (cells nullT) 23 (0, 0))) := Lib.hid ((hb1.block _ (by simp)).trans (new_at _ _ _ (by simp)))
      have HL1 := Lib.hid (below_call (w := w) (by go_grown) hb1)
      clear hb1
      go_wp2_with (refine store23 rfl (.tmp 2) (.tmp 6) rfl w.heap.size (4, n, s) rfl rfl _ B1.out ?_; intro w2 hp; have HP := Lib.hid hp; clear hp; have a0 : w2.cell? ⟨w.heap.size, 0, none⟩ = some (.int .i64 4) := (cell_of_row w2 _ 0 _ _ _ HP.out.at').trans rfl; have a1 : w2.cell? ⟨w.heap.size, 1, none⟩ = some (.int .i64 n) := (cell_of_row w2 _ 1 _ _ _ HP.out.at').trans rfl; have a2 : w2.cell? ⟨w.heap.size, 2, none⟩ = some (.string s) := (cell_of_row w2 _ 2 _ _ _ HP.out.at').trans rfl; have R2 : Hid (w2.heap[w.heap.size + 1]? = some (.cells (cells nullT) 23 (0, 0))) := Lib.hid ((HP.out.keeps.block _ (lt_of_block R1.out) (by omega)).trans R1.out); have HL2 := Lib.hid (HP.out.low HL1.out (Nat.le_refl _)); have X2 := Lib.hid HP.out.at')
      go_wp2_with fail
      refine (CW.out _).mono ?_
      rintro e wx ⟨rfl, hwx⟩
      rw [hwx]
      clear hwx wx
      go_wp2_with fail
      refine (CD.out _).mono ?_
      rintro e w3 ⟨rfl, hb3⟩
      have R3 : Hid (w3.heap[w.heap.size + 1]? = some (.cells (cells nullT) 23 (0, 0))) := Lib.hid ((hb3.block _ (lt_of_block R2.out)).trans R2.out)
      have X3 := Lib.hid ((hb3.block _ (lt_of_block X2.out)).trans X2.out)
      have HL3 := Lib.hid (below_call HL2.out hb3)
      clear hb3 a0 a1 a2
      go_wp2_with fail
      refine (rnumber_t _ _).mono ?_
      rintro e w4 ⟨rfl, hb4⟩
      have R4 : Hid (w4.heap[w.heap.size + 1]? = some (.cells (cells nullT) 23 (0, 0))) := Lib.hid ((hb4.block _ (lt_of_block R3.out)).trans R3.out)
      have X4 := Lib.hid ((hb4.block _ (lt_of_block X3.out)).trans X3.out)
      have HL4 := Lib.hid (below_call HL3.out hb4)
      clear hb4
      go_wp2_with (refine store23 rfl (.tmp 4) (.tmp 22) rfl (w.heap.size + 1) (numT 2 SS) rfl rfl _ R4.out ?_; intro wy hp; have HQ := Lib.hid hp; clear hp)
      exact bodyPost_ret (ret23 rfl rfl HQ.out.at') rfl ⟨by rw [HE.out], HQ.out.low HL4.out (by omega)⟩
    · have HE : Hid (R = numT 2 I) := Lib.hid (by rw [hU]; simp)
      clear hU
      have ix := index6_1 SS I H D M Y
      go_enter Tryz.func60, Tryz.ntmps60
      go_wp2_with fail
      refine (CX.out _).mono ?_
      rintro e w1 ⟨rfl, hb1⟩
      have B1 : Hid (w1.heap[w.heap.size]? = some (.cells (cells (ka, na, sa)) 23 (0, 0))) := Lib.hid ((hb1.block _ (by simp only [World.size_alloc]; omega)).trans ((heap_alloc_old _ _ (by simp)).trans (heap_alloc_new w _)))
      have R1 : Hid (w1.heap[w.heap.size + 1]? = some (.cells (cells nullT) 23 (0, 0))) := Lib.hid ((hb1.block _ (by simp)).trans (new_at _ _ _ (by simp)))
      have HL1 := Lib.hid (below_call (w := w) (by go_grown) hb1)
      clear hb1
      go_wp2_with (refine store23 rfl (.tmp 2) (.tmp 6) rfl w.heap.size (4, n, s) rfl rfl _ B1.out ?_; intro w2 hp; have HP := Lib.hid hp; clear hp; have a0 : w2.cell? ⟨w.heap.size, 0, none⟩ = some (.int .i64 4) := (cell_of_row w2 _ 0 _ _ _ HP.out.at').trans rfl; have a1 : w2.cell? ⟨w.heap.size, 1, none⟩ = some (.int .i64 n) := (cell_of_row w2 _ 1 _ _ _ HP.out.at').trans rfl; have a2 : w2.cell? ⟨w.heap.size, 2, none⟩ = some (.string s) := (cell_of_row w2 _ 2 _ _ _ HP.out.at').trans rfl; have R2 : Hid (w2.heap[w.heap.size + 1]? = some (.cells (cells nullT) 23 (0, 0))) := Lib.hid ((HP.out.keeps.block _ (lt_of_block R1.out) (by omega)).trans R1.out); have HL2 := Lib.hid (HP.out.low HL1.out (Nat.le_refl _)); have X2 := Lib.hid HP.out.at')
      go_wp2_with fail
      refine (CW.out _).mono ?_
      rintro e wx ⟨rfl, hwx⟩
      rw [hwx]
      clear hwx wx
      go_wp2_with fail
      refine (CD.out _).mono ?_
      rintro e w3 ⟨rfl, hb3⟩
      have R3 : Hid (w3.heap[w.heap.size + 1]? = some (.cells (cells nullT) 23 (0, 0))) := Lib.hid ((hb3.block _ (lt_of_block R2.out)).trans R2.out)
      have X3 := Lib.hid ((hb3.block _ (lt_of_block X2.out)).trans X2.out)
      have HL3 := Lib.hid (below_call HL2.out hb3)
      clear hb3 a0 a1 a2
      go_wp2_with fail
      refine (rnumber_t _ _).mono ?_
      rintro e w4 ⟨rfl, hb4⟩
      have R4 : Hid (w4.heap[w.heap.size + 1]? = some (.cells (cells nullT) 23 (0, 0))) := Lib.hid ((hb4.block _ (lt_of_block R3.out)).trans R3.out)
      have X4 := Lib.hid ((hb4.block _ (lt_of_block X3.out)).trans X3.out)
      have HL4 := Lib.hid (below_call HL3.out hb4)
      clear hb4
      go_wp2_with (refine store23 rfl (.tmp 4) (.tmp 22) rfl (w.heap.size + 1) (numT 2 I) rfl rfl _ R4.out ?_; intro wy hp; have HQ := Lib.hid hp; clear hp)
      exact bodyPost_ret (ret23 rfl rfl HQ.out.at') rfl ⟨by rw [HE.out], HQ.out.low HL4.out (by omega)⟩
    · have HE : Hid (R = numT 2 H) := Lib.hid (by rw [hU]; simp)
      clear hU
      have ix := index6_2 SS I H D M Y
      go_enter Tryz.func60, Tryz.ntmps60
      go_wp2_with fail
      refine (CX.out _).mono ?_
      rintro e w1 ⟨rfl, hb1⟩
      have B1 : Hid (w1.heap[w.heap.size]? = some (.cells (cells (ka, na, sa)) 23 (0, 0))) := Lib.hid ((hb1.block _ (by simp only [World.size_alloc]; omega)).trans ((heap_alloc_old _ _ (by simp)).trans (heap_alloc_new w _)))
      have R1 : Hid (w1.heap[w.heap.size + 1]? = some (.cells (cells nullT) 23 (0, 0))) := Lib.hid ((hb1.block _ (by simp)).trans (new_at _ _ _ (by simp)))
      have HL1 := Lib.hid (below_call (w := w) (by go_grown) hb1)
      clear hb1
      go_wp2_with (refine store23 rfl (.tmp 2) (.tmp 6) rfl w.heap.size (4, n, s) rfl rfl _ B1.out ?_; intro w2 hp; have HP := Lib.hid hp; clear hp; have a0 : w2.cell? ⟨w.heap.size, 0, none⟩ = some (.int .i64 4) := (cell_of_row w2 _ 0 _ _ _ HP.out.at').trans rfl; have a1 : w2.cell? ⟨w.heap.size, 1, none⟩ = some (.int .i64 n) := (cell_of_row w2 _ 1 _ _ _ HP.out.at').trans rfl; have a2 : w2.cell? ⟨w.heap.size, 2, none⟩ = some (.string s) := (cell_of_row w2 _ 2 _ _ _ HP.out.at').trans rfl; have R2 : Hid (w2.heap[w.heap.size + 1]? = some (.cells (cells nullT) 23 (0, 0))) := Lib.hid ((HP.out.keeps.block _ (lt_of_block R1.out) (by omega)).trans R1.out); have HL2 := Lib.hid (HP.out.low HL1.out (Nat.le_refl _)); have X2 := Lib.hid HP.out.at')
      go_wp2_with fail
      refine (CW.out _).mono ?_
      rintro e wx ⟨rfl, hwx⟩
      rw [hwx]
      clear hwx wx
      go_wp2_with fail
      refine (CD.out _).mono ?_
      rintro e w3 ⟨rfl, hb3⟩
      have R3 : Hid (w3.heap[w.heap.size + 1]? = some (.cells (cells nullT) 23 (0, 0))) := Lib.hid ((hb3.block _ (lt_of_block R2.out)).trans R2.out)
      have X3 := Lib.hid ((hb3.block _ (lt_of_block X2.out)).trans X2.out)
      have HL3 := Lib.hid (below_call HL2.out hb3)
      clear hb3 a0 a1 a2
      go_wp2_with fail
      refine (rnumber_t _ _).mono ?_
      rintro e w4 ⟨rfl, hb4⟩
      have R4 : Hid (w4.heap[w.heap.size + 1]? = some (.cells (cells nullT) 23 (0, 0))) := Lib.hid ((hb4.block _ (lt_of_block R3.out)).trans R3.out)
      have X4 := Lib.hid ((hb4.block _ (lt_of_block X3.out)).trans X3.out)
      have HL4 := Lib.hid (below_call HL3.out hb4)
      clear hb4
      go_wp2_with (refine store23 rfl (.tmp 4) (.tmp 22) rfl (w.heap.size + 1) (numT 2 H) rfl rfl _ R4.out ?_; intro wy hp; have HQ := Lib.hid hp; clear hp)
      exact bodyPost_ret (ret23 rfl rfl HQ.out.at') rfl ⟨by rw [HE.out], HQ.out.low HL4.out (by omega)⟩
    · have HE : Hid (R = numT 2 D) := Lib.hid (by rw [hU]; simp)
      clear hU
      have ix := index6_3 SS I H D M Y
      go_enter Tryz.func60, Tryz.ntmps60
      go_wp2_with fail
      refine (CX.out _).mono ?_
      rintro e w1 ⟨rfl, hb1⟩
      have B1 : Hid (w1.heap[w.heap.size]? = some (.cells (cells (ka, na, sa)) 23 (0, 0))) := Lib.hid ((hb1.block _ (by simp only [World.size_alloc]; omega)).trans ((heap_alloc_old _ _ (by simp)).trans (heap_alloc_new w _)))
      have R1 : Hid (w1.heap[w.heap.size + 1]? = some (.cells (cells nullT) 23 (0, 0))) := Lib.hid ((hb1.block _ (by simp)).trans (new_at _ _ _ (by simp)))
      have HL1 := Lib.hid (below_call (w := w) (by go_grown) hb1)
      clear hb1
      go_wp2_with (refine store23 rfl (.tmp 2) (.tmp 6) rfl w.heap.size (4, n, s) rfl rfl _ B1.out ?_; intro w2 hp; have HP := Lib.hid hp; clear hp; have a0 : w2.cell? ⟨w.heap.size, 0, none⟩ = some (.int .i64 4) := (cell_of_row w2 _ 0 _ _ _ HP.out.at').trans rfl; have a1 : w2.cell? ⟨w.heap.size, 1, none⟩ = some (.int .i64 n) := (cell_of_row w2 _ 1 _ _ _ HP.out.at').trans rfl; have a2 : w2.cell? ⟨w.heap.size, 2, none⟩ = some (.string s) := (cell_of_row w2 _ 2 _ _ _ HP.out.at').trans rfl; have R2 : Hid (w2.heap[w.heap.size + 1]? = some (.cells (cells nullT) 23 (0, 0))) := Lib.hid ((HP.out.keeps.block _ (lt_of_block R1.out) (by omega)).trans R1.out); have HL2 := Lib.hid (HP.out.low HL1.out (Nat.le_refl _)); have X2 := Lib.hid HP.out.at')
      go_wp2_with fail
      refine (CW.out _).mono ?_
      rintro e wx ⟨rfl, hwx⟩
      rw [hwx]
      clear hwx wx
      go_wp2_with fail
      refine (CD.out _).mono ?_
      rintro e w3 ⟨rfl, hb3⟩
      have R3 : Hid (w3.heap[w.heap.size + 1]? = some (.cells (cells nullT) 23 (0, 0))) := Lib.hid ((hb3.block _ (lt_of_block R2.out)).trans R2.out)
      have X3 := Lib.hid ((hb3.block _ (lt_of_block X2.out)).trans X2.out)
      have HL3 := Lib.hid (below_call HL2.out hb3)
      clear hb3 a0 a1 a2
      go_wp2_with fail
      refine (rnumber_t _ _).mono ?_
      rintro e w4 ⟨rfl, hb4⟩
      have R4 : Hid (w4.heap[w.heap.size + 1]? = some (.cells (cells nullT) 23 (0, 0))) := Lib.hid ((hb4.block _ (lt_of_block R3.out)).trans R3.out)
      have X4 := Lib.hid ((hb4.block _ (lt_of_block X3.out)).trans X3.out)
      have HL4 := Lib.hid (below_call HL3.out hb4)
      clear hb4
      go_wp2_with (refine store23 rfl (.tmp 4) (.tmp 22) rfl (w.heap.size + 1) (numT 2 D) rfl rfl _ R4.out ?_; intro wy hp; have HQ := Lib.hid hp; clear hp)
      exact bodyPost_ret (ret23 rfl rfl HQ.out.at') rfl ⟨by rw [HE.out], HQ.out.low HL4.out (by omega)⟩
    · have HE : Hid (R = numT 2 M) := Lib.hid (by rw [hU]; simp)
      clear hU
      have ix := index6_4 SS I H D M Y
      go_enter Tryz.func60, Tryz.ntmps60
      go_wp2_with fail
      refine (CX.out _).mono ?_
      rintro e w1 ⟨rfl, hb1⟩
      have B1 : Hid (w1.heap[w.heap.size]? = some (.cells (cells (ka, na, sa)) 23 (0, 0))) := Lib.hid ((hb1.block _ (by simp only [World.size_alloc]; omega)).trans ((heap_alloc_old _ _ (by simp)).trans (heap_alloc_new w _)))
      have R1 : Hid (w1.heap[w.heap.size + 1]? = some (.cells (cells nullT) 23 (0, 0))) := Lib.hid ((hb1.block _ (by simp)).trans (new_at _ _ _ (by simp)))
      have HL1 := Lib.hid (below_call (w := w) (by go_grown) hb1)
      clear hb1
      go_wp2_with (refine store23 rfl (.tmp 2) (.tmp 6) rfl w.heap.size (4, n, s) rfl rfl _ B1.out ?_; intro w2 hp; have HP := Lib.hid hp; clear hp; have a0 : w2.cell? ⟨w.heap.size, 0, none⟩ = some (.int .i64 4) := (cell_of_row w2 _ 0 _ _ _ HP.out.at').trans rfl; have a1 : w2.cell? ⟨w.heap.size, 1, none⟩ = some (.int .i64 n) := (cell_of_row w2 _ 1 _ _ _ HP.out.at').trans rfl; have a2 : w2.cell? ⟨w.heap.size, 2, none⟩ = some (.string s) := (cell_of_row w2 _ 2 _ _ _ HP.out.at').trans rfl; have R2 : Hid (w2.heap[w.heap.size + 1]? = some (.cells (cells nullT) 23 (0, 0))) := Lib.hid ((HP.out.keeps.block _ (lt_of_block R1.out) (by omega)).trans R1.out); have HL2 := Lib.hid (HP.out.low HL1.out (Nat.le_refl _)); have X2 := Lib.hid HP.out.at')
      go_wp2_with fail
      refine (CW.out _).mono ?_
      rintro e wx ⟨rfl, hwx⟩
      rw [hwx]
      clear hwx wx
      go_wp2_with fail
      refine (CD.out _).mono ?_
      rintro e w3 ⟨rfl, hb3⟩
      have R3 : Hid (w3.heap[w.heap.size + 1]? = some (.cells (cells nullT) 23 (0, 0))) := Lib.hid ((hb3.block _ (lt_of_block R2.out)).trans R2.out)
      have X3 := Lib.hid ((hb3.block _ (lt_of_block X2.out)).trans X2.out)
      have HL3 := Lib.hid (below_call HL2.out hb3)
      clear hb3 a0 a1 a2
      go_wp2_with fail
      refine (rnumber_t _ _).mono ?_
      rintro e w4 ⟨rfl, hb4⟩
      have R4 : Hid (w4.heap[w.heap.size + 1]? = some (.cells (cells nullT) 23 (0, 0))) := Lib.hid ((hb4.block _ (lt_of_block R3.out)).trans R3.out)
      have X4 := Lib.hid ((hb4.block _ (lt_of_block X3.out)).trans X3.out)
      have HL4 := Lib.hid (below_call HL3.out hb4)
      clear hb4
      go_wp2_with (refine store23 rfl (.tmp 4) (.tmp 22) rfl (w.heap.size + 1) (numT 2 M) rfl rfl _ R4.out ?_; intro wy hp; have HQ := Lib.hid hp; clear hp)
      exact bodyPost_ret (ret23 rfl rfl HQ.out.at') rfl ⟨by rw [HE.out], HQ.out.low HL4.out (by omega)⟩
    · have HE : Hid (R = numT 2 Y) := Lib.hid (by rw [hU]; simp)
      clear hU
      have ix := index6_5 SS I H D M Y
      go_enter Tryz.func60, Tryz.ntmps60
      go_wp2_with fail
      refine (CX.out _).mono ?_
      rintro e w1 ⟨rfl, hb1⟩
      have B1 : Hid (w1.heap[w.heap.size]? = some (.cells (cells (ka, na, sa)) 23 (0, 0))) := Lib.hid ((hb1.block _ (by simp only [World.size_alloc]; omega)).trans ((heap_alloc_old _ _ (by simp)).trans (heap_alloc_new w _)))
      have R1 : Hid (w1.heap[w.heap.size + 1]? = some (.cells (cells nullT) 23 (0, 0))) := Lib.hid ((hb1.block _ (by simp)).trans (new_at _ _ _ (by simp)))
      have HL1 := Lib.hid (below_call (w := w) (by go_grown) hb1)
      clear hb1
      go_wp2_with (refine store23 rfl (.tmp 2) (.tmp 6) rfl w.heap.size (4, n, s) rfl rfl _ B1.out ?_; intro w2 hp; have HP := Lib.hid hp; clear hp; have a0 : w2.cell? ⟨w.heap.size, 0, none⟩ = some (.int .i64 4) := (cell_of_row w2 _ 0 _ _ _ HP.out.at').trans rfl; have a1 : w2.cell? ⟨w.heap.size, 1, none⟩ = some (.int .i64 n) := (cell_of_row w2 _ 1 _ _ _ HP.out.at').trans rfl; have a2 : w2.cell? ⟨w.heap.size, 2, none⟩ = some (.string s) := (cell_of_row w2 _ 2 _ _ _ HP.out.at').trans rfl; have R2 : Hid (w2.heap[w.heap.size + 1]? = some (.cells (cells nullT) 23 (0, 0))) := Lib.hid ((HP.out.keeps.block _ (lt_of_block R1.out) (by omega)).trans R1.out); have HL2 := Lib.hid (HP.out.low HL1.out (Nat.le_refl _)); have X2 := Lib.hid HP.out.at')
      go_wp2_with fail
      refine (CW.out _).mono ?_
      rintro e wx ⟨rfl, hwx⟩
      rw [hwx]
      clear hwx wx
      go_wp2_with fail
      refine (CD.out _).mono ?_
      rintro e w3 ⟨rfl, hb3⟩
      have R3 : Hid (w3.heap[w.heap.size + 1]? = some (.cells (cells nullT) 23 (0, 0))) := Lib.hid ((hb3.block _ (lt_of_block R2.out)).trans R2.out)
      have X3 := Lib.hid ((hb3.block _ (lt_of_block X2.out)).trans X2.out)
      have HL3 := Lib.hid (below_call HL2.out hb3)
      clear hb3 a0 a1 a2
      go_wp2_with fail
      refine (rnumber_t _ _).mono ?_
      rintro e w4 ⟨rfl, hb4⟩
      have R4 : Hid (w4.heap[w.heap.size + 1]? = some (.cells (cells nullT) 23 (0, 0))) := Lib.hid ((hb4.block _ (lt_of_block R3.out)).trans R3.out)
      have X4 := Lib.hid ((hb4.block _ (lt_of_block X3.out)).trans X3.out)
      have HL4 := Lib.hid (below_call HL3.out hb4)
      clear hb4
      go_wp2_with (refine store23 rfl (.tmp 4) (.tmp 22) rfl (w.heap.size + 1) (numT 2 Y) rfl rfl _ R4.out ?_; intro wy hp; have HQ := Lib.hid hp; clear hp)
      exact bodyPost_ret (ret23 rfl rfl HQ.out.at') rfl ⟨by rw [HE.out], HQ.out.low HL4.out (by omega)⟩
    · have HE : Hid (R = nullT) := Lib.hid (by rw [hU]; rw [if_neg (by omega), if_neg (by omega), if_neg (by omega), if_neg (by omega), if_neg (by omega), if_neg (by omega)])
      clear hU
      have hw : (decide (1 ≤ u) && decide (u ≤ 6)) = false := by rcases hu with h | h <;> simp <;> omega
      rw [hw] at CW
      clear hw hu
      go_enter Tryz.func60, Tryz.ntmps60
      go_wp2_with fail
      refine (CX.out _).mono ?_
      rintro e w1 ⟨rfl, hb1⟩
      have B1 : Hid (w1.heap[w.heap.size]? = some (.cells (cells (ka, na, sa)) 23 (0, 0))) := Lib.hid ((hb1.block _ (by simp only [World.size_alloc]; omega)).trans ((heap_alloc_old _ _ (by simp)).trans (heap_alloc_new w _)))
      have R1 : Hid (w1.heap[w.heap.size + 1]? = some (.cells (cells nullT) 23 (0, 0))) := Lib.hid ((hb1.block _ (by simp)).trans (new_at _ _ _ (by simp)))
      have HL1 := Lib.hid (below_call (w := w) (by go_grown) hb1)
      clear hb1
      go_wp2_with (refine store23 rfl (.tmp 2) (.tmp 6) rfl w.heap.size (4, n, s) rfl rfl _ B1.out ?_; intro w2 hp; have HP := Lib.hid hp; clear hp; have a0 : w2.cell? ⟨w.heap.size, 0, none⟩ = some (.int .i64 4) := (cell_of_row w2 _ 0 _ _ _ HP.out.at').trans rfl; have a1 : w2.cell? ⟨w.heap.size, 1, none⟩ = some (.int .i64 n) := (cell_of_row w2 _ 1 _ _ _ HP.out.at').trans rfl; have a2 : w2.cell? ⟨w.heap.size, 2, none⟩ = some (.string s) := (cell_of_row w2 _ 2 _ _ _ HP.out.at').trans rfl; have R2 : Hid (w2.heap[w.heap.size + 1]? = some (.cells (cells nullT) 23 (0, 0))) := Lib.hid ((HP.out.keeps.block _ (lt_of_block R1.out) (by omega)).trans R1.out); have HL2 := Lib.hid (HP.out.low HL1.out (Nat.le_refl _)); have X2 := Lib.hid HP.out.at')
      go_wp2_with fail
      refine (CW.out _).mono ?_
      rintro e wx ⟨rfl, hwx⟩
      rw [hwx]
      clear hwx wx
      go_wp2_with (refine store23 rfl (.tmp 4) (.tmp 15) rfl (w.heap.size + 1) nullT rfl rfl _ R2.out ?_; intro wy hp; have HQ := Lib.hid hp; clear hp)
      exact bodyPost_ret (ret23 rfl rfl HQ.out.at') rfl ⟨by rw [HE.out], HQ.out.low HL2.out (by omega)⟩
end YtabojeleomfgnaaGreatDoor
end Go.Proofs
namespace Go.Proofs
open Go.RowKit
namespace YtabojeleomfgnaaGreatDoor
set_option maxRecDepth 100000
theorem secs_back (n : Int) (h0 : 0 ≤ n) (h1 : n ≤ 253402300799) : secsOf (yOf n) (mOf n) (dOf n) (hourOf n) (minOf n) (secOf n) = n := by
  obtain ⟨_, _, _, _, _, hd⟩ := day_is n h0 h1
  unfold secsOf hourOf minOf secOf
  generalize ahead (yOf n) = A at *
  generalize before (yOf n) (mOf n) = B at *
  generalize dOf n = D at *
  omega
theorem dated_back (n : Int) (h0 : 0 ≤ n) (h1 : n ≤ 253402300799) : datedT (yOf n) (mOf n) (dOf n) (hourOf n) (minOf n) (secOf n) = numT 4 n := by
  have hs := secs_back n h0 h1
  have hy := day_year (day_is n h0 h1) (by omega)
  obtain ⟨y0, m0, m1, d0, d1, _⟩ := day_is n h0 h1
  unfold datedT
  rw [if_pos, hs]
  unfold yearB monthB dayB hourB sixtyB hourOf minOf secOf
  simp only [Bool.and_eq_true, decide_eq_true_eq]
  omega
noncomputable def truncT (X : V3) (u : Int) : V3 := if (X.1 != 4) = true then nullT else if u = 1 then X else if u = 2 then datedT (yOf X.2.1) (mOf X.2.1) (dOf X.2.1) (hourOf X.2.1) (minOf X.2.1) 0 else if u = 3 then datedT (yOf X.2.1) (mOf X.2.1) (dOf X.2.1) (hourOf X.2.1) 0 0 else if u = 4 then datedT (yOf X.2.1) (mOf X.2.1) (dOf X.2.1) 0 0 0 else if u = 5 then datedT (yOf X.2.1) (mOf X.2.1) 1 0 0 0 else if u = 6 then datedT (yOf X.2.1) 1 1 0 0 0 else nullT
set_option maxHeartbeats 2000000 in
theorem trunc_t (x : V3) (u : Int) (hx : Sz x) (w : World) : Calls Tryz.prog 61 #[toV x, .int .i64 u] w fun e w' => e = .returned (toV (truncT (clT x) u)) ∧ Below w.heap.size w w' := by
  have CX := Lib.hid (fun w => clean_t x hx w)
  have RX := Lib.hid (clT_right x)
  clear hx
  have HE := Lib.hid (show truncT (clT x) u = truncT (clT x) u from rfl)
  generalize hR : truncT (clT x) u = R at HE ⊢
  clear HE
  generalize clT x = X at *
  obtain ⟨ka, na, sa⟩ := x
  obtain ⟨K, n, s⟩ := X
  change Calls Tryz.prog 61 #[val ka na sa, .int .i64 u] w _
  change Hid (∀ w, Calls Tryz.prog 94 #[val ka na sa] w fun e w' => e = .returned (toV (K, n, s)) ∧ Below w.heap.size w w') at CX
  cases hk : (K != 4) with
  | true =>
    have HE : Hid (R = nullT) := Lib.hid (by rw [← hR]; unfold truncT; rw [hk]; rfl)
    clear hR RX
    go_enter Tryz.func61, Tryz.ntmps61
    go_wp2_with fail
    refine (CX.out _).mono ?_
    rintro e w1 ⟨rfl, hb1⟩
    have B1 : Hid (w1.heap[w.heap.size]? = some (.cells (cells (ka, na, sa)) 23 (0, 0))) := Lib.hid ((hb1.block _ (by simp only [World.size_alloc]; omega)).trans ((heap_alloc_old _ _ (by simp)).trans (heap_alloc_new w _)))
    have R1 : Hid (w1.heap[w.heap.size + 1]? = some (.cells (cells nullT) 23 (0, 0))) := Lib.hid ((hb1.block _ (by simp)).trans (new_at _ _ _ (by simp)))
    have HL1 := Lib.hid (below_call (w := w) (by go_grown) hb1)
    clear hb1
    go_wp2_with (first | (refine store23 rfl (.tmp 2) (.tmp 7) rfl w.heap.size (K, n, s) rfl rfl _ B1.out ?_; intro w2 hp; have HP := Lib.hid hp; clear hp; have a0 : w2.cell? ⟨w.heap.size, 0, none⟩ = some (.int .i64 K) := (cell_of_row w2 _ 0 _ _ _ HP.out.at').trans rfl; have a1 : w2.cell? ⟨w.heap.size, 1, none⟩ = some (.int .i64 n) := (cell_of_row w2 _ 1 _ _ _ HP.out.at').trans rfl; have a2 : w2.cell? ⟨w.heap.size, 2, none⟩ = some (.string s) := (cell_of_row w2 _ 2 _ _ _ HP.out.at').trans rfl; have R2 : Hid (w2.heap[w.heap.size + 1]? = some (.cells (cells nullT) 23 (0, 0))) := Lib.hid ((HP.out.keeps.block _ (lt_of_block R1.out) (by omega)).trans R1.out); have HL2 := Lib.hid (HP.out.low HL1.out (Nat.le_refl _)); have X2 := Lib.hid HP.out.at') | (refine store23 rfl (.tmp 4) (.tmp 11) rfl (w.heap.size + 1) nullT rfl rfl _ R2.out ?_; intro wy hp; have HQ := Lib.hid hp; clear hp))
    exact bodyPost_ret (ret23 rfl rfl HQ.out.at') rfl ⟨by rw [HE.out], HQ.out.low HL2.out (by omega)⟩
  | false =>
    have hk4 : K = 4 := by simpa using hk
    subst hk4
    clear hk
    obtain ⟨n0, n1, hs0⟩ := RX.out.moment rfl
    clear hs0
    have CD := Lib.hid (fun w => dateOf_t n n0 n1 w)
    have hU : R = if u = 1 then (4, n, s) else if u = 2 then datedT (yOf n) (mOf n) (dOf n) (hourOf n) (minOf n) 0 else if u = 3 then datedT (yOf n) (mOf n) (dOf n) (hourOf n) 0 0 else if u = 4 then datedT (yOf n) (mOf n) (dOf n) 0 0 0 else if u = 5 then datedT (yOf n) (mOf n) 1 0 0 0 else if u = 6 then datedT (yOf n) 1 1 0 0 0 else nullT := by rw [← hR]; rfl
    clear hR RX n0 n1
    generalize yOf n = Y at *
    generalize mOf n = M at *
    generalize dOf n = D at *
    generalize hourOf n = H at *
    generalize minOf n = I at *
    generalize secOf n = SS at *
    rcases (by omega : u = 1 ∨ u = 2 ∨ u = 3 ∨ u = 4 ∨ u = 5 ∨ u = 6 ∨ (¬ u = 1 ∧ ¬ u = 2 ∧ ¬ u = 3 ∧ ¬ u = 4 ∧ ¬ u = 5 ∧ ¬ u = 6)) with rfl | rfl | rfl | rfl | rfl | rfl | ⟨u1, u2, u3, u4, u5, u6⟩
    · have HE : Hid (R = (4, n, s)) := Lib.hid (by rw [hU]; simp)
      clear hU
      go_enter Tryz.func61, Tryz.ntmps61
      go_wp2_with fail
      refine (CX.out _).mono ?_
      rintro e w1 ⟨rfl, hb1⟩
      have B1 : Hid (w1.heap[w.heap.size]? = some (.cells (cells (ka, na, sa)) 23 (0, 0))) := Lib.hid ((hb1.block _ (by simp only [World.size_alloc]; omega)).trans ((heap_alloc_old _ _ (by simp)).trans (heap_alloc_new w _)))
      have R1 : Hid (w1.heap[w.heap.size + 1]? = some (.cells (cells nullT) 23 (0, 0))) := Lib.hid ((hb1.block _ (by simp)).trans (new_at _ _ _ (by simp)))
      have HL1 := Lib.hid (below_call (w := w) (by go_grown) hb1)
      clear hb1
      go_wp2_with (refine store23 rfl (.tmp 2) (.tmp 7) rfl w.heap.size (4, n, s) rfl rfl _ B1.out ?_; intro w2 hp; have HP := Lib.hid hp; clear hp; have a0 : w2.cell? ⟨w.heap.size, 0, none⟩ = some (.int .i64 4) := (cell_of_row w2 _ 0 _ _ _ HP.out.at').trans rfl; have a1 : w2.cell? ⟨w.heap.size, 1, none⟩ = some (.int .i64 n) := (cell_of_row w2 _ 1 _ _ _ HP.out.at').trans rfl; have a2 : w2.cell? ⟨w.heap.size, 2, none⟩ = some (.string s) := (cell_of_row w2 _ 2 _ _ _ HP.out.at').trans rfl; have R2 : Hid (w2.heap[w.heap.size + 1]? = some (.cells (cells nullT) 23 (0, 0))) := Lib.hid ((HP.out.keeps.block _ (lt_of_block R1.out) (by omega)).trans R1.out); have HL2 := Lib.hid (HP.out.low HL1.out (Nat.le_refl _)); have X2 := Lib.hid HP.out.at')
      go_wp2_with fail
      refine (CD.out _).mono ?_
      rintro e w3 ⟨rfl, hb3⟩
      have R3 : Hid (w3.heap[w.heap.size + 1]? = some (.cells (cells nullT) 23 (0, 0))) := Lib.hid ((hb3.block _ (lt_of_block R2.out)).trans R2.out)
      have X3 := Lib.hid ((hb3.block _ (lt_of_block X2.out)).trans X2.out)
      have HL3 := Lib.hid (below_call HL2.out hb3)
      clear hb3 a0 a1 a2
      go_wp2_with (first | (refine store120 rfl (.tmp 5) (.tmp 14) rfl w3.heap.size Y M D H I SS rfl rfl 0 0 0 0 0 0 (new_at _ _ _ rfl) ?_; intro w4 hp; have HD4 := Lib.hid hp; clear hp; have c0 : w4.cell? ⟨w3.heap.size, 0, none⟩ = some (.int .i64 Y) := (cell_of_row w4 _ 0 _ _ _ HD4.out.at').trans rfl; have c1 : w4.cell? ⟨w3.heap.size, 1, none⟩ = some (.int .i64 M) := (cell_of_row w4 _ 1 _ _ _ HD4.out.at').trans rfl; have c2 : w4.cell? ⟨w3.heap.size, 2, none⟩ = some (.int .i64 D) := (cell_of_row w4 _ 2 _ _ _ HD4.out.at').trans rfl; have c3 : w4.cell? ⟨w3.heap.size, 3, none⟩ = some (.int .i64 H) := (cell_of_row w4 _ 3 _ _ _ HD4.out.at').trans rfl; have c4 : w4.cell? ⟨w3.heap.size, 4, none⟩ = some (.int .i64 I) := (cell_of_row w4 _ 4 _ _ _ HD4.out.at').trans rfl; have c5 : w4.cell? ⟨w3.heap.size, 5, none⟩ = some (.int .i64 SS) := (cell_of_row w4 _ 5 _ _ _ HD4.out.at').trans rfl; have R4 : Hid (w4.heap[w.heap.size + 1]? = some (.cells (cells nullT) 23 (0, 0))) := Lib.hid ((HD4.out.keeps.block _ (by simp only [World.size_alloc]; have := lt_of_block R3.out; omega) (by have := lt_of_block R3.out; omega)).trans ((heap_alloc_old _ _ (lt_of_block R3.out)).trans R3.out)); have X4 : Hid (w4.heap[w.heap.size]? = some (.cells (cells (4, n, s)) 23 (0, 0))) := Lib.hid ((HD4.out.keeps.block _ (by simp only [World.size_alloc]; have := lt_of_block X3.out; omega) (by have := lt_of_block X3.out; omega)).trans ((heap_alloc_old _ _ (lt_of_block X3.out)).trans X3.out)); have HL4 := Lib.hid (HD4.out.below (HL3.out.alloc HL3.out.size _) HL3.out.size); have a0 : w4.cell? ⟨w.heap.size, 0, none⟩ = some (.int .i64 4) := (cell_of_row w4 _ 0 _ _ _ X4.out).trans rfl; have a1 : w4.cell? ⟨w.heap.size, 1, none⟩ = some (.int .i64 n) := (cell_of_row w4 _ 1 _ _ _ X4.out).trans rfl; have a2 : w4.cell? ⟨w.heap.size, 2, none⟩ = some (.string s) := (cell_of_row w4 _ 2 _ _ _ X4.out).trans rfl) | (refine store23 rfl (.tmp 4) (.tmp 18) rfl (w.heap.size + 1) (4, n, s) rfl rfl _ R4.out ?_; intro wy hp; have HQ := Lib.hid hp; clear hp))
      exact bodyPost_ret (ret23 rfl rfl HQ.out.at') rfl ⟨by rw [HE.out], HQ.out.low HL4.out (by omega)⟩
    · have HE : Hid (R = datedT Y M D H I 0) := Lib.hid (by rw [hU]; simp)
      clear hU
      go_enter Tryz.func61, Tryz.ntmps61
      go_wp2_with fail
      refine (CX.out _).mono ?_
      rintro e w1 ⟨rfl, hb1⟩
      have B1 : Hid (w1.heap[w.heap.size]? = some (.cells (cells (ka, na, sa)) 23 (0, 0))) := Lib.hid ((hb1.block _ (by simp only [World.size_alloc]; omega)).trans ((heap_alloc_old _ _ (by simp)).trans (heap_alloc_new w _)))
      have R1 : Hid (w1.heap[w.heap.size + 1]? = some (.cells (cells nullT) 23 (0, 0))) := Lib.hid ((hb1.block _ (by simp)).trans (new_at _ _ _ (by simp)))
      have HL1 := Lib.hid (below_call (w := w) (by go_grown) hb1)
      clear hb1
      go_wp2_with (refine store23 rfl (.tmp 2) (.tmp 7) rfl w.heap.size (4, n, s) rfl rfl _ B1.out ?_; intro w2 hp; have HP := Lib.hid hp; clear hp; have a0 : w2.cell? ⟨w.heap.size, 0, none⟩ = some (.int .i64 4) := (cell_of_row w2 _ 0 _ _ _ HP.out.at').trans rfl; have a1 : w2.cell? ⟨w.heap.size, 1, none⟩ = some (.int .i64 n) := (cell_of_row w2 _ 1 _ _ _ HP.out.at').trans rfl; have a2 : w2.cell? ⟨w.heap.size, 2, none⟩ = some (.string s) := (cell_of_row w2 _ 2 _ _ _ HP.out.at').trans rfl; have R2 : Hid (w2.heap[w.heap.size + 1]? = some (.cells (cells nullT) 23 (0, 0))) := Lib.hid ((HP.out.keeps.block _ (lt_of_block R1.out) (by omega)).trans R1.out); have HL2 := Lib.hid (HP.out.low HL1.out (Nat.le_refl _)); have X2 := Lib.hid HP.out.at')
      go_wp2_with fail
      refine (CD.out _).mono ?_
      rintro e w3 ⟨rfl, hb3⟩
      have R3 : Hid (w3.heap[w.heap.size + 1]? = some (.cells (cells nullT) 23 (0, 0))) := Lib.hid ((hb3.block _ (lt_of_block R2.out)).trans R2.out)
      have X3 := Lib.hid ((hb3.block _ (lt_of_block X2.out)).trans X2.out)
      have HL3 := Lib.hid (below_call HL2.out hb3)
      clear hb3 a0 a1 a2
      go_wp2_with (refine store120 rfl (.tmp 5) (.tmp 14) rfl w3.heap.size Y M D H I SS rfl rfl 0 0 0 0 0 0 (new_at _ _ _ rfl) ?_; intro w4 hp; have HD4 := Lib.hid hp; clear hp; have c0 : w4.cell? ⟨w3.heap.size, 0, none⟩ = some (.int .i64 Y) := (cell_of_row w4 _ 0 _ _ _ HD4.out.at').trans rfl; have c1 : w4.cell? ⟨w3.heap.size, 1, none⟩ = some (.int .i64 M) := (cell_of_row w4 _ 1 _ _ _ HD4.out.at').trans rfl; have c2 : w4.cell? ⟨w3.heap.size, 2, none⟩ = some (.int .i64 D) := (cell_of_row w4 _ 2 _ _ _ HD4.out.at').trans rfl; have c3 : w4.cell? ⟨w3.heap.size, 3, none⟩ = some (.int .i64 H) := (cell_of_row w4 _ 3 _ _ _ HD4.out.at').trans rfl; have c4 : w4.cell? ⟨w3.heap.size, 4, none⟩ = some (.int .i64 I) := (cell_of_row w4 _ 4 _ _ _ HD4.out.at').trans rfl; have c5 : w4.cell? ⟨w3.heap.size, 5, none⟩ = some (.int .i64 SS) := (cell_of_row w4 _ 5 _ _ _ HD4.out.at').trans rfl; have R4 : Hid (w4.heap[w.heap.size + 1]? = some (.cells (cells nullT) 23 (0, 0))) := Lib.hid ((HD4.out.keeps.block _ (by simp only [World.size_alloc]; have := lt_of_block R3.out; omega) (by have := lt_of_block R3.out; omega)).trans ((heap_alloc_old _ _ (lt_of_block R3.out)).trans R3.out)); have X4 : Hid (w4.heap[w.heap.size]? = some (.cells (cells (4, n, s)) 23 (0, 0))) := Lib.hid ((HD4.out.keeps.block _ (by simp only [World.size_alloc]; have := lt_of_block X3.out; omega) (by have := lt_of_block X3.out; omega)).trans ((heap_alloc_old _ _ (lt_of_block X3.out)).trans X3.out)); have HL4 := Lib.hid (HD4.out.below (HL3.out.alloc HL3.out.size _) HL3.out.size))
      go_wp2_with fail
      refine (date_t _ _ _ _ _ _ _).mono ?_
      rintro e w5 ⟨rfl, hb5⟩
      have R5 : Hid (w5.heap[w.heap.size + 1]? = some (.cells (cells nullT) 23 (0, 0))) := Lib.hid ((hb5.block _ (lt_of_block R4.out)).trans R4.out)
      have X5 := Lib.hid ((hb5.block _ (lt_of_block X4.out)).trans X4.out)
      have HL5 := Lib.hid (below_call HL4.out hb5)
      clear hb5 c0 c1 c2 c3 c4 c5
      go_wp2_with (refine store23 rfl (.tmp 4) (.tmp 31) rfl (w.heap.size + 1) (datedT Y M D H I 0) rfl rfl _ R5.out ?_; intro wy hp; have HQ := Lib.hid hp; clear hp)
      exact bodyPost_ret (ret23 rfl rfl HQ.out.at') rfl ⟨by rw [HE.out], HQ.out.low HL5.out (by omega)⟩
    · have HE : Hid (R = datedT Y M D H 0 0) := Lib.hid (by rw [hU]; simp)
      clear hU
      go_enter Tryz.func61, Tryz.ntmps61
      go_wp2_with fail
      refine (CX.out _).mono ?_
      rintro e w1 ⟨rfl, hb1⟩
      have B1 : Hid (w1.heap[w.heap.size]? = some (.cells (cells (ka, na, sa)) 23 (0, 0))) := Lib.hid ((hb1.block _ (by simp only [World.size_alloc]; omega)).trans ((heap_alloc_old _ _ (by simp)).trans (heap_alloc_new w _)))
      have R1 : Hid (w1.heap[w.heap.size + 1]? = some (.cells (cells nullT) 23 (0, 0))) := Lib.hid ((hb1.block _ (by simp)).trans (new_at _ _ _ (by simp)))
      have HL1 := Lib.hid (below_call (w := w) (by go_grown) hb1)
      clear hb1
      go_wp2_with (refine store23 rfl (.tmp 2) (.tmp 7) rfl w.heap.size (4, n, s) rfl rfl _ B1.out ?_; intro w2 hp; have HP := Lib.hid hp; clear hp; have a0 : w2.cell? ⟨w.heap.size, 0, none⟩ = some (.int .i64 4) := (cell_of_row w2 _ 0 _ _ _ HP.out.at').trans rfl; have a1 : w2.cell? ⟨w.heap.size, 1, none⟩ = some (.int .i64 n) := (cell_of_row w2 _ 1 _ _ _ HP.out.at').trans rfl; have a2 : w2.cell? ⟨w.heap.size, 2, none⟩ = some (.string s) := (cell_of_row w2 _ 2 _ _ _ HP.out.at').trans rfl; have R2 : Hid (w2.heap[w.heap.size + 1]? = some (.cells (cells nullT) 23 (0, 0))) := Lib.hid ((HP.out.keeps.block _ (lt_of_block R1.out) (by omega)).trans R1.out); have HL2 := Lib.hid (HP.out.low HL1.out (Nat.le_refl _)); have X2 := Lib.hid HP.out.at')
      go_wp2_with fail
      refine (CD.out _).mono ?_
      rintro e w3 ⟨rfl, hb3⟩
      have R3 : Hid (w3.heap[w.heap.size + 1]? = some (.cells (cells nullT) 23 (0, 0))) := Lib.hid ((hb3.block _ (lt_of_block R2.out)).trans R2.out)
      have X3 := Lib.hid ((hb3.block _ (lt_of_block X2.out)).trans X2.out)
      have HL3 := Lib.hid (below_call HL2.out hb3)
      clear hb3 a0 a1 a2
      go_wp2_with (refine store120 rfl (.tmp 5) (.tmp 14) rfl w3.heap.size Y M D H I SS rfl rfl 0 0 0 0 0 0 (new_at _ _ _ rfl) ?_; intro w4 hp; have HD4 := Lib.hid hp; clear hp; have c0 : w4.cell? ⟨w3.heap.size, 0, none⟩ = some (.int .i64 Y) := (cell_of_row w4 _ 0 _ _ _ HD4.out.at').trans rfl; have c1 : w4.cell? ⟨w3.heap.size, 1, none⟩ = some (.int .i64 M) := (cell_of_row w4 _ 1 _ _ _ HD4.out.at').trans rfl; have c2 : w4.cell? ⟨w3.heap.size, 2, none⟩ = some (.int .i64 D) := (cell_of_row w4 _ 2 _ _ _ HD4.out.at').trans rfl; have c3 : w4.cell? ⟨w3.heap.size, 3, none⟩ = some (.int .i64 H) := (cell_of_row w4 _ 3 _ _ _ HD4.out.at').trans rfl; have c4 : w4.cell? ⟨w3.heap.size, 4, none⟩ = some (.int .i64 I) := (cell_of_row w4 _ 4 _ _ _ HD4.out.at').trans rfl; have c5 : w4.cell? ⟨w3.heap.size, 5, none⟩ = some (.int .i64 SS) := (cell_of_row w4 _ 5 _ _ _ HD4.out.at').trans rfl; have R4 : Hid (w4.heap[w.heap.size + 1]? = some (.cells (cells nullT) 23 (0, 0))) := Lib.hid ((HD4.out.keeps.block _ (by simp only [World.size_alloc]; have := lt_of_block R3.out; omega) (by have := lt_of_block R3.out; omega)).trans ((heap_alloc_old _ _ (lt_of_block R3.out)).trans R3.out)); have X4 : Hid (w4.heap[w.heap.size]? = some (.cells (cells (4, n, s)) 23 (0, 0))) := Lib.hid ((HD4.out.keeps.block _ (by simp only [World.size_alloc]; have := lt_of_block X3.out; omega) (by have := lt_of_block X3.out; omega)).trans ((heap_alloc_old _ _ (lt_of_block X3.out)).trans X3.out)); have HL4 := Lib.hid (HD4.out.below (HL3.out.alloc HL3.out.size _) HL3.out.size))
      go_wp2_with fail
      refine (date_t _ _ _ _ _ _ _).mono ?_
      rintro e w5 ⟨rfl, hb5⟩
      have R5 : Hid (w5.heap[w.heap.size + 1]? = some (.cells (cells nullT) 23 (0, 0))) := Lib.hid ((hb5.block _ (lt_of_block R4.out)).trans R4.out)
      have X5 := Lib.hid ((hb5.block _ (lt_of_block X4.out)).trans X4.out)
      have HL5 := Lib.hid (below_call HL4.out hb5)
      clear hb5 c0 c1 c2 c3 c4 c5
      go_wp2_with (refine store23 rfl (.tmp 4) (.tmp 42) rfl (w.heap.size + 1) (datedT Y M D H 0 0) rfl rfl _ R5.out ?_; intro wy hp; have HQ := Lib.hid hp; clear hp)
      exact bodyPost_ret (ret23 rfl rfl HQ.out.at') rfl ⟨by rw [HE.out], HQ.out.low HL5.out (by omega)⟩
    · have HE : Hid (R = datedT Y M D 0 0 0) := Lib.hid (by rw [hU]; simp)
      clear hU
      go_enter Tryz.func61, Tryz.ntmps61
      go_wp2_with fail
      refine (CX.out _).mono ?_
      rintro e w1 ⟨rfl, hb1⟩
      have B1 : Hid (w1.heap[w.heap.size]? = some (.cells (cells (ka, na, sa)) 23 (0, 0))) := Lib.hid ((hb1.block _ (by simp only [World.size_alloc]; omega)).trans ((heap_alloc_old _ _ (by simp)).trans (heap_alloc_new w _)))
      have R1 : Hid (w1.heap[w.heap.size + 1]? = some (.cells (cells nullT) 23 (0, 0))) := Lib.hid ((hb1.block _ (by simp)).trans (new_at _ _ _ (by simp)))
      have HL1 := Lib.hid (below_call (w := w) (by go_grown) hb1)
      clear hb1
      go_wp2_with (refine store23 rfl (.tmp 2) (.tmp 7) rfl w.heap.size (4, n, s) rfl rfl _ B1.out ?_; intro w2 hp; have HP := Lib.hid hp; clear hp; have a0 : w2.cell? ⟨w.heap.size, 0, none⟩ = some (.int .i64 4) := (cell_of_row w2 _ 0 _ _ _ HP.out.at').trans rfl; have a1 : w2.cell? ⟨w.heap.size, 1, none⟩ = some (.int .i64 n) := (cell_of_row w2 _ 1 _ _ _ HP.out.at').trans rfl; have a2 : w2.cell? ⟨w.heap.size, 2, none⟩ = some (.string s) := (cell_of_row w2 _ 2 _ _ _ HP.out.at').trans rfl; have R2 : Hid (w2.heap[w.heap.size + 1]? = some (.cells (cells nullT) 23 (0, 0))) := Lib.hid ((HP.out.keeps.block _ (lt_of_block R1.out) (by omega)).trans R1.out); have HL2 := Lib.hid (HP.out.low HL1.out (Nat.le_refl _)); have X2 := Lib.hid HP.out.at')
      go_wp2_with fail
      refine (CD.out _).mono ?_
      rintro e w3 ⟨rfl, hb3⟩
      have R3 : Hid (w3.heap[w.heap.size + 1]? = some (.cells (cells nullT) 23 (0, 0))) := Lib.hid ((hb3.block _ (lt_of_block R2.out)).trans R2.out)
      have X3 := Lib.hid ((hb3.block _ (lt_of_block X2.out)).trans X2.out)
      have HL3 := Lib.hid (below_call HL2.out hb3)
      clear hb3 a0 a1 a2
      go_wp2_with (refine store120 rfl (.tmp 5) (.tmp 14) rfl w3.heap.size Y M D H I SS rfl rfl 0 0 0 0 0 0 (new_at _ _ _ rfl) ?_; intro w4 hp; have HD4 := Lib.hid hp; clear hp; have c0 : w4.cell? ⟨w3.heap.size, 0, none⟩ = some (.int .i64 Y) := (cell_of_row w4 _ 0 _ _ _ HD4.out.at').trans rfl; have c1 : w4.cell? ⟨w3.heap.size, 1, none⟩ = some (.int .i64 M) := (cell_of_row w4 _ 1 _ _ _ HD4.out.at').trans rfl; have c2 : w4.cell? ⟨w3.heap.size, 2, none⟩ = some (.int .i64 D) := (cell_of_row w4 _ 2 _ _ _ HD4.out.at').trans rfl; have c3 : w4.cell? ⟨w3.heap.size, 3, none⟩ = some (.int .i64 H) := (cell_of_row w4 _ 3 _ _ _ HD4.out.at').trans rfl; have c4 : w4.cell? ⟨w3.heap.size, 4, none⟩ = some (.int .i64 I) := (cell_of_row w4 _ 4 _ _ _ HD4.out.at').trans rfl; have c5 : w4.cell? ⟨w3.heap.size, 5, none⟩ = some (.int .i64 SS) := (cell_of_row w4 _ 5 _ _ _ HD4.out.at').trans rfl; have R4 : Hid (w4.heap[w.heap.size + 1]? = some (.cells (cells nullT) 23 (0, 0))) := Lib.hid ((HD4.out.keeps.block _ (by simp only [World.size_alloc]; have := lt_of_block R3.out; omega) (by have := lt_of_block R3.out; omega)).trans ((heap_alloc_old _ _ (lt_of_block R3.out)).trans R3.out)); have X4 : Hid (w4.heap[w.heap.size]? = some (.cells (cells (4, n, s)) 23 (0, 0))) := Lib.hid ((HD4.out.keeps.block _ (by simp only [World.size_alloc]; have := lt_of_block X3.out; omega) (by have := lt_of_block X3.out; omega)).trans ((heap_alloc_old _ _ (lt_of_block X3.out)).trans X3.out)); have HL4 := Lib.hid (HD4.out.below (HL3.out.alloc HL3.out.size _) HL3.out.size))
      go_wp2_with fail
      refine (date_t _ _ _ _ _ _ _).mono ?_
      rintro e w5 ⟨rfl, hb5⟩
      have R5 : Hid (w5.heap[w.heap.size + 1]? = some (.cells (cells nullT) 23 (0, 0))) := Lib.hid ((hb5.block _ (lt_of_block R4.out)).trans R4.out)
      have X5 := Lib.hid ((hb5.block _ (lt_of_block X4.out)).trans X4.out)
      have HL5 := Lib.hid (below_call HL4.out hb5)
      clear hb5 c0 c1 c2 c3 c4 c5
      go_wp2_with (refine store23 rfl (.tmp 4) (.tmp 51) rfl (w.heap.size + 1) (datedT Y M D 0 0 0) rfl rfl _ R5.out ?_; intro wy hp; have HQ := Lib.hid hp; clear hp)
      exact bodyPost_ret (ret23 rfl rfl HQ.out.at') rfl ⟨by rw [HE.out], HQ.out.low HL5.out (by omega)⟩
    · have HE : Hid (R = datedT Y M 1 0 0 0) := Lib.hid (by rw [hU]; simp)
      clear hU
      go_enter Tryz.func61, Tryz.ntmps61
      go_wp2_with fail
      refine (CX.out _).mono ?_
      rintro e w1 ⟨rfl, hb1⟩
      have B1 : Hid (w1.heap[w.heap.size]? = some (.cells (cells (ka, na, sa)) 23 (0, 0))) := Lib.hid ((hb1.block _ (by simp only [World.size_alloc]; omega)).trans ((heap_alloc_old _ _ (by simp)).trans (heap_alloc_new w _)))
      have R1 : Hid (w1.heap[w.heap.size + 1]? = some (.cells (cells nullT) 23 (0, 0))) := Lib.hid ((hb1.block _ (by simp)).trans (new_at _ _ _ (by simp)))
      have HL1 := Lib.hid (below_call (w := w) (by go_grown) hb1)
      clear hb1
      go_wp2_with (refine store23 rfl (.tmp 2) (.tmp 7) rfl w.heap.size (4, n, s) rfl rfl _ B1.out ?_; intro w2 hp; have HP := Lib.hid hp; clear hp; have a0 : w2.cell? ⟨w.heap.size, 0, none⟩ = some (.int .i64 4) := (cell_of_row w2 _ 0 _ _ _ HP.out.at').trans rfl; have a1 : w2.cell? ⟨w.heap.size, 1, none⟩ = some (.int .i64 n) := (cell_of_row w2 _ 1 _ _ _ HP.out.at').trans rfl; have a2 : w2.cell? ⟨w.heap.size, 2, none⟩ = some (.string s) := (cell_of_row w2 _ 2 _ _ _ HP.out.at').trans rfl; have R2 : Hid (w2.heap[w.heap.size + 1]? = some (.cells (cells nullT) 23 (0, 0))) := Lib.hid ((HP.out.keeps.block _ (lt_of_block R1.out) (by omega)).trans R1.out); have HL2 := Lib.hid (HP.out.low HL1.out (Nat.le_refl _)); have X2 := Lib.hid HP.out.at')
      go_wp2_with fail
      refine (CD.out _).mono ?_
      rintro e w3 ⟨rfl, hb3⟩
      have R3 : Hid (w3.heap[w.heap.size + 1]? = some (.cells (cells nullT) 23 (0, 0))) := Lib.hid ((hb3.block _ (lt_of_block R2.out)).trans R2.out)
      have X3 := Lib.hid ((hb3.block _ (lt_of_block X2.out)).trans X2.out)
      have HL3 := Lib.hid (below_call HL2.out hb3)
      clear hb3 a0 a1 a2
      go_wp2_with (refine store120 rfl (.tmp 5) (.tmp 14) rfl w3.heap.size Y M D H I SS rfl rfl 0 0 0 0 0 0 (new_at _ _ _ rfl) ?_; intro w4 hp; have HD4 := Lib.hid hp; clear hp; have c0 : w4.cell? ⟨w3.heap.size, 0, none⟩ = some (.int .i64 Y) := (cell_of_row w4 _ 0 _ _ _ HD4.out.at').trans rfl; have c1 : w4.cell? ⟨w3.heap.size, 1, none⟩ = some (.int .i64 M) := (cell_of_row w4 _ 1 _ _ _ HD4.out.at').trans rfl; have c2 : w4.cell? ⟨w3.heap.size, 2, none⟩ = some (.int .i64 D) := (cell_of_row w4 _ 2 _ _ _ HD4.out.at').trans rfl; have c3 : w4.cell? ⟨w3.heap.size, 3, none⟩ = some (.int .i64 H) := (cell_of_row w4 _ 3 _ _ _ HD4.out.at').trans rfl; have c4 : w4.cell? ⟨w3.heap.size, 4, none⟩ = some (.int .i64 I) := (cell_of_row w4 _ 4 _ _ _ HD4.out.at').trans rfl; have c5 : w4.cell? ⟨w3.heap.size, 5, none⟩ = some (.int .i64 SS) := (cell_of_row w4 _ 5 _ _ _ HD4.out.at').trans rfl; have R4 : Hid (w4.heap[w.heap.size + 1]? = some (.cells (cells nullT) 23 (0, 0))) := Lib.hid ((HD4.out.keeps.block _ (by simp only [World.size_alloc]; have := lt_of_block R3.out; omega) (by have := lt_of_block R3.out; omega)).trans ((heap_alloc_old _ _ (lt_of_block R3.out)).trans R3.out)); have X4 : Hid (w4.heap[w.heap.size]? = some (.cells (cells (4, n, s)) 23 (0, 0))) := Lib.hid ((HD4.out.keeps.block _ (by simp only [World.size_alloc]; have := lt_of_block X3.out; omega) (by have := lt_of_block X3.out; omega)).trans ((heap_alloc_old _ _ (lt_of_block X3.out)).trans X3.out)); have HL4 := Lib.hid (HD4.out.below (HL3.out.alloc HL3.out.size _) HL3.out.size))
      go_wp2_with fail
      refine (date_t _ _ _ _ _ _ _).mono ?_
      rintro e w5 ⟨rfl, hb5⟩
      have R5 : Hid (w5.heap[w.heap.size + 1]? = some (.cells (cells nullT) 23 (0, 0))) := Lib.hid ((hb5.block _ (lt_of_block R4.out)).trans R4.out)
      have X5 := Lib.hid ((hb5.block _ (lt_of_block X4.out)).trans X4.out)
      have HL5 := Lib.hid (below_call HL4.out hb5)
      clear hb5 c0 c1 c2 c3 c4 c5
      go_wp2_with (refine store23 rfl (.tmp 4) (.tmp 58) rfl (w.heap.size + 1) (datedT Y M 1 0 0 0) rfl rfl _ R5.out ?_; intro wy hp; have HQ := Lib.hid hp; clear hp)
      exact bodyPost_ret (ret23 rfl rfl HQ.out.at') rfl ⟨by rw [HE.out], HQ.out.low HL5.out (by omega)⟩
    · have HE : Hid (R = datedT Y 1 1 0 0 0) := Lib.hid (by rw [hU]; simp)
      clear hU
      go_enter Tryz.func61, Tryz.ntmps61
      go_wp2_with fail
      refine (CX.out _).mono ?_
      rintro e w1 ⟨rfl, hb1⟩
      have B1 : Hid (w1.heap[w.heap.size]? = some (.cells (cells (ka, na, sa)) 23 (0, 0))) := Lib.hid ((hb1.block _ (by simp only [World.size_alloc]; omega)).trans ((heap_alloc_old _ _ (by simp)).trans (heap_alloc_new w _)))
      have R1 : Hid (w1.heap[w.heap.size + 1]? = some (.cells (cells nullT) 23 (0, 0))) := Lib.hid ((hb1.block _ (by simp)).trans (new_at _ _ _ (by simp)))
      have HL1 := Lib.hid (below_call (w := w) (by go_grown) hb1)
      clear hb1
      go_wp2_with (refine store23 rfl (.tmp 2) (.tmp 7) rfl w.heap.size (4, n, s) rfl rfl _ B1.out ?_; intro w2 hp; have HP := Lib.hid hp; clear hp; have a0 : w2.cell? ⟨w.heap.size, 0, none⟩ = some (.int .i64 4) := (cell_of_row w2 _ 0 _ _ _ HP.out.at').trans rfl; have a1 : w2.cell? ⟨w.heap.size, 1, none⟩ = some (.int .i64 n) := (cell_of_row w2 _ 1 _ _ _ HP.out.at').trans rfl; have a2 : w2.cell? ⟨w.heap.size, 2, none⟩ = some (.string s) := (cell_of_row w2 _ 2 _ _ _ HP.out.at').trans rfl; have R2 : Hid (w2.heap[w.heap.size + 1]? = some (.cells (cells nullT) 23 (0, 0))) := Lib.hid ((HP.out.keeps.block _ (lt_of_block R1.out) (by omega)).trans R1.out); have HL2 := Lib.hid (HP.out.low HL1.out (Nat.le_refl _)); have X2 := Lib.hid HP.out.at')
      go_wp2_with fail
      refine (CD.out _).mono ?_
      rintro e w3 ⟨rfl, hb3⟩
      have R3 : Hid (w3.heap[w.heap.size + 1]? = some (.cells (cells nullT) 23 (0, 0))) := Lib.hid ((hb3.block _ (lt_of_block R2.out)).trans R2.out)
      have X3 := Lib.hid ((hb3.block _ (lt_of_block X2.out)).trans X2.out)
      have HL3 := Lib.hid (below_call HL2.out hb3)
      clear hb3 a0 a1 a2
      go_wp2_with (refine store120 rfl (.tmp 5) (.tmp 14) rfl w3.heap.size Y M D H I SS rfl rfl 0 0 0 0 0 0 (new_at _ _ _ rfl) ?_; intro w4 hp; have HD4 := Lib.hid hp; clear hp; have c0 : w4.cell? ⟨w3.heap.size, 0, none⟩ = some (.int .i64 Y) := (cell_of_row w4 _ 0 _ _ _ HD4.out.at').trans rfl; have c1 : w4.cell? ⟨w3.heap.size, 1, none⟩ = some (.int .i64 M) := (cell_of_row w4 _ 1 _ _ _ HD4.out.at').trans rfl; have c2 : w4.cell? ⟨w3.heap.size, 2, none⟩ = some (.int .i64 D) := (cell_of_row w4 _ 2 _ _ _ HD4.out.at').trans rfl; have c3 : w4.cell? ⟨w3.heap.size, 3, none⟩ = some (.int .i64 H) := (cell_of_row w4 _ 3 _ _ _ HD4.out.at').trans rfl; have c4 : w4.cell? ⟨w3.heap.size, 4, none⟩ = some (.int .i64 I) := (cell_of_row w4 _ 4 _ _ _ HD4.out.at').trans rfl; have c5 : w4.cell? ⟨w3.heap.size, 5, none⟩ = some (.int .i64 SS) := (cell_of_row w4 _ 5 _ _ _ HD4.out.at').trans rfl; have R4 : Hid (w4.heap[w.heap.size + 1]? = some (.cells (cells nullT) 23 (0, 0))) := Lib.hid ((HD4.out.keeps.block _ (by simp only [World.size_alloc]; have := lt_of_block R3.out; omega) (by have := lt_of_block R3.out; omega)).trans ((heap_alloc_old _ _ (lt_of_block R3.out)).trans R3.out)); have X4 : Hid (w4.heap[w.heap.size]? = some (.cells (cells (4, n, s)) 23 (0, 0))) := Lib.hid ((HD4.out.keeps.block _ (by simp only [World.size_alloc]; have := lt_of_block X3.out; omega) (by have := lt_of_block X3.out; omega)).trans ((heap_alloc_old _ _ (lt_of_block X3.out)).trans X3.out)); have HL4 := Lib.hid (HD4.out.below (HL3.out.alloc HL3.out.size _) HL3.out.size))
      go_wp2_with fail
      refine (date_t _ _ _ _ _ _ _).mono ?_
      rintro e w5 ⟨rfl, hb5⟩
      have R5 : Hid (w5.heap[w.heap.size + 1]? = some (.cells (cells nullT) 23 (0, 0))) := Lib.hid ((hb5.block _ (lt_of_block R4.out)).trans R4.out)
      have X5 := Lib.hid ((hb5.block _ (lt_of_block X4.out)).trans X4.out)
      have HL5 := Lib.hid (below_call HL4.out hb5)
      clear hb5 c0 c1 c2 c3 c4 c5
      go_wp2_with (refine store23 rfl (.tmp 4) (.tmp 63) rfl (w.heap.size + 1) (datedT Y 1 1 0 0 0) rfl rfl _ R5.out ?_; intro wy hp; have HQ := Lib.hid hp; clear hp)
      exact bodyPost_ret (ret23 rfl rfl HQ.out.at') rfl ⟨by rw [HE.out], HQ.out.low HL5.out (by omega)⟩
    · have HE : Hid (R = nullT) := Lib.hid (by rw [hU]; simp [u1, u2, u3, u4, u5, u6])
      clear hU
      have q1 : (u == 1) = false := by simpa using u1
      have q2 : (u == 2) = false := by simpa using u2
      have q3 : (u == 3) = false := by simpa using u3
      have q4 : (u == 4) = false := by simpa using u4
      have q5 : (u == 5) = false := by simpa using u5
      have q6 : (u == 6) = false := by simpa using u6
      go_enter Tryz.func61, Tryz.ntmps61
      go_wp2_with fail
      refine (CX.out _).mono ?_
      rintro e w1 ⟨rfl, hb1⟩
      have B1 : Hid (w1.heap[w.heap.size]? = some (.cells (cells (ka, na, sa)) 23 (0, 0))) := Lib.hid ((hb1.block _ (by simp only [World.size_alloc]; omega)).trans ((heap_alloc_old _ _ (by simp)).trans (heap_alloc_new w _)))
      have R1 : Hid (w1.heap[w.heap.size + 1]? = some (.cells (cells nullT) 23 (0, 0))) := Lib.hid ((hb1.block _ (by simp)).trans (new_at _ _ _ (by simp)))
      have HL1 := Lib.hid (below_call (w := w) (by go_grown) hb1)
      clear hb1
      go_wp2_with (refine store23 rfl (.tmp 2) (.tmp 7) rfl w.heap.size (4, n, s) rfl rfl _ B1.out ?_; intro w2 hp; have HP := Lib.hid hp; clear hp; have a0 : w2.cell? ⟨w.heap.size, 0, none⟩ = some (.int .i64 4) := (cell_of_row w2 _ 0 _ _ _ HP.out.at').trans rfl; have a1 : w2.cell? ⟨w.heap.size, 1, none⟩ = some (.int .i64 n) := (cell_of_row w2 _ 1 _ _ _ HP.out.at').trans rfl; have a2 : w2.cell? ⟨w.heap.size, 2, none⟩ = some (.string s) := (cell_of_row w2 _ 2 _ _ _ HP.out.at').trans rfl; have R2 : Hid (w2.heap[w.heap.size + 1]? = some (.cells (cells nullT) 23 (0, 0))) := Lib.hid ((HP.out.keeps.block _ (lt_of_block R1.out) (by omega)).trans R1.out); have HL2 := Lib.hid (HP.out.low HL1.out (Nat.le_refl _)); have X2 := Lib.hid HP.out.at')
      go_wp2_with fail
      refine (CD.out _).mono ?_
      rintro e w3 ⟨rfl, hb3⟩
      have R3 : Hid (w3.heap[w.heap.size + 1]? = some (.cells (cells nullT) 23 (0, 0))) := Lib.hid ((hb3.block _ (lt_of_block R2.out)).trans R2.out)
      have X3 := Lib.hid ((hb3.block _ (lt_of_block X2.out)).trans X2.out)
      have HL3 := Lib.hid (below_call HL2.out hb3)
      clear hb3 a0 a1 a2
      go_wp2_with (first | (refine store120 rfl (.tmp 5) (.tmp 14) rfl w3.heap.size Y M D H I SS rfl rfl 0 0 0 0 0 0 (new_at _ _ _ rfl) ?_; intro w4 hp; have HD4 := Lib.hid hp; clear hp; have c0 : w4.cell? ⟨w3.heap.size, 0, none⟩ = some (.int .i64 Y) := (cell_of_row w4 _ 0 _ _ _ HD4.out.at').trans rfl; have c1 : w4.cell? ⟨w3.heap.size, 1, none⟩ = some (.int .i64 M) := (cell_of_row w4 _ 1 _ _ _ HD4.out.at').trans rfl; have c2 : w4.cell? ⟨w3.heap.size, 2, none⟩ = some (.int .i64 D) := (cell_of_row w4 _ 2 _ _ _ HD4.out.at').trans rfl; have c3 : w4.cell? ⟨w3.heap.size, 3, none⟩ = some (.int .i64 H) := (cell_of_row w4 _ 3 _ _ _ HD4.out.at').trans rfl; have c4 : w4.cell? ⟨w3.heap.size, 4, none⟩ = some (.int .i64 I) := (cell_of_row w4 _ 4 _ _ _ HD4.out.at').trans rfl; have c5 : w4.cell? ⟨w3.heap.size, 5, none⟩ = some (.int .i64 SS) := (cell_of_row w4 _ 5 _ _ _ HD4.out.at').trans rfl; have R4 : Hid (w4.heap[w.heap.size + 1]? = some (.cells (cells nullT) 23 (0, 0))) := Lib.hid ((HD4.out.keeps.block _ (by simp only [World.size_alloc]; have := lt_of_block R3.out; omega) (by have := lt_of_block R3.out; omega)).trans ((heap_alloc_old _ _ (lt_of_block R3.out)).trans R3.out)); have X4 : Hid (w4.heap[w.heap.size]? = some (.cells (cells (4, n, s)) 23 (0, 0))) := Lib.hid ((HD4.out.keeps.block _ (by simp only [World.size_alloc]; have := lt_of_block X3.out; omega) (by have := lt_of_block X3.out; omega)).trans ((heap_alloc_old _ _ (lt_of_block X3.out)).trans X3.out)); have HL4 := Lib.hid (HD4.out.below (HL3.out.alloc HL3.out.size _) HL3.out.size)) | (refine store23 rfl (.tmp 4) (.tmp 64) rfl (w.heap.size + 1) nullT rfl rfl _ R4.out ?_; intro wy hp; have HQ := Lib.hid hp; clear hp))
      exact bodyPost_ret (ret23 rfl rfl HQ.out.at') rfl ⟨by rw [HE.out], HQ.out.low HL4.out (by omega)⟩
end YtabojeleomfgnaaGreatDoor
end Go.Proofs
namespace Go.Proofs
open Go.RowKit
namespace YtabojeleomfgnaaGreatDoor
set_option maxRecDepth 100000
theorem slice6_0 (g : Nat) (w : World) : (Instr.sliceAt 123 (.pointer (some ⟨g, 0, none⟩)) none (some (.int .i64 0)) none).run Tryz.prog w = .ok (.slice (some ⟨g, 0, none⟩) 0 6) w := by kernel_rfl
theorem slice6_1 (g : Nat) (w : World) : (Instr.sliceAt 123 (.pointer (some ⟨g, 0, none⟩)) none (some (.int .i64 1)) none).run Tryz.prog w = .ok (.slice (some ⟨g, 0, none⟩) 1 6) w := by kernel_rfl
theorem slice6_2 (g : Nat) (w : World) : (Instr.sliceAt 123 (.pointer (some ⟨g, 0, none⟩)) none (some (.int .i64 2)) none).run Tryz.prog w = .ok (.slice (some ⟨g, 0, none⟩) 2 6) w := by kernel_rfl
theorem slice6_3 (g : Nat) (w : World) : (Instr.sliceAt 123 (.pointer (some ⟨g, 0, none⟩)) none (some (.int .i64 3)) none).run Tryz.prog w = .ok (.slice (some ⟨g, 0, none⟩) 3 6) w := by kernel_rfl
theorem slice6_4 (g : Nat) (w : World) : (Instr.sliceAt 123 (.pointer (some ⟨g, 0, none⟩)) none (some (.int .i64 4)) none).run Tryz.prog w = .ok (.slice (some ⟨g, 0, none⟩) 4 6) w := by kernel_rfl
theorem slice6_5 (g : Nat) (w : World) : (Instr.sliceAt 123 (.pointer (some ⟨g, 0, none⟩)) none (some (.int .i64 5)) none).run Tryz.prog w = .ok (.slice (some ⟨g, 0, none⟩) 5 6) w := by kernel_rfl
theorem slice6_6 (g : Nat) (w : World) : (Instr.sliceAt 123 (.pointer (some ⟨g, 0, none⟩)) none (some (.int .i64 6)) none).run Tryz.prog w = .ok (.slice (some ⟨g, 0, none⟩) 6 6) w := by kernel_rfl
theorem slice6 (g v : Nat) (hv : v ≤ 6) (w : World) : (Instr.sliceAt 123 (.pointer (some ⟨g, 0, none⟩)) none (some (.int .i64 (v : Int))) none).run Tryz.prog w = .ok (.slice (some ⟨g, 0, none⟩) v 6) w := by
  rcases (by omega : v = 0 ∨ v = 1 ∨ v = 2 ∨ v = 3 ∨ v = 4 ∨ v = 5 ∨ v = 6) with rfl | rfl | rfl | rfl | rfl | rfl | rfl
  · exact slice6_0 g w
  · exact slice6_1 g w
  · exact slice6_2 g w
  · exact slice6_3 g w
  · exact slice6_4 g w
  · exact slice6_5 g w
  · exact slice6_6 g w
/-- the parts with the first j of them begun anew -/
def rowAt (a b c d e f : Int) : Nat → Array Value
  | 0 => six a b c d e f
  | 1 => six 0 b c d e f
  | 2 => six 0 0 c d e f
  | 3 => six 0 0 0 d e f
  | 4 => six 0 0 0 1 e f
  | _ => six 0 0 0 1 1 f
theorem in_or_out (u : Int) : (∃ v : Nat, v ≤ 5 ∧ u = (v : Int) + 1) ∨ (u < 1 ∨ 6 < u) := by
  rcases (by omega : (1 ≤ u ∧ u ≤ 6) ∨ (u < 1 ∨ 6 < u)) with h | h
  · exact Or.inl ⟨(u - 1).toNat, by omega, by omega⟩
  · exact Or.inr h
/-- the parts' box, the result's box -/
def Tq (g : Nat) (row : Array Value) (w0 w : World) : Prop :=
  w.heap[g]? = some (.cells row 123 (0, 0)) ∧ w.heap[w0.heap.size + 1]? = some (.cells (cells nullT) 23 (0, 0)) ∧ Below w0.heap.size w0 w
theorem Tq.puts {g : Nat} {row C D : Array Value} {w0 w w' : World} (h : Tq g row w0 w) (hg : w0.heap.size + 1 < g) (hp : Puts g C 123 w w') (hC : C = D) : Tq g D w0 w' := by
  subst hC
  exact ⟨hp.at', (hp.keeps.block _ (lt_of_block h.2.1) (by omega)).trans h.2.1, hp.below h.2.2 (by omega)⟩
theorem numT4 (n : Int) (h0 : 0 ≤ n) (h1 : n ≤ 253402300799) : numT 4 n = (4, n, ByteArray.empty) := by
  unfold numT clT
  rw [if_pos]
  simp [rightB, formedB, inRangeB, inB, ByteArray.toList_eq]
  omega
set_option maxHeartbeats 2000000 in
theorem rtrunc_t (x : V3) (u : Int) (hx : Sz x) (w : World) : Calls Tryz.prog 62 #[toV x, .int .i64 u] w fun e w' => e = .returned (toV (truncT (clT x) u)) ∧ Below w.heap.size w w' := by
  have CX := Lib.hid (fun w => right_t x hx w)
  have RX := Lib.hid (clT_right x)
  clear hx
  have HE := Lib.hid (show truncT (clT x) u = truncT (clT x) u from rfl)
  generalize hR : truncT (clT x) u = R at HE ⊢
  clear HE
  generalize clT x = X at *
  obtain ⟨ka, na, sa⟩ := x
  obtain ⟨K, n, s⟩ := X
  change Calls Tryz.prog 62 #[val ka na sa, .int .i64 u] w _
  change Hid (∀ w, Calls Tryz.prog 97 #[val ka na sa] w fun e w' => e = .returned (toV (K, n, s)) ∧ Below w.heap.size w w') at CX
  cases hk : (K != 4) with
  | true =>
    have HE : Hid (R = nullT) := Lib.hid (by rw [← hR]; unfold truncT; rw [hk]; rfl)
    clear hR RX
    go_enter Tryz.func62, Tryz.ntmps62
    go_wp2_with fail
    refine (CX.out _).mono ?_
    rintro e w1 ⟨rfl, hb1⟩
    have B1 : Hid (w1.heap[w.heap.size]? = some (.cells (cells (ka, na, sa)) 23 (0, 0))) := Lib.hid ((hb1.block _ (by simp only [World.size_alloc]; omega)).trans ((heap_alloc_old _ _ (by simp)).trans (heap_alloc_new w _)))
    have R1 : Hid (w1.heap[w.heap.size + 1]? = some (.cells (cells nullT) 23 (0, 0))) := Lib.hid ((hb1.block _ (by simp)).trans (new_at _ _ _ (by simp)))
    have HL1 := Lib.hid (below_call (w := w) (by go_grown) hb1)
    clear hb1
    go_wp2_with (first | (refine store23 rfl (.tmp 2) (.tmp 8) rfl w.heap.size (K, n, s) rfl rfl _ B1.out ?_; intro w2 hp; have HP := Lib.hid hp; clear hp; have a0 : w2.cell? ⟨w.heap.size, 0, none⟩ = some (.int .i64 K) := (cell_of_row w2 _ 0 _ _ _ HP.out.at').trans rfl; have a1 : w2.cell? ⟨w.heap.size, 1, none⟩ = some (.int .i64 n) := (cell_of_row w2 _ 1 _ _ _ HP.out.at').trans rfl; have a2 : w2.cell? ⟨w.heap.size, 2, none⟩ = some (.string s) := (cell_of_row w2 _ 2 _ _ _ HP.out.at').trans rfl; have R2 : Hid (w2.heap[w.heap.size + 1]? = some (.cells (cells nullT) 23 (0, 0))) := Lib.hid ((HP.out.keeps.block _ (lt_of_block R1.out) (by omega)).trans R1.out); have HL2 := Lib.hid (HP.out.low HL1.out (Nat.le_refl _)); have X2 := Lib.hid HP.out.at') | (refine store23 rfl (.tmp 4) (.tmp 17) rfl (w.heap.size + 1) nullT rfl rfl _ R2.out ?_; intro wy hp; have HQ := Lib.hid hp; clear hp))
    exact bodyPost_ret (ret23 rfl rfl HQ.out.at') rfl ⟨by rw [HE.out], HQ.out.low HL2.out (by omega)⟩
  | false =>
    have hk4 : K = 4 := by simpa using hk
    subst hk4
    clear hk
    obtain ⟨n0, n1, hs0⟩ := RX.out.moment rfl
    have CD := Lib.hid (fun w => parts_t n n0 n1 w)
    have hU : R = if u = 1 then (4, n, s) else if u = 2 then datedT (yOf n) (mOf n) (dOf n) (hourOf n) (minOf n) 0 else if u = 3 then datedT (yOf n) (mOf n) (dOf n) (hourOf n) 0 0 else if u = 4 then datedT (yOf n) (mOf n) (dOf n) 0 0 0 else if u = 5 then datedT (yOf n) (mOf n) 1 0 0 0 else if u = 6 then datedT (yOf n) 1 1 0 0 0 else nullT := by rw [← hR]; rfl
    have HB : Hid ((4, n, s) = datedT (yOf n) (mOf n) (dOf n) (hourOf n) (minOf n) (secOf n)) := Lib.hid (by rw [dated_back n n0 n1]; dsimp only at hs0; rw [hs0]; exact (numT4 n n0 n1).symm)
    clear hR RX n0 n1 hs0
    have CW := Lib.hid (fun w => rwithin_t u 1 6 w)
    generalize yOf n = Y at *
    generalize mOf n = M at *
    generalize dOf n = D at *
    generalize hourOf n = H at *
    generalize minOf n = I at *
    generalize secOf n = SS at *
    rcases (in_or_out u) with ⟨v, hv, rfl⟩ | hu
    · have hw : (decide (1 ≤ (v : Int) + 1) && decide ((v : Int) + 1 ≤ 6)) = true := by simp; omega
      rw [hw] at CW
      clear hw
      have HU := Lib.hid hU
      clear hU
      go_enter Tryz.func62, Tryz.ntmps62
      go_wp2_with fail
      refine (CX.out _).mono ?_
      rintro e w1 ⟨rfl, hb1⟩
      have B1 : Hid (w1.heap[w.heap.size]? = some (.cells (cells (ka, na, sa)) 23 (0, 0))) := Lib.hid ((hb1.block _ (by simp only [World.size_alloc]; omega)).trans ((heap_alloc_old _ _ (by simp)).trans (heap_alloc_new w _)))
      have R1 : Hid (w1.heap[w.heap.size + 1]? = some (.cells (cells nullT) 23 (0, 0))) := Lib.hid ((hb1.block _ (by simp)).trans (new_at _ _ _ (by simp)))
      have HL1 := Lib.hid (below_call (w := w) (by go_grown) hb1)
      clear hb1
      go_wp2_with (refine store23 rfl (.tmp 2) (.tmp 8) rfl w.heap.size (4, n, s) rfl rfl _ B1.out ?_; intro w2 hp; have HP := Lib.hid hp; clear hp; have a0 : w2.cell? ⟨w.heap.size, 0, none⟩ = some (.int .i64 4) := (cell_of_row w2 _ 0 _ _ _ HP.out.at').trans rfl; have a1 : w2.cell? ⟨w.heap.size, 1, none⟩ = some (.int .i64 n) := (cell_of_row w2 _ 1 _ _ _ HP.out.at').trans rfl; have a2 : w2.cell? ⟨w.heap.size, 2, none⟩ = some (.string s) := (cell_of_row w2 _ 2 _ _ _ HP.out.at').trans rfl; have R2 : Hid (w2.heap[w.heap.size + 1]? = some (.cells (cells nullT) 23 (0, 0))) := Lib.hid ((HP.out.keeps.block _ (lt_of_block R1.out) (by omega)).trans R1.out); have HL2 := Lib.hid (HP.out.low HL1.out (Nat.le_refl _)); have X2 := Lib.hid HP.out.at')
      go_wp2_with fail
      refine (CW.out _).mono ?_
      rintro e wx ⟨rfl, hwx⟩
      rw [hwx]
      clear hwx wx
      go_wp2_with fail
      refine (CD.out _).mono ?_
      rintro e w3 ⟨rfl, hb3⟩
      have R3 : Hid (w3.heap[w.heap.size + 1]? = some (.cells (cells nullT) 23 (0, 0))) := Lib.hid ((hb3.block _ (lt_of_block R2.out)).trans R2.out)
      have X3 := Lib.hid ((hb3.block _ (lt_of_block X2.out)).trans X2.out)
      have HL3 := Lib.hid (below_call HL2.out hb3)
      clear hb3 a0 a1 a2
      have sl := slice6 w3.heap.size v (by omega)
      have hg : Hid (w.heap.size + 1 < w3.heap.size) := Lib.hid (lt_of_block R3.out)
      go_wp2_with (refine store123 rfl (.tmp 5) (.tmp 20) rfl w3.heap.size SS I H D M Y rfl rfl 0 0 0 0 0 0 (new_at _ _ _ rfl) ?_; intro w4 hp; have T4 : Hid (Tq w3.heap.size (six SS I H D M Y) w w4) := Lib.hid ⟨hp.at', (hp.keeps.block _ (by simp only [World.size_alloc]; have := hg.out; omega) (by have := hg.out; omega)).trans ((heap_alloc_old _ _ hg.out).trans R3.out), hp.below (HL3.out.alloc HL3.out.size _) HL3.out.size⟩; clear hp)
      try simp only [Act.put]
      go_loopw [25] (fun i wr => ∃ j : Nat, j ≤ v ∧ i = .int .i64 j ∧ Hid (Tq w3.heap.size (rowAt SS I H D M Y j) w wr)) (fun i _ => v - (intOf i).toNat)
      case atStart => exact ⟨0, Nat.zero_le _, rfl, T4⟩
      case round =>
        obtain ⟨j, hj, rfl, hT⟩ := hrel
        rcases (by omega : j < v ∨ j = v) with hlt | rfl
        · rcases (by omega : j = 0 ∨ j = 1 ∨ j = 2 ∨ j = 3 ∨ j = 4) with rfl | rfl | rfl | rfl | rfl
          · change Hid (Tq w3.heap.size (six SS I H D M Y) w wr) at hT
            have c0 : wr.cell? ⟨w3.heap.size, 0, none⟩ = some (.int .i64 SS) := (cell_of_row wr _ 0 _ _ _ hT.out.1).trans rfl
            have c1 : wr.cell? ⟨w3.heap.size, 1, none⟩ = some (.int .i64 I) := (cell_of_row wr _ 1 _ _ _ hT.out.1).trans rfl
            have c2 : wr.cell? ⟨w3.heap.size, 2, none⟩ = some (.int .i64 H) := (cell_of_row wr _ 2 _ _ _ hT.out.1).trans rfl
            have c3 : wr.cell? ⟨w3.heap.size, 3, none⟩ = some (.int .i64 D) := (cell_of_row wr _ 3 _ _ _ hT.out.1).trans rfl
            have c4 : wr.cell? ⟨w3.heap.size, 4, none⟩ = some (.int .i64 M) := (cell_of_row wr _ 4 _ _ _ hT.out.1).trans rfl
            have c5 : wr.cell? ⟨w3.heap.size, 5, none⟩ = some (.int .i64 Y) := (cell_of_row wr _ 5 _ _ _ hT.out.1).trans rfl
            go_wp2_with (refine store_int rfl (.tmp 29) (.const (.int .i64 0)) rfl w3.heap.size 0 0 rfl rfl (six SS I H D M Y) 123 hT.out.1 (by simp) ?_; intro wn hp; have hN := Lib.hid (hT.out.puts (D := six 0 I H D M Y) hg.out hp rfl); clear hp)
            try simp only [Act.put]
            go_roundw
            case rel => exact ⟨1, by omega, by go_num, hN⟩
            case measure => simp [intOf]; omega
          · change Hid (Tq w3.heap.size (six 0 I H D M Y) w wr) at hT
            have c0 : wr.cell? ⟨w3.heap.size, 0, none⟩ = some (.int .i64 0) := (cell_of_row wr _ 0 _ _ _ hT.out.1).trans rfl
            have c1 : wr.cell? ⟨w3.heap.size, 1, none⟩ = some (.int .i64 I) := (cell_of_row wr _ 1 _ _ _ hT.out.1).trans rfl
            have c2 : wr.cell? ⟨w3.heap.size, 2, none⟩ = some (.int .i64 H) := (cell_of_row wr _ 2 _ _ _ hT.out.1).trans rfl
            have c3 : wr.cell? ⟨w3.heap.size, 3, none⟩ = some (.int .i64 D) := (cell_of_row wr _ 3 _ _ _ hT.out.1).trans rfl
            have c4 : wr.cell? ⟨w3.heap.size, 4, none⟩ = some (.int .i64 M) := (cell_of_row wr _ 4 _ _ _ hT.out.1).trans rfl
            have c5 : wr.cell? ⟨w3.heap.size, 5, none⟩ = some (.int .i64 Y) := (cell_of_row wr _ 5 _ _ _ hT.out.1).trans rfl
            go_wp2_with (refine store_int rfl (.tmp 29) (.const (.int .i64 0)) rfl w3.heap.size 1 0 rfl rfl (six 0 I H D M Y) 123 hT.out.1 (by simp) ?_; intro wn hp; have hN := Lib.hid (hT.out.puts (D := six 0 0 H D M Y) hg.out hp rfl); clear hp)
            try simp only [Act.put]
            go_roundw
            case rel => exact ⟨2, by omega, by go_num, hN⟩
            case measure => simp [intOf]; omega
          · change Hid (Tq w3.heap.size (six 0 0 H D M Y) w wr) at hT
            have c0 : wr.cell? ⟨w3.heap.size, 0, none⟩ = some (.int .i64 0) := (cell_of_row wr _ 0 _ _ _ hT.out.1).trans rfl
            have c1 : wr.cell? ⟨w3.heap.size, 1, none⟩ = some (.int .i64 0) := (cell_of_row wr _ 1 _ _ _ hT.out.1).trans rfl
            have c2 : wr.cell? ⟨w3.heap.size, 2, none⟩ = some (.int .i64 H) := (cell_of_row wr _ 2 _ _ _ hT.out.1).trans rfl
            have c3 : wr.cell? ⟨w3.heap.size, 3, none⟩ = some (.int .i64 D) := (cell_of_row wr _ 3 _ _ _ hT.out.1).trans rfl
            have c4 : wr.cell? ⟨w3.heap.size, 4, none⟩ = some (.int .i64 M) := (cell_of_row wr _ 4 _ _ _ hT.out.1).trans rfl
            have c5 : wr.cell? ⟨w3.heap.size, 5, none⟩ = some (.int .i64 Y) := (cell_of_row wr _ 5 _ _ _ hT.out.1).trans rfl
            go_wp2_with (refine store_int rfl (.tmp 29) (.const (.int .i64 0)) rfl w3.heap.size 2 0 rfl rfl (six 0 0 H D M Y) 123 hT.out.1 (by simp) ?_; intro wn hp; have hN := Lib.hid (hT.out.puts (D := six 0 0 0 D M Y) hg.out hp rfl); clear hp)
            try simp only [Act.put]
            go_roundw
            case rel => exact ⟨3, by omega, by go_num, hN⟩
            case measure => simp [intOf]; omega
          · change Hid (Tq w3.heap.size (six 0 0 0 D M Y) w wr) at hT
            have c0 : wr.cell? ⟨w3.heap.size, 0, none⟩ = some (.int .i64 0) := (cell_of_row wr _ 0 _ _ _ hT.out.1).trans rfl
            have c1 : wr.cell? ⟨w3.heap.size, 1, none⟩ = some (.int .i64 0) := (cell_of_row wr _ 1 _ _ _ hT.out.1).trans rfl
            have c2 : wr.cell? ⟨w3.heap.size, 2, none⟩ = some (.int .i64 0) := (cell_of_row wr _ 2 _ _ _ hT.out.1).trans rfl
            have c3 : wr.cell? ⟨w3.heap.size, 3, none⟩ = some (.int .i64 D) := (cell_of_row wr _ 3 _ _ _ hT.out.1).trans rfl
            have c4 : wr.cell? ⟨w3.heap.size, 4, none⟩ = some (.int .i64 M) := (cell_of_row wr _ 4 _ _ _ hT.out.1).trans rfl
            have c5 : wr.cell? ⟨w3.heap.size, 5, none⟩ = some (.int .i64 Y) := (cell_of_row wr _ 5 _ _ _ hT.out.1).trans rfl
            go_wp2_with (first | (refine store_int rfl (.tmp 29) (.const (.int .i64 0)) rfl w3.heap.size 3 0 rfl rfl (six 0 0 0 D M Y) 123 hT.out.1 (by simp) ?_; intro wm hp; have hM := Lib.hid (hT.out.puts (D := six 0 0 0 0 M Y) hg.out hp rfl); clear hp) | (refine store_int rfl (.tmp 37) (.const (.int .i64 1)) rfl w3.heap.size 3 1 rfl rfl (six 0 0 0 0 M Y) 123 hM.out.1 (by simp) ?_; intro wn hp; have hN := Lib.hid (hM.out.puts (D := six 0 0 0 1 M Y) hg.out hp rfl); clear hp))
            try simp only [Act.put]
            go_roundw
            case rel => exact ⟨4, by omega, by go_num, hN⟩
            case measure => simp [intOf]; omega
          · change Hid (Tq w3.heap.size (six 0 0 0 1 M Y) w wr) at hT
            have c0 : wr.cell? ⟨w3.heap.size, 0, none⟩ = some (.int .i64 0) := (cell_of_row wr _ 0 _ _ _ hT.out.1).trans rfl
            have c1 : wr.cell? ⟨w3.heap.size, 1, none⟩ = some (.int .i64 0) := (cell_of_row wr _ 1 _ _ _ hT.out.1).trans rfl
            have c2 : wr.cell? ⟨w3.heap.size, 2, none⟩ = some (.int .i64 0) := (cell_of_row wr _ 2 _ _ _ hT.out.1).trans rfl
            have c3 : wr.cell? ⟨w3.heap.size, 3, none⟩ = some (.int .i64 1) := (cell_of_row wr _ 3 _ _ _ hT.out.1).trans rfl
            have c4 : wr.cell? ⟨w3.heap.size, 4, none⟩ = some (.int .i64 M) := (cell_of_row wr _ 4 _ _ _ hT.out.1).trans rfl
            have c5 : wr.cell? ⟨w3.heap.size, 5, none⟩ = some (.int .i64 Y) := (cell_of_row wr _ 5 _ _ _ hT.out.1).trans rfl
            go_wp2_with (first | (refine store_int rfl (.tmp 29) (.const (.int .i64 0)) rfl w3.heap.size 4 0 rfl rfl (six 0 0 0 1 M Y) 123 hT.out.1 (by simp) ?_; intro wm hp; have hM := Lib.hid (hT.out.puts (D := six 0 0 0 1 0 Y) hg.out hp rfl); clear hp) | (refine store_int rfl (.tmp 37) (.const (.int .i64 1)) rfl w3.heap.size 4 1 rfl rfl (six 0 0 0 1 0 Y) 123 hM.out.1 (by simp) ?_; intro wn hp; have hN := Lib.hid (hM.out.puts (D := six 0 0 0 1 1 Y) hg.out hp rfl); clear hp))
            try simp only [Act.put]
            go_roundw
            case rel => exact ⟨5, by omega, by go_num, hN⟩
            case measure => simp [intOf]; omega
        · rcases (by omega : j = 0 ∨ j = 1 ∨ j = 2 ∨ j = 3 ∨ j = 4 ∨ j = 5) with rfl | rfl | rfl | rfl | rfl | rfl
          · change Hid (Tq w3.heap.size (six SS I H D M Y) w wr) at hT
            have HE : Hid (R = datedT Y M D H I SS) := Lib.hid (by rw [HU.out]; simp; exact HB.out)
            have c0 : wr.cell? ⟨w3.heap.size, 0, none⟩ = some (.int .i64 SS) := (cell_of_row wr _ 0 _ _ _ hT.out.1).trans rfl
            have c1 : wr.cell? ⟨w3.heap.size, 1, none⟩ = some (.int .i64 I) := (cell_of_row wr _ 1 _ _ _ hT.out.1).trans rfl
            have c2 : wr.cell? ⟨w3.heap.size, 2, none⟩ = some (.int .i64 H) := (cell_of_row wr _ 2 _ _ _ hT.out.1).trans rfl
            have c3 : wr.cell? ⟨w3.heap.size, 3, none⟩ = some (.int .i64 D) := (cell_of_row wr _ 3 _ _ _ hT.out.1).trans rfl
            have c4 : wr.cell? ⟨w3.heap.size, 4, none⟩ = some (.int .i64 M) := (cell_of_row wr _ 4 _ _ _ hT.out.1).trans rfl
            have c5 : wr.cell? ⟨w3.heap.size, 5, none⟩ = some (.int .i64 Y) := (cell_of_row wr _ 5 _ _ _ hT.out.1).trans rfl
            go_wp2_with fail
            refine (dated_t _ _ _ _ _ _ _).mono ?_
            rintro e w5 ⟨rfl, hb5⟩
            have R5 : Hid (w5.heap[w.heap.size + 1]? = some (.cells (cells nullT) 23 (0, 0))) := Lib.hid ((hb5.block _ (lt_of_block hT.out.2.1)).trans hT.out.2.1)
            have HL5 := Lib.hid (below_call hT.out.2.2 hb5)
            clear hb5 c0 c1 c2 c3 c4 c5
            go_wp2_with (refine store23 rfl (.tmp 4) (.tmp 51) rfl (w.heap.size + 1) (datedT Y M D H I SS) rfl rfl _ R5.out ?_; intro wy hp; have HQ := Lib.hid hp; clear hp)
            exact bodyPost_ret (ret23 rfl rfl HQ.out.at') rfl ⟨by rw [HE.out], HQ.out.low HL5.out (by omega)⟩
          · change Hid (Tq w3.heap.size (six 0 I H D M Y) w wr) at hT
            have HE : Hid (R = datedT Y M D H I 0) := Lib.hid (by rw [HU.out]; simp)
            have c0 : wr.cell? ⟨w3.heap.size, 0, none⟩ = some (.int .i64 0) := (cell_of_row wr _ 0 _ _ _ hT.out.1).trans rfl
            have c1 : wr.cell? ⟨w3.heap.size, 1, none⟩ = some (.int .i64 I) := (cell_of_row wr _ 1 _ _ _ hT.out.1).trans rfl
            have c2 : wr.cell? ⟨w3.heap.size, 2, none⟩ = some (.int .i64 H) := (cell_of_row wr _ 2 _ _ _ hT.out.1).trans rfl
            have c3 : wr.cell? ⟨w3.heap.size, 3, none⟩ = some (.int .i64 D) := (cell_of_row wr _ 3 _ _ _ hT.out.1).trans rfl
            have c4 : wr.cell? ⟨w3.heap.size, 4, none⟩ = some (.int .i64 M) := (cell_of_row wr _ 4 _ _ _ hT.out.1).trans rfl
            have c5 : wr.cell? ⟨w3.heap.size, 5, none⟩ = some (.int .i64 Y) := (cell_of_row wr _ 5 _ _ _ hT.out.1).trans rfl
            go_wp2_with fail
            refine (dated_t _ _ _ _ _ _ _).mono ?_
            rintro e w5 ⟨rfl, hb5⟩
            have R5 : Hid (w5.heap[w.heap.size + 1]? = some (.cells (cells nullT) 23 (0, 0))) := Lib.hid ((hb5.block _ (lt_of_block hT.out.2.1)).trans hT.out.2.1)
            have HL5 := Lib.hid (below_call hT.out.2.2 hb5)
            clear hb5 c0 c1 c2 c3 c4 c5
            go_wp2_with (refine store23 rfl (.tmp 4) (.tmp 51) rfl (w.heap.size + 1) (datedT Y M D H I 0) rfl rfl _ R5.out ?_; intro wy hp; have HQ := Lib.hid hp; clear hp)
            exact bodyPost_ret (ret23 rfl rfl HQ.out.at') rfl ⟨by rw [HE.out], HQ.out.low HL5.out (by omega)⟩
          · change Hid (Tq w3.heap.size (six 0 0 H D M Y) w wr) at hT
            have HE : Hid (R = datedT Y M D H 0 0) := Lib.hid (by rw [HU.out]; simp)
            have c0 : wr.cell? ⟨w3.heap.size, 0, none⟩ = some (.int .i64 0) := (cell_of_row wr _ 0 _ _ _ hT.out.1).trans rfl
            have c1 : wr.cell? ⟨w3.heap.size, 1, none⟩ = some (.int .i64 0) := (cell_of_row wr _ 1 _ _ _ hT.out.1).trans rfl
            have c2 : wr.cell? ⟨w3.heap.size, 2, none⟩ = some (.int .i64 H) := (cell_of_row wr _ 2 _ _ _ hT.out.1).trans rfl
            have c3 : wr.cell? ⟨w3.heap.size, 3, none⟩ = some (.int .i64 D) := (cell_of_row wr _ 3 _ _ _ hT.out.1).trans rfl
            have c4 : wr.cell? ⟨w3.heap.size, 4, none⟩ = some (.int .i64 M) := (cell_of_row wr _ 4 _ _ _ hT.out.1).trans rfl
            have c5 : wr.cell? ⟨w3.heap.size, 5, none⟩ = some (.int .i64 Y) := (cell_of_row wr _ 5 _ _ _ hT.out.1).trans rfl
            go_wp2_with fail
            refine (dated_t _ _ _ _ _ _ _).mono ?_
            rintro e w5 ⟨rfl, hb5⟩
            have R5 : Hid (w5.heap[w.heap.size + 1]? = some (.cells (cells nullT) 23 (0, 0))) := Lib.hid ((hb5.block _ (lt_of_block hT.out.2.1)).trans hT.out.2.1)
            have HL5 := Lib.hid (below_call hT.out.2.2 hb5)
            clear hb5 c0 c1 c2 c3 c4 c5
            go_wp2_with (refine store23 rfl (.tmp 4) (.tmp 51) rfl (w.heap.size + 1) (datedT Y M D H 0 0) rfl rfl _ R5.out ?_; intro wy hp; have HQ := Lib.hid hp; clear hp)
            exact bodyPost_ret (ret23 rfl rfl HQ.out.at') rfl ⟨by rw [HE.out], HQ.out.low HL5.out (by omega)⟩
          · change Hid (Tq w3.heap.size (six 0 0 0 D M Y) w wr) at hT
            have HE : Hid (R = datedT Y M D 0 0 0) := Lib.hid (by rw [HU.out]; simp)
            have c0 : wr.cell? ⟨w3.heap.size, 0, none⟩ = some (.int .i64 0) := (cell_of_row wr _ 0 _ _ _ hT.out.1).trans rfl
            have c1 : wr.cell? ⟨w3.heap.size, 1, none⟩ = some (.int .i64 0) := (cell_of_row wr _ 1 _ _ _ hT.out.1).trans rfl
            have c2 : wr.cell? ⟨w3.heap.size, 2, none⟩ = some (.int .i64 0) := (cell_of_row wr _ 2 _ _ _ hT.out.1).trans rfl
            have c3 : wr.cell? ⟨w3.heap.size, 3, none⟩ = some (.int .i64 D) := (cell_of_row wr _ 3 _ _ _ hT.out.1).trans rfl
            have c4 : wr.cell? ⟨w3.heap.size, 4, none⟩ = some (.int .i64 M) := (cell_of_row wr _ 4 _ _ _ hT.out.1).trans rfl
            have c5 : wr.cell? ⟨w3.heap.size, 5, none⟩ = some (.int .i64 Y) := (cell_of_row wr _ 5 _ _ _ hT.out.1).trans rfl
            go_wp2_with fail
            refine (dated_t _ _ _ _ _ _ _).mono ?_
            rintro e w5 ⟨rfl, hb5⟩
            have R5 : Hid (w5.heap[w.heap.size + 1]? = some (.cells (cells nullT) 23 (0, 0))) := Lib.hid ((hb5.block _ (lt_of_block hT.out.2.1)).trans hT.out.2.1)
            have HL5 := Lib.hid (below_call hT.out.2.2 hb5)
            clear hb5 c0 c1 c2 c3 c4 c5
            go_wp2_with (refine store23 rfl (.tmp 4) (.tmp 51) rfl (w.heap.size + 1) (datedT Y M D 0 0 0) rfl rfl _ R5.out ?_; intro wy hp; have HQ := Lib.hid hp; clear hp)
            exact bodyPost_ret (ret23 rfl rfl HQ.out.at') rfl ⟨by rw [HE.out], HQ.out.low HL5.out (by omega)⟩
          · change Hid (Tq w3.heap.size (six 0 0 0 1 M Y) w wr) at hT
            have HE : Hid (R = datedT Y M 1 0 0 0) := Lib.hid (by rw [HU.out]; simp)
            have c0 : wr.cell? ⟨w3.heap.size, 0, none⟩ = some (.int .i64 0) := (cell_of_row wr _ 0 _ _ _ hT.out.1).trans rfl
            have c1 : wr.cell? ⟨w3.heap.size, 1, none⟩ = some (.int .i64 0) := (cell_of_row wr _ 1 _ _ _ hT.out.1).trans rfl
            have c2 : wr.cell? ⟨w3.heap.size, 2, none⟩ = some (.int .i64 0) := (cell_of_row wr _ 2 _ _ _ hT.out.1).trans rfl
            have c3 : wr.cell? ⟨w3.heap.size, 3, none⟩ = some (.int .i64 1) := (cell_of_row wr _ 3 _ _ _ hT.out.1).trans rfl
            have c4 : wr.cell? ⟨w3.heap.size, 4, none⟩ = some (.int .i64 M) := (cell_of_row wr _ 4 _ _ _ hT.out.1).trans rfl
            have c5 : wr.cell? ⟨w3.heap.size, 5, none⟩ = some (.int .i64 Y) := (cell_of_row wr _ 5 _ _ _ hT.out.1).trans rfl
            go_wp2_with fail
            refine (dated_t _ _ _ _ _ _ _).mono ?_
            rintro e w5 ⟨rfl, hb5⟩
            have R5 : Hid (w5.heap[w.heap.size + 1]? = some (.cells (cells nullT) 23 (0, 0))) := Lib.hid ((hb5.block _ (lt_of_block hT.out.2.1)).trans hT.out.2.1)
            have HL5 := Lib.hid (below_call hT.out.2.2 hb5)
            clear hb5 c0 c1 c2 c3 c4 c5
            go_wp2_with (refine store23 rfl (.tmp 4) (.tmp 51) rfl (w.heap.size + 1) (datedT Y M 1 0 0 0) rfl rfl _ R5.out ?_; intro wy hp; have HQ := Lib.hid hp; clear hp)
            exact bodyPost_ret (ret23 rfl rfl HQ.out.at') rfl ⟨by rw [HE.out], HQ.out.low HL5.out (by omega)⟩
          · change Hid (Tq w3.heap.size (six 0 0 0 1 1 Y) w wr) at hT
            have HE : Hid (R = datedT Y 1 1 0 0 0) := Lib.hid (by rw [HU.out]; simp)
            have c0 : wr.cell? ⟨w3.heap.size, 0, none⟩ = some (.int .i64 0) := (cell_of_row wr _ 0 _ _ _ hT.out.1).trans rfl
            have c1 : wr.cell? ⟨w3.heap.size, 1, none⟩ = some (.int .i64 0) := (cell_of_row wr _ 1 _ _ _ hT.out.1).trans rfl
            have c2 : wr.cell? ⟨w3.heap.size, 2, none⟩ = some (.int .i64 0) := (cell_of_row wr _ 2 _ _ _ hT.out.1).trans rfl
            have c3 : wr.cell? ⟨w3.heap.size, 3, none⟩ = some (.int .i64 1) := (cell_of_row wr _ 3 _ _ _ hT.out.1).trans rfl
            have c4 : wr.cell? ⟨w3.heap.size, 4, none⟩ = some (.int .i64 1) := (cell_of_row wr _ 4 _ _ _ hT.out.1).trans rfl
            have c5 : wr.cell? ⟨w3.heap.size, 5, none⟩ = some (.int .i64 Y) := (cell_of_row wr _ 5 _ _ _ hT.out.1).trans rfl
            go_wp2_with fail
            refine (dated_t _ _ _ _ _ _ _).mono ?_
            rintro e w5 ⟨rfl, hb5⟩
            have R5 : Hid (w5.heap[w.heap.size + 1]? = some (.cells (cells nullT) 23 (0, 0))) := Lib.hid ((hb5.block _ (lt_of_block hT.out.2.1)).trans hT.out.2.1)
            have HL5 := Lib.hid (below_call hT.out.2.2 hb5)
            clear hb5 c0 c1 c2 c3 c4 c5
            go_wp2_with (refine store23 rfl (.tmp 4) (.tmp 51) rfl (w.heap.size + 1) (datedT Y 1 1 0 0 0) rfl rfl _ R5.out ?_; intro wy hp; have HQ := Lib.hid hp; clear hp)
            exact bodyPost_ret (ret23 rfl rfl HQ.out.at') rfl ⟨by rw [HE.out], HQ.out.low HL5.out (by omega)⟩
    · have HE : Hid (R = nullT) := Lib.hid (by rw [hU]; rw [if_neg (by omega), if_neg (by omega), if_neg (by omega), if_neg (by omega), if_neg (by omega), if_neg (by omega)])
      clear hU
      have hw : (decide (1 ≤ u) && decide (u ≤ 6)) = false := by rcases hu with h | h <;> simp <;> omega
      rw [hw] at CW
      clear hw hu
      go_enter Tryz.func62, Tryz.ntmps62
      go_wp2_with fail
      refine (CX.out _).mono ?_
      rintro e w1 ⟨rfl, hb1⟩
      have B1 : Hid (w1.heap[w.heap.size]? = some (.cells (cells (ka, na, sa)) 23 (0, 0))) := Lib.hid ((hb1.block _ (by simp only [World.size_alloc]; omega)).trans ((heap_alloc_old _ _ (by simp)).trans (heap_alloc_new w _)))
      have R1 : Hid (w1.heap[w.heap.size + 1]? = some (.cells (cells nullT) 23 (0, 0))) := Lib.hid ((hb1.block _ (by simp)).trans (new_at _ _ _ (by simp)))
      have HL1 := Lib.hid (below_call (w := w) (by go_grown) hb1)
      clear hb1
      go_wp2_with (refine store23 rfl (.tmp 2) (.tmp 8) rfl w.heap.size (4, n, s) rfl rfl _ B1.out ?_; intro w2 hp; have HP := Lib.hid hp; clear hp; have a0 : w2.cell? ⟨w.heap.size, 0, none⟩ = some (.int .i64 4) := (cell_of_row w2 _ 0 _ _ _ HP.out.at').trans rfl; have a1 : w2.cell? ⟨w.heap.size, 1, none⟩ = some (.int .i64 n) := (cell_of_row w2 _ 1 _ _ _ HP.out.at').trans rfl; have a2 : w2.cell? ⟨w.heap.size, 2, none⟩ = some (.string s) := (cell_of_row w2 _ 2 _ _ _ HP.out.at').trans rfl; have R2 : Hid (w2.heap[w.heap.size + 1]? = some (.cells (cells nullT) 23 (0, 0))) := Lib.hid ((HP.out.keeps.block _ (lt_of_block R1.out) (by omega)).trans R1.out); have HL2 := Lib.hid (HP.out.low HL1.out (Nat.le_refl _)); have X2 := Lib.hid HP.out.at')
      go_wp2_with fail
      refine (CW.out _).mono ?_
      rintro e wx ⟨rfl, hwx⟩
      rw [hwx]
      clear hwx wx
      go_wp2_with (refine store23 rfl (.tmp 4) (.tmp 17) rfl (w.heap.size + 1) nullT rfl rfl _ R2.out ?_; intro wy hp; have HQ := Lib.hid hp; clear hp)
      exact bodyPost_ret (ret23 rfl rfl HQ.out.at') rfl ⟨by rw [HE.out], HQ.out.low HL2.out (by omega)⟩
end YtabojeleomfgnaaGreatDoor
end Go.Proofs
