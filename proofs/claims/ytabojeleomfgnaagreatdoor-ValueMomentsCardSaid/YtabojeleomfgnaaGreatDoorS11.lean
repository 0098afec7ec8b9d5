/- ValueMoments: the law. -/
import Derived.Test.YtabojeleomfgnaaGreatDoorMp3
import Derived.Test.YtabojeleomfgnaaGreatDoorMp4
import Derived.Test.YtabojeleomfgnaaGreatDoorR1
import Derived.Test.YtabojeleomfgnaaGreatDoorS1
namespace Go.Proofs
open Go.RowKit
namespace YtabojeleomfgnaaGreatDoor
set_option maxRecDepth 100000
/-- the two values in their boxes, the stream's box -/
def Ms (x y : V3) (a : Option Addr) (len cap t : Nat) (w0 w : World) : Prop :=
  w.heap[w0.heap.size]? = some (.cells (cells x) 23 (0, 0)) ∧ w.heap[w0.heap.size + 1]? = some (.cells (cells y) 23 (0, 0)) ∧ Sm (w0.heap.size + 2) a len cap t w ∧ Below w0.heap.size w0 w
theorem Ms.below {x y : V3} {a : Option Addr} {len cap t : Nat} {w0 w w' : World} (h : Ms x y a len cap t w0 w) (hb : Below w.heap.size w w') : Ms x y a len cap t w0 w' :=
  ⟨(hb.block _ (lt_of_block h.1)).trans h.1, (hb.block _ (lt_of_block h.2.1)).trans h.2.1, h.2.2.1.below hb, below_call h.2.2.2 hb⟩
theorem Ms.drew {x y : V3} {a : Option Addr} {len cap t : Nat} {w0 w : World} (h : Ms x y a len cap t w0 w) : Ms x y a len cap t w0 w.drew := ⟨h.1, h.2.1, h.2.2.1, ⟨h.2.2.2.os, h.2.2.2.tape, h.2.2.2.output, h.2.2.2.size, h.2.2.2.block⟩⟩
theorem Ms.step {x y : V3} {a : Option Addr} {len cap t u : Nat} {w0 w w' : World} (h : Ms x y a len cap t w0 w) (hS : Sm (w0.heap.size + 2) a len cap u w') (hK : Keeps (w0.heap.size + 2) w w') : Ms x y a len cap u w0 w' :=
  ⟨(hK.block _ (lt_of_block h.1) (by omega)).trans h.1, (hK.block _ (lt_of_block h.2.1) (by omega)).trans h.2.1, hS, hK.os.trans h.2.2.2.os, hK.tape.trans h.2.2.2.tape, hK.output.trans h.2.2.2.output, Nat.le_trans h.2.2.2.size hK.size, fun k hk => (hK.block k (Nat.lt_of_lt_of_le hk h.2.2.2.size) (by omega)).trans (h.2.2.2.block k hk)⟩
theorem pick_ms {x y : V3} {a : Option Addr} {len cap t : Nat} {w0 w : World} (h : Ms x y a len cap t w0 w) (l : List Int) (n c : Nat) (hn : l.length = n) (h1 : 1 ≤ n) (h2 : n ≤ 1000) (ht : t ≤ 1000) (hl : len ≤ maxLen) (cs : Array Value) (hc : cs = (l.map (Value.int .i64)).toArray) :
    Calls Tryz.prog 56 #[.pointer (some ⟨w0.heap.size + 2, 0, none⟩), .slice (some ⟨w.heap.size, 0, none⟩) n c] (w.alloc (.cells cs 3)) fun e w' => ∃ r : Int, e = .returned (.int .i64 r) ∧ Ms x y a len cap (t + 1) w0 w' := by
  refine (pick_new (w0.heap.size + 2) a len cap t l n c hn h1 h2 ht hl cs hc w h.2.2.1).mono ?_
  rintro e w' ⟨r, rfl, hS, hK⟩
  exact ⟨r, rfl, h.step hS hK⟩
theorem range_ms {x y : V3} {a : Option Addr} {len cap t : Nat} {w0 w : World} (h : Ms x y a len cap t w0 w) (lo hi : Int) (h0 : lo ≤ hi) (h1 : -10000000 ≤ lo) (h2 : hi ≤ 10000000) (ht : t ≤ 1000) (hl : len ≤ maxLen) :
    Calls Tryz.prog 57 #[.pointer (some ⟨w0.heap.size + 2, 0, none⟩), .int .i64 lo, .int .i64 hi] w fun e w' => ∃ r : Int, e = .returned (.int .i64 r) ∧ Ms x y a len cap (t + 1) w0 w' := by
  refine (range_t (w0.heap.size + 2) a len cap t lo hi h0 h1 h2 ht hl w h.2.2.1).mono ?_
  rintro e w' ⟨r, rfl, hS, hK⟩
  exact ⟨r, rfl, h.step hS hK⟩
theorem int_ms {x y : V3} {a : Option Addr} {len cap t : Nat} {w0 w : World} (h : Ms x y a len cap t w0 w) (ht : t ≤ 900) (hl : len ≤ maxLen) :
    Calls Tryz.prog 58 #[.pointer (some ⟨w0.heap.size + 2, 0, none⟩)] w fun e w' => ∃ r : Int, e = .returned (.int .i64 r) ∧ Ms x y a len cap (t + 2) w0 w' := by
  refine (int_t (w0.heap.size + 2) a len cap t ht hl w h.2.2.1).mono ?_
  rintro e w' ⟨r, rfl, hS, hK⟩
  exact ⟨r, rfl, h.step hS hK⟩
theorem run_neguard23 (x : V3) (u v : Operand) (w : World) : (eqGuard BinOp.neq 23 u v (toV x) (toV x)).run Tryz.prog w = .ok () w := by
  obtain ⟨k, n, s⟩ := x
  show (eqGuard BinOp.neq 23 u v (val k n s) (val k n s)).run Tryz.prog w = _
  go_simp
theorem run_ne23 (x : V3) (w : World) : (binOp BinOp.neq 23 (toV x) (toV x)).run Tryz.prog w = .ok (.bool false) w := by
  obtain ⟨k, n, s⟩ := x
  show (binOp BinOp.neq 23 (val k n s) (val k n s)).run Tryz.prog w = _
  go_simp
theorem op_ne23 {a : Act} {o : Oper} {u v : Operand} {t : TypeId} (x : V3) (ho : o.op = .binOp .neq 23 u v t) (hu : a.eval u = toV x) (hv : a.eval v = toV x) (w : World) :
    (execOp a.eval o).run Tryz.prog w = .ok (.value (.bool false)) w := by
  unfold execOp
  simp only [ho, hu, hv]
  have h1 := run_neguard23 x u v w
  have h2 := run_ne23 x w
  simp [go_sem, h1, h2]
set_option maxHeartbeats 8000000 in
theorem law_moments (a : Option Addr) (len cap : Nat) (hl : len ≤ maxLen) (x y : V3) (hsx : Sz x) (hsy : Sz y) (w : World) (hI : IntsAt w a len) (ho : Ops w) :
    Calls Tryz.prog 11 #[.slice a len cap, toV x, toV y] w fun e w' => e = .returned (.bool true) ∧ Below w.heap.size w w' := by
  have HSX := Lib.hid hsx
  have HSY := Lib.hid hsy
  have HO := Lib.hid ho
  have HL := Lib.hid hl
  have CU1 := Lib.hid (fun u w => unit_t x u hsx w)
  have CU2 := Lib.hid (fun u w => runit_t x u hsx w)
  have CT1 := Lib.hid (fun u w => trunc_t x u hsx w)
  have CT2 := Lib.hid (fun u w => rtrunc_t x u hsx w)
  have CM1 := Lib.hid (fun w => months_t x y hsx hsy w)
  have CM2 := Lib.hid (fun w => later_t x y hsx hsy w)
  have CF1 := Lib.hid (fun r w => months_t x (2, r, ByteArray.empty) hsx (Nat.zero_le _) w)
  have CF2 := Lib.hid (fun r w => later_t x (2, r, ByteArray.empty) hsx (Nat.zero_le _) w)
  generalize laterT (clT x) (clT y) = RL at CM1 CM2
  have HIP := Lib.hid (hI.ip' (p := w.heap.size + 2) (by omega))
  clear hsx hsy ho hl hI
  obtain ⟨ka, na, sa⟩ := x
  obtain ⟨kb, nb, sb⟩ := y
  change Calls Tryz.prog 11 #[.slice a len cap, val ka na sa, val kb nb sb] w _
  have B0 : Below w.heap.size w (((w.alloc (.cells #[.int .i64 ka, .int .i64 na, .string sa] 23)).alloc (.cells #[.int .i64 kb, .int .i64 nb, .string sb] 23)).alloc (.cells #[.slice a len cap, .int .i64 0] 54)) := by go_grown
  have M0 : Hid (Ms (ka, na, sa) (kb, nb, sb) a len cap 0 w (((w.alloc (.cells #[.int .i64 ka, .int .i64 na, .string sa] 23)).alloc (.cells #[.int .i64 kb, .int .i64 nb, .string sb] 23)).alloc (.cells #[.slice a len cap, .int .i64 0] 54))) := Lib.hid ⟨(heap_alloc_old _ _ (by simp only [World.size_alloc]; omega)).trans ((heap_alloc_old _ _ (by simp)).trans (heap_alloc_new w _)), (heap_alloc_old _ _ (by simp)).trans (new_at _ _ _ (by simp)), ⟨new_at _ _ _ (by simp), HIP.out.keeps (Keeps.of_below B0)⟩, B0⟩
  clear B0 HIP
  go_enter Tryz.func11, Tryz.ntmps11
  go_wp2_with fail
  refine (range_ms M0.out _ _ (by omega) (by omega) (by omega) (by omega) HL.out).mono ?_
  rintro e w1 ⟨r1, rfl, hM1⟩
  have M1 := Lib.hid hM1
  clear hM1
  go_wp2_with fail
  refine (int_ms M1.out (by omega) HL.out).mono ?_
  rintro e w2 ⟨r2, rfl, hM2⟩
  have M2 := Lib.hid hM2
  clear hM2
  go_wp2_with fail
  refine (pick_ms M2.out [1969, 1970, 2000, 2024, 2100, 9999, 10000, r1, r2] 9 9 rfl (by omega) (by omega) (by omega) HL.out _ rfl).mono ?_
  rintro e w3 ⟨r3, rfl, hM3⟩
  have M3 := Lib.hid hM3
  clear hM3
  go_wp2_with fail
  refine (int_ms M3.out (by omega) HL.out).mono ?_
  rintro e w4 ⟨r4, rfl, hM4⟩
  have M4 := Lib.hid hM4
  clear hM4
  go_wp2_with fail
  refine (pick_ms M4.out [0, 1, 2, 2, 12, 13, r4] 7 7 rfl (by omega) (by omega) (by omega) HL.out _ rfl).mono ?_
  rintro e w5 ⟨r5, rfl, hM5⟩
  have M5 := Lib.hid hM5
  clear hM5
  go_wp2_with fail
  refine (pick_ms M5.out [0, 1, 28, 29, 30, 31, 32] 7 7 rfl (by omega) (by omega) (by omega) HL.out _ rfl).mono ?_
  rintro e w6 ⟨r6, rfl, hM6⟩
  have M6 := Lib.hid hM6
  clear hM6
  go_wp2_with fail
  refine (pick_ms M6.out [-1, 0, 23, 24] 4 4 rfl (by omega) (by omega) (by omega) HL.out _ rfl).mono ?_
  rintro e w7 ⟨r7, rfl, hM7⟩
  have M7 := Lib.hid hM7
  clear hM7
  go_wp2_with fail
  refine (pick_ms M7.out [-1, 0, 59, 60] 4 4 rfl (by omega) (by omega) (by omega) HL.out _ rfl).mono ?_
  rintro e w8 ⟨r8, rfl, hM8⟩
  have M8 := Lib.hid hM8
  clear hM8
  go_wp2_with fail
  refine (pick_ms M8.out [0, 59, 60] 3 3 rfl (by omega) (by omega) (by omega) HL.out _ rfl).mono ?_
  rintro e w9 ⟨r9, rfl, hM9⟩
  have M9 := Lib.hid hM9
  clear hM9
  go_wp2_with fail
  clear M0 M1 M2 M3 M4 M5 M6 M7 M8
  go_loopw [14] (fun i wr => ∃ u : Int, -1 ≤ u ∧ u ≤ 9 ∧ i = .int .i64 u ∧ Hid (Ms (ka, na, sa) (kb, nb, sb) a len cap 11 w wr)) (fun i _ => (9 - intOf i).toNat)
  case atStart => exact ⟨-1, by omega, by omega, rfl, M9⟩
  case round =>
    obtain ⟨u, u1, u2, rfl, hM⟩ := hrel
    by_cases hlt : u < 9
    · have CA := Lib.hid (CU1.out u)
      have CB := Lib.hid (CU2.out u)
      have CC := Lib.hid (CT1.out u)
      have CD := Lib.hid (CT2.out u)
      generalize unitT (clT (ka, na, sa)) u = RU at CA CB
      generalize truncT (clT (ka, na, sa)) u = RT at CC CD
      go_wp2_with fail
      refine region_all (Ms (ka, na, sa) (kb, nb, sb) a len cap 11 w) (by kernel_rfl) (by kernel_rfl) hM.out.drew ?_
      refine s_val (toV (ka, na, sa)) (by rfl) (run_load23 (.tmp 4) rfl (w.heap.size) _ rfl rfl (fun w h => h.1)) ?_
      simp only [Act.put, List.setIfInBounds_toArray, List.set_cons_zero, List.set_cons_succ]
      refine s_val (.int .i64 u) (by rfl) (fun w' _ => by rfl) ?_
      simp only [Act.put, List.setIfInBounds_toArray, List.set_cons_zero, List.set_cons_succ]
      refine s_call (toV RU) 59 #[toV (ka, na, sa), .int .i64 u] (by rfl) (fun w => by go_simp) (fun w' h => (CA.out w').mono fun e x hx => ⟨hx.1, h.below hx.2⟩) ?_
      simp only [Act.put, List.setIfInBounds_toArray, List.set_cons_zero, List.set_cons_succ]
      refine s_val (toV (ka, na, sa)) (by rfl) (run_load23 (.tmp 4) rfl (w.heap.size) _ rfl rfl (fun w h => h.1)) ?_
      simp only [Act.put, List.setIfInBounds_toArray, List.set_cons_zero, List.set_cons_succ]
      refine s_val (.int .i64 u) (by rfl) (fun w' _ => by rfl) ?_
      simp only [Act.put, List.setIfInBounds_toArray, List.set_cons_zero, List.set_cons_succ]
      refine s_call (toV RU) 60 #[toV (ka, na, sa), .int .i64 u] (by rfl) (fun w => by go_simp) (fun w' h => (CB.out w').mono fun e x hx => ⟨hx.1, h.below hx.2⟩) ?_
      simp only [Act.put, List.setIfInBounds_toArray, List.set_cons_zero, List.set_cons_succ]
      refine s_val (.bool false) (by rfl) (fun w' _ => op_ne23 RU rfl rfl rfl w') ?_
      simp only [Act.put, List.setIfInBounds_toArray, List.set_cons_zero, List.set_cons_succ]
      refine s_val (.bool false) (by rfl) (fun w' _ => by rfl) ?_
      simp only [Act.put, List.setIfInBounds_toArray, List.set_cons_zero, List.set_cons_succ]
      refine s_val (toV (ka, na, sa)) (by rfl) (run_load23 (.tmp 4) rfl (w.heap.size) _ rfl rfl (fun w h => h.1)) ?_
      simp only [Act.put, List.setIfInBounds_toArray, List.set_cons_zero, List.set_cons_succ]
      refine s_val (.int .i64 u) (by rfl) (fun w' _ => by rfl) ?_
      simp only [Act.put, List.setIfInBounds_toArray, List.set_cons_zero, List.set_cons_succ]
      refine s_call (toV RT) 61 #[toV (ka, na, sa), .int .i64 u] (by rfl) (fun w => by go_simp) (fun w' h => (CC.out w').mono fun e x hx => ⟨hx.1, h.below hx.2⟩) ?_
      simp only [Act.put, List.setIfInBounds_toArray, List.set_cons_zero, List.set_cons_succ]
      refine s_val (toV (ka, na, sa)) (by rfl) (run_load23 (.tmp 4) rfl (w.heap.size) _ rfl rfl (fun w h => h.1)) ?_
      simp only [Act.put, List.setIfInBounds_toArray, List.set_cons_zero, List.set_cons_succ]
      refine s_val (.int .i64 u) (by rfl) (fun w' _ => by rfl) ?_
      simp only [Act.put, List.setIfInBounds_toArray, List.set_cons_zero, List.set_cons_succ]
      refine s_call (toV RT) 62 #[toV (ka, na, sa), .int .i64 u] (by rfl) (fun w => by go_simp) (fun w' h => (CD.out w').mono fun e x hx => ⟨hx.1, h.below hx.2⟩) ?_
      simp only [Act.put, List.setIfInBounds_toArray, List.set_cons_zero, List.set_cons_succ]
      refine s_val (.bool false) (by rfl) (fun w' _ => op_ne23 RT rfl rfl rfl w') ?_
      simp only [Act.put, List.setIfInBounds_toArray, List.set_cons_zero, List.set_cons_succ]
      refine s_val (.bool false) (by rfl) (fun w' _ => by rfl) ?_
      simp only [Act.put, List.setIfInBounds_toArray, List.set_cons_zero, List.set_cons_succ]
      refine s_done ?_
      intro w10 hM10
      have M10 := Lib.hid hM10
      clear hM10 CA CB CC CD
      go_wp2_with fail
      go_roundw
      case rel => exact ⟨u + 1, by omega, by omega, by go_num, M10⟩
      case measure => simp [intOf]; omega
    · have hu : u = 9 := by omega
      subst hu
      clear u1 u2 hlt M9 CU1 CU2 CT1 CT2
      go_wp2_with fail
      refine (range_ms hM.out _ _ (by omega) (by omega) (by omega) (by omega) HL.out).mono ?_
      rintro e w10 ⟨r, rfl, hM10⟩
      have M10 := Lib.hid hM10
      clear hM10
      have CG := Lib.hid (CF1.out r)
      have CH := Lib.hid (CF2.out r)
      generalize laterT (clT (ka, na, sa)) (clT (2, r, ByteArray.empty)) = RF at CG CH
      have CDa := Lib.hid (fun w => date_t r3 r5 r6 r7 r8 r9 w)
      have CDb := Lib.hid (fun w => dated_t r3 r5 r6 r7 r8 r9 w)
      generalize datedT r3 r5 r6 r7 r8 r9 = RD at CDa CDb
      clear CF1 CF2
      go_wp2_with fail
      refine region_all (fun w' => Ms (ka, na, sa) (kb, nb, sb) a len cap 12 w w' ∧ w'.heap[w10.heap.size]? = some (.cells (cells (2, r, ByteArray.empty)) 23 (0, 0))) (by kernel_rfl) (by kernel_rfl) ⟨(M10.out.below ((Below.refl _ _).alloc (Nat.le_refl _) _)).drew, heap_alloc_new w10 _⟩ ?_
      refine s_call (.bool true) 17 #[] (by rfl) (fun w => by go_simp) (fun w' h => (values_true w' (HO.out.below h.1.2.2.2)).mono fun e x hx => ⟨hx.1, h.1.below hx.2, (hx.2.block _ (lt_of_block h.2)).trans h.2⟩) ?_
      simp only [Act.put, List.setIfInBounds_toArray, List.set_cons_zero, List.set_cons_succ]
      refine s_val (.bool true) (by rfl) (fun w' _ => by rfl) ?_
      simp only [Act.put, List.setIfInBounds_toArray, List.set_cons_zero, List.set_cons_succ]
      refine s_val (.int .i64 r3) (by rfl) (fun w' _ => by rfl) ?_
      simp only [Act.put, List.setIfInBounds_toArray, List.set_cons_zero, List.set_cons_succ]
      refine s_val (.int .i64 r5) (by rfl) (fun w' _ => by rfl) ?_
      simp only [Act.put, List.setIfInBounds_toArray, List.set_cons_zero, List.set_cons_succ]
      refine s_val (.int .i64 r6) (by rfl) (fun w' _ => by rfl) ?_
      simp only [Act.put, List.setIfInBounds_toArray, List.set_cons_zero, List.set_cons_succ]
      refine s_val (.int .i64 r7) (by rfl) (fun w' _ => by rfl) ?_
      simp only [Act.put, List.setIfInBounds_toArray, List.set_cons_zero, List.set_cons_succ]
      refine s_val (.int .i64 r8) (by rfl) (fun w' _ => by rfl) ?_
      simp only [Act.put, List.setIfInBounds_toArray, List.set_cons_zero, List.set_cons_succ]
      refine s_val (.int .i64 r9) (by rfl) (fun w' _ => by rfl) ?_
      simp only [Act.put, List.setIfInBounds_toArray, List.set_cons_zero, List.set_cons_succ]
      refine s_call (toV RD) 63 #[.int .i64 r3, .int .i64 r5, .int .i64 r6, .int .i64 r7, .int .i64 r8, .int .i64 r9] (by rfl) (fun w => by go_simp) (fun w' h => (CDa.out w').mono fun e x hx => ⟨hx.1, h.1.below hx.2, (hx.2.block _ (lt_of_block h.2)).trans h.2⟩) ?_
      simp only [Act.put, List.setIfInBounds_toArray, List.set_cons_zero, List.set_cons_succ]
      refine s_val (.int .i64 r3) (by rfl) (fun w' _ => by rfl) ?_
      simp only [Act.put, List.setIfInBounds_toArray, List.set_cons_zero, List.set_cons_succ]
      refine s_val (.int .i64 r5) (by rfl) (fun w' _ => by rfl) ?_
      simp only [Act.put, List.setIfInBounds_toArray, List.set_cons_zero, List.set_cons_succ]
      refine s_val (.int .i64 r6) (by rfl) (fun w' _ => by rfl) ?_
      simp only [Act.put, List.setIfInBounds_toArray, List.set_cons_zero, List.set_cons_succ]
      refine s_val (.int .i64 r7) (by rfl) (fun w' _ => by rfl) ?_
      simp only [Act.put, List.setIfInBounds_toArray, List.set_cons_zero, List.set_cons_succ]
      refine s_val (.int .i64 r8) (by rfl) (fun w' _ => by rfl) ?_
      simp only [Act.put, List.setIfInBounds_toArray, List.set_cons_zero, List.set_cons_succ]
      refine s_val (.int .i64 r9) (by rfl) (fun w' _ => by rfl) ?_
      simp only [Act.put, List.setIfInBounds_toArray, List.set_cons_zero, List.set_cons_succ]
      refine s_call (toV RD) 64 #[.int .i64 r3, .int .i64 r5, .int .i64 r6, .int .i64 r7, .int .i64 r8, .int .i64 r9] (by rfl) (fun w => by go_simp) (fun w' h => (CDb.out w').mono fun e x hx => ⟨hx.1, h.1.below hx.2, (hx.2.block _ (lt_of_block h.2)).trans h.2⟩) ?_
      simp only [Act.put, List.setIfInBounds_toArray, List.set_cons_zero, List.set_cons_succ]
      refine s_val (.bool true) (by rfl) (fun w' _ => (op_eq23 RD RD rfl rfl rfl w').trans (by simp)) ?_
      simp only [Act.put, List.setIfInBounds_toArray, List.set_cons_zero, List.set_cons_succ]
      refine s_val (.bool true) (by rfl) (fun w' _ => by rfl) ?_
      simp only [Act.put, List.setIfInBounds_toArray, List.set_cons_zero, List.set_cons_succ]
      refine s_val (.bool true) (by rfl) (fun w' _ => by rfl) ?_
      simp only [Act.put, List.setIfInBounds_toArray, List.set_cons_zero, List.set_cons_succ]
      refine s_val (toV (ka, na, sa)) (by rfl) (run_load23 (.tmp 4) rfl w.heap.size _ rfl rfl (fun w h => h.1.1)) ?_
      simp only [Act.put, List.setIfInBounds_toArray, List.set_cons_zero, List.set_cons_succ]
      refine s_val (toV (kb, nb, sb)) (by rfl) (run_load23 (.tmp 5) rfl (w.heap.size + 1) _ rfl rfl (fun w h => h.1.2.1)) ?_
      simp only [Act.put, List.setIfInBounds_toArray, List.set_cons_zero, List.set_cons_succ]
      refine s_call (toV RL) 65 #[toV (ka, na, sa), toV (kb, nb, sb)] (by rfl) (fun w => by go_simp) (fun w' h => (CM1.out w').mono fun e x hx => ⟨hx.1, h.1.below hx.2, (hx.2.block _ (lt_of_block h.2)).trans h.2⟩) ?_
      simp only [Act.put, List.setIfInBounds_toArray, List.set_cons_zero, List.set_cons_succ]
      refine s_val (toV (ka, na, sa)) (by rfl) (run_load23 (.tmp 4) rfl w.heap.size _ rfl rfl (fun w h => h.1.1)) ?_
      simp only [Act.put, List.setIfInBounds_toArray, List.set_cons_zero, List.set_cons_succ]
      refine s_val (toV (kb, nb, sb)) (by rfl) (run_load23 (.tmp 5) rfl (w.heap.size + 1) _ rfl rfl (fun w h => h.1.2.1)) ?_
      simp only [Act.put, List.setIfInBounds_toArray, List.set_cons_zero, List.set_cons_succ]
      refine s_call (toV RL) 66 #[toV (ka, na, sa), toV (kb, nb, sb)] (by rfl) (fun w => by go_simp) (fun w' h => (CM2.out w').mono fun e x hx => ⟨hx.1, h.1.below hx.2, (hx.2.block _ (lt_of_block h.2)).trans h.2⟩) ?_
      simp only [Act.put, List.setIfInBounds_toArray, List.set_cons_zero, List.set_cons_succ]
      refine s_val (.bool true) (by rfl) (fun w' _ => (op_eq23 RL RL rfl rfl rfl w').trans (by simp)) ?_
      simp only [Act.put, List.setIfInBounds_toArray, List.set_cons_zero, List.set_cons_succ]
      refine s_val (.bool true) (by rfl) (fun w' _ => by rfl) ?_
      simp only [Act.put, List.setIfInBounds_toArray, List.set_cons_zero, List.set_cons_succ]
      refine s_val (.bool true) (by rfl) (fun w' _ => by rfl) ?_
      simp only [Act.put, List.setIfInBounds_toArray, List.set_cons_zero, List.set_cons_succ]
      refine s_val (toV (ka, na, sa)) (by rfl) (run_load23 (.tmp 4) rfl w.heap.size _ rfl rfl (fun w h => h.1.1)) ?_
      simp only [Act.put, List.setIfInBounds_toArray, List.set_cons_zero, List.set_cons_succ]
      refine s_val (toV (2, r, ByteArray.empty)) (by rfl) (run_load23 (.tmp 15) rfl w10.heap.size _ rfl rfl (fun w h => h.2)) ?_
      simp only [Act.put, List.setIfInBounds_toArray, List.set_cons_zero, List.set_cons_succ]
      refine s_call (toV RF) 65 #[toV (ka, na, sa), toV (2, r, ByteArray.empty)] (by rfl) (fun w => by go_simp) (fun w' h => (CG.out w').mono fun e x hx => ⟨hx.1, h.1.below hx.2, (hx.2.block _ (lt_of_block h.2)).trans h.2⟩) ?_
      simp only [Act.put, List.setIfInBounds_toArray, List.set_cons_zero, List.set_cons_succ]
      refine s_val (toV (ka, na, sa)) (by rfl) (run_load23 (.tmp 4) rfl w.heap.size _ rfl rfl (fun w h => h.1.1)) ?_
      simp only [Act.put, List.setIfInBounds_toArray, List.set_cons_zero, List.set_cons_succ]
      refine s_val (toV (2, r, ByteArray.empty)) (by rfl) (run_load23 (.tmp 15) rfl w10.heap.size _ rfl rfl (fun w h => h.2)) ?_
      simp only [Act.put, List.setIfInBounds_toArray, List.set_cons_zero, List.set_cons_succ]
      refine s_call (toV RF) 66 #[toV (ka, na, sa), toV (2, r, ByteArray.empty)] (by rfl) (fun w => by go_simp) (fun w' h => (CH.out w').mono fun e x hx => ⟨hx.1, h.1.below hx.2, (hx.2.block _ (lt_of_block h.2)).trans h.2⟩) ?_
      simp only [Act.put, List.setIfInBounds_toArray, List.set_cons_zero, List.set_cons_succ]
      refine s_val (.bool true) (by rfl) (fun w' _ => (op_eq23 RF RF rfl rfl rfl w').trans (by simp)) ?_
      simp only [Act.put, List.setIfInBounds_toArray, List.set_cons_zero, List.set_cons_succ]
      refine s_val (.bool true) (by rfl) (fun w' _ => by rfl) ?_
      simp only [Act.put, List.setIfInBounds_toArray, List.set_cons_zero, List.set_cons_succ]
      refine s_val (.bool true) (by rfl) (fun w' _ => by rfl) ?_
      simp only [Act.put, List.setIfInBounds_toArray, List.set_cons_zero, List.set_cons_succ]
      refine s_done ?_
      intro w11 hM11
      have M11 := Lib.hid hM11.1
      clear hM11
      go_wp2
      go_ret
      exact ⟨rfl, M11.out.2.2.2⟩
end YtabojeleomfgnaaGreatDoor
end Go.Proofs
