/- ValueLikes: the law. -/
import Derived.Test.YtabojeleomfgnaaGreatDoorLq3
import Derived.Test.YtabojeleomfgnaaGreatDoorMp4
import Derived.Test.YtabojeleomfgnaaGreatDoorR1
import Derived.Test.YtabojeleomfgnaaGreatDoorS1
namespace Go.Proofs
open Go.RowKit
namespace YtabojeleomfgnaaGreatDoor
set_option maxRecDepth 100000
/-- the two values in their boxes, the stream's box -/
def Mk (x y : V3) (a : Option Addr) (len cap t : Nat) (w0 w : World) : Prop :=
  w.heap[w0.heap.size]? = some (.cells (cells x) 23 (0, 0)) ∧ w.heap[w0.heap.size + 1]? = some (.cells (cells y) 23 (0, 0)) ∧ Sm (w0.heap.size + 2) a len cap t w ∧ Below w0.heap.size w0 w
theorem Mk.below {x y : V3} {a : Option Addr} {len cap t : Nat} {w0 w w' : World} (h : Mk x y a len cap t w0 w) (hb : Below w.heap.size w w') : Mk x y a len cap t w0 w' :=
  ⟨(hb.block _ (lt_of_block h.1)).trans h.1, (hb.block _ (lt_of_block h.2.1)).trans h.2.1, h.2.2.1.below hb, below_call h.2.2.2 hb⟩
theorem Mk.drew {x y : V3} {a : Option Addr} {len cap t : Nat} {w0 w : World} (h : Mk x y a len cap t w0 w) : Mk x y a len cap t w0 w.drew := ⟨h.1, h.2.1, h.2.2.1, ⟨h.2.2.2.os, h.2.2.2.tape, h.2.2.2.output, h.2.2.2.size, h.2.2.2.block⟩⟩
theorem Mk.step {x y : V3} {a : Option Addr} {len cap t u : Nat} {w0 w w' : World} (h : Mk x y a len cap t w0 w) (hS : Sm (w0.heap.size + 2) a len cap u w') (hK : Keeps (w0.heap.size + 2) w w') : Mk x y a len cap u w0 w' :=
  ⟨(hK.block _ (lt_of_block h.1) (by omega)).trans h.1, (hK.block _ (lt_of_block h.2.1) (by omega)).trans h.2.1, hS, hK.os.trans h.2.2.2.os, hK.tape.trans h.2.2.2.tape, hK.output.trans h.2.2.2.output, Nat.le_trans h.2.2.2.size hK.size, fun k hk => (hK.block k (Nat.lt_of_lt_of_le hk h.2.2.2.size) (by omega)).trans (h.2.2.2.block k hk)⟩
theorem lst2k {g : Nat} {x y : V3} {w : World} (hx : Sz x) (hy : Sz y) (h : w.heap[g]? = some (.cells #[.int .i64 x.1, .int .i64 x.2.1, .string x.2.2, .int .i64 y.1, .int .i64 y.2.1, .string y.2.2] 23 (0, 0))) : Lst w (some ⟨g, 0, none⟩) [x, y] := fun k hk => by
  have c := fun j => cell_of_row w g j _ _ _ h
  match k, hk with
  | 0, _ => exact ⟨g, 0, rfl, (c 0).trans rfl, (c 1).trans rfl, (c 2).trans rfl, hx⟩
  | 1, _ => exact ⟨g, 0, rfl, (c 3).trans rfl, (c 4).trans rfl, (c 5).trans rfl, hy⟩
/-- the two values and the two texts that were made, in their boxes -/
def Lw (x y s t : V3) (g : Nat) (w0 w : World) : Prop := w.heap[w0.heap.size]? = some (.cells (cells x) 23 (0, 0)) ∧ w.heap[w0.heap.size + 1]? = some (.cells (cells y) 23 (0, 0)) ∧ w.heap[g]? = some (.cells (cells s) 23 (0, 0)) ∧ w.heap[g + 1]? = some (.cells (cells t) 23 (0, 0)) ∧ Below w0.heap.size w0 w
theorem Lw.below {x y s t : V3} {g : Nat} {w0 w w' : World} (h : Lw x y s t g w0 w) (hb : Below w.heap.size w w') : Lw x y s t g w0 w' :=
  ⟨(hb.block _ (lt_of_block h.1)).trans h.1, (hb.block _ (lt_of_block h.2.1)).trans h.2.1, (hb.block _ (lt_of_block h.2.2.1)).trans h.2.2.1, (hb.block _ (lt_of_block h.2.2.2.1)).trans h.2.2.2.1, below_call h.2.2.2.2 hb⟩
theorem Lw.drew {x y s t : V3} {g : Nat} {w0 w : World} (h : Lw x y s t g w0 w) : Lw x y s t g w0 w.drew := ⟨h.1, h.2.1, h.2.2.1, h.2.2.2.1, ⟨h.2.2.2.2.os, h.2.2.2.2.tape, h.2.2.2.2.output, h.2.2.2.2.size, h.2.2.2.2.block⟩⟩
theorem Lw.made {x y s t : V3} {a : Option Addr} {len cap T : Nat} {w0 w v1 v2 : World} (h : Mk x y a len cap T w0 w) (o : Obj) (p : Obj) (h1 : Puts w.heap.size (cells s) 23 ((w.alloc o).alloc p) v1) (h2 : Puts (w.heap.size + 1) (cells t) 23 v1 v2) : Lw x y s t w.heap.size w0 v2 := by
  have hb : Below w.heap.size w v2 := h2.below (h1.below (((Below.refl w.heap.size w).alloc (Nat.le_refl _) o).alloc (by simp) p) (Nat.le_refl _)) (by omega)
  exact ⟨(hb.block _ (lt_of_block h.1)).trans h.1, (hb.block _ (lt_of_block h.2.1)).trans h.2.1, (h2.keeps.block _ (lt_of_block h1.at') (by omega)).trans h1.at', h2.at', below_call h.2.2.2 hb⟩
theorem next_mk {x y : V3} {a : Option Addr} {len cap t : Nat} {w0 w : World} (h : Mk x y a len cap t w0 w) (n : Int) (h1 : 1 ≤ n) (h2 : n ≤ 1000) (ht : t ≤ 1000) (hl : len ≤ maxLen) :
    Calls Tryz.prog 54 #[.pointer (some ⟨w0.heap.size + 2, 0, none⟩), .int .i64 n] w fun e w' => ∃ r : Nat, e = .returned (.int .i64 r) ∧ (r : Int) < n ∧ Mk x y a len cap (t + 1) w0 w' ∧ Keeps (w0.heap.size + 2) w w' := by
  refine (next_t (w0.heap.size + 2) a len cap t n h1 (by omega) ht hl w h.2.2.1).mono ?_
  rintro e w' ⟨r, rfl, r0, r1, hS, hK⟩
  obtain ⟨k, rfl⟩ : ∃ k : Nat, r = k := ⟨r.toNat, by omega⟩
  exact ⟨k, rfl, r1, h.step hS hK, hK⟩
set_option maxHeartbeats 8000000 in
theorem law_likes (a : Option Addr) (len cap : Nat) (hl : len ≤ maxLen) (x y : V3) (hsx : Sz x) (hsy : Sz y) (w : World) (hI : IntsAt w a len) (ho : Ops w) :
    Calls Tryz.prog 10 #[.slice a len cap, toV x, toV y] w fun e w' => e = .returned (.bool true) ∧ Below w.heap.size w w' := by
  have HSX := Lib.hid hsx
  have HSY := Lib.hid hsy
  have HO := Lib.hid ho
  have HL := Lib.hid hl
  have HIP := Lib.hid (hI.ip' (p := w.heap.size + 2) (by omega))
  clear hsx hsy ho hl hI
  obtain ⟨ka, na, sa⟩ := x
  obtain ⟨kb, nb, sb⟩ := y
  change Calls Tryz.prog 10 #[.slice a len cap, val ka na sa, val kb nb sb] w _
  have B0 : Below w.heap.size w (((w.alloc (.cells #[.int .i64 ka, .int .i64 na, .string sa] 23)).alloc (.cells #[.int .i64 kb, .int .i64 nb, .string sb] 23)).alloc (.cells #[.slice a len cap, .int .i64 0] 54)) := by go_grown
  have M0 : Hid (Mk (ka, na, sa) (kb, nb, sb) a len cap 0 w (((w.alloc (.cells #[.int .i64 ka, .int .i64 na, .string sa] 23)).alloc (.cells #[.int .i64 kb, .int .i64 nb, .string sb] 23)).alloc (.cells #[.slice a len cap, .int .i64 0] 54))) := Lib.hid ⟨(heap_alloc_old _ _ (by simp only [World.size_alloc]; omega)).trans ((heap_alloc_old _ _ (by simp)).trans (heap_alloc_new w _)), (heap_alloc_old _ _ (by simp)).trans (new_at _ _ _ (by simp)), ⟨new_at _ _ _ (by simp), HIP.out.keeps (Keeps.of_below B0)⟩, B0⟩
  clear B0 HIP
  go_enter Tryz.func10, Tryz.ntmps10
  go_wp2_with fail
  refine (next_mk M0.out 12 (by omega) (by omega) (by omega) HL.out).mono ?_
  rintro e w1 ⟨R, rfl, hR, hM1, _⟩
  have M1 := Lib.hid hM1
  clear hM1 M0
  go_wp2_with fail
  go_loopw [8, 9, 18] (fun u v i wr => ∃ (s t : ByteArray) (k T : Nat), u = .string s ∧ v = .string t ∧ i = .int .i64 k ∧ k ≤ R ∧ s.size ≤ 4 * k ∧ t.size ≤ 5 * k ∧ T ≤ 1 + 2 * k ∧ Hid (Mk (ka, na, sa) (kb, nb, sb) a len cap T w wr)) (fun _ _ i _ => R - (intOf i).toNat)
  case atStart => exact ⟨_, _, 0, 1, rfl, rfl, rfl, Nat.zero_le _, Nat.zero_le _, Nat.zero_le _, by omega, M1⟩
  case round =>
    clear M1
    obtain ⟨s, t, k, T, rfl, rfl, rfl, hk, hs, ht, hT, hM⟩ := hrel
    by_cases hlt : k < R
    · go_upto_region 5 with fail
      go_cut [10] (fun z wx => ∃ q : ByteArray, z = .string q ∧ q.size ≤ 4 ∧ Hid (Mk (ka, na, sa) (kb, nb, sb) a len cap (T + 1) w wx))
      case first =>
        go_wp2_with fail
        refine (next_mk hM.out 5 (by omega) (by omega) (by omega) HL.out).mono ?_
        rintro e w2 ⟨j, rfl, hj, hM2, _⟩
        have M2 := Lib.hid hM2
        clear hM2 hM
        rcases (by omega : j = 0 ∨ j = 1 ∨ j = 2 ∨ j = 3 ∨ j = 4) with rfl | rfl | rfl | rfl | rfl
        · go_wp2_with fail
          go_meet
          exact ⟨_, rfl, of_decide_eq_true (by kernel_rfl), M2⟩
        · go_wp2_with fail
          go_meet
          exact ⟨_, rfl, of_decide_eq_true (by kernel_rfl), M2⟩
        · go_wp2_with fail
          go_meet
          exact ⟨_, rfl, of_decide_eq_true (by kernel_rfl), M2⟩
        · go_wp2_with fail
          go_meet
          exact ⟨_, rfl, of_decide_eq_true (by kernel_rfl), M2⟩
        · go_wp2_with fail
          go_meet
          exact ⟨_, rfl, of_decide_eq_true (by kernel_rfl), M2⟩
      case rest =>
        obtain ⟨q, rfl, hq, hM2⟩ := hcut
        go_wp2_with fail
        have hz2 : w.heap.size + 2 < wc.heap.size := lt_of_block hM2.out.2.2.1.1
        refine (next_mk (hM2.out.below ((Below.refl wc.heap.size wc).alloc (Nat.le_refl _) _)) 5 (by omega) (by omega) (by omega) HL.out).mono ?_
        rintro e w3 ⟨j, rfl, hj, hM3, hK3⟩
        have row := (hK3.block wc.heap.size (by simp) (by omega)).trans (heap_alloc_new wc _)
        have HROW := Lib.hid row
        have M3 := Lib.hid hM3
        clear row hM3 hK3 hM2 hz2
        obtain ⟨z, hz, cz⟩ : ∃ z : ByteArray, z.size ≤ 5 ∧ w3.cell? ⟨wc.heap.size, j, none⟩ = some (.string z) := by
          rcases (by omega : j = 0 ∨ j = 1 ∨ j = 2 ∨ j = 3 ∨ j = 4) with rfl | rfl | rfl | rfl | rfl
          · exact ⟨q, by omega, (cell_of_row w3 _ 0 _ _ _ HROW.out).trans rfl⟩
          · exact ⟨⟨#[95]⟩, by decide, (cell_of_row w3 _ 1 _ _ _ HROW.out).trans rfl⟩
          · exact ⟨⟨#[37]⟩, by decide, (cell_of_row w3 _ 2 _ _ _ HROW.out).trans rfl⟩
          · exact ⟨⟨#[92]⟩ ++ q, by rw [ByteArray.size_append]; exact Nat.le_trans (Nat.add_le_add_left hq _) (by decide), (cell_of_row w3 _ 3 _ _ _ HROW.out).trans rfl⟩
          · exact ⟨⟨#[]⟩, by decide, (cell_of_row w3 _ 4 _ _ _ HROW.out).trans rfl⟩
        clear HROW
        have hb : wc.heap.size < w3.heap.size := block_lt_of_cell cz
        go_wp2_with fail
        go_roundw
        case rel => exact ⟨s ++ q, t ++ z, k + 1, T + 1 + 1, rfl, rfl, by go_num, by omega, by rw [ByteArray.size_append]; omega, by rw [ByteArray.size_append]; omega, by omega, M3⟩
        case measure => simp [intOf]; omega
    · go_wp2_with (first | (refine store23 rfl (.tmp 11) (.tmp 39) rfl wr.heap.size (3, 0, s) rfl rfl nullT ((heap_alloc_old _ _ (by simp)).trans (heap_alloc_new wr _)) ?_; intro v1 hp; have HP1 := Lib.hid hp; have HN1 := Lib.hid ((hp.keeps.block (wr.heap.size + 1) (by simp) (by omega)).trans (new_at _ _ _ (by simp))); clear hp) | (refine store23 rfl (.tmp 12) (.tmp 41) rfl (wr.heap.size + 1) (3, 0, t) rfl rfl nullT HN1.out ?_; intro v2 hp; have HW : Hid (Lw (ka, na, sa) (kb, nb, sb) (3, 0, s) (3, 0, t) wr.heap.size w v2) := Lib.hid (Lw.made hM.out _ _ HP1.out hp); clear hp))
      have zs : Sz (3, 0, s) := by unfold Sz maxLen; dsimp only; omega
      have zt : Sz (3, 0, t) := by unfold Sz maxLen; dsimp only; omega
      have HSS := Lib.hid zs
      have HST := Lib.hid zt
      have CA := Lib.hid (fun w => like_t (ka, na, sa) (kb, nb, sb) HSX.out HSY.out w)
      have CB := Lib.hid (fun w => like_t (3, 0, s) (3, 0, t) zs zt w)
      have OA := Lib.hid (fun g (w : World) (h : Lst w (some ⟨g, 0, none⟩) [(ka, na, sa), (kb, nb, sb)]) => oper_like 0 (ka, na, sa) (kb, nb, sb) (some ⟨g, 0, none⟩) 2 w (Nat.le_refl _) h)
      have OB := Lib.hid (fun g (w : World) (h : Lst w (some ⟨g, 0, none⟩) [(3, 0, s), (3, 0, t)]) => oper_like 0 (3, 0, s) (3, 0, t) (some ⟨g, 0, none⟩) 2 w (Nat.le_refl _) h)
      generalize likeT (clT (ka, na, sa)) (clT (kb, nb, sb)) = RA at CA OA
      generalize likeT (clT (3, 0, s)) (clT (3, 0, t)) = RB at CB OB
      clear zs zt hs ht hM HP1 HN1 hlt
      generalize wr.heap.size = g at HW ⊢
      refine wp_region_held_drew (S := Lw (ka, na, sa) (kb, nb, sb) (3, 0, s) (3, 0, t) g w) (by kernel_rfl) HW.out.drew ?_
      clear HW
      intro hS
      generalize v2.drew = wd at hS ⊢
      refine wpAnyH_ready (rs := [0]) (by kernel_rfl) (by simp) ?_
      refine AllReadyH.cons rfl (fun K0 hK => ?_) AllReadyH.nil
      go_simp
      refine (values_true _ (HO.out.below hS.2.2.2.2)).mono ?_
      rintro e w0 ⟨rfl, hb⟩
      refine hK.out _ _ (hS.below hb) ?_
      clear hK K0 hS
      intro hS
      try simp only [Act.put, List.setIfInBounds_toArray, List.set_cons_zero, List.set_cons_succ]
      clear hb
      refine wpAnyH_take (i := 1) (oi := ⟨some 43, _, _, _, _, _⟩) (v := .bool true) rfl (by kernel_rfl) (by kernel_rfl) (by kernel_rfl) (fun _ _ _ h => h) (Or.inl ⟨rfl, fun w' _ => by rfl⟩) hS ?_
      try simp only [Act.put, List.setIfInBounds_toArray, List.set_cons_zero, List.set_cons_succ]
      refine wpAnyH_take (i := 2) (oi := ⟨some 44, _, _, _, _, _⟩) (v := toV (ka, na, sa)) rfl (by kernel_rfl) (by kernel_rfl) (by kernel_rfl) (fun _ _ _ h => h) (Or.inl ⟨rfl, run_load23 (C := Lw (ka, na, sa) (kb, nb, sb) (3, 0, s) (3, 0, t) g w) (.tmp 4) rfl (w.heap.size) _ rfl rfl (fun w h => h.1)⟩) hS ?_
      try simp only [Act.put, List.setIfInBounds_toArray, List.set_cons_zero, List.set_cons_succ]
      refine wpAnyH_take (i := 3) (oi := ⟨some 45, _, _, _, _, _⟩) (v := toV (kb, nb, sb)) rfl (by kernel_rfl) (by kernel_rfl) (by kernel_rfl) (fun _ _ _ h => h) (Or.inl ⟨rfl, run_load23 (C := Lw (ka, na, sa) (kb, nb, sb) (3, 0, s) (3, 0, t) g w) (.tmp 5) rfl (w.heap.size + 1) _ rfl rfl (fun w h => h.2.1)⟩) hS ?_
      try simp only [Act.put, List.setIfInBounds_toArray, List.set_cons_zero, List.set_cons_succ]
      refine wpAnyH_take (i := 5) (oi := ⟨some 47, _, _, _, _, _⟩) (v := toV (ka, na, sa)) rfl (by kernel_rfl) (by kernel_rfl) (by kernel_rfl) (fun _ _ _ h => h) (Or.inl ⟨rfl, run_load23 (C := Lw (ka, na, sa) (kb, nb, sb) (3, 0, s) (3, 0, t) g w) (.tmp 4) rfl (w.heap.size) _ rfl rfl (fun w h => h.1)⟩) hS ?_
      try simp only [Act.put, List.setIfInBounds_toArray, List.set_cons_zero, List.set_cons_succ]
      refine wpAnyH_take (i := 6) (oi := ⟨some 48, _, _, _, _, _⟩) (v := toV (kb, nb, sb)) rfl (by kernel_rfl) (by kernel_rfl) (by kernel_rfl) (fun _ _ _ h => h) (Or.inl ⟨rfl, run_load23 (C := Lw (ka, na, sa) (kb, nb, sb) (3, 0, s) (3, 0, t) g w) (.tmp 5) rfl (w.heap.size + 1) _ rfl rfl (fun w h => h.2.1)⟩) hS ?_
      try simp only [Act.put, List.setIfInBounds_toArray, List.set_cons_zero, List.set_cons_succ]
      refine wpAnyH_ready (rs := [4, 7]) (by kernel_rfl) (by simp) ?_
      refine AllReadyH.cons rfl (fun K0 hK => ?_) (AllReadyH.cons rfl (fun K0 hK => ?_) AllReadyH.nil)
      · go_simp
        refine (CA.out _).mono ?_
        rintro e w4 ⟨rfl, hb⟩
        refine hK.out _ _ (hS.below hb) ?_
        clear hK K0 hS
        intro hS
        try simp only [Act.put, List.setIfInBounds_toArray, List.set_cons_zero, List.set_cons_succ]
        refine wpAnyH_ready (rs := [7]) (by kernel_rfl) (by simp) ?_
        refine AllReadyH.cons rfl (fun K0 hK => ?_) AllReadyH.nil
        go_simp
        have hlst := lst2k HSX.out HSY.out (heap_alloc_new w4 (.cells #[.int .i64 ka, .int .i64 na, .string sa, .int .i64 kb, .int .i64 nb, .string sb] 23))
        refine hK.out _ _ (hS.below ((Below.refl _ _).alloc (Nat.le_refl _) _)) ?_
        clear hK K0 hS
        intro hS
        try simp only [Act.put, List.setIfInBounds_toArray, List.set_cons_zero, List.set_cons_succ]
        refine wpAnyH_ready (rs := [8]) (by kernel_rfl) (by simp) ?_
        refine AllReadyH.cons rfl (fun K0 hK => ?_) AllReadyH.nil
        go_simp
        refine (OA.out _ _ hlst).mono ?_
        rintro e w9 ⟨rfl, hb⟩
        refine hK.out _ _ (hS.below hb) ?_
        clear hK K0 hS
        intro hS
        try simp only [Act.put, List.setIfInBounds_toArray, List.set_cons_zero, List.set_cons_succ]
        clear hlst hb
        refine wpAnyH_take (i := 9) (oi := ⟨some 51, _, _, _, _, _⟩) (v := .bool true) rfl (by kernel_rfl) (by kernel_rfl) (by kernel_rfl) (fun _ _ _ h => h) (Or.inl ⟨rfl, fun w' _ => (op_eq23 RA RA rfl rfl rfl w').trans (by simp)⟩) hS ?_
        try simp only [Act.put, List.setIfInBounds_toArray, List.set_cons_zero, List.set_cons_succ]
        refine wpAnyH_take (i := 10) (oi := ⟨some 52, _, _, _, _, _⟩) (v := .bool true) rfl (by kernel_rfl) (by kernel_rfl) (by kernel_rfl) (fun _ _ _ h => h) (Or.inl ⟨rfl, fun w' _ => by rfl⟩) hS ?_
        try simp only [Act.put, List.setIfInBounds_toArray, List.set_cons_zero, List.set_cons_succ]
        refine wpAnyH_take (i := 11) (oi := ⟨some 53, _, _, _, _, _⟩) (v := .bool true) rfl (by kernel_rfl) (by kernel_rfl) (by kernel_rfl) (fun _ _ _ h => h) (Or.inl ⟨rfl, fun w' _ => by rfl⟩) hS ?_
        try simp only [Act.put, List.setIfInBounds_toArray, List.set_cons_zero, List.set_cons_succ]
        refine wpAnyH_take (i := 12) (oi := ⟨some 54, _, _, _, _, _⟩) (v := toV (3, 0, s)) rfl (by kernel_rfl) (by kernel_rfl) (by kernel_rfl) (fun _ _ _ h => h) (Or.inl ⟨rfl, run_load23 (C := Lw (ka, na, sa) (kb, nb, sb) (3, 0, s) (3, 0, t) g w) (.tmp 11) rfl (g) _ rfl rfl (fun w h => h.2.2.1)⟩) hS ?_
        try simp only [Act.put, List.setIfInBounds_toArray, List.set_cons_zero, List.set_cons_succ]
        refine wpAnyH_take (i := 13) (oi := ⟨some 55, _, _, _, _, _⟩) (v := toV (3, 0, t)) rfl (by kernel_rfl) (by kernel_rfl) (by kernel_rfl) (fun _ _ _ h => h) (Or.inl ⟨rfl, run_load23 (C := Lw (ka, na, sa) (kb, nb, sb) (3, 0, s) (3, 0, t) g w) (.tmp 12) rfl (g + 1) _ rfl rfl (fun w h => h.2.2.2.1)⟩) hS ?_
        try simp only [Act.put, List.setIfInBounds_toArray, List.set_cons_zero, List.set_cons_succ]
        refine wpAnyH_take (i := 15) (oi := ⟨some 57, _, _, _, _, _⟩) (v := toV (3, 0, s)) rfl (by kernel_rfl) (by kernel_rfl) (by kernel_rfl) (fun _ _ _ h => h) (Or.inl ⟨rfl, run_load23 (C := Lw (ka, na, sa) (kb, nb, sb) (3, 0, s) (3, 0, t) g w) (.tmp 11) rfl (g) _ rfl rfl (fun w h => h.2.2.1)⟩) hS ?_
        try simp only [Act.put, List.setIfInBounds_toArray, List.set_cons_zero, List.set_cons_succ]
        refine wpAnyH_take (i := 16) (oi := ⟨some 58, _, _, _, _, _⟩) (v := toV (3, 0, t)) rfl (by kernel_rfl) (by kernel_rfl) (by kernel_rfl) (fun _ _ _ h => h) (Or.inl ⟨rfl, run_load23 (C := Lw (ka, na, sa) (kb, nb, sb) (3, 0, s) (3, 0, t) g w) (.tmp 12) rfl (g + 1) _ rfl rfl (fun w h => h.2.2.2.1)⟩) hS ?_
        try simp only [Act.put, List.setIfInBounds_toArray, List.set_cons_zero, List.set_cons_succ]
        refine wpAnyH_ready (rs := [14, 17]) (by kernel_rfl) (by simp) ?_
        refine AllReadyH.cons rfl (fun K0 hK => ?_) (AllReadyH.cons rfl (fun K0 hK => ?_) AllReadyH.nil)
        · go_simp
          refine (CB.out _).mono ?_
          rintro e w4 ⟨rfl, hb⟩
          refine hK.out _ _ (hS.below hb) ?_
          clear hK K0 hS
          intro hS
          try simp only [Act.put, List.setIfInBounds_toArray, List.set_cons_zero, List.set_cons_succ]
          refine wpAnyH_ready (rs := [17]) (by kernel_rfl) (by simp) ?_
          refine AllReadyH.cons rfl (fun K0 hK => ?_) AllReadyH.nil
          go_simp
          have hlst := lst2k HSS.out HST.out (heap_alloc_new w4 (.cells #[.int .i64 3, .int .i64 0, .string s, .int .i64 3, .int .i64 0, .string t] 23))
          refine hK.out _ _ (hS.below ((Below.refl _ _).alloc (Nat.le_refl _) _)) ?_
          clear hK K0 hS
          intro hS
          try simp only [Act.put, List.setIfInBounds_toArray, List.set_cons_zero, List.set_cons_succ]
          refine wpAnyH_ready (rs := [18]) (by kernel_rfl) (by simp) ?_
          refine AllReadyH.cons rfl (fun K0 hK => ?_) AllReadyH.nil
          go_simp
          refine (OB.out _ _ hlst).mono ?_
          rintro e w9 ⟨rfl, hb⟩
          refine hK.out _ _ (hS.below hb) ?_
          clear hK K0 hS
          intro hS
          try simp only [Act.put, List.setIfInBounds_toArray, List.set_cons_zero, List.set_cons_succ]
          clear hlst hb
          refine wpAnyH_take (i := 19) (oi := ⟨some 61, _, _, _, _, _⟩) (v := .bool true) rfl (by kernel_rfl) (by kernel_rfl) (by kernel_rfl) (fun _ _ _ h => h) (Or.inl ⟨rfl, fun w' _ => (op_eq23 RB RB rfl rfl rfl w').trans (by simp)⟩) hS ?_
          try simp only [Act.put, List.setIfInBounds_toArray, List.set_cons_zero, List.set_cons_succ]
          refine wpAnyH_take (i := 20) (oi := ⟨some 62, _, _, _, _, _⟩) (v := .bool true) rfl (by kernel_rfl) (by kernel_rfl) (by kernel_rfl) (fun _ _ _ h => h) (Or.inl ⟨rfl, fun w' _ => by rfl⟩) hS ?_
          try simp only [Act.put, List.setIfInBounds_toArray, List.set_cons_zero, List.set_cons_succ]
          refine wpAnyH_take (i := 21) (oi := ⟨some 6, _, _, _, _, _⟩) (v := .bool true) rfl (by kernel_rfl) (by kernel_rfl) (by kernel_rfl) (fun _ _ _ h => h) (Or.inl ⟨rfl, fun w' _ => by rfl⟩) hS ?_
          try simp only [Act.put, List.setIfInBounds_toArray, List.set_cons_zero, List.set_cons_succ]
          refine wpAnyH_done (by kernel_rfl) ?_ _
          have HLW := Lib.hid hS.2.2.2.2
          clear hS
          go_wp2
          go_ret
          exact ⟨rfl, HLW.out⟩
        · go_simp
          have hlst := lst2k HSS.out HST.out (heap_alloc_new w9 (.cells #[.int .i64 3, .int .i64 0, .string s, .int .i64 3, .int .i64 0, .string t] 23))
          refine hK.out _ _ (hS.below ((Below.refl _ _).alloc (Nat.le_refl _) _)) ?_
          clear hK K0 hS
          intro hS
          try simp only [Act.put, List.setIfInBounds_toArray, List.set_cons_zero, List.set_cons_succ]
          refine wpAnyH_ready (rs := [14]) (by kernel_rfl) (by simp) ?_
          refine AllReadyH.cons rfl (fun K0 hK => ?_) AllReadyH.nil
          go_simp
          refine (CB.out _).mono ?_
          rintro e w4 ⟨rfl, hb⟩
          have hlst := hlst.below hb
          refine hK.out _ _ (hS.below hb) ?_
          clear hK K0 hS
          intro hS
          try simp only [Act.put, List.setIfInBounds_toArray, List.set_cons_zero, List.set_cons_succ]
          refine wpAnyH_ready (rs := [18]) (by kernel_rfl) (by simp) ?_
          refine AllReadyH.cons rfl (fun K0 hK => ?_) AllReadyH.nil
          go_simp
          refine (OB.out _ _ hlst).mono ?_
          rintro e w9 ⟨rfl, hb⟩
          refine hK.out _ _ (hS.below hb) ?_
          clear hK K0 hS
          intro hS
          try simp only [Act.put, List.setIfInBounds_toArray, List.set_cons_zero, List.set_cons_succ]
          clear hlst hb
          refine wpAnyH_take (i := 19) (oi := ⟨some 61, _, _, _, _, _⟩) (v := .bool true) rfl (by kernel_rfl) (by kernel_rfl) (by kernel_rfl) (fun _ _ _ h => h) (Or.inl ⟨rfl, fun w' _ => (op_eq23 RB RB rfl rfl rfl w').trans (by simp)⟩) hS ?_
          try simp only [Act.put, List.setIfInBounds_toArray, List.set_cons_zero, List.set_cons_succ]
          refine wpAnyH_take (i := 20) (oi := ⟨some 62, _, _, _, _, _⟩) (v := .bool true) rfl (by kernel_rfl) (by kernel_rfl) (by kernel_rfl) (fun _ _ _ h => h) (Or.inl ⟨rfl, fun w' _ => by rfl⟩) hS ?_
          try simp only [Act.put, List.setIfInBounds_toArray, List.set_cons_zero, List.set_cons_succ]
          refine wpAnyH_take (i := 21) (oi := ⟨some 6, _, _, _, _, _⟩) (v := .bool true) rfl (by kernel_rfl) (by kernel_rfl) (by kernel_rfl) (fun _ _ _ h => h) (Or.inl ⟨rfl, fun w' _ => by rfl⟩) hS ?_
          try simp only [Act.put, List.setIfInBounds_toArray, List.set_cons_zero, List.set_cons_succ]
          refine wpAnyH_done (by kernel_rfl) ?_ _
          have HLW := Lib.hid hS.2.2.2.2
          clear hS
          go_wp2
          go_ret
          exact ⟨rfl, HLW.out⟩
      · go_simp
        have hlst := lst2k HSX.out HSY.out (heap_alloc_new w0 (.cells #[.int .i64 ka, .int .i64 na, .string sa, .int .i64 kb, .int .i64 nb, .string sb] 23))
        refine hK.out _ _ (hS.below ((Below.refl _ _).alloc (Nat.le_refl _) _)) ?_
        clear hK K0 hS
        intro hS
        try simp only [Act.put, List.setIfInBounds_toArray, List.set_cons_zero, List.set_cons_succ]
        refine wpAnyH_ready (rs := [4]) (by kernel_rfl) (by simp) ?_
        refine AllReadyH.cons rfl (fun K0 hK => ?_) AllReadyH.nil
        go_simp
        refine (CA.out _).mono ?_
        rintro e w4 ⟨rfl, hb⟩
        have hlst := hlst.below hb
        refine hK.out _ _ (hS.below hb) ?_
        clear hK K0 hS
        intro hS
        try simp only [Act.put, List.setIfInBounds_toArray, List.set_cons_zero, List.set_cons_succ]
        refine wpAnyH_ready (rs := [8]) (by kernel_rfl) (by simp) ?_
        refine AllReadyH.cons rfl (fun K0 hK => ?_) AllReadyH.nil
        go_simp
        refine (OA.out _ _ hlst).mono ?_
        rintro e w9 ⟨rfl, hb⟩
        refine hK.out _ _ (hS.below hb) ?_
        clear hK K0 hS
        intro hS
        try simp only [Act.put, List.setIfInBounds_toArray, List.set_cons_zero, List.set_cons_succ]
        clear hlst hb
        refine wpAnyH_take (i := 9) (oi := ⟨some 51, _, _, _, _, _⟩) (v := .bool true) rfl (by kernel_rfl) (by kernel_rfl) (by kernel_rfl) (fun _ _ _ h => h) (Or.inl ⟨rfl, fun w' _ => (op_eq23 RA RA rfl rfl rfl w').trans (by simp)⟩) hS ?_
        try simp only [Act.put, List.setIfInBounds_toArray, List.set_cons_zero, List.set_cons_succ]
        refine wpAnyH_take (i := 10) (oi := ⟨some 52, _, _, _, _, _⟩) (v := .bool true) rfl (by kernel_rfl) (by kernel_rfl) (by kernel_rfl) (fun _ _ _ h => h) (Or.inl ⟨rfl, fun w' _ => by rfl⟩) hS ?_
        try simp only [Act.put, List.setIfInBounds_toArray, List.set_cons_zero, List.set_cons_succ]
        refine wpAnyH_take (i := 11) (oi := ⟨some 53, _, _, _, _, _⟩) (v := .bool true) rfl (by kernel_rfl) (by kernel_rfl) (by kernel_rfl) (fun _ _ _ h => h) (Or.inl ⟨rfl, fun w' _ => by rfl⟩) hS ?_
        try simp only [Act.put, List.setIfInBounds_toArray, List.set_cons_zero, List.set_cons_succ]
        refine wpAnyH_take (i := 12) (oi := ⟨some 54, _, _, _, _, _⟩) (v := toV (3, 0, s)) rfl (by kernel_rfl) (by kernel_rfl) (by kernel_rfl) (fun _ _ _ h => h) (Or.inl ⟨rfl, run_load23 (C := Lw (ka, na, sa) (kb, nb, sb) (3, 0, s) (3, 0, t) g w) (.tmp 11) rfl (g) _ rfl rfl (fun w h => h.2.2.1)⟩) hS ?_
        try simp only [Act.put, List.setIfInBounds_toArray, List.set_cons_zero, List.set_cons_succ]
        refine wpAnyH_take (i := 13) (oi := ⟨some 55, _, _, _, _, _⟩) (v := toV (3, 0, t)) rfl (by kernel_rfl) (by kernel_rfl) (by kernel_rfl) (fun _ _ _ h => h) (Or.inl ⟨rfl, run_load23 (C := Lw (ka, na, sa) (kb, nb, sb) (3, 0, s) (3, 0, t) g w) (.tmp 12) rfl (g + 1) _ rfl rfl (fun w h => h.2.2.2.1)⟩) hS ?_
        try simp only [Act.put, List.setIfInBounds_toArray, List.set_cons_zero, List.set_cons_succ]
        refine wpAnyH_take (i := 15) (oi := ⟨some 57, _, _, _, _, _⟩) (v := toV (3, 0, s)) rfl (by kernel_rfl) (by kernel_rfl) (by kernel_rfl) (fun _ _ _ h => h) (Or.inl ⟨rfl, run_load23 (C := Lw (ka, na, sa) (kb, nb, sb) (3, 0, s) (3, 0, t) g w) (.tmp 11) rfl (g) _ rfl rfl (fun w h => h.2.2.1)⟩) hS ?_
        try simp only [Act.put, List.setIfInBounds_toArray, List.set_cons_zero, List.set_cons_succ]
        refine wpAnyH_take (i := 16) (oi := ⟨some 58, _, _, _, _, _⟩) (v := toV (3, 0, t)) rfl (by kernel_rfl) (by kernel_rfl) (by kernel_rfl) (fun _ _ _ h => h) (Or.inl ⟨rfl, run_load23 (C := Lw (ka, na, sa) (kb, nb, sb) (3, 0, s) (3, 0, t) g w) (.tmp 12) rfl (g + 1) _ rfl rfl (fun w h => h.2.2.2.1)⟩) hS ?_
        try simp only [Act.put, List.setIfInBounds_toArray, List.set_cons_zero, List.set_cons_succ]
        refine wpAnyH_ready (rs := [14, 17]) (by kernel_rfl) (by simp) ?_
        refine AllReadyH.cons rfl (fun K0 hK => ?_) (AllReadyH.cons rfl (fun K0 hK => ?_) AllReadyH.nil)
        · go_simp
          refine (CB.out _).mono ?_
          rintro e w4 ⟨rfl, hb⟩
          refine hK.out _ _ (hS.below hb) ?_
          clear hK K0 hS
          intro hS
          try simp only [Act.put, List.setIfInBounds_toArray, List.set_cons_zero, List.set_cons_succ]
          refine wpAnyH_ready (rs := [17]) (by kernel_rfl) (by simp) ?_
          refine AllReadyH.cons rfl (fun K0 hK => ?_) AllReadyH.nil
          go_simp
          have hlst := lst2k HSS.out HST.out (heap_alloc_new w4 (.cells #[.int .i64 3, .int .i64 0, .string s, .int .i64 3, .int .i64 0, .string t] 23))
          refine hK.out _ _ (hS.below ((Below.refl _ _).alloc (Nat.le_refl _) _)) ?_
          clear hK K0 hS
          intro hS
          try simp only [Act.put, List.setIfInBounds_toArray, List.set_cons_zero, List.set_cons_succ]
          refine wpAnyH_ready (rs := [18]) (by kernel_rfl) (by simp) ?_
          refine AllReadyH.cons rfl (fun K0 hK => ?_) AllReadyH.nil
          go_simp
          refine (OB.out _ _ hlst).mono ?_
          rintro e w9 ⟨rfl, hb⟩
          refine hK.out _ _ (hS.below hb) ?_
          clear hK K0 hS
          intro hS
          try simp only [Act.put, List.setIfInBounds_toArray, List.set_cons_zero, List.set_cons_succ]
          clear hlst hb
          refine wpAnyH_take (i := 19) (oi := ⟨some 61, _, _, _, _, _⟩) (v := .bool true) rfl (by kernel_rfl) (by kernel_rfl) (by kernel_rfl) (fun _ _ _ h => h) (Or.inl ⟨rfl, fun w' _ => (op_eq23 RB RB rfl rfl rfl w').trans (by simp)⟩) hS ?_
          try simp only [Act.put, List.setIfInBounds_toArray, List.set_cons_zero, List.set_cons_succ]
          refine wpAnyH_take (i := 20) (oi := ⟨some 62, _, _, _, _, _⟩) (v := .bool true) rfl (by kernel_rfl) (by kernel_rfl) (by kernel_rfl) (fun _ _ _ h => h) (Or.inl ⟨rfl, fun w' _ => by rfl⟩) hS ?_
          try simp only [Act.put, List.setIfInBounds_toArray, List.set_cons_zero, List.set_cons_succ]
          refine wpAnyH_take (i := 21) (oi := ⟨some 6, _, _, _, _, _⟩) (v := .bool true) rfl (by kernel_rfl) (by kernel_rfl) (by kernel_rfl) (fun _ _ _ h => h) (Or.inl ⟨rfl, fun w' _ => by rfl⟩) hS ?_
          try simp only [Act.put, List.setIfInBounds_toArray, List.set_cons_zero, List.set_cons_succ]
          refine wpAnyH_done (by kernel_rfl) ?_ _
          have HLW := Lib.hid hS.2.2.2.2
          clear hS
          go_wp2
          go_ret
          exact ⟨rfl, HLW.out⟩
        · go_simp
          have hlst := lst2k HSS.out HST.out (heap_alloc_new w9 (.cells #[.int .i64 3, .int .i64 0, .string s, .int .i64 3, .int .i64 0, .string t] 23))
          refine hK.out _ _ (hS.below ((Below.refl _ _).alloc (Nat.le_refl _) _)) ?_
          clear hK K0 hS
          intro hS
          try simp only [Act.put, List.setIfInBounds_toArray, List.set_cons_zero, List.set_cons_succ]
          refine wpAnyH_ready (rs := [14]) (by kernel_rfl) (by simp) ?_
          refine AllReadyH.cons rfl (fun K0 hK => ?_) AllReadyH.nil
          go_simp
          refine (CB.out _).mono ?_
          rintro e w4 ⟨rfl, hb⟩
          have hlst := hlst.below hb
          refine hK.out _ _ (hS.below hb) ?_
          clear hK K0 hS
          intro hS
          try simp only [Act.put, List.setIfInBounds_toArray, List.set_cons_zero, List.set_cons_succ]
          refine wpAnyH_ready (rs := [18]) (by kernel_rfl) (by simp) ?_
          refine AllReadyH.cons rfl (fun K0 hK => ?_) AllReadyH.nil
          go_simp
          refine (OB.out _ _ hlst).mono ?_
          rintro e w9 ⟨rfl, hb⟩
          refine hK.out _ _ (hS.below hb) ?_
          clear hK K0 hS
          intro hS
          try simp only [Act.put, List.setIfInBounds_toArray, List.set_cons_zero, List.set_cons_succ]
          clear hlst hb
          refine wpAnyH_take (i := 19) (oi := ⟨some 61, _, _, _, _, _⟩) (v := .bool true) rfl (by kernel_rfl) (by kernel_rfl) (by kernel_rfl) (fun _ _ _ h => h) (Or.inl ⟨rfl, fun w' _ => (op_eq23 RB RB rfl rfl rfl w').trans (by simp)⟩) hS ?_
          try simp only [Act.put, List.setIfInBounds_toArray, List.set_cons_zero, List.set_cons_succ]
          refine wpAnyH_take (i := 20) (oi := ⟨some 62, _, _, _, _, _⟩) (v := .bool true) rfl (by kernel_rfl) (by kernel_rfl) (by kernel_rfl) (fun _ _ _ h => h) (Or.inl ⟨rfl, fun w' _ => by rfl⟩) hS ?_
          try simp only [Act.put, List.setIfInBounds_toArray, List.set_cons_zero, List.set_cons_succ]
          refine wpAnyH_take (i := 21) (oi := ⟨some 6, _, _, _, _, _⟩) (v := .bool true) rfl (by kernel_rfl) (by kernel_rfl) (by kernel_rfl) (fun _ _ _ h => h) (Or.inl ⟨rfl, fun w' _ => by rfl⟩) hS ?_
          try simp only [Act.put, List.setIfInBounds_toArray, List.set_cons_zero, List.set_cons_succ]
          refine wpAnyH_done (by kernel_rfl) ?_ _
          have HLW := Lib.hid hS.2.2.2.2
          clear hS
          go_wp2
          go_ret
          exact ⟨rfl, HLW.out⟩
end YtabojeleomfgnaaGreatDoor
end Go.Proofs
