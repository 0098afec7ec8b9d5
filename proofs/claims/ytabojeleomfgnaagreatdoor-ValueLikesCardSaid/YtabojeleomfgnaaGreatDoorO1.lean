/- Oper at a list of two: not, and, or, same. -/
import Derived.Test.YtabojeleomfgnaaGreatDoorT3
import Derived.Deep.DeepCutAuto
namespace Go.Proofs
open Go.RowKit
namespace YtabojeleomfgnaaGreatDoor
set_option maxRecDepth 100000
/-- the three of Oper behind k elements -/
def PR (X Y : V3) (k : Nat) : Array Value := if k = 0 then cells9 nullT nullT nullT else if k = 1 then cells9 X nullT nullT else cells9 X Y nullT
def Ro (X Y : V3) (k : Nat) (w0 w : World) : Prop :=
  w.heap[w0.heap.size]? = some (.cells (cells nullT) 23 (0, 0)) ∧ w.heap[w0.heap.size + 1]? = some (.cells (PR X Y k) 108 (0, 0)) ∧ Below w0.heap.size w0 w
theorem Ro.below {X Y : V3} {k : Nat} {w0 w w' : World} (h : Ro X Y k w0 w) (hb : Below w.heap.size w w') : Ro X Y k w0 w' :=
  ⟨(hb.block _ (lt_of_block h.1)).trans h.1, (hb.block _ (lt_of_block h.2.1)).trans h.2.1, below_call h.2.2 hb⟩
theorem Ro.drew {X Y : V3} {k : Nat} {w0 w : World} (h : Ro X Y k w0 w) : Ro X Y k w0 w.drew := ⟨h.1, h.2.1, ⟨h.2.2.os, h.2.2.tape, h.2.2.output, h.2.2.size, h.2.2.block⟩⟩
theorem PR_size (X Y : V3) (k : Nat) : (PR X Y k).size = 9 := by unfold PR; split <;> (try split) <;> rfl
theorem PR_step0 (X Y : V3) : (((PR X Y 0).setIfInBounds 0 (.int .i64 X.1)).setIfInBounds 1 (.int .i64 X.2.1)).setIfInBounds 2 (.string X.2.2) = PR X Y 1 := by simp [PR, nullT]
theorem PR_step1 (X Y : V3) : (((PR X Y 1).setIfInBounds 3 (.int .i64 Y.1)).setIfInBounds 4 (.int .i64 Y.2.1)).setIfInBounds 5 (.string Y.2.2) = PR X Y 2 := by simp [PR, nullT]
/-- the two values of Oper in blocks of their own -/
def Six (X Y : V3) (s t : Value) (w0 w : World) : Prop :=
  ∃ p q, s = .pointer (some ⟨p, 0, none⟩) ∧ t = .pointer (some ⟨q, 0, none⟩) ∧ w.heap[p]? = some (.cells (cells X) 23 (0, 0)) ∧ w.heap[q]? = some (.cells (cells Y) 23 (0, 0)) ∧ w0.heap.size + 2 ≤ p ∧ w0.heap.size + 2 ≤ q ∧ Ro X Y 2 w0 w
def Fx (p q : Nat) (X Y : V3) (w0 w : World) : Prop := w.heap[p]? = some (.cells (cells X) 23 (0, 0)) ∧ w.heap[q]? = some (.cells (cells Y) 23 (0, 0)) ∧ w.heap[w0.heap.size]? = some (.cells (cells nullT) 23 (0, 0)) ∧ Below w0.heap.size w0 w
theorem Fx.below {p q : Nat} {X Y : V3} {w0 w w' : World} (h : Fx p q X Y w0 w) (hb : Below w.heap.size w w') : Fx p q X Y w0 w' :=
  ⟨(hb.block _ (lt_of_block h.1)).trans h.1, (hb.block _ (lt_of_block h.2.1)).trans h.2.1, (hb.block _ (lt_of_block h.2.2.1)).trans h.2.2.1, below_call h.2.2.2 hb⟩
theorem Fx.drew {p q : Nat} {X Y : V3} {w0 w : World} (h : Fx p q X Y w0 w) : Fx p q X Y w0 w.drew := ⟨h.1, h.2.1, h.2.2.1, ⟨h.2.2.2.os, h.2.2.2.tape, h.2.2.2.output, h.2.2.2.size, h.2.2.2.block⟩⟩
theorem third_bounds (x : V3) : 0 ≤ third x ∧ third x ≤ 2 := by rcases third_cases x with h | ⟨h, _⟩ | ⟨h, _⟩ <;> omega
set_option maxHeartbeats 2000000 in
theorem oper_not (n : Int) (x y : V3) (a : Option Addr) (c : Nat) (w : World) (hc : 2 ≤ c) (h : Lst w a [x, y]) :
    Calls Tryz.prog 37 #[.int .i64 1, .int .i64 n, .slice a 2 c] w fun e w' => e = .returned (toV (thirdT (2 - third (clT x)))) ∧ Below w.heap.size w w' := by
  obtain ⟨b, o, rfl, x0, x1, x2, xs⟩ := h 0 (by simp)
  obtain ⟨b', o', e, y0, y1, y2, ys⟩ := h 1 (by simp)
  simp only [Option.some.injEq, Addr.mk.injEq, and_true] at e
  obtain ⟨rfl, rfl⟩ := e
  simp only [List.getElem_cons_zero, List.getElem_cons_succ] at x0 x1 x2 xs y0 y1 y2 ys
  have hlt : b < w.heap.size := block_lt_of_cell x0
  have CX := Lib.hid (fun w => right_t x xs w)
  have CY := Lib.hid (fun w => right_t y ys w)
  have RX := Lib.hid (clT_right x)
  have RY := Lib.hid (clT_right y)
  generalize clT x = X at CX RX ⊢
  generalize clT y = Y at CY RY ⊢
  obtain ⟨xk, xn, xt⟩ := x
  obtain ⟨yk, yn, yt⟩ := y
  dsimp only at x0 x1 x2 y0 y1 y2
  have X0 := Lib.hid x0
  have X1 := Lib.hid x1
  have X2 := Lib.hid x2
  have Y0 := Lib.hid y0
  have Y1 := Lib.hid y1
  have Y2 := Lib.hid y2
  clear h xs ys x0 x1 x2 y0 y1 y2
  have hc' : (2 : Int) ≤ (c : Int) := by omega
  have em : min (2 : Int) 3 = 2 := by decide
  go_enter Tryz.func37, Tryz.ntmps37
  go_wp2
  clear em
  go_loopw [21] (fun i wr => ∃ k : Nat, k ≤ 2 ∧ i = .int .i64 k ∧ Hid (Ro X Y k w wr)) (fun i _ => 2 - (intOf i).toNat)
  case atStart => exact ⟨0, by omega, rfl, Lib.hid ⟨(heap_alloc_old _ _ (by simp)).trans (heap_alloc_new w _), new_at _ _ _ (by simp), by go_grown⟩⟩
  case round =>
    obtain ⟨k, hk, rfl, hR⟩ := hrel
    have hcase : k = 0 ∨ k = 1 ∨ k = 2 := by omega
    rcases hcase with rfl | rfl | rfl
    · have x0 := (hR.out.2.2.cell (p := ⟨b, o + 0 * 3, none⟩) hlt).trans X0.out
      have x1 := (hR.out.2.2.cell (p := ⟨b, o + 0 * 3 + 1, none⟩) hlt).trans X1.out
      have x2 := (hR.out.2.2.cell (p := ⟨b, o + 0 * 3 + 2, none⟩) hlt).trans X2.out
      simp only [Nat.zero_mul, Nat.add_zero] at x0 x1 x2
      go_wp2_with fail
      refine (CX.out _).mono ?_
      rintro e w1 ⟨rfl, hb1⟩
      have R1 := Lib.hid (hR.out.below (((Below.refl _ _).alloc (Nat.le_refl _) _).trans (hb1.mono (by simp))))
      clear hb1 x0 x1 x2
      go_wp2_with (refine store_mid rfl (.tmp 29) (.tmp 28) rfl (w.heap.size + 1) 0 X rfl rfl _ _ R1.out.2.1 (by rw [PR_size]; decide) (PR_step0 X Y) ?_; intro w2 hp; have HP := Lib.hid hp; clear hp)
      have HN : Hid (Ro X Y 1 w w2) := Lib.hid ⟨(HP.out.keeps.block _ (lt_of_block R1.out.1) (by omega)).trans R1.out.1, HP.out.at', HP.out.below R1.out.2.2 (by omega)⟩
      go_roundw
      case rel => exact ⟨1, by omega, rfl, HN⟩
      case measure => simp [intOf]
    · have x0 := (hR.out.2.2.cell (p := ⟨b, o + 1 * 3, none⟩) hlt).trans Y0.out
      have x1 := (hR.out.2.2.cell (p := ⟨b, o + 1 * 3 + 1, none⟩) hlt).trans Y1.out
      have x2 := (hR.out.2.2.cell (p := ⟨b, o + 1 * 3 + 2, none⟩) hlt).trans Y2.out
      simp only [Nat.one_mul] at x0 x1 x2
      go_wp2_with fail
      refine (CY.out _).mono ?_
      rintro e w1 ⟨rfl, hb1⟩
      have R1 := Lib.hid (hR.out.below (((Below.refl _ _).alloc (Nat.le_refl _) _).trans (hb1.mono (by simp))))
      clear hb1 x0 x1 x2
      go_wp2_with (refine store_mid rfl (.tmp 29) (.tmp 28) rfl (w.heap.size + 1) 3 Y rfl rfl _ _ R1.out.2.1 (by rw [PR_size]; decide) (PR_step1 X Y) ?_; intro w2 hp; have HP := Lib.hid hp; clear hp)
      have HN : Hid (Ro X Y 2 w w2) := Lib.hid ⟨(HP.out.keeps.block _ (lt_of_block R1.out.1) (by omega)).trans R1.out.1, HP.out.at', HP.out.below R1.out.2.2 (by omega)⟩
      go_roundw
      case rel => exact ⟨2, by omega, rfl, HN⟩
      case measure => simp [intOf]
    · go_upto_region 7 with fail
      go_cut [10, 11] (fun s t wx => Six X Y s t w wx)
      case first =>
        have hS : Ro X Y 2 w wr.drew := hR.out.drew
        refine wp_region_held_drew (S := Ro X Y 2 w) (by kernel_rfl) hS ?_
        intro _
        generalize wr.drew = wd at hS ⊢
        refine wpAnyH_take (i := 0) (oi := ⟨some 31, _, _, _, _, _⟩) (v := .pointer (some ⟨w.heap.size + 1, 0, none⟩)) rfl (by kernel_rfl) (by kernel_rfl) (by kernel_rfl) (fun _ _ _ h => h) (Or.inl ⟨rfl, fun w' h => by go_simp⟩) hS ?_
        try simp only [Act.put, List.setIfInBounds_toArray, List.set_cons_zero, List.set_cons_succ]
        refine wpAnyH_take (i := 1) (oi := ⟨some 32, _, _, _, _, _⟩) (v := toV X) rfl (by kernel_rfl) (by kernel_rfl) (by kernel_rfl) (fun _ _ _ h => h) (Or.inl ⟨rfl, fun w' h => run_load_mid23 (C := Ro X Y 2 w) (.tmp 31) rfl (w.heap.size + 1) 0 X _ rfl ⟨rfl, rfl, rfl⟩ (fun _ h => h.2.1) w' h⟩) hS ?_
        try simp only [Act.put, List.setIfInBounds_toArray, List.set_cons_zero, List.set_cons_succ]
        refine wpAnyH_take (i := 2) (oi := ⟨some 33, _, _, _, _, _⟩) (v := .pointer (some ⟨w.heap.size + 1, 3, none⟩)) rfl (by kernel_rfl) (by kernel_rfl) (by kernel_rfl) (fun _ _ _ h => h) (Or.inl ⟨rfl, fun w' h => by go_simp⟩) hS ?_
        try simp only [Act.put, List.setIfInBounds_toArray, List.set_cons_zero, List.set_cons_succ]
        refine wpAnyH_take (i := 3) (oi := ⟨some 34, _, _, _, _, _⟩) (v := toV Y) rfl (by kernel_rfl) (by kernel_rfl) (by kernel_rfl) (fun _ _ _ h => h) (Or.inl ⟨rfl, fun w' h => run_load_mid23 (C := Ro X Y 2 w) (.tmp 33) rfl (w.heap.size + 1) 3 Y _ rfl ⟨rfl, rfl, rfl⟩ (fun _ h => h.2.1) w' h⟩) hS ?_
        try simp only [Act.put, List.setIfInBounds_toArray, List.set_cons_zero, List.set_cons_succ]
        have hz : w.heap.size + 1 < wd.heap.size := lt_of_block hS.2.1
        refine wpAnyH_ready (rs := [4, 5]) (by kernel_rfl) (by simp) ?_
        refine AllReadyH.cons (o := ⟨some 10, _, _, _, _, _⟩) rfl (fun K hK => ?_) ?_
        · go_simp
          refine hK.out _ _ (hS.below (by go_grown)) ?_
          clear hK K
          intro hS1
          try simp only [Act.put, List.setIfInBounds_toArray, List.set_cons_zero, List.set_cons_succ]
          refine wpAnyH_ready (rs := [5]) (by kernel_rfl) (by simp) ?_
          refine AllReadyH.cons (o := ⟨some 11, _, _, _, _, _⟩) rfl (fun K hK => ?_) AllReadyH.nil
          go_simp
          have hS2 := hS1.below (w' := ((wd.alloc (Obj.cells #[Value.int IntKind.i64 0, Value.int IntKind.i64 0, Value.string ⟨#[]⟩] 23)).alloc (Obj.cells #[Value.int IntKind.i64 0, Value.int IntKind.i64 0, Value.string ⟨#[]⟩] 23))) (by go_grown)
          refine hK.out _ _ hS2 ?_
          clear hK K hS1
          intro _
          try simp only [Act.put, List.setIfInBounds_toArray, List.set_cons_zero, List.set_cons_succ]
          have hP : ((wd.alloc (Obj.cells #[Value.int IntKind.i64 0, Value.int IntKind.i64 0, Value.string ⟨#[]⟩] 23)).alloc (Obj.cells #[Value.int IntKind.i64 0, Value.int IntKind.i64 0, Value.string ⟨#[]⟩] 23)).heap[wd.heap.size]? = some (.cells (cells nullT) 23 (0, 0)) := (heap_alloc_old _ _ (by simp)).trans (heap_alloc_new wd _)
          have hQ : ((wd.alloc (Obj.cells #[Value.int IntKind.i64 0, Value.int IntKind.i64 0, Value.string ⟨#[]⟩] 23)).alloc (Obj.cells #[Value.int IntKind.i64 0, Value.int IntKind.i64 0, Value.string ⟨#[]⟩] 23)).heap[wd.heap.size + 1]? = some (.cells (cells nullT) 23 (0, 0)) := new_at _ _ _ (by simp)
          generalize ((wd.alloc (Obj.cells #[Value.int IntKind.i64 0, Value.int IntKind.i64 0, Value.string ⟨#[]⟩] 23)).alloc (Obj.cells #[Value.int IntKind.i64 0, Value.int IntKind.i64 0, Value.string ⟨#[]⟩] 23)) = v0 at hS2 hP hQ ⊢
          clear hS
          generalize wd.heap.size = g at hz hP hQ ⊢
          refine wpAnyH_ready (rs := [6]) (by kernel_rfl) (by simp) ?_
          refine AllReadyH.cons (o := ⟨none, _, _, _, _, _⟩) rfl (fun K hK => ?_) AllReadyH.nil
          rw [if_pos (by rfl)]
          refine wp_store_row 23 (.tmp 10) (.tmp 32) rfl (g) (cells X) rfl rfl 23 (cells nullT) hP size23 rfl (by simp [Value.oneCell']) ?_
          have hP1 := puts_setRow (cells := cells X) hP
          generalize World.setRow _ (g) (cells X) = v1 at hP1 ⊢
          have hQ1 := (hP1.keeps.block _ (lt_of_block hQ) (by omega)).trans hQ
          have hS3 : Ro X Y 2 w v1 := ⟨(hP1.keeps.block _ (lt_of_block hS2.1) (by omega)).trans hS2.1, (hP1.keeps.block _ (lt_of_block hS2.2.1) (by omega)).trans hS2.2.1, hP1.below hS2.2.2 (by omega)⟩
          refine hK.out _ _ hS3 ?_
          clear hK K
          intro _
          try simp only [Act.put]
          refine wpAnyH_ready (rs := [7]) (by kernel_rfl) (by simp) ?_
          refine AllReadyH.cons (o := ⟨none, _, _, _, _, _⟩) rfl (fun K hK => ?_) AllReadyH.nil
          rw [if_pos (by rfl)]
          refine wp_store_row 23 (.tmp 11) (.tmp 34) rfl (g + 1) (cells Y) rfl rfl 23 (cells nullT) hQ1 size23 rfl (by simp [Value.oneCell']) ?_
          have hQ2 := puts_setRow (cells := cells Y) hQ1
          generalize World.setRow _ (g + 1) (cells Y) = v2 at hQ2 ⊢
          have hP2 := (hQ2.keeps.block _ (lt_of_block hP1.at') (by omega)).trans hP1.at'
          have hS4 : Ro X Y 2 w v2 := ⟨(hQ2.keeps.block _ (lt_of_block hS3.1) (by omega)).trans hS3.1, (hQ2.keeps.block _ (lt_of_block hS3.2.1) (by omega)).trans hS3.2.1, hQ2.below hS3.2.2 (by omega)⟩
          refine hK.out _ _ hS4 ?_
          clear hK K
          intro _
          try simp only [Act.put]
          refine wpAnyH_done (by kernel_rfl) ?_ _
          have HX : Hid (Six X Y (.pointer (some ⟨g, 0, none⟩)) (.pointer (some ⟨g + 1, 0, none⟩)) w v2) := Lib.hid ⟨g, g + 1, rfl, rfl, hP2, hQ2.at', by omega, by omega, hS4⟩
          clear hP hQ hP1 hQ1 hQ2 hP2 hS2 hS3 hS4
          go_wp2_with fail
          go_meet
          exact HX.out
        refine AllReadyH.cons (o := ⟨some 11, _, _, _, _, _⟩) rfl (fun K hK => ?_) ?_
        · go_simp
          refine hK.out _ _ (hS.below (by go_grown)) ?_
          clear hK K
          intro hS1
          try simp only [Act.put, List.setIfInBounds_toArray, List.set_cons_zero, List.set_cons_succ]
          refine wpAnyH_ready (rs := [4]) (by kernel_rfl) (by simp) ?_
          refine AllReadyH.cons (o := ⟨some 10, _, _, _, _, _⟩) rfl (fun K hK => ?_) AllReadyH.nil
          go_simp
          have hS2 := hS1.below (w' := ((wd.alloc (Obj.cells #[Value.int IntKind.i64 0, Value.int IntKind.i64 0, Value.string ⟨#[]⟩] 23)).alloc (Obj.cells #[Value.int IntKind.i64 0, Value.int IntKind.i64 0, Value.string ⟨#[]⟩] 23))) (by go_grown)
          refine hK.out _ _ hS2 ?_
          clear hK K hS1
          intro _
          try simp only [Act.put, List.setIfInBounds_toArray, List.set_cons_zero, List.set_cons_succ]
          have hP : ((wd.alloc (Obj.cells #[Value.int IntKind.i64 0, Value.int IntKind.i64 0, Value.string ⟨#[]⟩] 23)).alloc (Obj.cells #[Value.int IntKind.i64 0, Value.int IntKind.i64 0, Value.string ⟨#[]⟩] 23)).heap[wd.heap.size + 1]? = some (.cells (cells nullT) 23 (0, 0)) := new_at _ _ _ (by simp)
          have hQ : ((wd.alloc (Obj.cells #[Value.int IntKind.i64 0, Value.int IntKind.i64 0, Value.string ⟨#[]⟩] 23)).alloc (Obj.cells #[Value.int IntKind.i64 0, Value.int IntKind.i64 0, Value.string ⟨#[]⟩] 23)).heap[wd.heap.size]? = some (.cells (cells nullT) 23 (0, 0)) := (heap_alloc_old _ _ (by simp)).trans (heap_alloc_new wd _)
          generalize ((wd.alloc (Obj.cells #[Value.int IntKind.i64 0, Value.int IntKind.i64 0, Value.string ⟨#[]⟩] 23)).alloc (Obj.cells #[Value.int IntKind.i64 0, Value.int IntKind.i64 0, Value.string ⟨#[]⟩] 23)) = v0 at hS2 hP hQ ⊢
          clear hS
          generalize wd.heap.size = g at hz hP hQ ⊢
          refine wpAnyH_ready (rs := [6]) (by kernel_rfl) (by simp) ?_
          refine AllReadyH.cons (o := ⟨none, _, _, _, _, _⟩) rfl (fun K hK => ?_) AllReadyH.nil
          rw [if_pos (by rfl)]
          refine wp_store_row 23 (.tmp 10) (.tmp 32) rfl (g + 1) (cells X) rfl rfl 23 (cells nullT) hP size23 rfl (by simp [Value.oneCell']) ?_
          have hP1 := puts_setRow (cells := cells X) hP
          generalize World.setRow _ (g + 1) (cells X) = v1 at hP1 ⊢
          have hQ1 := (hP1.keeps.block _ (lt_of_block hQ) (by omega)).trans hQ
          have hS3 : Ro X Y 2 w v1 := ⟨(hP1.keeps.block _ (lt_of_block hS2.1) (by omega)).trans hS2.1, (hP1.keeps.block _ (lt_of_block hS2.2.1) (by omega)).trans hS2.2.1, hP1.below hS2.2.2 (by omega)⟩
          refine hK.out _ _ hS3 ?_
          clear hK K
          intro _
          try simp only [Act.put]
          refine wpAnyH_ready (rs := [7]) (by kernel_rfl) (by simp) ?_
          refine AllReadyH.cons (o := ⟨none, _, _, _, _, _⟩) rfl (fun K hK => ?_) AllReadyH.nil
          rw [if_pos (by rfl)]
          refine wp_store_row 23 (.tmp 11) (.tmp 34) rfl (g) (cells Y) rfl rfl 23 (cells nullT) hQ1 size23 rfl (by simp [Value.oneCell']) ?_
          have hQ2 := puts_setRow (cells := cells Y) hQ1
          generalize World.setRow _ (g) (cells Y) = v2 at hQ2 ⊢
          have hP2 := (hQ2.keeps.block _ (lt_of_block hP1.at') (by omega)).trans hP1.at'
          have hS4 : Ro X Y 2 w v2 := ⟨(hQ2.keeps.block _ (lt_of_block hS3.1) (by omega)).trans hS3.1, (hQ2.keeps.block _ (lt_of_block hS3.2.1) (by omega)).trans hS3.2.1, hQ2.below hS3.2.2 (by omega)⟩
          refine hK.out _ _ hS4 ?_
          clear hK K
          intro _
          try simp only [Act.put]
          refine wpAnyH_done (by kernel_rfl) ?_ _
          have HX : Hid (Six X Y (.pointer (some ⟨g + 1, 0, none⟩)) (.pointer (some ⟨g, 0, none⟩)) w v2) := Lib.hid ⟨g + 1, g, rfl, rfl, hP2, hQ2.at', by omega, by omega, hS4⟩
          clear hP hQ hP1 hQ1 hQ2 hP2 hS2 hS3 hS4
          go_wp2_with fail
          go_meet
          exact HX.out
        exact AllReadyH.nil
      case rest =>
        obtain ⟨p, q, rfl, rfl, hP, hQ, hp, hq, hF⟩ := hcut
        have I0 : Hid (Fx p q X Y w wc) := Lib.hid ⟨hP, hQ, hF.1, hF.2.2⟩
        clear hP hQ hF
        have t1 := third_bounds X
        have t2 := third_bounds Y
        obtain ⟨t3, t4⟩ := t1
        obtain ⟨t5, t6⟩ := t2
        have f0 : wc.cell? ⟨p, 0, none⟩ = some (.int .i64 X.1) := (cell_of_row wc _ 0 _ _ _ I0.out.1).trans rfl
        have f1 : wc.cell? ⟨p, 1, none⟩ = some (.int .i64 X.2.1) := (cell_of_row wc _ 1 _ _ _ I0.out.1).trans rfl
        have f2 : wc.cell? ⟨p, 2, none⟩ = some (.string X.2.2) := (cell_of_row wc _ 2 _ _ _ I0.out.1).trans rfl
        have g0 : wc.cell? ⟨q, 0, none⟩ = some (.int .i64 Y.1) := (cell_of_row wc _ 0 _ _ _ I0.out.2.1).trans rfl
        have g1 : wc.cell? ⟨q, 1, none⟩ = some (.int .i64 Y.2.1) := (cell_of_row wc _ 1 _ _ _ I0.out.2.1).trans rfl
        have g2 : wc.cell? ⟨q, 2, none⟩ = some (.string Y.2.2) := (cell_of_row wc _ 2 _ _ _ I0.out.2.1).trans rfl
        go_wp2_with fail
        refine (third_t X RX.out.sz _).mono ?_
        rintro e w1 ⟨rfl, hb1⟩
        have I1 := Lib.hid (I0.out.below hb1)
        clear hb1
        clear f0 f1 f2 g0 g1 g2
        have f0 : w1.cell? ⟨p, 0, none⟩ = some (.int .i64 X.1) := (cell_of_row w1 _ 0 _ _ _ I1.out.1).trans rfl
        have f1 : w1.cell? ⟨p, 1, none⟩ = some (.int .i64 X.2.1) := (cell_of_row w1 _ 1 _ _ _ I1.out.1).trans rfl
        have f2 : w1.cell? ⟨p, 2, none⟩ = some (.string X.2.2) := (cell_of_row w1 _ 2 _ _ _ I1.out.1).trans rfl
        have g0 : w1.cell? ⟨q, 0, none⟩ = some (.int .i64 Y.1) := (cell_of_row w1 _ 0 _ _ _ I1.out.2.1).trans rfl
        have g1 : w1.cell? ⟨q, 1, none⟩ = some (.int .i64 Y.2.1) := (cell_of_row w1 _ 1 _ _ _ I1.out.2.1).trans rfl
        have g2 : w1.cell? ⟨q, 2, none⟩ = some (.string Y.2.2) := (cell_of_row w1 _ 2 _ _ _ I1.out.2.1).trans rfl
        go_wp2_with fail
        refine (fromThird_t _ _).mono ?_
        rintro e w2 ⟨rfl, hb2⟩
        have I2 := Lib.hid (I1.out.below hb2)
        clear hb2
        clear f0 f1 f2 g0 g1 g2
        have f0 : w2.cell? ⟨p, 0, none⟩ = some (.int .i64 X.1) := (cell_of_row w2 _ 0 _ _ _ I2.out.1).trans rfl
        have f1 : w2.cell? ⟨p, 1, none⟩ = some (.int .i64 X.2.1) := (cell_of_row w2 _ 1 _ _ _ I2.out.1).trans rfl
        have f2 : w2.cell? ⟨p, 2, none⟩ = some (.string X.2.2) := (cell_of_row w2 _ 2 _ _ _ I2.out.1).trans rfl
        have g0 : w2.cell? ⟨q, 0, none⟩ = some (.int .i64 Y.1) := (cell_of_row w2 _ 0 _ _ _ I2.out.2.1).trans rfl
        have g1 : w2.cell? ⟨q, 1, none⟩ = some (.int .i64 Y.2.1) := (cell_of_row w2 _ 1 _ _ _ I2.out.2.1).trans rfl
        have g2 : w2.cell? ⟨q, 2, none⟩ = some (.string Y.2.2) := (cell_of_row w2 _ 2 _ _ _ I2.out.2.1).trans rfl
        go_wp2_with (refine store23 rfl (.tmp 6) (.tmp 41) rfl w.heap.size (thirdT (2 - third X)) rfl rfl _ I2.out.2.2.1 ?_; intro wz hp; have HP := Lib.hid hp; clear hp)
        exact bodyPost_ret (ret23 rfl rfl HP.out.at') rfl ⟨rfl, HP.out.low I2.out.2.2.2 (Nat.le_refl _)⟩
set_option maxHeartbeats 2000000 in
theorem oper_and (n : Int) (x y : V3) (a : Option Addr) (c : Nat) (w : World) (hc : 2 ≤ c) (h : Lst w a [x, y]) :
    Calls Tryz.prog 37 #[.int .i64 2, .int .i64 n, .slice a 2 c] w fun e w' => e = .returned (toV (thirdT (min (third (clT x)) (third (clT y))))) ∧ Below w.heap.size w w' := by
  obtain ⟨b, o, rfl, x0, x1, x2, xs⟩ := h 0 (by simp)
  obtain ⟨b', o', e, y0, y1, y2, ys⟩ := h 1 (by simp)
  simp only [Option.some.injEq, Addr.mk.injEq, and_true] at e
  obtain ⟨rfl, rfl⟩ := e
  simp only [List.getElem_cons_zero, List.getElem_cons_succ] at x0 x1 x2 xs y0 y1 y2 ys
  have hlt : b < w.heap.size := block_lt_of_cell x0
  have CX := Lib.hid (fun w => right_t x xs w)
  have CY := Lib.hid (fun w => right_t y ys w)
  have RX := Lib.hid (clT_right x)
  have RY := Lib.hid (clT_right y)
  generalize clT x = X at CX RX ⊢
  generalize clT y = Y at CY RY ⊢
  obtain ⟨xk, xn, xt⟩ := x
  obtain ⟨yk, yn, yt⟩ := y
  dsimp only at x0 x1 x2 y0 y1 y2
  have X0 := Lib.hid x0
  have X1 := Lib.hid x1
  have X2 := Lib.hid x2
  have Y0 := Lib.hid y0
  have Y1 := Lib.hid y1
  have Y2 := Lib.hid y2
  clear h xs ys x0 x1 x2 y0 y1 y2
  have hc' : (2 : Int) ≤ (c : Int) := by omega
  have em : min (2 : Int) 3 = 2 := by decide
  go_enter Tryz.func37, Tryz.ntmps37
  go_wp2
  clear em
  go_loopw [21] (fun i wr => ∃ k : Nat, k ≤ 2 ∧ i = .int .i64 k ∧ Hid (Ro X Y k w wr)) (fun i _ => 2 - (intOf i).toNat)
  case atStart => exact ⟨0, by omega, rfl, Lib.hid ⟨(heap_alloc_old _ _ (by simp)).trans (heap_alloc_new w _), new_at _ _ _ (by simp), by go_grown⟩⟩
  case round =>
    obtain ⟨k, hk, rfl, hR⟩ := hrel
    have hcase : k = 0 ∨ k = 1 ∨ k = 2 := by omega
    rcases hcase with rfl | rfl | rfl
    · have x0 := (hR.out.2.2.cell (p := ⟨b, o + 0 * 3, none⟩) hlt).trans X0.out
      have x1 := (hR.out.2.2.cell (p := ⟨b, o + 0 * 3 + 1, none⟩) hlt).trans X1.out
      have x2 := (hR.out.2.2.cell (p := ⟨b, o + 0 * 3 + 2, none⟩) hlt).trans X2.out
      simp only [Nat.zero_mul, Nat.add_zero] at x0 x1 x2
      go_wp2_with fail
      refine (CX.out _).mono ?_
      rintro e w1 ⟨rfl, hb1⟩
      have R1 := Lib.hid (hR.out.below (((Below.refl _ _).alloc (Nat.le_refl _) _).trans (hb1.mono (by simp))))
      clear hb1 x0 x1 x2
      go_wp2_with (refine store_mid rfl (.tmp 29) (.tmp 28) rfl (w.heap.size + 1) 0 X rfl rfl _ _ R1.out.2.1 (by rw [PR_size]; decide) (PR_step0 X Y) ?_; intro w2 hp; have HP := Lib.hid hp; clear hp)
      have HN : Hid (Ro X Y 1 w w2) := Lib.hid ⟨(HP.out.keeps.block _ (lt_of_block R1.out.1) (by omega)).trans R1.out.1, HP.out.at', HP.out.below R1.out.2.2 (by omega)⟩
      go_roundw
      case rel => exact ⟨1, by omega, rfl, HN⟩
      case measure => simp [intOf]
    · have x0 := (hR.out.2.2.cell (p := ⟨b, o + 1 * 3, none⟩) hlt).trans Y0.out
      have x1 := (hR.out.2.2.cell (p := ⟨b, o + 1 * 3 + 1, none⟩) hlt).trans Y1.out
      have x2 := (hR.out.2.2.cell (p := ⟨b, o + 1 * 3 + 2, none⟩) hlt).trans Y2.out
      simp only [Nat.one_mul] at x0 x1 x2
      go_wp2_with fail
      refine (CY.out _).mono ?_
      rintro e w1 ⟨rfl, hb1⟩
      have R1 := Lib.hid (hR.out.below (((Below.refl _ _).alloc (Nat.le_refl _) _).trans (hb1.mono (by simp))))
      clear hb1 x0 x1 x2
      go_wp2_with (refine store_mid rfl (.tmp 29) (.tmp 28) rfl (w.heap.size + 1) 3 Y rfl rfl _ _ R1.out.2.1 (by rw [PR_size]; decide) (PR_step1 X Y) ?_; intro w2 hp; have HP := Lib.hid hp; clear hp)
      have HN : Hid (Ro X Y 2 w w2) := Lib.hid ⟨(HP.out.keeps.block _ (lt_of_block R1.out.1) (by omega)).trans R1.out.1, HP.out.at', HP.out.below R1.out.2.2 (by omega)⟩
      go_roundw
      case rel => exact ⟨2, by omega, rfl, HN⟩
      case measure => simp [intOf]
    · go_upto_region 7 with fail
      go_cut [10, 11] (fun s t wx => Six X Y s t w wx)
      case first =>
        have hS : Ro X Y 2 w wr.drew := hR.out.drew
        refine wp_region_held_drew (S := Ro X Y 2 w) (by kernel_rfl) hS ?_
        intro _
        generalize wr.drew = wd at hS ⊢
        refine wpAnyH_take (i := 0) (oi := ⟨some 31, _, _, _, _, _⟩) (v := .pointer (some ⟨w.heap.size + 1, 0, none⟩)) rfl (by kernel_rfl) (by kernel_rfl) (by kernel_rfl) (fun _ _ _ h => h) (Or.inl ⟨rfl, fun w' h => by go_simp⟩) hS ?_
        try simp only [Act.put, List.setIfInBounds_toArray, List.set_cons_zero, List.set_cons_succ]
        refine wpAnyH_take (i := 1) (oi := ⟨some 32, _, _, _, _, _⟩) (v := toV X) rfl (by kernel_rfl) (by kernel_rfl) (by kernel_rfl) (fun _ _ _ h => h) (Or.inl ⟨rfl, fun w' h => run_load_mid23 (C := Ro X Y 2 w) (.tmp 31) rfl (w.heap.size + 1) 0 X _ rfl ⟨rfl, rfl, rfl⟩ (fun _ h => h.2.1) w' h⟩) hS ?_
        try simp only [Act.put, List.setIfInBounds_toArray, List.set_cons_zero, List.set_cons_succ]
        refine wpAnyH_take (i := 2) (oi := ⟨some 33, _, _, _, _, _⟩) (v := .pointer (some ⟨w.heap.size + 1, 3, none⟩)) rfl (by kernel_rfl) (by kernel_rfl) (by kernel_rfl) (fun _ _ _ h => h) (Or.inl ⟨rfl, fun w' h => by go_simp⟩) hS ?_
        try simp only [Act.put, List.setIfInBounds_toArray, List.set_cons_zero, List.set_cons_succ]
        refine wpAnyH_take (i := 3) (oi := ⟨some 34, _, _, _, _, _⟩) (v := toV Y) rfl (by kernel_rfl) (by kernel_rfl) (by kernel_rfl) (fun _ _ _ h => h) (Or.inl ⟨rfl, fun w' h => run_load_mid23 (C := Ro X Y 2 w) (.tmp 33) rfl (w.heap.size + 1) 3 Y _ rfl ⟨rfl, rfl, rfl⟩ (fun _ h => h.2.1) w' h⟩) hS ?_
        try simp only [Act.put, List.setIfInBounds_toArray, List.set_cons_zero, List.set_cons_succ]
        have hz : w.heap.size + 1 < wd.heap.size := lt_of_block hS.2.1
        refine wpAnyH_ready (rs := [4, 5]) (by kernel_rfl) (by simp) ?_
        refine AllReadyH.cons (o := ⟨some 10, _, _, _, _, _⟩) rfl (fun K hK => ?_) ?_
        · go_simp
          refine hK.out _ _ (hS.below (by go_grown)) ?_
          clear hK K
          intro hS1
          try simp only [Act.put, List.setIfInBounds_toArray, List.set_cons_zero, List.set_cons_succ]
          refine wpAnyH_ready (rs := [5]) (by kernel_rfl) (by simp) ?_
          refine AllReadyH.cons (o := ⟨some 11, _, _, _, _, _⟩) rfl (fun K hK => ?_) AllReadyH.nil
          go_simp
          have hS2 := hS1.below (w' := ((wd.alloc (Obj.cells #[Value.int IntKind.i64 0, Value.int IntKind.i64 0, Value.string ⟨#[]⟩] 23)).alloc (Obj.cells #[Value.int IntKind.i64 0, Value.int IntKind.i64 0, Value.string ⟨#[]⟩] 23))) (by go_grown)
          refine hK.out _ _ hS2 ?_
          clear hK K hS1
          intro _
          try simp only [Act.put, List.setIfInBounds_toArray, List.set_cons_zero, List.set_cons_succ]
          have hP : ((wd.alloc (Obj.cells #[Value.int IntKind.i64 0, Value.int IntKind.i64 0, Value.string ⟨#[]⟩] 23)).alloc (Obj.cells #[Value.int IntKind.i64 0, Value.int IntKind.i64 0, Value.string ⟨#[]⟩] 23)).heap[wd.heap.size]? = some (.cells (cells nullT) 23 (0, 0)) := (heap_alloc_old _ _ (by simp)).trans (heap_alloc_new wd _)
          have hQ : ((wd.alloc (Obj.cells #[Value.int IntKind.i64 0, Value.int IntKind.i64 0, Value.string ⟨#[]⟩] 23)).alloc (Obj.cells #[Value.int IntKind.i64 0, Value.int IntKind.i64 0, Value.string ⟨#[]⟩] 23)).heap[wd.heap.size + 1]? = some (.cells (cells nullT) 23 (0, 0)) := new_at _ _ _ (by simp)
          generalize ((wd.alloc (Obj.cells #[Value.int IntKind.i64 0, Value.int IntKind.i64 0, Value.string ⟨#[]⟩] 23)).alloc (Obj.cells #[Value.int IntKind.i64 0, Value.int IntKind.i64 0, Value.string ⟨#[]⟩] 23)) = v0 at hS2 hP hQ ⊢
          clear hS
          generalize wd.heap.size = g at hz hP hQ ⊢
          refine wpAnyH_ready (rs := [6]) (by kernel_rfl) (by simp) ?_
          refine AllReadyH.cons (o := ⟨none, _, _, _, _, _⟩) rfl (fun K hK => ?_) AllReadyH.nil
          rw [if_pos (by rfl)]
          refine wp_store_row 23 (.tmp 10) (.tmp 32) rfl (g) (cells X) rfl rfl 23 (cells nullT) hP size23 rfl (by simp [Value.oneCell']) ?_
          have hP1 := puts_setRow (cells := cells X) hP
          generalize World.setRow _ (g) (cells X) = v1 at hP1 ⊢
          have hQ1 := (hP1.keeps.block _ (lt_of_block hQ) (by omega)).trans hQ
          have hS3 : Ro X Y 2 w v1 := ⟨(hP1.keeps.block _ (lt_of_block hS2.1) (by omega)).trans hS2.1, (hP1.keeps.block _ (lt_of_block hS2.2.1) (by omega)).trans hS2.2.1, hP1.below hS2.2.2 (by omega)⟩
          refine hK.out _ _ hS3 ?_
          clear hK K
          intro _
          try simp only [Act.put]
          refine wpAnyH_ready (rs := [7]) (by kernel_rfl) (by simp) ?_
          refine AllReadyH.cons (o := ⟨none, _, _, _, _, _⟩) rfl (fun K hK => ?_) AllReadyH.nil
          rw [if_pos (by rfl)]
          refine wp_store_row 23 (.tmp 11) (.tmp 34) rfl (g + 1) (cells Y) rfl rfl 23 (cells nullT) hQ1 size23 rfl (by simp [Value.oneCell']) ?_
          have hQ2 := puts_setRow (cells := cells Y) hQ1
          generalize World.setRow _ (g + 1) (cells Y) = v2 at hQ2 ⊢
          have hP2 := (hQ2.keeps.block _ (lt_of_block hP1.at') (by omega)).trans hP1.at'
          have hS4 : Ro X Y 2 w v2 := ⟨(hQ2.keeps.block _ (lt_of_block hS3.1) (by omega)).trans hS3.1, (hQ2.keeps.block _ (lt_of_block hS3.2.1) (by omega)).trans hS3.2.1, hQ2.below hS3.2.2 (by omega)⟩
          refine hK.out _ _ hS4 ?_
          clear hK K
          intro _
          try simp only [Act.put]
          refine wpAnyH_done (by kernel_rfl) ?_ _
          have HX : Hid (Six X Y (.pointer (some ⟨g, 0, none⟩)) (.pointer (some ⟨g + 1, 0, none⟩)) w v2) := Lib.hid ⟨g, g + 1, rfl, rfl, hP2, hQ2.at', by omega, by omega, hS4⟩
          clear hP hQ hP1 hQ1 hQ2 hP2 hS2 hS3 hS4
          go_wp2_with fail
          go_meet
          exact HX.out
        refine AllReadyH.cons (o := ⟨some 11, _, _, _, _, _⟩) rfl (fun K hK => ?_) ?_
        · go_simp
          refine hK.out _ _ (hS.below (by go_grown)) ?_
          clear hK K
          intro hS1
          try simp only [Act.put, List.setIfInBounds_toArray, List.set_cons_zero, List.set_cons_succ]
          refine wpAnyH_ready (rs := [4]) (by kernel_rfl) (by simp) ?_
          refine AllReadyH.cons (o := ⟨some 10, _, _, _, _, _⟩) rfl (fun K hK => ?_) AllReadyH.nil
          go_simp
          have hS2 := hS1.below (w' := ((wd.alloc (Obj.cells #[Value.int IntKind.i64 0, Value.int IntKind.i64 0, Value.string ⟨#[]⟩] 23)).alloc (Obj.cells #[Value.int IntKind.i64 0, Value.int IntKind.i64 0, Value.string ⟨#[]⟩] 23))) (by go_grown)
          refine hK.out _ _ hS2 ?_
          clear hK K hS1
          intro _
          try simp only [Act.put, List.setIfInBounds_toArray, List.set_cons_zero, List.set_cons_succ]
          have hP : ((wd.alloc (Obj.cells #[Value.int IntKind.i64 0, Value.int IntKind.i64 0, Value.string ⟨#[]⟩] 23)).alloc (Obj.cells #[Value.int IntKind.i64 0, Value.int IntKind.i64 0, Value.string ⟨#[]⟩] 23)).heap[wd.heap.size + 1]? = some (.cells (cells nullT) 23 (0, 0)) := new_at _ _ _ (by simp)
          have hQ : ((wd.alloc (Obj.cells #[Value.int IntKind.i64 0, Value.int IntKind.i64 0, Value.string ⟨#[]⟩] 23)).alloc (Obj.cells #[Value.int IntKind.i64 0, Value.int IntKind.i64 0, Value.string ⟨#[]⟩] 23)).heap[wd.heap.size]? = some (.cells (cells nullT) 23 (0, 0)) := (heap_alloc_old _ _ (by simp)).trans (heap_alloc_new wd _)
          generalize ((wd.alloc (Obj.cells #[Value.int IntKind.i64 0, Value.int IntKind.i64 0, Value.string ⟨#[]⟩] 23)).alloc (Obj.cells #[Value.int IntKind.i64 0, Value.int IntKind.i64 0, Value.string ⟨#[]⟩] 23)) = v0 at hS2 hP hQ ⊢
          clear hS
          generalize wd.heap.size = g at hz hP hQ ⊢
          refine wpAnyH_ready (rs := [6]) (by kernel_rfl) (by simp) ?_
          refine AllReadyH.cons (o := ⟨none, _, _, _, _, _⟩) rfl (fun K hK => ?_) AllReadyH.nil
          rw [if_pos (by rfl)]
          refine wp_store_row 23 (.tmp 10) (.tmp 32) rfl (g + 1) (cells X) rfl rfl 23 (cells nullT) hP size23 rfl (by simp [Value.oneCell']) ?_
          have hP1 := puts_setRow (cells := cells X) hP
          generalize World.setRow _ (g + 1) (cells X) = v1 at hP1 ⊢
          have hQ1 := (hP1.keeps.block _ (lt_of_block hQ) (by omega)).trans hQ
          have hS3 : Ro X Y 2 w v1 := ⟨(hP1.keeps.block _ (lt_of_block hS2.1) (by omega)).trans hS2.1, (hP1.keeps.block _ (lt_of_block hS2.2.1) (by omega)).trans hS2.2.1, hP1.below hS2.2.2 (by omega)⟩
          refine hK.out _ _ hS3 ?_
          clear hK K
          intro _
          try simp only [Act.put]
          refine wpAnyH_ready (rs := [7]) (by kernel_rfl) (by simp) ?_
          refine AllReadyH.cons (o := ⟨none, _, _, _, _, _⟩) rfl (fun K hK => ?_) AllReadyH.nil
          rw [if_pos (by rfl)]
          refine wp_store_row 23 (.tmp 11) (.tmp 34) rfl (g) (cells Y) rfl rfl 23 (cells nullT) hQ1 size23 rfl (by simp [Value.oneCell']) ?_
          have hQ2 := puts_setRow (cells := cells Y) hQ1
          generalize World.setRow _ (g) (cells Y) = v2 at hQ2 ⊢
          have hP2 := (hQ2.keeps.block _ (lt_of_block hP1.at') (by omega)).trans hP1.at'
          have hS4 : Ro X Y 2 w v2 := ⟨(hQ2.keeps.block _ (lt_of_block hS3.1) (by omega)).trans hS3.1, (hQ2.keeps.block _ (lt_of_block hS3.2.1) (by omega)).trans hS3.2.1, hQ2.below hS3.2.2 (by omega)⟩
          refine hK.out _ _ hS4 ?_
          clear hK K
          intro _
          try simp only [Act.put]
          refine wpAnyH_done (by kernel_rfl) ?_ _
          have HX : Hid (Six X Y (.pointer (some ⟨g + 1, 0, none⟩)) (.pointer (some ⟨g, 0, none⟩)) w v2) := Lib.hid ⟨g + 1, g, rfl, rfl, hP2, hQ2.at', by omega, by omega, hS4⟩
          clear hP hQ hP1 hQ1 hQ2 hP2 hS2 hS3 hS4
          go_wp2_with fail
          go_meet
          exact HX.out
        exact AllReadyH.nil
      case rest =>
        obtain ⟨p, q, rfl, rfl, hP, hQ, hp, hq, hF⟩ := hcut
        have I0 : Hid (Fx p q X Y w wc) := Lib.hid ⟨hP, hQ, hF.1, hF.2.2⟩
        clear hP hQ hF
        have t1 := third_bounds X
        have t2 := third_bounds Y
        obtain ⟨t3, t4⟩ := t1
        obtain ⟨t5, t6⟩ := t2
        go_wp2_with fail
        refine region_tail (Fx p q X Y w) 6 (by kernel_rfl) (by kernel_rfl) I0.out.drew ?_
        simp only [List.take_succ_cons, List.take_zero, List.drop_succ_cons, List.drop_zero]
        refine s_val (toV X) (by rfl) (run_load23 (.tmp 10) rfl p (cells X) rfl rfl (fun w h => h.1)) ?_
        simp only [Act.put, List.setIfInBounds_toArray, List.set_cons_zero, List.set_cons_succ]
        refine s_call (.int .i64 (third X)) 115 #[toV X] (by rfl) (fun w => by go_simp) (fun w' h => (third_t X RX.out.sz w').mono fun e x hx => ⟨hx.1, h.below hx.2⟩) ?_
        simp only [Act.put, List.setIfInBounds_toArray, List.set_cons_zero, List.set_cons_succ]
        refine s_val (toV Y) (by rfl) (run_load23 (.tmp 11) rfl q (cells Y) rfl rfl (fun w h => h.2.1)) ?_
        simp only [Act.put, List.setIfInBounds_toArray, List.set_cons_zero, List.set_cons_succ]
        refine s_call (.int .i64 (third Y)) 115 #[toV Y] (by rfl) (fun w => by go_simp) (fun w' h => (third_t Y RY.out.sz w').mono fun e x hx => ⟨hx.1, h.below hx.2⟩) ?_
        simp only [Act.put, List.setIfInBounds_toArray, List.set_cons_zero, List.set_cons_succ]
        refine s_val (.int .i64 (min (third X) (third Y))) (by rfl) (fun w' h => by go_simp) ?_
        simp only [Act.put, List.setIfInBounds_toArray, List.set_cons_zero, List.set_cons_succ]
        refine s_call (toV (thirdT (min (third X) (third Y)))) 114 #[.int .i64 (min (third X) (third Y))] (by rfl) (fun w => by go_simp) (fun w' h => (fromThird_t _ w').mono fun e x hx => ⟨hx.1, h.below hx.2⟩) ?_
        simp only [Act.put, List.setIfInBounds_toArray, List.set_cons_zero, List.set_cons_succ]
        refine s_done ?_
        intro w1 hI
        have I1 := Lib.hid hI
        clear hI
        refine store23 rfl (.tmp 6) (.tmp 49) rfl w.heap.size (thirdT (min (third X) (third Y))) rfl rfl _ I1.out.2.2.1 ?_
        intro wz hp
        have HP := Lib.hid hp
        clear hp
        go_wp2
        exact bodyPost_ret (ret23 rfl rfl HP.out.at') rfl ⟨rfl, HP.out.low I1.out.2.2.2 (Nat.le_refl _)⟩
set_option maxHeartbeats 2000000 in
theorem oper_or (n : Int) (x y : V3) (a : Option Addr) (c : Nat) (w : World) (hc : 2 ≤ c) (h : Lst w a [x, y]) :
    Calls Tryz.prog 37 #[.int .i64 3, .int .i64 n, .slice a 2 c] w fun e w' => e = .returned (toV (thirdT (max (third (clT x)) (third (clT y))))) ∧ Below w.heap.size w w' := by
  obtain ⟨b, o, rfl, x0, x1, x2, xs⟩ := h 0 (by simp)
  obtain ⟨b', o', e, y0, y1, y2, ys⟩ := h 1 (by simp)
  simp only [Option.some.injEq, Addr.mk.injEq, and_true] at e
  obtain ⟨rfl, rfl⟩ := e
  simp only [List.getElem_cons_zero, List.getElem_cons_succ] at x0 x1 x2 xs y0 y1 y2 ys
  have hlt : b < w.heap.size := block_lt_of_cell x0
  have CX := Lib.hid (fun w => right_t x xs w)
  have CY := Lib.hid (fun w => right_t y ys w)
  have RX := Lib.hid (clT_right x)
  have RY := Lib.hid (clT_right y)
  generalize clT x = X at CX RX ⊢
  generalize clT y = Y at CY RY ⊢
  obtain ⟨xk, xn, xt⟩ := x
  obtain ⟨yk, yn, yt⟩ := y
  dsimp only at x0 x1 x2 y0 y1 y2
  have X0 := Lib.hid x0
  have X1 := Lib.hid x1
  have X2 := Lib.hid x2
  have Y0 := Lib.hid y0
  have Y1 := Lib.hid y1
  have Y2 := Lib.hid y2
  clear h xs ys x0 x1 x2 y0 y1 y2
  have hc' : (2 : Int) ≤ (c : Int) := by omega
  have em : min (2 : Int) 3 = 2 := by decide
  go_enter Tryz.func37, Tryz.ntmps37
  go_wp2
  clear em
  go_loopw [21] (fun i wr => ∃ k : Nat, k ≤ 2 ∧ i = .int .i64 k ∧ Hid (Ro X Y k w wr)) (fun i _ => 2 - (intOf i).toNat)
  case atStart => exact ⟨0, by omega, rfl, Lib.hid ⟨(heap_alloc_old _ _ (by simp)).trans (heap_alloc_new w _), new_at _ _ _ (by simp), by go_grown⟩⟩
  case round =>
    obtain ⟨k, hk, rfl, hR⟩ := hrel
    have hcase : k = 0 ∨ k = 1 ∨ k = 2 := by omega
    rcases hcase with rfl | rfl | rfl
    · have x0 := (hR.out.2.2.cell (p := ⟨b, o + 0 * 3, none⟩) hlt).trans X0.out
      have x1 := (hR.out.2.2.cell (p := ⟨b, o + 0 * 3 + 1, none⟩) hlt).trans X1.out
      have x2 := (hR.out.2.2.cell (p := ⟨b, o + 0 * 3 + 2, none⟩) hlt).trans X2.out
      simp only [Nat.zero_mul, Nat.add_zero] at x0 x1 x2
      go_wp2_with fail
      refine (CX.out _).mono ?_
      rintro e w1 ⟨rfl, hb1⟩
      have R1 := Lib.hid (hR.out.below (((Below.refl _ _).alloc (Nat.le_refl _) _).trans (hb1.mono (by simp))))
      clear hb1 x0 x1 x2
      go_wp2_with (refine store_mid rfl (.tmp 29) (.tmp 28) rfl (w.heap.size + 1) 0 X rfl rfl _ _ R1.out.2.1 (by rw [PR_size]; decide) (PR_step0 X Y) ?_; intro w2 hp; have HP := Lib.hid hp; clear hp)
      have HN : Hid (Ro X Y 1 w w2) := Lib.hid ⟨(HP.out.keeps.block _ (lt_of_block R1.out.1) (by omega)).trans R1.out.1, HP.out.at', HP.out.below R1.out.2.2 (by omega)⟩
      go_roundw
      case rel => exact ⟨1, by omega, rfl, HN⟩
      case measure => simp [intOf]
    · have x0 := (hR.out.2.2.cell (p := ⟨b, o + 1 * 3, none⟩) hlt).trans Y0.out
      have x1 := (hR.out.2.2.cell (p := ⟨b, o + 1 * 3 + 1, none⟩) hlt).trans Y1.out
      have x2 := (hR.out.2.2.cell (p := ⟨b, o + 1 * 3 + 2, none⟩) hlt).trans Y2.out
      simp only [Nat.one_mul] at x0 x1 x2
      go_wp2_with fail
      refine (CY.out _).mono ?_
      rintro e w1 ⟨rfl, hb1⟩
      have R1 := Lib.hid (hR.out.below (((Below.refl _ _).alloc (Nat.le_refl _) _).trans (hb1.mono (by simp))))
      clear hb1 x0 x1 x2
      go_wp2_with (refine store_mid rfl (.tmp 29) (.tmp 28) rfl (w.heap.size + 1) 3 Y rfl rfl _ _ R1.out.2.1 (by rw [PR_size]; decide) (PR_step1 X Y) ?_; intro w2 hp; have HP := Lib.hid hp; clear hp)
      have HN : Hid (Ro X Y 2 w w2) := Lib.hid ⟨(HP.out.keeps.block _ (lt_of_block R1.out.1) (by omega)).trans R1.out.1, HP.out.at', HP.out.below R1.out.2.2 (by omega)⟩
      go_roundw
      case rel => exact ⟨2, by omega, rfl, HN⟩
      case measure => simp [intOf]
    · go_upto_region 7 with fail
      go_cut [10, 11] (fun s t wx => Six X Y s t w wx)
      case first =>
        have hS : Ro X Y 2 w wr.drew := hR.out.drew
        refine wp_region_held_drew (S := Ro X Y 2 w) (by kernel_rfl) hS ?_
        intro _
        generalize wr.drew = wd at hS ⊢
        refine wpAnyH_take (i := 0) (oi := ⟨some 31, _, _, _, _, _⟩) (v := .pointer (some ⟨w.heap.size + 1, 0, none⟩)) rfl (by kernel_rfl) (by kernel_rfl) (by kernel_rfl) (fun _ _ _ h => h) (Or.inl ⟨rfl, fun w' h => by go_simp⟩) hS ?_
        try simp only [Act.put, List.setIfInBounds_toArray, List.set_cons_zero, List.set_cons_succ]
        refine wpAnyH_take (i := 1) (oi := ⟨some 32, _, _, _, _, _⟩) (v := toV X) rfl (by kernel_rfl) (by kernel_rfl) (by kernel_rfl) (fun _ _ _ h => h) (Or.inl ⟨rfl, fun w' h => run_load_mid23 (C := Ro X Y 2 w) (.tmp 31) rfl (w.heap.size + 1) 0 X _ rfl ⟨rfl, rfl, rfl⟩ (fun _ h => h.2.1) w' h⟩) hS ?_
        try simp only [Act.put, List.setIfInBounds_toArray, List.set_cons_zero, List.set_cons_succ]
        refine wpAnyH_take (i := 2) (oi := ⟨some 33, _, _, _, _, _⟩) (v := .pointer (some ⟨w.heap.size + 1, 3, none⟩)) rfl (by kernel_rfl) (by kernel_rfl) (by kernel_rfl) (fun _ _ _ h => h) (Or.inl ⟨rfl, fun w' h => by go_simp⟩) hS ?_
        try simp only [Act.put, List.setIfInBounds_toArray, List.set_cons_zero, List.set_cons_succ]
        refine wpAnyH_take (i := 3) (oi := ⟨some 34, _, _, _, _, _⟩) (v := toV Y) rfl (by kernel_rfl) (by kernel_rfl) (by kernel_rfl) (fun _ _ _ h => h) (Or.inl ⟨rfl, fun w' h => run_load_mid23 (C := Ro X Y 2 w) (.tmp 33) rfl (w.heap.size + 1) 3 Y _ rfl ⟨rfl, rfl, rfl⟩ (fun _ h => h.2.1) w' h⟩) hS ?_
        try simp only [Act.put, List.setIfInBounds_toArray, List.set_cons_zero, List.set_cons_succ]
        have hz : w.heap.size + 1 < wd.heap.size := lt_of_block hS.2.1
        refine wpAnyH_ready (rs := [4, 5]) (by kernel_rfl) (by simp) ?_
        refine AllReadyH.cons (o := ⟨some 10, _, _, _, _, _⟩) rfl (fun K hK => ?_) ?_
        · go_simp
          refine hK.out _ _ (hS.below (by go_grown)) ?_
          clear hK K
          intro hS1
          try simp only [Act.put, List.setIfInBounds_toArray, List.set_cons_zero, List.set_cons_succ]
          refine wpAnyH_ready (rs := [5]) (by kernel_rfl) (by simp) ?_
          refine AllReadyH.cons (o := ⟨some 11, _, _, _, _, _⟩) rfl (fun K hK => ?_) AllReadyH.nil
          go_simp
          have hS2 := hS1.below (w' := ((wd.alloc (Obj.cells #[Value.int IntKind.i64 0, Value.int IntKind.i64 0, Value.string ⟨#[]⟩] 23)).alloc (Obj.cells #[Value.int IntKind.i64 0, Value.int IntKind.i64 0, Value.string ⟨#[]⟩] 23))) (by go_grown)
          refine hK.out _ _ hS2 ?_
          clear hK K hS1
          intro _
          try simp only [Act.put, List.setIfInBounds_toArray, List.set_cons_zero, List.set_cons_succ]
          have hP : ((wd.alloc (Obj.cells #[Value.int IntKind.i64 0, Value.int IntKind.i64 0, Value.string ⟨#[]⟩] 23)).alloc (Obj.cells #[Value.int IntKind.i64 0, Value.int IntKind.i64 0, Value.string ⟨#[]⟩] 23)).heap[wd.heap.size]? = some (.cells (cells nullT) 23 (0, 0)) := (heap_alloc_old _ _ (by simp)).trans (heap_alloc_new wd _)
          have hQ : ((wd.alloc (Obj.cells #[Value.int IntKind.i64 0, Value.int IntKind.i64 0, Value.string ⟨#[]⟩] 23)).alloc (Obj.cells #[Value.int IntKind.i64 0, Value.int IntKind.i64 0, Value.string ⟨#[]⟩] 23)).heap[wd.heap.size + 1]? = some (.cells (cells nullT) 23 (0, 0)) := new_at _ _ _ (by simp)
          generalize ((wd.alloc (Obj.cells #[Value.int IntKind.i64 0, Value.int IntKind.i64 0, Value.string ⟨#[]⟩] 23)).alloc (Obj.cells #[Value.int IntKind.i64 0, Value.int IntKind.i64 0, Value.string ⟨#[]⟩] 23)) = v0 at hS2 hP hQ ⊢
          clear hS
          generalize wd.heap.size = g at hz hP hQ ⊢
          refine wpAnyH_ready (rs := [6]) (by kernel_rfl) (by simp) ?_
          refine AllReadyH.cons (o := ⟨none, _, _, _, _, _⟩) rfl (fun K hK => ?_) AllReadyH.nil
          rw [if_pos (by rfl)]
          refine wp_store_row 23 (.tmp 10) (.tmp 32) rfl (g) (cells X) rfl rfl 23 (cells nullT) hP size23 rfl (by simp [Value.oneCell']) ?_
          have hP1 := puts_setRow (cells := cells X) hP
          generalize World.setRow _ (g) (cells X) = v1 at hP1 ⊢
          have hQ1 := (hP1.keeps.block _ (lt_of_block hQ) (by omega)).trans hQ
          have hS3 : Ro X Y 2 w v1 := ⟨(hP1.keeps.block _ (lt_of_block hS2.1) (by omega)).trans hS2.1, (hP1.keeps.block _ (lt_of_block hS2.2.1) (by omega)).trans hS2.2.1, hP1.below hS2.2.2 (by omega)⟩
          refine hK.out _ _ hS3 ?_
          clear hK K
          intro _
          try simp only [Act.put]
          refine wpAnyH_ready (rs := [7]) (by kernel_rfl) (by simp) ?_
          refine AllReadyH.cons (o := ⟨none, _, _, _, _, _⟩) rfl (fun K hK => ?_) AllReadyH.nil
          rw [if_pos (by rfl)]
          refine wp_store_row 23 (.tmp 11) (.tmp 34) rfl (g + 1) (cells Y) rfl rfl 23 (cells nullT) hQ1 size23 rfl (by simp [Value.oneCell']) ?_
          have hQ2 := puts_setRow (cells := cells Y) hQ1
          generalize World.setRow _ (g + 1) (cells Y) = v2 at hQ2 ⊢
          have hP2 := (hQ2.keeps.block _ (lt_of_block hP1.at') (by omega)).trans hP1.at'
          have hS4 : Ro X Y 2 w v2 := ⟨(hQ2.keeps.block _ (lt_of_block hS3.1) (by omega)).trans hS3.1, (hQ2.keeps.block _ (lt_of_block hS3.2.1) (by omega)).trans hS3.2.1, hQ2.below hS3.2.2 (by omega)⟩
          refine hK.out _ _ hS4 ?_
          clear hK K
          intro _
          try simp only [Act.put]
          refine wpAnyH_done (by kernel_rfl) ?_ _
          have HX : Hid (Six X Y (.pointer (some ⟨g, 0, none⟩)) (.pointer (some ⟨g + 1, 0, none⟩)) w v2) := Lib.hid ⟨g, g + 1, rfl, rfl, hP2, hQ2.at', by omega, by omega, hS4⟩
          clear hP hQ hP1 hQ1 hQ2 hP2 hS2 hS3 hS4
          go_wp2_with fail
          go_meet
          exact HX.out
        refine AllReadyH.cons (o := ⟨some 11, _, _, _, _, _⟩) rfl (fun K hK => ?_) ?_
        · go_simp
          refine hK.out _ _ (hS.below (by go_grown)) ?_
          clear hK K
          intro hS1
          try simp only [Act.put, List.setIfInBounds_toArray, List.set_cons_zero, List.set_cons_succ]
          refine wpAnyH_ready (rs := [4]) (by kernel_rfl) (by simp) ?_
          refine AllReadyH.cons (o := ⟨some 10, _, _, _, _, _⟩) rfl (fun K hK => ?_) AllReadyH.nil
          go_simp
          have hS2 := hS1.below (w' := ((wd.alloc (Obj.cells #[Value.int IntKind.i64 0, Value.int IntKind.i64 0, Value.string ⟨#[]⟩] 23)).alloc (Obj.cells #[Value.int IntKind.i64 0, Value.int IntKind.i64 0, Value.string ⟨#[]⟩] 23))) (by go_grown)
          refine hK.out _ _ hS2 ?_
          clear hK K hS1
          intro _
          try simp only [Act.put, List.setIfInBounds_toArray, List.set_cons_zero, List.set_cons_succ]
          have hP : ((wd.alloc (Obj.cells #[Value.int IntKind.i64 0, Value.int IntKind.i64 0, Value.string ⟨#[]⟩] 23)).alloc (Obj.cells #[Value.int IntKind.i64 0, Value.int IntKind.i64 0, Value.string ⟨#[]⟩] 23)).heap[wd.heap.size + 1]? = some (.cells (cells nullT) 23 (0, 0)) := new_at _ _ _ (by simp)
          have hQ : ((wd.alloc (Obj.cells #[Value.int IntKind.i64 0, Value.int IntKind.i64 0, Value.string ⟨#[]⟩] 23)).alloc (Obj.cells #[Value.int IntKind.i64 0, Value.int IntKind.i64 0, Value.string ⟨#[]⟩] 23)).heap[wd.heap.size]? = some (.cells (cells nullT) 23 (0, 0)) := (heap_alloc_old _ _ (by simp)).trans (heap_alloc_new wd _)
          generalize ((wd.alloc (Obj.cells #[Value.int IntKind.i64 0, Value.int IntKind.i64 0, Value.string ⟨#[]⟩] 23)).alloc (Obj.cells #[Value.int IntKind.i64 0, Value.int IntKind.i64 0, Value.string ⟨#[]⟩] 23)) = v0 at hS2 hP hQ ⊢
          clear hS
          generalize wd.heap.size = g at hz hP hQ ⊢
          refine wpAnyH_ready (rs := [6]) (by kernel_rfl) (by simp) ?_
          refine AllReadyH.cons (o := ⟨none, _, _, _, _, _⟩) rfl (fun K hK => ?_) AllReadyH.nil
          rw [if_pos (by rfl)]
          refine wp_store_row 23 (.tmp 10) (.tmp 32) rfl (g + 1) (cells X) rfl rfl 23 (cells nullT) hP size23 rfl (by simp [Value.oneCell']) ?_
          have hP1 := puts_setRow (cells := cells X) hP
          generalize World.setRow _ (g + 1) (cells X) = v1 at hP1 ⊢
          have hQ1 := (hP1.keeps.block _ (lt_of_block hQ) (by omega)).trans hQ
          have hS3 : Ro X Y 2 w v1 := ⟨(hP1.keeps.block _ (lt_of_block hS2.1) (by omega)).trans hS2.1, (hP1.keeps.block _ (lt_of_block hS2.2.1) (by omega)).trans hS2.2.1, hP1.below hS2.2.2 (by omega)⟩
          refine hK.out _ _ hS3 ?_
          clear hK K
          intro _
          try simp only [Act.put]
          refine wpAnyH_ready (rs := [7]) (by kernel_rfl) (by simp) ?_
          refine AllReadyH.cons (o := ⟨none, _, _, _, _, _⟩) rfl (fun K hK => ?_) AllReadyH.nil
          rw [if_pos (by rfl)]
          refine wp_store_row 23 (.tmp 11) (.tmp 34) rfl (g) (cells Y) rfl rfl 23 (cells nullT) hQ1 size23 rfl (by simp [Value.oneCell']) ?_
          have hQ2 := puts_setRow (cells := cells Y) hQ1
          generalize World.setRow _ (g) (cells Y) = v2 at hQ2 ⊢
          have hP2 := (hQ2.keeps.block _ (lt_of_block hP1.at') (by omega)).trans hP1.at'
          have hS4 : Ro X Y 2 w v2 := ⟨(hQ2.keeps.block _ (lt_of_block hS3.1) (by omega)).trans hS3.1, (hQ2.keeps.block _ (lt_of_block hS3.2.1) (by omega)).trans hS3.2.1, hQ2.below hS3.2.2 (by omega)⟩
          refine hK.out _ _ hS4 ?_
          clear hK K
          intro _
          try simp only [Act.put]
          refine wpAnyH_done (by kernel_rfl) ?_ _
          have HX : Hid (Six X Y (.pointer (some ⟨g + 1, 0, none⟩)) (.pointer (some ⟨g, 0, none⟩)) w v2) := Lib.hid ⟨g + 1, g, rfl, rfl, hP2, hQ2.at', by omega, by omega, hS4⟩
          clear hP hQ hP1 hQ1 hQ2 hP2 hS2 hS3 hS4
          go_wp2_with fail
          go_meet
          exact HX.out
        exact AllReadyH.nil
      case rest =>
        obtain ⟨p, q, rfl, rfl, hP, hQ, hp, hq, hF⟩ := hcut
        have I0 : Hid (Fx p q X Y w wc) := Lib.hid ⟨hP, hQ, hF.1, hF.2.2⟩
        clear hP hQ hF
        have t1 := third_bounds X
        have t2 := third_bounds Y
        obtain ⟨t3, t4⟩ := t1
        obtain ⟨t5, t6⟩ := t2
        go_wp2_with fail
        refine region_tail (Fx p q X Y w) 6 (by kernel_rfl) (by kernel_rfl) I0.out.drew ?_
        simp only [List.take_succ_cons, List.take_zero, List.drop_succ_cons, List.drop_zero]
        refine s_val (toV X) (by rfl) (run_load23 (.tmp 10) rfl p (cells X) rfl rfl (fun w h => h.1)) ?_
        simp only [Act.put, List.setIfInBounds_toArray, List.set_cons_zero, List.set_cons_succ]
        refine s_call (.int .i64 (third X)) 115 #[toV X] (by rfl) (fun w => by go_simp) (fun w' h => (third_t X RX.out.sz w').mono fun e x hx => ⟨hx.1, h.below hx.2⟩) ?_
        simp only [Act.put, List.setIfInBounds_toArray, List.set_cons_zero, List.set_cons_succ]
        refine s_val (toV Y) (by rfl) (run_load23 (.tmp 11) rfl q (cells Y) rfl rfl (fun w h => h.2.1)) ?_
        simp only [Act.put, List.setIfInBounds_toArray, List.set_cons_zero, List.set_cons_succ]
        refine s_call (.int .i64 (third Y)) 115 #[toV Y] (by rfl) (fun w => by go_simp) (fun w' h => (third_t Y RY.out.sz w').mono fun e x hx => ⟨hx.1, h.below hx.2⟩) ?_
        simp only [Act.put, List.setIfInBounds_toArray, List.set_cons_zero, List.set_cons_succ]
        refine s_val (.int .i64 (max (third X) (third Y))) (by rfl) (fun w' h => by go_simp) ?_
        simp only [Act.put, List.setIfInBounds_toArray, List.set_cons_zero, List.set_cons_succ]
        refine s_call (toV (thirdT (max (third X) (third Y)))) 114 #[.int .i64 (max (third X) (third Y))] (by rfl) (fun w => by go_simp) (fun w' h => (fromThird_t _ w').mono fun e x hx => ⟨hx.1, h.below hx.2⟩) ?_
        simp only [Act.put, List.setIfInBounds_toArray, List.set_cons_zero, List.set_cons_succ]
        refine s_done ?_
        intro w1 hI
        have I1 := Lib.hid hI
        clear hI
        refine store23 rfl (.tmp 6) (.tmp 57) rfl w.heap.size (thirdT (max (third X) (third Y))) rfl rfl _ I1.out.2.2.1 ?_
        intro wz hp
        have HP := Lib.hid hp
        clear hp
        go_wp2
        exact bodyPost_ret (ret23 rfl rfl HP.out.at') rfl ⟨rfl, HP.out.low I1.out.2.2.2 (Nat.le_refl _)⟩
set_option maxHeartbeats 2000000 in
theorem oper_same (n : Int) (x y : V3) (a : Option Addr) (c : Nat) (w : World) (hc : 2 ≤ c) (h : Lst w a [x, y]) :
    Calls Tryz.prog 37 #[.int .i64 10, .int .i64 n, .slice a 2 c] w fun e w' => e = .returned (toV (boolT (cmp3 (clT x) (clT y) == 0))) ∧ Below w.heap.size w w' := by
  obtain ⟨b, o, rfl, x0, x1, x2, xs⟩ := h 0 (by simp)
  obtain ⟨b', o', e, y0, y1, y2, ys⟩ := h 1 (by simp)
  simp only [Option.some.injEq, Addr.mk.injEq, and_true] at e
  obtain ⟨rfl, rfl⟩ := e
  simp only [List.getElem_cons_zero, List.getElem_cons_succ] at x0 x1 x2 xs y0 y1 y2 ys
  have hlt : b < w.heap.size := block_lt_of_cell x0
  have CX := Lib.hid (fun w => right_t x xs w)
  have CY := Lib.hid (fun w => right_t y ys w)
  have RX := Lib.hid (clT_right x)
  have RY := Lib.hid (clT_right y)
  generalize clT x = X at CX RX ⊢
  generalize clT y = Y at CY RY ⊢
  obtain ⟨xk, xn, xt⟩ := x
  obtain ⟨yk, yn, yt⟩ := y
  dsimp only at x0 x1 x2 y0 y1 y2
  have X0 := Lib.hid x0
  have X1 := Lib.hid x1
  have X2 := Lib.hid x2
  have Y0 := Lib.hid y0
  have Y1 := Lib.hid y1
  have Y2 := Lib.hid y2
  clear h xs ys x0 x1 x2 y0 y1 y2
  have hc' : (2 : Int) ≤ (c : Int) := by omega
  have em : min (2 : Int) 3 = 2 := by decide
  go_enter Tryz.func37, Tryz.ntmps37
  go_wp2
  clear em
  go_loopw [21] (fun i wr => ∃ k : Nat, k ≤ 2 ∧ i = .int .i64 k ∧ Hid (Ro X Y k w wr)) (fun i _ => 2 - (intOf i).toNat)
  case atStart => exact ⟨0, by omega, rfl, Lib.hid ⟨(heap_alloc_old _ _ (by simp)).trans (heap_alloc_new w _), new_at _ _ _ (by simp), by go_grown⟩⟩
  case round =>
    obtain ⟨k, hk, rfl, hR⟩ := hrel
    have hcase : k = 0 ∨ k = 1 ∨ k = 2 := by omega
    rcases hcase with rfl | rfl | rfl
    · have x0 := (hR.out.2.2.cell (p := ⟨b, o + 0 * 3, none⟩) hlt).trans X0.out
      have x1 := (hR.out.2.2.cell (p := ⟨b, o + 0 * 3 + 1, none⟩) hlt).trans X1.out
      have x2 := (hR.out.2.2.cell (p := ⟨b, o + 0 * 3 + 2, none⟩) hlt).trans X2.out
      simp only [Nat.zero_mul, Nat.add_zero] at x0 x1 x2
      go_wp2_with fail
      refine (CX.out _).mono ?_
      rintro e w1 ⟨rfl, hb1⟩
      have R1 := Lib.hid (hR.out.below (((Below.refl _ _).alloc (Nat.le_refl _) _).trans (hb1.mono (by simp))))
      clear hb1 x0 x1 x2
      go_wp2_with (refine store_mid rfl (.tmp 29) (.tmp 28) rfl (w.heap.size + 1) 0 X rfl rfl _ _ R1.out.2.1 (by rw [PR_size]; decide) (PR_step0 X Y) ?_; intro w2 hp; have HP := Lib.hid hp; clear hp)
      have HN : Hid (Ro X Y 1 w w2) := Lib.hid ⟨(HP.out.keeps.block _ (lt_of_block R1.out.1) (by omega)).trans R1.out.1, HP.out.at', HP.out.below R1.out.2.2 (by omega)⟩
      go_roundw
      case rel => exact ⟨1, by omega, rfl, HN⟩
      case measure => simp [intOf]
    · have x0 := (hR.out.2.2.cell (p := ⟨b, o + 1 * 3, none⟩) hlt).trans Y0.out
      have x1 := (hR.out.2.2.cell (p := ⟨b, o + 1 * 3 + 1, none⟩) hlt).trans Y1.out
      have x2 := (hR.out.2.2.cell (p := ⟨b, o + 1 * 3 + 2, none⟩) hlt).trans Y2.out
      simp only [Nat.one_mul] at x0 x1 x2
      go_wp2_with fail
      refine (CY.out _).mono ?_
      rintro e w1 ⟨rfl, hb1⟩
      have R1 := Lib.hid (hR.out.below (((Below.refl _ _).alloc (Nat.le_refl _) _).trans (hb1.mono (by simp))))
      clear hb1 x0 x1 x2
      go_wp2_with (refine store_mid rfl (.tmp 29) (.tmp 28) rfl (w.heap.size + 1) 3 Y rfl rfl _ _ R1.out.2.1 (by rw [PR_size]; decide) (PR_step1 X Y) ?_; intro w2 hp; have HP := Lib.hid hp; clear hp)
      have HN : Hid (Ro X Y 2 w w2) := Lib.hid ⟨(HP.out.keeps.block _ (lt_of_block R1.out.1) (by omega)).trans R1.out.1, HP.out.at', HP.out.below R1.out.2.2 (by omega)⟩
      go_roundw
      case rel => exact ⟨2, by omega, rfl, HN⟩
      case measure => simp [intOf]
    · go_upto_region 7 with fail
      go_cut [10, 11] (fun s t wx => Six X Y s t w wx)
      case first =>
        have hS : Ro X Y 2 w wr.drew := hR.out.drew
        refine wp_region_held_drew (S := Ro X Y 2 w) (by kernel_rfl) hS ?_
        intro _
        generalize wr.drew = wd at hS ⊢
        refine wpAnyH_take (i := 0) (oi := ⟨some 31, _, _, _, _, _⟩) (v := .pointer (some ⟨w.heap.size + 1, 0, none⟩)) rfl (by kernel_rfl) (by kernel_rfl) (by kernel_rfl) (fun _ _ _ h => h) (Or.inl ⟨rfl, fun w' h => by go_simp⟩) hS ?_
        try simp only [Act.put, List.setIfInBounds_toArray, List.set_cons_zero, List.set_cons_succ]
        refine wpAnyH_take (i := 1) (oi := ⟨some 32, _, _, _, _, _⟩) (v := toV X) rfl (by kernel_rfl) (by kernel_rfl) (by kernel_rfl) (fun _ _ _ h => h) (Or.inl ⟨rfl, fun w' h => run_load_mid23 (C := Ro X Y 2 w) (.tmp 31) rfl (w.heap.size + 1) 0 X _ rfl ⟨rfl, rfl, rfl⟩ (fun _ h => h.2.1) w' h⟩) hS ?_
        try simp only [Act.put, List.setIfInBounds_toArray, List.set_cons_zero, List.set_cons_succ]
        refine wpAnyH_take (i := 2) (oi := ⟨some 33, _, _, _, _, _⟩) (v := .pointer (some ⟨w.heap.size + 1, 3, none⟩)) rfl (by kernel_rfl) (by kernel_rfl) (by kernel_rfl) (fun _ _ _ h => h) (Or.inl ⟨rfl, fun w' h => by go_simp⟩) hS ?_
        try simp only [Act.put, List.setIfInBounds_toArray, List.set_cons_zero, List.set_cons_succ]
        refine wpAnyH_take (i := 3) (oi := ⟨some 34, _, _, _, _, _⟩) (v := toV Y) rfl (by kernel_rfl) (by kernel_rfl) (by kernel_rfl) (fun _ _ _ h => h) (Or.inl ⟨rfl, fun w' h => run_load_mid23 (C := Ro X Y 2 w) (.tmp 33) rfl (w.heap.size + 1) 3 Y _ rfl ⟨rfl, rfl, rfl⟩ (fun _ h => h.2.1) w' h⟩) hS ?_
        try simp only [Act.put, List.setIfInBounds_toArray, List.set_cons_zero, List.set_cons_succ]
        have hz : w.heap.size + 1 < wd.heap.size := lt_of_block hS.2.1
        refine wpAnyH_ready (rs := [4, 5]) (by kernel_rfl) (by simp) ?_
        refine AllReadyH.cons (o := ⟨some 10, _, _, _, _, _⟩) rfl (fun K hK => ?_) ?_
        · go_simp
          refine hK.out _ _ (hS.below (by go_grown)) ?_
          clear hK K
          intro hS1
          try simp only [Act.put, List.setIfInBounds_toArray, List.set_cons_zero, List.set_cons_succ]
          refine wpAnyH_ready (rs := [5]) (by kernel_rfl) (by simp) ?_
          refine AllReadyH.cons (o := ⟨some 11, _, _, _, _, _⟩) rfl (fun K hK => ?_) AllReadyH.nil
          go_simp
          have hS2 := hS1.below (w' := ((wd.alloc (Obj.cells #[Value.int IntKind.i64 0, Value.int IntKind.i64 0, Value.string ⟨#[]⟩] 23)).alloc (Obj.cells #[Value.int IntKind.i64 0, Value.int IntKind.i64 0, Value.string ⟨#[]⟩] 23))) (by go_grown)
          refine hK.out _ _ hS2 ?_
          clear hK K hS1
          intro _
          try simp only [Act.put, List.setIfInBounds_toArray, List.set_cons_zero, List.set_cons_succ]
          have hP : ((wd.alloc (Obj.cells #[Value.int IntKind.i64 0, Value.int IntKind.i64 0, Value.string ⟨#[]⟩] 23)).alloc (Obj.cells #[Value.int IntKind.i64 0, Value.int IntKind.i64 0, Value.string ⟨#[]⟩] 23)).heap[wd.heap.size]? = some (.cells (cells nullT) 23 (0, 0)) := (heap_alloc_old _ _ (by simp)).trans (heap_alloc_new wd _)
          have hQ : ((wd.alloc (Obj.cells #[Value.int IntKind.i64 0, Value.int IntKind.i64 0, Value.string ⟨#[]⟩] 23)).alloc (Obj.cells #[Value.int IntKind.i64 0, Value.int IntKind.i64 0, Value.string ⟨#[]⟩] 23)).heap[wd.heap.size + 1]? = some (.cells (cells nullT) 23 (0, 0)) := new_at _ _ _ (by simp)
          generalize ((wd.alloc (Obj.cells #[Value.int IntKind.i64 0, Value.int IntKind.i64 0, Value.string ⟨#[]⟩] 23)).alloc (Obj.cells #[Value.int IntKind.i64 0, Value.int IntKind.i64 0, Value.string ⟨#[]⟩] 23)) = v0 at hS2 hP hQ ⊢
          clear hS
          generalize wd.heap.size = g at hz hP hQ ⊢
          refine wpAnyH_ready (rs := [6]) (by kernel_rfl) (by simp) ?_
          refine AllReadyH.cons (o := ⟨none, _, _, _, _, _⟩) rfl (fun K hK => ?_) AllReadyH.nil
          rw [if_pos (by rfl)]
          refine wp_store_row 23 (.tmp 10) (.tmp 32) rfl (g) (cells X) rfl rfl 23 (cells nullT) hP size23 rfl (by simp [Value.oneCell']) ?_
          have hP1 := puts_setRow (cells := cells X) hP
          generalize World.setRow _ (g) (cells X) = v1 at hP1 ⊢
          have hQ1 := (hP1.keeps.block _ (lt_of_block hQ) (by omega)).trans hQ
          have hS3 : Ro X Y 2 w v1 := ⟨(hP1.keeps.block _ (lt_of_block hS2.1) (by omega)).trans hS2.1, (hP1.keeps.block _ (lt_of_block hS2.2.1) (by omega)).trans hS2.2.1, hP1.below hS2.2.2 (by omega)⟩
          refine hK.out _ _ hS3 ?_
          clear hK K
          intro _
          try simp only [Act.put]
          refine wpAnyH_ready (rs := [7]) (by kernel_rfl) (by simp) ?_
          refine AllReadyH.cons (o := ⟨none, _, _, _, _, _⟩) rfl (fun K hK => ?_) AllReadyH.nil
          rw [if_pos (by rfl)]
          refine wp_store_row 23 (.tmp 11) (.tmp 34) rfl (g + 1) (cells Y) rfl rfl 23 (cells nullT) hQ1 size23 rfl (by simp [Value.oneCell']) ?_
          have hQ2 := puts_setRow (cells := cells Y) hQ1
          generalize World.setRow _ (g + 1) (cells Y) = v2 at hQ2 ⊢
          have hP2 := (hQ2.keeps.block _ (lt_of_block hP1.at') (by omega)).trans hP1.at'
          have hS4 : Ro X Y 2 w v2 := ⟨(hQ2.keeps.block _ (lt_of_block hS3.1) (by omega)).trans hS3.1, (hQ2.keeps.block _ (lt_of_block hS3.2.1) (by omega)).trans hS3.2.1, hQ2.below hS3.2.2 (by omega)⟩
          refine hK.out _ _ hS4 ?_
          clear hK K
          intro _
          try simp only [Act.put]
          refine wpAnyH_done (by kernel_rfl) ?_ _
          have HX : Hid (Six X Y (.pointer (some ⟨g, 0, none⟩)) (.pointer (some ⟨g + 1, 0, none⟩)) w v2) := Lib.hid ⟨g, g + 1, rfl, rfl, hP2, hQ2.at', by omega, by omega, hS4⟩
          clear hP hQ hP1 hQ1 hQ2 hP2 hS2 hS3 hS4
          go_wp2_with fail
          go_meet
          exact HX.out
        refine AllReadyH.cons (o := ⟨some 11, _, _, _, _, _⟩) rfl (fun K hK => ?_) ?_
        · go_simp
          refine hK.out _ _ (hS.below (by go_grown)) ?_
          clear hK K
          intro hS1
          try simp only [Act.put, List.setIfInBounds_toArray, List.set_cons_zero, List.set_cons_succ]
          refine wpAnyH_ready (rs := [4]) (by kernel_rfl) (by simp) ?_
          refine AllReadyH.cons (o := ⟨some 10, _, _, _, _, _⟩) rfl (fun K hK => ?_) AllReadyH.nil
          go_simp
          have hS2 := hS1.below (w' := ((wd.alloc (Obj.cells #[Value.int IntKind.i64 0, Value.int IntKind.i64 0, Value.string ⟨#[]⟩] 23)).alloc (Obj.cells #[Value.int IntKind.i64 0, Value.int IntKind.i64 0, Value.string ⟨#[]⟩] 23))) (by go_grown)
          refine hK.out _ _ hS2 ?_
          clear hK K hS1
          intro _
          try simp only [Act.put, List.setIfInBounds_toArray, List.set_cons_zero, List.set_cons_succ]
          have hP : ((wd.alloc (Obj.cells #[Value.int IntKind.i64 0, Value.int IntKind.i64 0, Value.string ⟨#[]⟩] 23)).alloc (Obj.cells #[Value.int IntKind.i64 0, Value.int IntKind.i64 0, Value.string ⟨#[]⟩] 23)).heap[wd.heap.size + 1]? = some (.cells (cells nullT) 23 (0, 0)) := new_at _ _ _ (by simp)
          have hQ : ((wd.alloc (Obj.cells #[Value.int IntKind.i64 0, Value.int IntKind.i64 0, Value.string ⟨#[]⟩] 23)).alloc (Obj.cells #[Value.int IntKind.i64 0, Value.int IntKind.i64 0, Value.string ⟨#[]⟩] 23)).heap[wd.heap.size]? = some (.cells (cells nullT) 23 (0, 0)) := (heap_alloc_old _ _ (by simp)).trans (heap_alloc_new wd _)
          generalize ((wd.alloc (Obj.cells #[Value.int IntKind.i64 0, Value.int IntKind.i64 0, Value.string ⟨#[]⟩] 23)).alloc (Obj.cells #[Value.int IntKind.i64 0, Value.int IntKind.i64 0, Value.string ⟨#[]⟩] 23)) = v0 at hS2 hP hQ ⊢
          clear hS
          generalize wd.heap.size = g at hz hP hQ ⊢
          refine wpAnyH_ready (rs := [6]) (by kernel_rfl) (by simp) ?_
          refine AllReadyH.cons (o := ⟨none, _, _, _, _, _⟩) rfl (fun K hK => ?_) AllReadyH.nil
          rw [if_pos (by rfl)]
          refine wp_store_row 23 (.tmp 10) (.tmp 32) rfl (g + 1) (cells X) rfl rfl 23 (cells nullT) hP size23 rfl (by simp [Value.oneCell']) ?_
          have hP1 := puts_setRow (cells := cells X) hP
          generalize World.setRow _ (g + 1) (cells X) = v1 at hP1 ⊢
          have hQ1 := (hP1.keeps.block _ (lt_of_block hQ) (by omega)).trans hQ
          have hS3 : Ro X Y 2 w v1 := ⟨(hP1.keeps.block _ (lt_of_block hS2.1) (by omega)).trans hS2.1, (hP1.keeps.block _ (lt_of_block hS2.2.1) (by omega)).trans hS2.2.1, hP1.below hS2.2.2 (by omega)⟩
          refine hK.out _ _ hS3 ?_
          clear hK K
          intro _
          try simp only [Act.put]
          refine wpAnyH_ready (rs := [7]) (by kernel_rfl) (by simp) ?_
          refine AllReadyH.cons (o := ⟨none, _, _, _, _, _⟩) rfl (fun K hK => ?_) AllReadyH.nil
          rw [if_pos (by rfl)]
          refine wp_store_row 23 (.tmp 11) (.tmp 34) rfl (g) (cells Y) rfl rfl 23 (cells nullT) hQ1 size23 rfl (by simp [Value.oneCell']) ?_
          have hQ2 := puts_setRow (cells := cells Y) hQ1
          generalize World.setRow _ (g) (cells Y) = v2 at hQ2 ⊢
          have hP2 := (hQ2.keeps.block _ (lt_of_block hP1.at') (by omega)).trans hP1.at'
          have hS4 : Ro X Y 2 w v2 := ⟨(hQ2.keeps.block _ (lt_of_block hS3.1) (by omega)).trans hS3.1, (hQ2.keeps.block _ (lt_of_block hS3.2.1) (by omega)).trans hS3.2.1, hQ2.below hS3.2.2 (by omega)⟩
          refine hK.out _ _ hS4 ?_
          clear hK K
          intro _
          try simp only [Act.put]
          refine wpAnyH_done (by kernel_rfl) ?_ _
          have HX : Hid (Six X Y (.pointer (some ⟨g + 1, 0, none⟩)) (.pointer (some ⟨g, 0, none⟩)) w v2) := Lib.hid ⟨g + 1, g, rfl, rfl, hP2, hQ2.at', by omega, by omega, hS4⟩
          clear hP hQ hP1 hQ1 hQ2 hP2 hS2 hS3 hS4
          go_wp2_with fail
          go_meet
          exact HX.out
        exact AllReadyH.nil
      case rest =>
        obtain ⟨p, q, rfl, rfl, hP, hQ, hp, hq, hF⟩ := hcut
        have I0 : Hid (Fx p q X Y w wc) := Lib.hid ⟨hP, hQ, hF.1, hF.2.2⟩
        clear hP hQ hF
        have f0 : wc.cell? ⟨p, 0, none⟩ = some (.int .i64 X.1) := (cell_of_row wc _ 0 _ _ _ I0.out.1).trans rfl
        have f1 : wc.cell? ⟨p, 1, none⟩ = some (.int .i64 X.2.1) := (cell_of_row wc _ 1 _ _ _ I0.out.1).trans rfl
        have f2 : wc.cell? ⟨p, 2, none⟩ = some (.string X.2.2) := (cell_of_row wc _ 2 _ _ _ I0.out.1).trans rfl
        have g0 : wc.cell? ⟨q, 0, none⟩ = some (.int .i64 Y.1) := (cell_of_row wc _ 0 _ _ _ I0.out.2.1).trans rfl
        have g1 : wc.cell? ⟨q, 1, none⟩ = some (.int .i64 Y.2.1) := (cell_of_row wc _ 1 _ _ _ I0.out.2.1).trans rfl
        have g2 : wc.cell? ⟨q, 2, none⟩ = some (.string Y.2.2) := (cell_of_row wc _ 2 _ _ _ I0.out.2.1).trans rfl
        go_wp2_with fail
        refine (compared_t X Y RX.out.sz RY.out.sz _).mono ?_
        rintro e w1 ⟨rfl, hb1⟩
        have I1 := Lib.hid (I0.out.below hb1)
        clear hb1
        clear f0 f1 f2 g0 g1 g2
        have f0 : w1.cell? ⟨p, 0, none⟩ = some (.int .i64 X.1) := (cell_of_row w1 _ 0 _ _ _ I1.out.1).trans rfl
        have f1 : w1.cell? ⟨p, 1, none⟩ = some (.int .i64 X.2.1) := (cell_of_row w1 _ 1 _ _ _ I1.out.1).trans rfl
        have f2 : w1.cell? ⟨p, 2, none⟩ = some (.string X.2.2) := (cell_of_row w1 _ 2 _ _ _ I1.out.1).trans rfl
        have g0 : w1.cell? ⟨q, 0, none⟩ = some (.int .i64 Y.1) := (cell_of_row w1 _ 0 _ _ _ I1.out.2.1).trans rfl
        have g1 : w1.cell? ⟨q, 1, none⟩ = some (.int .i64 Y.2.1) := (cell_of_row w1 _ 1 _ _ _ I1.out.2.1).trans rfl
        have g2 : w1.cell? ⟨q, 2, none⟩ = some (.string Y.2.2) := (cell_of_row w1 _ 2 _ _ _ I1.out.2.1).trans rfl
        go_wp2_with fail
        refine (truth_t _ _).mono ?_
        rintro e w2 ⟨rfl, hb2⟩
        have I2 := Lib.hid (I1.out.below hb2)
        clear hb2
        clear f0 f1 f2 g0 g1 g2
        have f0 : w2.cell? ⟨p, 0, none⟩ = some (.int .i64 X.1) := (cell_of_row w2 _ 0 _ _ _ I2.out.1).trans rfl
        have f1 : w2.cell? ⟨p, 1, none⟩ = some (.int .i64 X.2.1) := (cell_of_row w2 _ 1 _ _ _ I2.out.1).trans rfl
        have f2 : w2.cell? ⟨p, 2, none⟩ = some (.string X.2.2) := (cell_of_row w2 _ 2 _ _ _ I2.out.1).trans rfl
        have g0 : w2.cell? ⟨q, 0, none⟩ = some (.int .i64 Y.1) := (cell_of_row w2 _ 0 _ _ _ I2.out.2.1).trans rfl
        have g1 : w2.cell? ⟨q, 1, none⟩ = some (.int .i64 Y.2.1) := (cell_of_row w2 _ 1 _ _ _ I2.out.2.1).trans rfl
        have g2 : w2.cell? ⟨q, 2, none⟩ = some (.string Y.2.2) := (cell_of_row w2 _ 2 _ _ _ I2.out.2.1).trans rfl
        go_wp2_with (refine store23 rfl (.tmp 6) (.tmp 64) rfl w.heap.size (boolT (cmp3 X Y == 0)) rfl rfl _ I2.out.2.2.1 ?_; intro wz hp; have HP := Lib.hid hp; clear hp)
        exact bodyPost_ret (ret23 rfl rfl HP.out.at') rfl ⟨rfl, HP.out.low I2.out.2.2.2 (Nat.le_refl _)⟩
end YtabojeleomfgnaaGreatDoor
end Go.Proofs
