/- Oper at a list of two: equal, less: the map of the outcomes. -/
import Derived.Test.YtabojeleomfgnaaGreatDoorO1
import Derived.Maps.Own
namespace Go.Proofs
open Go.RowKit
namespace YtabojeleomfgnaaGreatDoor
set_option maxRecDepth 100000
theorem lawI : Maps.Keyed Tryz.prog 3 := Maps.int_keyed Tryz.underlying3
theorem zero4 (w : World) : (zeroValue 4).run Tryz.prog w = .ok (.bool false) w := by kernel_rfl
/-- the map of Oper at block r, with n keys -/
def Mp (p q r : Nat) (X Y : V3) (n : Nat) (D : DataW Unit) (w0 w : World) : Prop := Fx p q X Y w0 w ∧ w.ownsMap Tryz.prog 3 (plainElem Tryz.prog 4) r n D ∧ p < r ∧ q < r ∧ w0.heap.size < r
theorem Fx.grown {p q r : Nat} {X Y : V3} {w0 w w' : World} (h : Fx p q X Y w0 w) (hg : w.grownBy w' (some r)) (hp : p < r) (hq : q < r) (hr : w0.heap.size < r) (hl : w0.heap.size ≤ w.heap.size) : Fx p q X Y w0 w' := by
  obtain ⟨g1, g2, g3, g4, g5⟩ := hg
  have ne : ∀ i, i < r → some i ≠ some r := fun i hi e => by have := Option.some.inj e; omega
  exact ⟨(g5 p (lt_of_block h.1) (ne p hp)).trans h.1, (g5 q (lt_of_block h.2.1) (ne q hq)).trans h.2.1, (g5 _ (lt_of_block h.2.2.1) (ne _ hr)).trans h.2.2.1,
    ⟨g1.trans h.2.2.2.os, g2.trans h.2.2.2.tape, g3.trans h.2.2.2.output, Nat.le_trans h.2.2.2.size g4, fun k hk => (g5 k (Nat.lt_of_lt_of_le hk hl) (ne k (by omega))).trans (h.2.2.2.block k hk)⟩⟩
theorem wpList_ins {ops : Array Oper} {rest : List Oper} {o : Oper} {a : Act} {w w0 : World} {Q : Exit → Act → World → Prop} {p q r n : Nat} {X Y : V3} {D : DataW Unit} (hM : Hid (Mp p q r X Y n D w0 w)) (hn : n < 100)
    (hg : o.guard = none) (m x v : Operand) (hop : o.op = Op.insert 112 m x v) (k : Int) (b : Bool) (hm : a.eval m = .map (some r)) (hx : a.eval x = .int .i64 k) (hv : a.eval v = .bool b) (hk : keyOf Tryz.prog 3 (.int .i64 k) = some (.int .i64 k))
    (hK : ∀ w', Hid (Mp p q r X Y (n + 1) (D.put (.int .i64 k) (.lit (.bool b))) w0 w') → wpList Tryz.prog ops Q rest (a.put o.dst undef) w') : wpList Tryz.prog ops Q (o :: rest) a w := by
  obtain ⟨h1, h2, h3, h4, h5⟩ := hM.out
  obtain ⟨w', hrun, r1, r2⟩ := h2.update lawI Tryz.underlying112 (by unfold maxLen; omega) hk (plainElem_bool Tryz.underlying4 b)
  refine wpList_plain hg fun K' hK' => ?_
  unfold Oper.wp
  simp [execOp, hop, hm, hx, hv, hrun, Result.andThen]
  exact hK' _ _ (hK w' (Lib.hid ⟨h1.grown r2 h3 h4 h5 h1.2.2.2.size, r1, h3, h4, h5⟩))
theorem plain_bool_inv {v : Value} {z : DataW Unit × List MemPlace} (h : plainElem Tryz.prog 4 v = some z) : ∃ b, v = .bool b ∧ z.1 = .lit (.bool b) := by
  unfold plainElem at h
  rw [Tryz.underlying4] at h
  cases v <;> simp at h
  subst h
  exact ⟨_, rfl, rfl⟩
theorem wpList_look {ops : Array Oper} {rest : List Oper} {o : Oper} {a : Act} {w w0 : World} {Q : Exit → Act → World → Prop} {p q r n : Nat} {X Y : V3} {D : DataW Unit} (hM : Hid (Mp p q r X Y n D w0 w))
    (hg : o.guard = none) (m x : Operand) (hop : o.op = Op.lookup 112 m x false) (k : Int) (b : Bool) (hm : a.eval m = .map (some r)) (hx : a.eval x = .int .i64 k) (hk : keyOf Tryz.prog 3 (.int .i64 k) = some (.int .i64 k))
    (hD : D.atKey (.int .i64 k) (.lit (.bool false)) = .lit (.bool b))
    (hK : wpList Tryz.prog ops Q rest (a.put o.dst (.bool b)) w) : wpList Tryz.prog ops Q (o :: rest) a w := by
  obtain ⟨h1, h2, h3, h4, h5⟩ := hM.out
  obtain ⟨v, ps, hrun, hv⟩ := h2.lookup lawI Tryz.underlying112 (zero4 w) (plainElem_bool Tryz.underlying4 false) hk
  obtain ⟨b', rfl, hb⟩ := plain_bool_inv hv
  rw [hD] at hb
  simp only [DataW.lit.injEq, Lit.bool.injEq] at hb
  subst hb
  refine wpList_plain hg fun K' hK' => ?_
  unfold Oper.wp
  simp [execOp, hop, hm, hx, hrun, Result.andThen]
  exact hK' _ _ hK
theorem Fx.made {p q : Nat} {X Y : V3} {w0 w : World} (h : Fx p q X Y w0 w) : Mp p q w.heap.size X Y 0 (.map []) w0 (w.alloc (.map #[] 0)) :=
  ⟨⟨(heap_alloc_old _ _ (lt_of_block h.1)).trans h.1, (heap_alloc_old _ _ (lt_of_block h.2.1)).trans h.2.1, (heap_alloc_old _ _ (lt_of_block h.2.2.1)).trans h.2.2.1, h.2.2.2.alloc h.2.2.2.size _⟩,
   World.ownsMap_made _ _ _ _, lt_of_block h.1, lt_of_block h.2.1, lt_of_block h.2.2.1⟩
theorem alike_bool (X Y : V3) (w : World) : Calls Tryz.prog 120 #[toV X, toV Y] w fun e w' => e = .returned (.bool (X.1 == Y.1 && X.1 != 0)) ∧ Below w.heap.size w w' := ralike_t X Y w
def eqT (X Y : V3) (b : Bool) : V3 := if (X.1 == Y.1 && X.1 != 0) = true then boolT b else nullT
set_option maxHeartbeats 2000000 in
theorem oper_equal (n : Int) (x y : V3) (a : Option Addr) (c : Nat) (w : World) (hc : 2 ≤ c) (h : Lst w a [x, y]) :
    Calls Tryz.prog 37 #[.int .i64 4, .int .i64 n, .slice a 2 c] w fun e w' => e = .returned (toV (eqT (clT x) (clT y) (cmp3 (clT x) (clT y) == 0))) ∧ Below w.heap.size w w' := by
  obtain ⟨b, o, rfl, x0, x1, x2, xs⟩ := h 0 (by simp)
  obtain ⟨b', o', e, y0, y1, y2, ys⟩ := h 1 (by simp)
  simp only [Option.some.injEq, Addr.mk.injEq, and_true] at e
  obtain ⟨rfl, rfl⟩ := e
  simp only [List.getElem_cons_zero, List.getElem_cons_succ] at x0 x1 x2 xs y0 y1 y2 ys
  have hlt : b < w.heap.size := block_lt_of_cell x0
  have CX := Lib.hid (fun w => right_t x xs w)
  have CY := Lib.hid (fun w => right_t y ys w)
  have RX := Lib.hid (clT_right x)
  have RY := Lib.hid (clT_right y)
  generalize clT x = X at CX RX ⊢
  generalize clT y = Y at CY RY ⊢
  obtain ⟨xk, xn, xt⟩ := x
  obtain ⟨yk, yn, yt⟩ := y
  dsimp only at x0 x1 x2 y0 y1 y2
  have X0 := Lib.hid x0
  have X1 := Lib.hid x1
  have X2 := Lib.hid x2
  have Y0 := Lib.hid y0
  have Y1 := Lib.hid y1
  have Y2 := Lib.hid y2
  clear h xs ys x0 x1 x2 y0 y1 y2
  have hc' : (2 : Int) ≤ (c : Int) := by omega
  have em : min (2 : Int) 3 = 2 := by decide
  go_enter Tryz.func37, Tryz.ntmps37
  go_wp2
  clear em
  go_loopw [21] (fun i wr => ∃ k : Nat, k ≤ 2 ∧ i = .int .i64 k ∧ Hid (Ro X Y k w wr)) (fun i _ => 2 - (intOf i).toNat)
  case atStart => exact ⟨0, by omega, rfl, Lib.hid ⟨(heap_alloc_old _ _ (by simp)).trans (heap_alloc_new w _), new_at _ _ _ (by simp), by go_grown⟩⟩
  case round =>
    obtain ⟨k, hk, rfl, hR⟩ := hrel
    have hcase : k = 0 ∨ k = 1 ∨ k = 2 := by omega
    rcases hcase with rfl | rfl | rfl
    · have x0 := (hR.out.2.2.cell (p := ⟨b, o + 0 * 3, none⟩) hlt).trans X0.out
      have x1 := (hR.out.2.2.cell (p := ⟨b, o + 0 * 3 + 1, none⟩) hlt).trans X1.out
      have x2 := (hR.out.2.2.cell (p := ⟨b, o + 0 * 3 + 2, none⟩) hlt).trans X2.out
      simp only [Nat.zero_mul, Nat.add_zero] at x0 x1 x2
      go_wp2_with fail
      refine (CX.out _).mono ?_
      rintro e w1 ⟨rfl, hb1⟩
      have R1 := Lib.hid (hR.out.below (((Below.refl _ _).alloc (Nat.le_refl _) _).trans (hb1.mono (by simp))))
      clear hb1 x0 x1 x2
      go_wp2_with (refine store_mid rfl (.tmp 29) (.tmp 28) rfl (w.heap.size + 1) 0 X rfl rfl _ _ R1.out.2.1 (by rw [PR_size]; decide) (PR_step0 X Y) ?_; intro w2 hp; have HP := Lib.hid hp; clear hp)
      have HN : Hid (Ro X Y 1 w w2) := Lib.hid ⟨(HP.out.keeps.block _ (lt_of_block R1.out.1) (by omega)).trans R1.out.1, HP.out.at', HP.out.below R1.out.2.2 (by omega)⟩
      go_roundw
      case rel => exact ⟨1, by omega, rfl, HN⟩
      case measure => simp [intOf]
    · have x0 := (hR.out.2.2.cell (p := ⟨b, o + 1 * 3, none⟩) hlt).trans Y0.out
      have x1 := (hR.out.2.2.cell (p := ⟨b, o + 1 * 3 + 1, none⟩) hlt).trans Y1.out
      have x2 := (hR.out.2.2.cell (p := ⟨b, o + 1 * 3 + 2, none⟩) hlt).trans Y2.out
      simp only [Nat.one_mul] at x0 x1 x2
      go_wp2_with fail
      refine (CY.out _).mono ?_
      rintro e w1 ⟨rfl, hb1⟩
      have R1 := Lib.hid (hR.out.below (((Below.refl _ _).alloc (Nat.le_refl _) _).trans (hb1.mono (by simp))))
      clear hb1 x0 x1 x2
      go_wp2_with (refine store_mid rfl (.tmp 29) (.tmp 28) rfl (w.heap.size + 1) 3 Y rfl rfl _ _ R1.out.2.1 (by rw [PR_size]; decide) (PR_step1 X Y) ?_; intro w2 hp; have HP := Lib.hid hp; clear hp)
      have HN : Hid (Ro X Y 2 w w2) := Lib.hid ⟨(HP.out.keeps.block _ (lt_of_block R1.out.1) (by omega)).trans R1.out.1, HP.out.at', HP.out.below R1.out.2.2 (by omega)⟩
      go_roundw
      case rel => exact ⟨2, by omega, rfl, HN⟩
      case measure => simp [intOf]
    · go_upto_region 7 with fail
      go_cut [10, 11] (fun s t wx => Six X Y s t w wx)
      case first =>
        have hS : Ro X Y 2 w wr.drew := hR.out.drew
        refine wp_region_held_drew (S := Ro X Y 2 w) (by kernel_rfl) hS ?_
        intro _
        generalize wr.drew = wd at hS ⊢
        refine wpAnyH_take (i := 0) (oi := ⟨some 31, _, _, _, _, _⟩) (v := .pointer (some ⟨w.heap.size + 1, 0, none⟩)) rfl (by kernel_rfl) (by kernel_rfl) (by kernel_rfl) (fun _ _ _ h => h) (Or.inl ⟨rfl, fun w' h => by go_simp⟩) hS ?_
        try simp only [Act.put, List.setIfInBounds_toArray, List.set_cons_zero, List.set_cons_succ]
        refine wpAnyH_take (i := 1) (oi := ⟨some 32, _, _, _, _, _⟩) (v := toV X) rfl (by kernel_rfl) (by kernel_rfl) (by kernel_rfl) (fun _ _ _ h => h) (Or.inl ⟨rfl, fun w' h => run_load_mid23 (C := Ro X Y 2 w) (.tmp 31) rfl (w.heap.size + 1) 0 X _ rfl ⟨rfl, rfl, rfl⟩ (fun _ h => h.2.1) w' h⟩) hS ?_
        try simp only [Act.put, List.setIfInBounds_toArray, List.set_cons_zero, List.set_cons_succ]
        refine wpAnyH_take (i := 2) (oi := ⟨some 33, _, _, _, _, _⟩) (v := .pointer (some ⟨w.heap.size + 1, 3, none⟩)) rfl (by kernel_rfl) (by kernel_rfl) (by kernel_rfl) (fun _ _ _ h => h) (Or.inl ⟨rfl, fun w' h => by go_simp⟩) hS ?_
        try simp only [Act.put, List.setIfInBounds_toArray, List.set_cons_zero, List.set_cons_succ]
        refine wpAnyH_take (i := 3) (oi := ⟨some 34, _, _, _, _, _⟩) (v := toV Y) rfl (by kernel_rfl) (by kernel_rfl) (by kernel_rfl) (fun _ _ _ h => h) (Or.inl ⟨rfl, fun w' h => run_load_mid23 (C := Ro X Y 2 w) (.tmp 33) rfl (w.heap.size + 1) 3 Y _ rfl ⟨rfl, rfl, rfl⟩ (fun _ h => h.2.1) w' h⟩) hS ?_
        try simp only [Act.put, List.setIfInBounds_toArray, List.set_cons_zero, List.set_cons_succ]
        have hz : w.heap.size + 1 < wd.heap.size := lt_of_block hS.2.1
        refine wpAnyH_ready (rs := [4, 5]) (by kernel_rfl) (by simp) ?_
        refine AllReadyH.cons (o := ⟨some 10, _, _, _, _, _⟩) rfl (fun K hK => ?_) ?_
        · go_simp
          refine hK.out _ _ (hS.below (by go_grown)) ?_
          clear hK K
          intro hS1
          try simp only [Act.put, List.setIfInBounds_toArray, List.set_cons_zero, List.set_cons_succ]
          refine wpAnyH_ready (rs := [5]) (by kernel_rfl) (by simp) ?_
          refine AllReadyH.cons (o := ⟨some 11, _, _, _, _, _⟩) rfl (fun K hK => ?_) AllReadyH.nil
          go_simp
          have hS2 := hS1.below (w' := ((wd.alloc (Obj.cells #[Value.int IntKind.i64 0, Value.int IntKind.i64 0, Value.string ⟨#[]⟩] 23)).alloc (Obj.cells #[Value.int IntKind.i64 0, Value.int IntKind.i64 0, Value.string ⟨#[]⟩] 23))) (by go_grown)
          refine hK.out _ _ hS2 ?_
          clear hK K hS1
          intro _
          try simp only [Act.put, List.setIfInBounds_toArray, List.set_cons_zero, List.set_cons_succ]
          have hP : ((wd.alloc (Obj.cells #[Value.int IntKind.i64 0, Value.int IntKind.i64 0, Value.string ⟨#[]⟩] 23)).alloc (Obj.cells #[Value.int IntKind.i64 0, Value.int IntKind.i64 0, Value.string ⟨#[]⟩] 23)).heap[wd.heap.size]? = some (.cells (cells nullT) 23 (0, 0)) := (heap_alloc_old _ _ (by simp)).trans (heap_alloc_new wd _)
          have hQ : ((wd.alloc (Obj.cells #[Value.int IntKind.i64 0, Value.int IntKind.i64 0, Value.string ⟨#[]⟩] 23)).alloc (Obj.cells #[Value.int IntKind.i64 0, Value.int IntKind.i64 0, Value.string ⟨#[]⟩] 23)).heap[wd.heap.size + 1]? = some (.cells (cells nullT) 23 (0, 0)) := new_at _ _ _ (by simp)
          generalize ((wd.alloc (Obj.cells #[Value.int IntKind.i64 0, Value.int IntKind.i64 0, Value.string ⟨#[]⟩] 23)).alloc (Obj.cells #[Value.int IntKind.i64 0, Value.int IntKind.i64 0, Value.string ⟨#[]⟩] 23)) = v0 at hS2 hP hQ ⊢
          clear hS
          generalize wd.heap.size = g at hz hP hQ ⊢
          refine wpAnyH_ready (rs := [6]) (by kernel_rfl) (by simp) ?_
          refine AllReadyH.cons (o := ⟨none, _, _, _, _, _⟩) rfl (fun K hK => ?_) AllReadyH.nil
          rw [if_pos (by rfl)]
          refine wp_store_row 23 (.tmp 10) (.tmp 32) rfl (g) (cells X) rfl rfl 23 (cells nullT) hP size23 rfl (by simp [Value.oneCell']) ?_
          have hP1 := puts_setRow (cells := cells X) hP
          generalize World.setRow _ (g) (cells X) = v1 at hP1 ⊢
          have hQ1 := (hP1.keeps.block _ (lt_of_block hQ) (by omega)).trans hQ
          have hS3 : Ro X Y 2 w v1 := ⟨(hP1.keeps.block _ (lt_of_block hS2.1) (by omega)).trans hS2.1, (hP1.keeps.block _ (lt_of_block hS2.2.1) (by omega)).trans hS2.2.1, hP1.below hS2.2.2 (by omega)⟩
          refine hK.out _ _ hS3 ?_
          clear hK K
          intro _
          try simp only [Act.put]
          refine wpAnyH_ready (rs := [7]) (by kernel_rfl) (by simp) ?_
          refine AllReadyH.cons (o := ⟨none, _, _, _, _, _⟩) rfl (fun K hK => ?_) AllReadyH.nil
          rw [if_pos (by rfl)]
          refine wp_store_row 23 (.tmp 11) (.tmp 34) rfl (g + 1) (cells Y) rfl rfl 23 (cells nullT) hQ1 size23 rfl (by simp [Value.oneCell']) ?_
          have hQ2 := puts_setRow (cells := cells Y) hQ1
          generalize World.setRow _ (g + 1) (cells Y) = v2 at hQ2 ⊢
          have hP2 := (hQ2.keeps.block _ (lt_of_block hP1.at') (by omega)).trans hP1.at'
          have hS4 : Ro X Y 2 w v2 := ⟨(hQ2.keeps.block _ (lt_of_block hS3.1) (by omega)).trans hS3.1, (hQ2.keeps.block _ (lt_of_block hS3.2.1) (by omega)).trans hS3.2.1, hQ2.below hS3.2.2 (by omega)⟩
          refine hK.out _ _ hS4 ?_
          clear hK K
          intro _
          try simp only [Act.put]
          refine wpAnyH_done (by kernel_rfl) ?_ _
          have HX : Hid (Six X Y (.pointer (some ⟨g, 0, none⟩)) (.pointer (some ⟨g + 1, 0, none⟩)) w v2) := Lib.hid ⟨g, g + 1, rfl, rfl, hP2, hQ2.at', by omega, by omega, hS4⟩
          clear hP hQ hP1 hQ1 hQ2 hP2 hS2 hS3 hS4
          go_wp2_with fail
          go_meet
          exact HX.out
        refine AllReadyH.cons (o := ⟨some 11, _, _, _, _, _⟩) rfl (fun K hK => ?_) ?_
        · go_simp
          refine hK.out _ _ (hS.below (by go_grown)) ?_
          clear hK K
          intro hS1
          try simp only [Act.put, List.setIfInBounds_toArray, List.set_cons_zero, List.set_cons_succ]
          refine wpAnyH_ready (rs := [4]) (by kernel_rfl) (by simp) ?_
          refine AllReadyH.cons (o := ⟨some 10, _, _, _, _, _⟩) rfl (fun K hK => ?_) AllReadyH.nil
          go_simp
          have hS2 := hS1.below (w' := ((wd.alloc (Obj.cells #[Value.int IntKind.i64 0, Value.int IntKind.i64 0, Value.string ⟨#[]⟩] 23)).alloc (Obj.cells #[Value.int IntKind.i64 0, Value.int IntKind.i64 0, Value.string ⟨#[]⟩] 23))) (by go_grown)
          refine hK.out _ _ hS2 ?_
          clear hK K hS1
          intro _
          try simp only [Act.put, List.setIfInBounds_toArray, List.set_cons_zero, List.set_cons_succ]
          have hP : ((wd.alloc (Obj.cells #[Value.int IntKind.i64 0, Value.int IntKind.i64 0, Value.string ⟨#[]⟩] 23)).alloc (Obj.cells #[Value.int IntKind.i64 0, Value.int IntKind.i64 0, Value.string ⟨#[]⟩] 23)).heap[wd.heap.size + 1]? = some (.cells (cells nullT) 23 (0, 0)) := new_at _ _ _ (by simp)
          have hQ : ((wd.alloc (Obj.cells #[Value.int IntKind.i64 0, Value.int IntKind.i64 0, Value.string ⟨#[]⟩] 23)).alloc (Obj.cells #[Value.int IntKind.i64 0, Value.int IntKind.i64 0, Value.string ⟨#[]⟩] 23)).heap[wd.heap.size]? = some (.cells (cells nullT) 23 (0, 0)) := (heap_alloc_old _ _ (by simp)).trans (heap_alloc_new wd _)
          generalize ((wd.alloc (Obj.cells #[Value.int IntKind.i64 0, Value.int IntKind.i64 0, Value.string ⟨#[]⟩] 23)).alloc (Obj.cells #[Value.int IntKind.i64 0, Value.int IntKind.i64 0, Value.string ⟨#[]⟩] 23)) = v0 at hS2 hP hQ ⊢
          clear hS
          generalize wd.heap.size = g at hz hP hQ ⊢
          refine wpAnyH_ready (rs := [6]) (by kernel_rfl) (by simp) ?_
          refine AllReadyH.cons (o := ⟨none, _, _, _, _, _⟩) rfl (fun K hK => ?_) AllReadyH.nil
          rw [if_pos (by rfl)]
          refine wp_store_row 23 (.tmp 10) (.tmp 32) rfl (g + 1) (cells X) rfl rfl 23 (cells nullT) hP size23 rfl (by simp [Value.oneCell']) ?_
          have hP1 := puts_setRow (cells := cells X) hP
          generalize World.setRow _ (g + 1) (cells X) = v1 at hP1 ⊢
          have hQ1 := (hP1.keeps.block _ (lt_of_block hQ) (by omega)).trans hQ
          have hS3 : Ro X Y 2 w v1 := ⟨(hP1.keeps.block _ (lt_of_block hS2.1) (by omega)).trans hS2.1, (hP1.keeps.block _ (lt_of_block hS2.2.1) (by omega)).trans hS2.2.1, hP1.below hS2.2.2 (by omega)⟩
          refine hK.out _ _ hS3 ?_
          clear hK K
          intro _
          try simp only [Act.put]
          refine wpAnyH_ready (rs := [7]) (by kernel_rfl) (by simp) ?_
          refine AllReadyH.cons (o := ⟨none, _, _, _, _, _⟩) rfl (fun K hK => ?_) AllReadyH.nil
          rw [if_pos (by rfl)]
          refine wp_store_row 23 (.tmp 11) (.tmp 34) rfl (g) (cells Y) rfl rfl 23 (cells nullT) hQ1 size23 rfl (by simp [Value.oneCell']) ?_
          have hQ2 := puts_setRow (cells := cells Y) hQ1
          generalize World.setRow _ (g) (cells Y) = v2 at hQ2 ⊢
          have hP2 := (hQ2.keeps.block _ (lt_of_block hP1.at') (by omega)).trans hP1.at'
          have hS4 : Ro X Y 2 w v2 := ⟨(hQ2.keeps.block _ (lt_of_block hS3.1) (by omega)).trans hS3.1, (hQ2.keeps.block _ (lt_of_block hS3.2.1) (by omega)).trans hS3.2.1, hQ2.below hS3.2.2 (by omega)⟩
          refine hK.out _ _ hS4 ?_
          clear hK K
          intro _
          try simp only [Act.put]
          refine wpAnyH_done (by kernel_rfl) ?_ _
          have HX : Hid (Six X Y (.pointer (some ⟨g + 1, 0, none⟩)) (.pointer (some ⟨g, 0, none⟩)) w v2) := Lib.hid ⟨g + 1, g, rfl, rfl, hP2, hQ2.at', by omega, by omega, hS4⟩
          clear hP hQ hP1 hQ1 hQ2 hP2 hS2 hS3 hS4
          go_wp2_with fail
          go_meet
          exact HX.out
        exact AllReadyH.nil
      case rest =>
        obtain ⟨p, q, rfl, rfl, hP, hQ, hp, hq, hF⟩ := hcut
        have I0 : Hid (Fx p q X Y w wc) := Lib.hid ⟨hP, hQ, hF.1, hF.2.2⟩
        clear hP hQ hF
        cases hA : (X.1 == Y.1 && X.1 != 0) with
        | false =>
          have CA := Lib.hid (fun w => by have := alike_bool X Y w; rw [hA] at this; exact this)
          have HR := Lib.hid (show eqT X Y (cmp3 X Y == 0) = nullT from by unfold eqT; rw [hA]; rfl)
          clear hA
          have f0 : wc.cell? ⟨p, 0, none⟩ = some (.int .i64 X.1) := (cell_of_row wc _ 0 _ _ _ I0.out.1).trans rfl
          have f1 : wc.cell? ⟨p, 1, none⟩ = some (.int .i64 X.2.1) := (cell_of_row wc _ 1 _ _ _ I0.out.1).trans rfl
          have f2 : wc.cell? ⟨p, 2, none⟩ = some (.string X.2.2) := (cell_of_row wc _ 2 _ _ _ I0.out.1).trans rfl
          have g0 : wc.cell? ⟨q, 0, none⟩ = some (.int .i64 Y.1) := (cell_of_row wc _ 0 _ _ _ I0.out.2.1).trans rfl
          have g1 : wc.cell? ⟨q, 1, none⟩ = some (.int .i64 Y.2.1) := (cell_of_row wc _ 1 _ _ _ I0.out.2.1).trans rfl
          have g2 : wc.cell? ⟨q, 2, none⟩ = some (.string Y.2.2) := (cell_of_row wc _ 2 _ _ _ I0.out.2.1).trans rfl
          go_wp2_with fail
          refine (CA.out _).mono ?_
          rintro e w1 ⟨rfl, hb1⟩
          have I1 := Lib.hid (I0.out.below hb1)
          clear hb1
          clear f0 f1 f2 g0 g1 g2
          have f0 : w1.cell? ⟨p, 0, none⟩ = some (.int .i64 X.1) := (cell_of_row w1 _ 0 _ _ _ I1.out.1).trans rfl
          have f1 : w1.cell? ⟨p, 1, none⟩ = some (.int .i64 X.2.1) := (cell_of_row w1 _ 1 _ _ _ I1.out.1).trans rfl
          have f2 : w1.cell? ⟨p, 2, none⟩ = some (.string X.2.2) := (cell_of_row w1 _ 2 _ _ _ I1.out.1).trans rfl
          have g0 : w1.cell? ⟨q, 0, none⟩ = some (.int .i64 Y.1) := (cell_of_row w1 _ 0 _ _ _ I1.out.2.1).trans rfl
          have g1 : w1.cell? ⟨q, 1, none⟩ = some (.int .i64 Y.2.1) := (cell_of_row w1 _ 1 _ _ _ I1.out.2.1).trans rfl
          have g2 : w1.cell? ⟨q, 2, none⟩ = some (.string Y.2.2) := (cell_of_row w1 _ 2 _ _ _ I1.out.2.1).trans rfl
          go_wp2_with (refine store23 rfl (.tmp 6) (.tmp 134) rfl w.heap.size (nullT) rfl rfl _ I1.out.2.2.1 ?_; intro wz hp; have HP := Lib.hid hp; clear hp)
          exact bodyPost_ret (ret23 rfl rfl HP.out.at') rfl ⟨by rw [HR.out], HP.out.low I1.out.2.2.2 (Nat.le_refl _)⟩
        | true =>
          have CA := Lib.hid (fun w => by have := alike_bool X Y w; rw [hA] at this; exact this)
          have HR := Lib.hid (show eqT X Y (cmp3 X Y == 0) = boolT (cmp3 X Y == 0) from by unfold eqT; rw [hA]; rfl)
          have CC := Lib.hid (fun w => compared_t X Y RX.out.sz RY.out.sz w)
          clear hA
          have f0 : wc.cell? ⟨p, 0, none⟩ = some (.int .i64 X.1) := (cell_of_row wc _ 0 _ _ _ I0.out.1).trans rfl
          have f1 : wc.cell? ⟨p, 1, none⟩ = some (.int .i64 X.2.1) := (cell_of_row wc _ 1 _ _ _ I0.out.1).trans rfl
          have f2 : wc.cell? ⟨p, 2, none⟩ = some (.string X.2.2) := (cell_of_row wc _ 2 _ _ _ I0.out.1).trans rfl
          have g0 : wc.cell? ⟨q, 0, none⟩ = some (.int .i64 Y.1) := (cell_of_row wc _ 0 _ _ _ I0.out.2.1).trans rfl
          have g1 : wc.cell? ⟨q, 1, none⟩ = some (.int .i64 Y.2.1) := (cell_of_row wc _ 1 _ _ _ I0.out.2.1).trans rfl
          have g2 : wc.cell? ⟨q, 2, none⟩ = some (.string Y.2.2) := (cell_of_row wc _ 2 _ _ _ I0.out.2.1).trans rfl
          go_wp2_with fail
          refine (CA.out _).mono ?_
          rintro e w1 ⟨rfl, hb1⟩
          have I1 := Lib.hid (I0.out.below hb1)
          clear hb1
          clear f0 f1 f2 g0 g1 g2
          have f0 : w1.cell? ⟨p, 0, none⟩ = some (.int .i64 X.1) := (cell_of_row w1 _ 0 _ _ _ I1.out.1).trans rfl
          have f1 : w1.cell? ⟨p, 1, none⟩ = some (.int .i64 X.2.1) := (cell_of_row w1 _ 1 _ _ _ I1.out.1).trans rfl
          have f2 : w1.cell? ⟨p, 2, none⟩ = some (.string X.2.2) := (cell_of_row w1 _ 2 _ _ _ I1.out.1).trans rfl
          have g0 : w1.cell? ⟨q, 0, none⟩ = some (.int .i64 Y.1) := (cell_of_row w1 _ 0 _ _ _ I1.out.2.1).trans rfl
          have g1 : w1.cell? ⟨q, 1, none⟩ = some (.int .i64 Y.2.1) := (cell_of_row w1 _ 1 _ _ _ I1.out.2.1).trans rfl
          have g2 : w1.cell? ⟨q, 2, none⟩ = some (.string Y.2.2) := (cell_of_row w1 _ 2 _ _ _ I1.out.2.1).trans rfl
          go_wp2_with fail
          refine (CC.out _).mono ?_
          rintro e w2 ⟨rfl, hb2⟩
          have I2 := Lib.hid (I1.out.below hb2)
          clear hb2
          clear f0 f1 f2 g0 g1 g2
          have f0 : w2.cell? ⟨p, 0, none⟩ = some (.int .i64 X.1) := (cell_of_row w2 _ 0 _ _ _ I2.out.1).trans rfl
          have f1 : w2.cell? ⟨p, 1, none⟩ = some (.int .i64 X.2.1) := (cell_of_row w2 _ 1 _ _ _ I2.out.1).trans rfl
          have f2 : w2.cell? ⟨p, 2, none⟩ = some (.string X.2.2) := (cell_of_row w2 _ 2 _ _ _ I2.out.1).trans rfl
          have g0 : w2.cell? ⟨q, 0, none⟩ = some (.int .i64 Y.1) := (cell_of_row w2 _ 0 _ _ _ I2.out.2.1).trans rfl
          have g1 : w2.cell? ⟨q, 1, none⟩ = some (.int .i64 Y.2.1) := (cell_of_row w2 _ 1 _ _ _ I2.out.2.1).trans rfl
          have g2 : w2.cell? ⟨q, 2, none⟩ = some (.string Y.2.2) := (cell_of_row w2 _ 2 _ _ _ I2.out.2.1).trans rfl
          clear f0 f1 f2 g0 g1 g2
          have hmm := @run_makeMap Tryz.prog
          have M0 := Lib.hid I2.out.made
          go_wp2_with (first | (refine wpList_ins (by assumption) (by decide) rfl _ _ _ rfl _ _ rfl rfl rfl (by kernel_rfl) ?_; intro wN hMN) | (refine wpList_look (by assumption) rfl _ _ rfl _ _ rfl rfl (by kernel_rfl) rfl ?_))
          refine (truth_t (cmp3 X Y == 0) _).mono ?_
          rintro e w4 ⟨rfl, hb4⟩
          have I4 := Lib.hid (hMN.out.1.below hb4)
          clear hb4
          go_wp2_with (refine store23 rfl (.tmp 6) (.tmp 154) rfl w.heap.size (boolT (cmp3 X Y == 0)) rfl rfl _ I4.out.2.2.1 ?_; intro wz hp; have HP := Lib.hid hp; clear hp)
          exact bodyPost_ret (ret23 rfl rfl HP.out.at') rfl ⟨by rw [HR.out], HP.out.low I4.out.2.2.2 (Nat.le_refl _)⟩
set_option maxHeartbeats 2000000 in
theorem oper_less (n : Int) (x y : V3) (a : Option Addr) (c : Nat) (w : World) (hc : 2 ≤ c) (h : Lst w a [x, y]) :
    Calls Tryz.prog 37 #[.int .i64 6, .int .i64 n, .slice a 2 c] w fun e w' => e = .returned (toV (eqT (clT x) (clT y) (decide (cmp3 (clT x) (clT y) < 0)))) ∧ Below w.heap.size w w' := by
  obtain ⟨b, o, rfl, x0, x1, x2, xs⟩ := h 0 (by simp)
  obtain ⟨b', o', e, y0, y1, y2, ys⟩ := h 1 (by simp)
  simp only [Option.some.injEq, Addr.mk.injEq, and_true] at e
  obtain ⟨rfl, rfl⟩ := e
  simp only [List.getElem_cons_zero, List.getElem_cons_succ] at x0 x1 x2 xs y0 y1 y2 ys
  have hlt : b < w.heap.size := block_lt_of_cell x0
  have CX := Lib.hid (fun w => right_t x xs w)
  have CY := Lib.hid (fun w => right_t y ys w)
  have RX := Lib.hid (clT_right x)
  have RY := Lib.hid (clT_right y)
  generalize clT x = X at CX RX ⊢
  generalize clT y = Y at CY RY ⊢
  obtain ⟨xk, xn, xt⟩ := x
  obtain ⟨yk, yn, yt⟩ := y
  dsimp only at x0 x1 x2 y0 y1 y2
  have X0 := Lib.hid x0
  have X1 := Lib.hid x1
  have X2 := Lib.hid x2
  have Y0 := Lib.hid y0
  have Y1 := Lib.hid y1
  have Y2 := Lib.hid y2
  clear h xs ys x0 x1 x2 y0 y1 y2
  have hc' : (2 : Int) ≤ (c : Int) := by omega
  have em : min (2 : Int) 3 = 2 := by decide
  go_enter Tryz.func37, Tryz.ntmps37
  go_wp2
  clear em
  go_loopw [21] (fun i wr => ∃ k : Nat, k ≤ 2 ∧ i = .int .i64 k ∧ Hid (Ro X Y k w wr)) (fun i _ => 2 - (intOf i).toNat)
  case atStart => exact ⟨0, by omega, rfl, Lib.hid ⟨(heap_alloc_old _ _ (by simp)).trans (heap_alloc_new w _), new_at _ _ _ (by simp), by go_grown⟩⟩
  case round =>
    obtain ⟨k, hk, rfl, hR⟩ := hrel
    have hcase : k = 0 ∨ k = 1 ∨ k = 2 := by omega
    rcases hcase with rfl | rfl | rfl
    · have x0 := (hR.out.2.2.cell (p := ⟨b, o + 0 * 3, none⟩) hlt).trans X0.out
      have x1 := (hR.out.2.2.cell (p := ⟨b, o + 0 * 3 + 1, none⟩) hlt).trans X1.out
      have x2 := (hR.out.2.2.cell (p := ⟨b, o + 0 * 3 + 2, none⟩) hlt).trans X2.out
      simp only [Nat.zero_mul, Nat.add_zero] at x0 x1 x2
      go_wp2_with fail
      refine (CX.out _).mono ?_
      rintro e w1 ⟨rfl, hb1⟩
      have R1 := Lib.hid (hR.out.below (((Below.refl _ _).alloc (Nat.le_refl _) _).trans (hb1.mono (by simp))))
      clear hb1 x0 x1 x2
      go_wp2_with (refine store_mid rfl (.tmp 29) (.tmp 28) rfl (w.heap.size + 1) 0 X rfl rfl _ _ R1.out.2.1 (by rw [PR_size]; decide) (PR_step0 X Y) ?_; intro w2 hp; have HP := Lib.hid hp; clear hp)
      have HN : Hid (Ro X Y 1 w w2) := Lib.hid ⟨(HP.out.keeps.block _ (lt_of_block R1.out.1) (by omega)).trans R1.out.1, HP.out.at', HP.out.below R1.out.2.2 (by omega)⟩
      go_roundw
      case rel => exact ⟨1, by omega, rfl, HN⟩
      case measure => simp [intOf]
    · have x0 := (hR.out.2.2.cell (p := ⟨b, o + 1 * 3, none⟩) hlt).trans Y0.out
      have x1 := (hR.out.2.2.cell (p := ⟨b, o + 1 * 3 + 1, none⟩) hlt).trans Y1.out
      have x2 := (hR.out.2.2.cell (p := ⟨b, o + 1 * 3 + 2, none⟩) hlt).trans Y2.out
      simp only [Nat.one_mul] at x0 x1 x2
      go_wp2_with fail
      refine (CY.out _).mono ?_
      rintro e w1 ⟨rfl, hb1⟩
      have R1 := Lib.hid (hR.out.below (((Below.refl _ _).alloc (Nat.le_refl _) _).trans (hb1.mono (by simp))))
      clear hb1 x0 x1 x2
      go_wp2_with (refine store_mid rfl (.tmp 29) (.tmp 28) rfl (w.heap.size + 1) 3 Y rfl rfl _ _ R1.out.2.1 (by rw [PR_size]; decide) (PR_step1 X Y) ?_; intro w2 hp; have HP := Lib.hid hp; clear hp)
      have HN : Hid (Ro X Y 2 w w2) := Lib.hid ⟨(HP.out.keeps.block _ (lt_of_block R1.out.1) (by omega)).trans R1.out.1, HP.out.at', HP.out.below R1.out.2.2 (by omega)⟩
      go_roundw
      case rel => exact ⟨2, by omega, rfl, HN⟩
      case measure => simp [intOf]
    · go_upto_region 7 with fail
      go_cut [10, 11] (fun s t wx => Six X Y s t w wx)
      case first =>
        have hS : Ro X Y 2 w wr.drew := hR.out.drew
        refine wp_region_held_drew (S := Ro X Y 2 w) (by kernel_rfl) hS ?_
        intro _
        generalize wr.drew = wd at hS ⊢
        refine wpAnyH_take (i := 0) (oi := ⟨some 31, _, _, _, _, _⟩) (v := .pointer (some ⟨w.heap.size + 1, 0, none⟩)) rfl (by kernel_rfl) (by kernel_rfl) (by kernel_rfl) (fun _ _ _ h => h) (Or.inl ⟨rfl, fun w' h => by go_simp⟩) hS ?_
        try simp only [Act.put, List.setIfInBounds_toArray, List.set_cons_zero, List.set_cons_succ]
        refine wpAnyH_take (i := 1) (oi := ⟨some 32, _, _, _, _, _⟩) (v := toV X) rfl (by kernel_rfl) (by kernel_rfl) (by kernel_rfl) (fun _ _ _ h => h) (Or.inl ⟨rfl, fun w' h => run_load_mid23 (C := Ro X Y 2 w) (.tmp 31) rfl (w.heap.size + 1) 0 X _ rfl ⟨rfl, rfl, rfl⟩ (fun _ h => h.2.1) w' h⟩) hS ?_
        try simp only [Act.put, List.setIfInBounds_toArray, List.set_cons_zero, List.set_cons_succ]
        refine wpAnyH_take (i := 2) (oi := ⟨some 33, _, _, _, _, _⟩) (v := .pointer (some ⟨w.heap.size + 1, 3, none⟩)) rfl (by kernel_rfl) (by kernel_rfl) (by kernel_rfl) (fun _ _ _ h => h) (Or.inl ⟨rfl, fun w' h => by go_simp⟩) hS ?_
        try simp only [Act.put, List.setIfInBounds_toArray, List.set_cons_zero, List.set_cons_succ]
        refine wpAnyH_take (i := 3) (oi := ⟨some 34, _, _, _, _, _⟩) (v := toV Y) rfl (by kernel_rfl) (by kernel_rfl) (by kernel_rfl) (fun _ _ _ h => h) (Or.inl ⟨rfl, fun w' h => run_load_mid23 (C := Ro X Y 2 w) (.tmp 33) rfl (w.heap.size + 1) 3 Y _ rfl ⟨rfl, rfl, rfl⟩ (fun _ h => h.2.1) w' h⟩) hS ?_
        try simp only [Act.put, List.setIfInBounds_toArray, List.set_cons_zero, List.set_cons_succ]
        have hz : w.heap.size + 1 < wd.heap.size := lt_of_block hS.2.1
        refine wpAnyH_ready (rs := [4, 5]) (by kernel_rfl) (by simp) ?_
        refine AllReadyH.cons (o := ⟨some 10, _, _, _, _, _⟩) rfl (fun K hK => ?_) ?_
        · go_simp
          refine hK.out _ _ (hS.below (by go_grown)) ?_
          clear hK K
          intro hS1
          try simp only [Act.put, List.setIfInBounds_toArray, List.set_cons_zero, List.set_cons_succ]
          refine wpAnyH_ready (rs := [5]) (by kernel_rfl) (by simp) ?_
          refine AllReadyH.cons (o := ⟨some 11, _, _, _, _, _⟩) rfl (fun K hK => ?_) AllReadyH.nil
          go_simp
          have hS2 := hS1.below (w' := ((wd.alloc (Obj.cells #[Value.int IntKind.i64 0, Value.int IntKind.i64 0, Value.string ⟨#[]⟩] 23)).alloc (Obj.cells #[Value.int IntKind.i64 0, Value.int IntKind.i64 0, Value.string ⟨#[]⟩] 23))) (by go_grown)
          refine hK.out _ _ hS2 ?_
          clear hK K hS1
          intro _
          try simp only [Act.put, List.setIfInBounds_toArray, List.set_cons_zero, List.set_cons_succ]
          have hP : ((wd.alloc (Obj.cells #[Value.int IntKind.i64 0, Value.int IntKind.i64 0, Value.string ⟨#[]⟩] 23)).alloc (Obj.cells #[Value.int IntKind.i64 0, Value.int IntKind.i64 0, Value.string ⟨#[]⟩] 23)).heap[wd.heap.size]? = some (.cells (cells nullT) 23 (0, 0)) := (heap_alloc_old _ _ (by simp)).trans (heap_alloc_new wd _)
          have hQ : ((wd.alloc (Obj.cells #[Value.int IntKind.i64 0, Value.int IntKind.i64 0, Value.string ⟨#[]⟩] 23)).alloc (Obj.cells #[Value.int IntKind.i64 0, Value.int IntKind.i64 0, Value.string ⟨#[]⟩] 23)).heap[wd.heap.size + 1]? = some (.cells (cells nullT) 23 (0, 0)) := new_at _ _ _ (by simp)
          generalize ((wd.alloc (Obj.cells #[Value.int IntKind.i64 0, Value.int IntKind.i64 0, Value.string ⟨#[]⟩] 23)).alloc (Obj.cells #[Value.int IntKind.i64 0, Value.int IntKind.i64 0, Value.string ⟨#[]⟩] 23)) = v0 at hS2 hP hQ ⊢
          clear hS
          generalize wd.heap.size = g at hz hP hQ ⊢
          refine wpAnyH_ready (rs := [6]) (by kernel_rfl) (by simp) ?_
          refine AllReadyH.cons (o := ⟨none, _, _, _, _, _⟩) rfl (fun K hK => ?_) AllReadyH.nil
          rw [if_pos (by rfl)]
          refine wp_store_row 23 (.tmp 10) (.tmp 32) rfl (g) (cells X) rfl rfl 23 (cells nullT) hP size23 rfl (by simp [Value.oneCell']) ?_
          have hP1 := puts_setRow (cells := cells X) hP
          generalize World.setRow _ (g) (cells X) = v1 at hP1 ⊢
          have hQ1 := (hP1.keeps.block _ (lt_of_block hQ) (by omega)).trans hQ
          have hS3 : Ro X Y 2 w v1 := ⟨(hP1.keeps.block _ (lt_of_block hS2.1) (by omega)).trans hS2.1, (hP1.keeps.block _ (lt_of_block hS2.2.1) (by omega)).trans hS2.2.1, hP1.below hS2.2.2 (by omega)⟩
          refine hK.out _ _ hS3 ?_
          clear hK K
          intro _
          try simp only [Act.put]
          refine wpAnyH_ready (rs := [7]) (by kernel_rfl) (by simp) ?_
          refine AllReadyH.cons (o := ⟨none, _, _, _, _, _⟩) rfl (fun K hK => ?_) AllReadyH.nil
          rw [if_pos (by rfl)]
          refine wp_store_row 23 (.tmp 11) (.tmp 34) rfl (g + 1) (cells Y) rfl rfl 23 (cells nullT) hQ1 size23 rfl (by simp [Value.oneCell']) ?_
          have hQ2 := puts_setRow (cells := cells Y) hQ1
          generalize World.setRow _ (g + 1) (cells Y) = v2 at hQ2 ⊢
          have hP2 := (hQ2.keeps.block _ (lt_of_block hP1.at') (by omega)).trans hP1.at'
          have hS4 : Ro X Y 2 w v2 := ⟨(hQ2.keeps.block _ (lt_of_block hS3.1) (by omega)).trans hS3.1, (hQ2.keeps.block _ (lt_of_block hS3.2.1) (by omega)).trans hS3.2.1, hQ2.below hS3.2.2 (by omega)⟩
          refine hK.out _ _ hS4 ?_
          clear hK K
          intro _
          try simp only [Act.put]
          refine wpAnyH_done (by kernel_rfl) ?_ _
          have HX : Hid (Six X Y (.pointer (some ⟨g, 0, none⟩)) (.pointer (some ⟨g + 1, 0, none⟩)) w v2) := Lib.hid ⟨g, g + 1, rfl, rfl, hP2, hQ2.at', by omega, by omega, hS4⟩
          clear hP hQ hP1 hQ1 hQ2 hP2 hS2 hS3 hS4
          go_wp2_with fail
          go_meet
          exact HX.out
        refine AllReadyH.cons (o := ⟨some 11, _, _, _, _, _⟩) rfl (fun K hK => ?_) ?_
        · go_simp
          refine hK.out _ _ (hS.below (by go_grown)) ?_
          clear hK K
          intro hS1
          try simp only [Act.put, List.setIfInBounds_toArray, List.set_cons_zero, List.set_cons_succ]
          refine wpAnyH_ready (rs := [4]) (by kernel_rfl) (by simp) ?_
          refine AllReadyH.cons (o := ⟨some 10, _, _, _, _, _⟩) rfl (fun K hK => ?_) AllReadyH.nil
          go_simp
          have hS2 := hS1.below (w' := ((wd.alloc (Obj.cells #[Value.int IntKind.i64 0, Value.int IntKind.i64 0, Value.string ⟨#[]⟩] 23)).alloc (Obj.cells #[Value.int IntKind.i64 0, Value.int IntKind.i64 0, Value.string ⟨#[]⟩] 23))) (by go_grown)
          refine hK.out _ _ hS2 ?_
          clear hK K hS1
          intro _
          try simp only [Act.put, List.setIfInBounds_toArray, List.set_cons_zero, List.set_cons_succ]
          have hP : ((wd.alloc (Obj.cells #[Value.int IntKind.i64 0, Value.int IntKind.i64 0, Value.string ⟨#[]⟩] 23)).alloc (Obj.cells #[Value.int IntKind.i64 0, Value.int IntKind.i64 0, Value.string ⟨#[]⟩] 23)).heap[wd.heap.size + 1]? = some (.cells (cells nullT) 23 (0, 0)) := new_at _ _ _ (by simp)
          have hQ : ((wd.alloc (Obj.cells #[Value.int IntKind.i64 0, Value.int IntKind.i64 0, Value.string ⟨#[]⟩] 23)).alloc (Obj.cells #[Value.int IntKind.i64 0, Value.int IntKind.i64 0, Value.string ⟨#[]⟩] 23)).heap[wd.heap.size]? = some (.cells (cells nullT) 23 (0, 0)) := (heap_alloc_old _ _ (by simp)).trans (heap_alloc_new wd _)
          generalize ((wd.alloc (Obj.cells #[Value.int IntKind.i64 0, Value.int IntKind.i64 0, Value.string ⟨#[]⟩] 23)).alloc (Obj.cells #[Value.int IntKind.i64 0, Value.int IntKind.i64 0, Value.string ⟨#[]⟩] 23)) = v0 at hS2 hP hQ ⊢
          clear hS
          generalize wd.heap.size = g at hz hP hQ ⊢
          refine wpAnyH_ready (rs := [6]) (by kernel_rfl) (by simp) ?_
          refine AllReadyH.cons (o := ⟨none, _, _, _, _, _⟩) rfl (fun K hK => ?_) AllReadyH.nil
          rw [if_pos (by rfl)]
          refine wp_store_row 23 (.tmp 10) (.tmp 32) rfl (g + 1) (cells X) rfl rfl 23 (cells nullT) hP size23 rfl (by simp [Value.oneCell']) ?_
          have hP1 := puts_setRow (cells := cells X) hP
          generalize World.setRow _ (g + 1) (cells X) = v1 at hP1 ⊢
          have hQ1 := (hP1.keeps.block _ (lt_of_block hQ) (by omega)).trans hQ
          have hS3 : Ro X Y 2 w v1 := ⟨(hP1.keeps.block _ (lt_of_block hS2.1) (by omega)).trans hS2.1, (hP1.keeps.block _ (lt_of_block hS2.2.1) (by omega)).trans hS2.2.1, hP1.below hS2.2.2 (by omega)⟩
          refine hK.out _ _ hS3 ?_
          clear hK K
          intro _
          try simp only [Act.put]
          refine wpAnyH_ready (rs := [7]) (by kernel_rfl) (by simp) ?_
          refine AllReadyH.cons (o := ⟨none, _, _, _, _, _⟩) rfl (fun K hK => ?_) AllReadyH.nil
          rw [if_pos (by rfl)]
          refine wp_store_row 23 (.tmp 11) (.tmp 34) rfl (g) (cells Y) rfl rfl 23 (cells nullT) hQ1 size23 rfl (by simp [Value.oneCell']) ?_
          have hQ2 := puts_setRow (cells := cells Y) hQ1
          generalize World.setRow _ (g) (cells Y) = v2 at hQ2 ⊢
          have hP2 := (hQ2.keeps.block _ (lt_of_block hP1.at') (by omega)).trans hP1.at'
          have hS4 : Ro X Y 2 w v2 := ⟨(hQ2.keeps.block _ (lt_of_block hS3.1) (by omega)).trans hS3.1, (hQ2.keeps.block _ (lt_of_block hS3.2.1) (by omega)).trans hS3.2.1, hQ2.below hS3.2.2 (by omega)⟩
          refine hK.out _ _ hS4 ?_
          clear hK K
          intro _
          try simp only [Act.put]
          refine wpAnyH_done (by kernel_rfl) ?_ _
          have HX : Hid (Six X Y (.pointer (some ⟨g + 1, 0, none⟩)) (.pointer (some ⟨g, 0, none⟩)) w v2) := Lib.hid ⟨g + 1, g, rfl, rfl, hP2, hQ2.at', by omega, by omega, hS4⟩
          clear hP hQ hP1 hQ1 hQ2 hP2 hS2 hS3 hS4
          go_wp2_with fail
          go_meet
          exact HX.out
        exact AllReadyH.nil
      case rest =>
        obtain ⟨p, q, rfl, rfl, hP, hQ, hp, hq, hF⟩ := hcut
        have I0 : Hid (Fx p q X Y w wc) := Lib.hid ⟨hP, hQ, hF.1, hF.2.2⟩
        clear hP hQ hF
        cases hA : (X.1 == Y.1 && X.1 != 0) with
        | false =>
          have CA := Lib.hid (fun w => by have := alike_bool X Y w; rw [hA] at this; exact this)
          have HR := Lib.hid (show eqT X Y (decide (cmp3 X Y < 0)) = nullT from by unfold eqT; rw [hA]; rfl)
          clear hA
          have f0 : wc.cell? ⟨p, 0, none⟩ = some (.int .i64 X.1) := (cell_of_row wc _ 0 _ _ _ I0.out.1).trans rfl
          have f1 : wc.cell? ⟨p, 1, none⟩ = some (.int .i64 X.2.1) := (cell_of_row wc _ 1 _ _ _ I0.out.1).trans rfl
          have f2 : wc.cell? ⟨p, 2, none⟩ = some (.string X.2.2) := (cell_of_row wc _ 2 _ _ _ I0.out.1).trans rfl
          have g0 : wc.cell? ⟨q, 0, none⟩ = some (.int .i64 Y.1) := (cell_of_row wc _ 0 _ _ _ I0.out.2.1).trans rfl
          have g1 : wc.cell? ⟨q, 1, none⟩ = some (.int .i64 Y.2.1) := (cell_of_row wc _ 1 _ _ _ I0.out.2.1).trans rfl
          have g2 : wc.cell? ⟨q, 2, none⟩ = some (.string Y.2.2) := (cell_of_row wc _ 2 _ _ _ I0.out.2.1).trans rfl
          go_wp2_with fail
          refine (CA.out _).mono ?_
          rintro e w1 ⟨rfl, hb1⟩
          have I1 := Lib.hid (I0.out.below hb1)
          clear hb1
          clear f0 f1 f2 g0 g1 g2
          have f0 : w1.cell? ⟨p, 0, none⟩ = some (.int .i64 X.1) := (cell_of_row w1 _ 0 _ _ _ I1.out.1).trans rfl
          have f1 : w1.cell? ⟨p, 1, none⟩ = some (.int .i64 X.2.1) := (cell_of_row w1 _ 1 _ _ _ I1.out.1).trans rfl
          have f2 : w1.cell? ⟨p, 2, none⟩ = some (.string X.2.2) := (cell_of_row w1 _ 2 _ _ _ I1.out.1).trans rfl
          have g0 : w1.cell? ⟨q, 0, none⟩ = some (.int .i64 Y.1) := (cell_of_row w1 _ 0 _ _ _ I1.out.2.1).trans rfl
          have g1 : w1.cell? ⟨q, 1, none⟩ = some (.int .i64 Y.2.1) := (cell_of_row w1 _ 1 _ _ _ I1.out.2.1).trans rfl
          have g2 : w1.cell? ⟨q, 2, none⟩ = some (.string Y.2.2) := (cell_of_row w1 _ 2 _ _ _ I1.out.2.1).trans rfl
          go_wp2_with (refine store23 rfl (.tmp 6) (.tmp 134) rfl w.heap.size (nullT) rfl rfl _ I1.out.2.2.1 ?_; intro wz hp; have HP := Lib.hid hp; clear hp)
          exact bodyPost_ret (ret23 rfl rfl HP.out.at') rfl ⟨by rw [HR.out], HP.out.low I1.out.2.2.2 (Nat.le_refl _)⟩
        | true =>
          have CA := Lib.hid (fun w => by have := alike_bool X Y w; rw [hA] at this; exact this)
          have HR := Lib.hid (show eqT X Y (decide (cmp3 X Y < 0)) = boolT (decide (cmp3 X Y < 0)) from by unfold eqT; rw [hA]; rfl)
          have CC := Lib.hid (fun w => compared_t X Y RX.out.sz RY.out.sz w)
          clear hA
          have f0 : wc.cell? ⟨p, 0, none⟩ = some (.int .i64 X.1) := (cell_of_row wc _ 0 _ _ _ I0.out.1).trans rfl
          have f1 : wc.cell? ⟨p, 1, none⟩ = some (.int .i64 X.2.1) := (cell_of_row wc _ 1 _ _ _ I0.out.1).trans rfl
          have f2 : wc.cell? ⟨p, 2, none⟩ = some (.string X.2.2) := (cell_of_row wc _ 2 _ _ _ I0.out.1).trans rfl
          have g0 : wc.cell? ⟨q, 0, none⟩ = some (.int .i64 Y.1) := (cell_of_row wc _ 0 _ _ _ I0.out.2.1).trans rfl
          have g1 : wc.cell? ⟨q, 1, none⟩ = some (.int .i64 Y.2.1) := (cell_of_row wc _ 1 _ _ _ I0.out.2.1).trans rfl
          have g2 : wc.cell? ⟨q, 2, none⟩ = some (.string Y.2.2) := (cell_of_row wc _ 2 _ _ _ I0.out.2.1).trans rfl
          go_wp2_with fail
          refine (CA.out _).mono ?_
          rintro e w1 ⟨rfl, hb1⟩
          have I1 := Lib.hid (I0.out.below hb1)
          clear hb1
          clear f0 f1 f2 g0 g1 g2
          have f0 : w1.cell? ⟨p, 0, none⟩ = some (.int .i64 X.1) := (cell_of_row w1 _ 0 _ _ _ I1.out.1).trans rfl
          have f1 : w1.cell? ⟨p, 1, none⟩ = some (.int .i64 X.2.1) := (cell_of_row w1 _ 1 _ _ _ I1.out.1).trans rfl
          have f2 : w1.cell? ⟨p, 2, none⟩ = some (.string X.2.2) := (cell_of_row w1 _ 2 _ _ _ I1.out.1).trans rfl
          have g0 : w1.cell? ⟨q, 0, none⟩ = some (.int .i64 Y.1) := (cell_of_row w1 _ 0 _ _ _ I1.out.2.1).trans rfl
          have g1 : w1.cell? ⟨q, 1, none⟩ = some (.int .i64 Y.2.1) := (cell_of_row w1 _ 1 _ _ _ I1.out.2.1).trans rfl
          have g2 : w1.cell? ⟨q, 2, none⟩ = some (.string Y.2.2) := (cell_of_row w1 _ 2 _ _ _ I1.out.2.1).trans rfl
          go_wp2_with fail
          refine (CC.out _).mono ?_
          rintro e w2 ⟨rfl, hb2⟩
          have I2 := Lib.hid (I1.out.below hb2)
          clear hb2
          clear f0 f1 f2 g0 g1 g2
          have f0 : w2.cell? ⟨p, 0, none⟩ = some (.int .i64 X.1) := (cell_of_row w2 _ 0 _ _ _ I2.out.1).trans rfl
          have f1 : w2.cell? ⟨p, 1, none⟩ = some (.int .i64 X.2.1) := (cell_of_row w2 _ 1 _ _ _ I2.out.1).trans rfl
          have f2 : w2.cell? ⟨p, 2, none⟩ = some (.string X.2.2) := (cell_of_row w2 _ 2 _ _ _ I2.out.1).trans rfl
          have g0 : w2.cell? ⟨q, 0, none⟩ = some (.int .i64 Y.1) := (cell_of_row w2 _ 0 _ _ _ I2.out.2.1).trans rfl
          have g1 : w2.cell? ⟨q, 1, none⟩ = some (.int .i64 Y.2.1) := (cell_of_row w2 _ 1 _ _ _ I2.out.2.1).trans rfl
          have g2 : w2.cell? ⟨q, 2, none⟩ = some (.string Y.2.2) := (cell_of_row w2 _ 2 _ _ _ I2.out.2.1).trans rfl
          clear f0 f1 f2 g0 g1 g2
          have hmm := @run_makeMap Tryz.prog
          have M0 := Lib.hid I2.out.made
          go_wp2_with (first | (refine wpList_ins (by assumption) (by decide) rfl _ _ _ rfl _ _ rfl rfl rfl (by kernel_rfl) ?_; intro wN hMN) | (refine wpList_look (by assumption) rfl _ _ rfl _ _ rfl rfl (by kernel_rfl) rfl ?_))
          refine (truth_t (decide (cmp3 X Y < 0)) _).mono ?_
          rintro e w4 ⟨rfl, hb4⟩
          have I4 := Lib.hid (hMN.out.1.below hb4)
          clear hb4
          go_wp2_with (refine store23 rfl (.tmp 6) (.tmp 154) rfl w.heap.size (boolT (decide (cmp3 X Y < 0))) rfl rfl _ I4.out.2.2.1 ?_; intro wz hp; have HP := Lib.hid hp; clear hp)
          exact bodyPost_ret (ret23 rfl rfl HP.out.at') rfl ⟨by rw [HR.out], HP.out.low I4.out.2.2.2 (Nat.le_refl _)⟩
end YtabojeleomfgnaaGreatDoor
end Go.Proofs
