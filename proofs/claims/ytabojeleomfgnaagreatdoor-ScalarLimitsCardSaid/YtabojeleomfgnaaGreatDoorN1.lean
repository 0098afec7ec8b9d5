/- numbers: the numbers of two right values. -/
import Derived.Test.YtabojeleomfgnaaGreatDoorL1
namespace Go.Proofs
open Go.RowKit
namespace YtabojeleomfgnaaGreatDoor
set_option maxRecDepth 100000
def In2 (ka na kb nb : Int) (sa sb : ByteArray) (w0 w : World) : Prop :=
  w.heap[w0.heap.size]? = some (.cells #[.int .i64 ka, .int .i64 na, .string sa] 23 (0, 0)) ∧ w.heap[w0.heap.size + 1]? = some (.cells #[.int .i64 kb, .int .i64 nb, .string sb] 23 (0, 0)) ∧ Below w0.heap.size w0 w
theorem In2.below {ka na kb nb : Int} {sa sb : ByteArray} {w0 w w' : World} (h : In2 ka na kb nb sa sb w0 w) (hb : Below w.heap.size w w') : In2 ka na kb nb sa sb w0 w' :=
  ⟨(hb.block _ (lt_of_block h.1)).trans h.1, (hb.block _ (lt_of_block h.2.1)).trans h.2.1, below_call h.2.2 hb⟩
set_option maxHeartbeats 2000000 in
theorem numbers_n1 (ka na kb nb ka' na' kb' nb' p q : Int) (sa sb sa' sb' : ByteArray) (w : World) (h1 : (ka' != p) = true)
    (ha : ∀ w, Calls Tryz.prog 94 #[val ka na sa] w fun e w' => e = .returned (val ka' na' sa') ∧ Below w.heap.size w w')
    (hb : ∀ w, Calls Tryz.prog 94 #[val kb nb sb] w fun e w' => e = .returned (val kb' nb' sb') ∧ Below w.heap.size w w') :
    Calls Tryz.prog 122 #[val ka na sa, .int .i64 p, val kb nb sb, .int .i64 q] w fun e w' => e = .returned (.tuple #[.int .i64 0, .int .i64 0, .bool false]) ∧ Below w.heap.size w w' := by
  have HA := Lib.hid ha
  have HB := Lib.hid hb
  clear ha hb
  go_enter Tryz.func122, Tryz.ntmps122
  go_wp2_with fail
  have hI : In2 ka na kb nb sa sb w ((w.alloc (.cells #[.int .i64 ka, .int .i64 na, .string sa] 23)).alloc (.cells #[.int .i64 kb, .int .i64 nb, .string sb] 23)).drew := ⟨(heap_alloc_old _ _ (by simp)).trans (heap_alloc_new w _), new_at _ _ _ (by simp), by go_grown⟩
  refine wp_region_any (by kernel_rfl) ?_
  change wpAny _ _ _ _ _ _ _ (World.drew _)
  generalize ((w.alloc (.cells #[.int .i64 ka, .int .i64 na, .string sa] 23)).alloc (.cells #[.int .i64 kb, .int .i64 nb, .string sb] 23)).drew = wd at hI ⊢
  refine wpAny_ready (rs := [0, 2]) (by kernel_rfl) (by simp) ?_
  refine AllReady.cons (o := ⟨some 11, _, _, _, _, _⟩) rfl (fun K hK => ?_) ?_
  · rw [if_pos (by rfl)]
    refine wp_load_row 23 (.tmp 4) rfl w.heap.size rfl 23 #[.int .i64 ka, .int .i64 na, .string sa] (0, 0) _ hI.1 Tryz.underlying23 rfl size23 ?_
    refine hK _ _ ?_
    clear hK K
    try simp only [Act.put, List.setIfInBounds_toArray, List.set_cons_zero, List.set_cons_succ]
    refine wpAny_ready (rs := [1, 2]) (by kernel_rfl) (by simp) ?_
    refine AllReady.cons (o := ⟨some 12, _, _, _, _, _⟩) rfl (fun K hK => ?_) ?_
    · have HK := Lib.hid hK
      clear hK
      go_simp
      refine (HA.out _).mono ?_
      rintro e v1 ⟨rfl, hb1⟩
      refine HK.out _ _ ?_
      replace hI := hI.below hb1
      clear HK K hb1
      try simp only [Act.put, List.setIfInBounds_toArray, List.set_cons_zero, List.set_cons_succ]
      refine wpAny_ready (rs := [2]) (by kernel_rfl) (by simp) ?_
      refine AllReady.cons (o := ⟨some 13, _, _, _, _, _⟩) rfl (fun K hK => ?_) ?_
      · rw [if_pos (by rfl)]
        refine wp_load_row 23 (.tmp 6) rfl (w.heap.size + 1) rfl 23 #[.int .i64 kb, .int .i64 nb, .string sb] (0, 0) _ hI.2.1 Tryz.underlying23 rfl size23 ?_
        refine hK _ _ ?_
        clear hK K
        try simp only [Act.put, List.setIfInBounds_toArray, List.set_cons_zero, List.set_cons_succ]
        refine wpAny_ready (rs := [3]) (by kernel_rfl) (by simp) ?_
        refine AllReady.cons (o := ⟨some 14, _, _, _, _, _⟩) rfl (fun K hK => ?_) ?_
        · have HK := Lib.hid hK
          clear hK
          go_simp
          refine (HB.out _).mono ?_
          rintro e v3 ⟨rfl, hb3⟩
          refine HK.out _ _ ?_
          replace hI := hI.below hb3
          clear HK K hb3
          try simp only [Act.put, List.setIfInBounds_toArray, List.set_cons_zero, List.set_cons_succ]
          refine wpAny_ready (rs := [4]) (by kernel_rfl) (by simp) ?_
          refine AllReady.cons (o := ⟨none, _, _, _, _, _⟩) rfl (fun K hK => ?_) AllReady.nil
          rw [if_pos (by rfl)]
          refine wp_store_row 23 (.tmp 4) (.tmp 12) rfl w.heap.size #[.int .i64 ka', .int .i64 na', .string sa'] rfl rfl 23 #[.int .i64 ka, .int .i64 na, .string sa] hI.1 size23 rfl (by simp [Value.oneCell']) ?_
          have hP := puts_setRow (cells := #[.int .i64 ka', .int .i64 na', .string sa']) hI.1
          refine hK _ _ ?_
          generalize World.setRow _ w.heap.size #[.int .i64 ka', .int .i64 na', .string sa'] = x1 at hP ⊢
          clear hK K
          try simp only [Act.put]
          refine wpAny_ready (rs := [5]) (by kernel_rfl) (by simp) ?_
          refine AllReady.cons (o := ⟨none, _, _, _, _, _⟩) rfl (fun K hK => ?_) AllReady.nil
          rw [if_pos (by rfl)]
          have hB1 := (hP.keeps.block _ (lt_of_block hI.2.1) (by omega)).trans hI.2.1
          have hL1 := hP.below hI.2.2 (Nat.le_refl _)
          refine wp_store_row 23 (.tmp 6) (.tmp 14) rfl (w.heap.size + 1) #[.int .i64 kb', .int .i64 nb', .string sb'] rfl rfl 23 #[.int .i64 kb, .int .i64 nb, .string sb] hB1 size23 rfl (by simp [Value.oneCell']) ?_
          have hP2 := puts_setRow (cells := #[.int .i64 kb', .int .i64 nb', .string sb']) hB1
          refine hK _ _ ?_
          generalize World.setRow _ (w.heap.size + 1) #[.int .i64 kb', .int .i64 nb', .string sb'] = x2 at hP2 ⊢
          clear hK K
          try simp only [Act.put]
          refine wpAny_done (by kernel_rfl) ?_ _
          have HI : Hid (In2 ka' na' kb' nb' sa' sb' w x2) := ⟨(hP2.keeps.block _ (lt_of_block hP.at') (by omega)).trans hP.at', hP2.at', hP2.below hL1 (by omega)⟩
          clear hI hP hB1 hL1 hP2
          have a0 : x2.cell? ⟨w.heap.size, 0, none⟩ = some (.int .i64 ka') := (cell_of_row x2 _ 0 _ _ _ HI.out.1).trans rfl
          have a1 : x2.cell? ⟨w.heap.size, 1, none⟩ = some (.int .i64 na') := (cell_of_row x2 _ 1 _ _ _ HI.out.1).trans rfl
          have d0 : x2.cell? ⟨w.heap.size + 1, 0, none⟩ = some (.int .i64 kb') := (cell_of_row x2 _ 0 _ _ _ HI.out.2.1).trans rfl
          have d1 : x2.cell? ⟨w.heap.size + 1, 1, none⟩ = some (.int .i64 nb') := (cell_of_row x2 _ 1 _ _ _ HI.out.2.1).trans rfl
          go_wp2
          go_ret3
          exact ⟨rfl, HI.out.2.2⟩
        exact AllReady.nil
      exact AllReady.nil
    refine AllReady.cons (o := ⟨some 13, _, _, _, _, _⟩) rfl (fun K hK => ?_) ?_
    · rw [if_pos (by rfl)]
      refine wp_load_row 23 (.tmp 6) rfl (w.heap.size + 1) rfl 23 #[.int .i64 kb, .int .i64 nb, .string sb] (0, 0) _ hI.2.1 Tryz.underlying23 rfl size23 ?_
      refine hK _ _ ?_
      clear hK K
      try simp only [Act.put, List.setIfInBounds_toArray, List.set_cons_zero, List.set_cons_succ]
      refine wpAny_ready (rs := [1]) (by kernel_rfl) (by simp) ?_
      refine AllReady.cons (o := ⟨some 12, _, _, _, _, _⟩) rfl (fun K hK => ?_) ?_
      · have HK := Lib.hid hK
        clear hK
        go_simp
        refine (HA.out _).mono ?_
        rintro e v5 ⟨rfl, hb5⟩
        refine HK.out _ _ ?_
        replace hI := hI.below hb5
        clear HK K hb5
        try simp only [Act.put, List.setIfInBounds_toArray, List.set_cons_zero, List.set_cons_succ]
        refine wpAny_ready (rs := [3]) (by kernel_rfl) (by simp) ?_
        refine AllReady.cons (o := ⟨some 14, _, _, _, _, _⟩) rfl (fun K hK => ?_) ?_
        · have HK := Lib.hid hK
          clear hK
          go_simp
          refine (HB.out _).mono ?_
          rintro e v6 ⟨rfl, hb6⟩
          refine HK.out _ _ ?_
          replace hI := hI.below hb6
          clear HK K hb6
          try simp only [Act.put, List.setIfInBounds_toArray, List.set_cons_zero, List.set_cons_succ]
          refine wpAny_ready (rs := [4]) (by kernel_rfl) (by simp) ?_
          refine AllReady.cons (o := ⟨none, _, _, _, _, _⟩) rfl (fun K hK => ?_) AllReady.nil
          rw [if_pos (by rfl)]
          refine wp_store_row 23 (.tmp 4) (.tmp 12) rfl w.heap.size #[.int .i64 ka', .int .i64 na', .string sa'] rfl rfl 23 #[.int .i64 ka, .int .i64 na, .string sa] hI.1 size23 rfl (by simp [Value.oneCell']) ?_
          have hP := puts_setRow (cells := #[.int .i64 ka', .int .i64 na', .string sa']) hI.1
          refine hK _ _ ?_
          generalize World.setRow _ w.heap.size #[.int .i64 ka', .int .i64 na', .string sa'] = x1 at hP ⊢
          clear hK K
          try simp only [Act.put]
          refine wpAny_ready (rs := [5]) (by kernel_rfl) (by simp) ?_
          refine AllReady.cons (o := ⟨none, _, _, _, _, _⟩) rfl (fun K hK => ?_) AllReady.nil
          rw [if_pos (by rfl)]
          have hB1 := (hP.keeps.block _ (lt_of_block hI.2.1) (by omega)).trans hI.2.1
          have hL1 := hP.below hI.2.2 (Nat.le_refl _)
          refine wp_store_row 23 (.tmp 6) (.tmp 14) rfl (w.heap.size + 1) #[.int .i64 kb', .int .i64 nb', .string sb'] rfl rfl 23 #[.int .i64 kb, .int .i64 nb, .string sb] hB1 size23 rfl (by simp [Value.oneCell']) ?_
          have hP2 := puts_setRow (cells := #[.int .i64 kb', .int .i64 nb', .string sb']) hB1
          refine hK _ _ ?_
          generalize World.setRow _ (w.heap.size + 1) #[.int .i64 kb', .int .i64 nb', .string sb'] = x2 at hP2 ⊢
          clear hK K
          try simp only [Act.put]
          refine wpAny_done (by kernel_rfl) ?_ _
          have HI : Hid (In2 ka' na' kb' nb' sa' sb' w x2) := ⟨(hP2.keeps.block _ (lt_of_block hP.at') (by omega)).trans hP.at', hP2.at', hP2.below hL1 (by omega)⟩
          clear hI hP hB1 hL1 hP2
          have a0 : x2.cell? ⟨w.heap.size, 0, none⟩ = some (.int .i64 ka') := (cell_of_row x2 _ 0 _ _ _ HI.out.1).trans rfl
          have a1 : x2.cell? ⟨w.heap.size, 1, none⟩ = some (.int .i64 na') := (cell_of_row x2 _ 1 _ _ _ HI.out.1).trans rfl
          have d0 : x2.cell? ⟨w.heap.size + 1, 0, none⟩ = some (.int .i64 kb') := (cell_of_row x2 _ 0 _ _ _ HI.out.2.1).trans rfl
          have d1 : x2.cell? ⟨w.heap.size + 1, 1, none⟩ = some (.int .i64 nb') := (cell_of_row x2 _ 1 _ _ _ HI.out.2.1).trans rfl
          go_wp2
          go_ret3
          exact ⟨rfl, HI.out.2.2⟩
        exact AllReady.nil
      exact AllReady.nil
    exact AllReady.nil
  refine AllReady.cons (o := ⟨some 13, _, _, _, _, _⟩) rfl (fun K hK => ?_) ?_
  · rw [if_pos (by rfl)]
    refine wp_load_row 23 (.tmp 6) rfl (w.heap.size + 1) rfl 23 #[.int .i64 kb, .int .i64 nb, .string sb] (0, 0) _ hI.2.1 Tryz.underlying23 rfl size23 ?_
    refine hK _ _ ?_
    clear hK K
    try simp only [Act.put, List.setIfInBounds_toArray, List.set_cons_zero, List.set_cons_succ]
    refine wpAny_ready (rs := [0]) (by kernel_rfl) (by simp) ?_
    refine AllReady.cons (o := ⟨some 11, _, _, _, _, _⟩) rfl (fun K hK => ?_) ?_
    · rw [if_pos (by rfl)]
      refine wp_load_row 23 (.tmp 4) rfl w.heap.size rfl 23 #[.int .i64 ka, .int .i64 na, .string sa] (0, 0) _ hI.1 Tryz.underlying23 rfl size23 ?_
      refine hK _ _ ?_
      clear hK K
      try simp only [Act.put, List.setIfInBounds_toArray, List.set_cons_zero, List.set_cons_succ]
      refine wpAny_ready (rs := [1]) (by kernel_rfl) (by simp) ?_
      refine AllReady.cons (o := ⟨some 12, _, _, _, _, _⟩) rfl (fun K hK => ?_) ?_
      · have HK := Lib.hid hK
        clear hK
        go_simp
        refine (HA.out _).mono ?_
        rintro e v9 ⟨rfl, hb9⟩
        refine HK.out _ _ ?_
        replace hI := hI.below hb9
        clear HK K hb9
        try simp only [Act.put, List.setIfInBounds_toArray, List.set_cons_zero, List.set_cons_succ]
        refine wpAny_ready (rs := [3]) (by kernel_rfl) (by simp) ?_
        refine AllReady.cons (o := ⟨some 14, _, _, _, _, _⟩) rfl (fun K hK => ?_) ?_
        · have HK := Lib.hid hK
          clear hK
          go_simp
          refine (HB.out _).mono ?_
          rintro e v10 ⟨rfl, hb10⟩
          refine HK.out _ _ ?_
          replace hI := hI.below hb10
          clear HK K hb10
          try simp only [Act.put, List.setIfInBounds_toArray, List.set_cons_zero, List.set_cons_succ]
          refine wpAny_ready (rs := [4]) (by kernel_rfl) (by simp) ?_
          refine AllReady.cons (o := ⟨none, _, _, _, _, _⟩) rfl (fun K hK => ?_) AllReady.nil
          rw [if_pos (by rfl)]
          refine wp_store_row 23 (.tmp 4) (.tmp 12) rfl w.heap.size #[.int .i64 ka', .int .i64 na', .string sa'] rfl rfl 23 #[.int .i64 ka, .int .i64 na, .string sa] hI.1 size23 rfl (by simp [Value.oneCell']) ?_
          have hP := puts_setRow (cells := #[.int .i64 ka', .int .i64 na', .string sa']) hI.1
          refine hK _ _ ?_
          generalize World.setRow _ w.heap.size #[.int .i64 ka', .int .i64 na', .string sa'] = x1 at hP ⊢
          clear hK K
          try simp only [Act.put]
          refine wpAny_ready (rs := [5]) (by kernel_rfl) (by simp) ?_
          refine AllReady.cons (o := ⟨none, _, _, _, _, _⟩) rfl (fun K hK => ?_) AllReady.nil
          rw [if_pos (by rfl)]
          have hB1 := (hP.keeps.block _ (lt_of_block hI.2.1) (by omega)).trans hI.2.1
          have hL1 := hP.below hI.2.2 (Nat.le_refl _)
          refine wp_store_row 23 (.tmp 6) (.tmp 14) rfl (w.heap.size + 1) #[.int .i64 kb', .int .i64 nb', .string sb'] rfl rfl 23 #[.int .i64 kb, .int .i64 nb, .string sb] hB1 size23 rfl (by simp [Value.oneCell']) ?_
          have hP2 := puts_setRow (cells := #[.int .i64 kb', .int .i64 nb', .string sb']) hB1
          refine hK _ _ ?_
          generalize World.setRow _ (w.heap.size + 1) #[.int .i64 kb', .int .i64 nb', .string sb'] = x2 at hP2 ⊢
          clear hK K
          try simp only [Act.put]
          refine wpAny_done (by kernel_rfl) ?_ _
          have HI : Hid (In2 ka' na' kb' nb' sa' sb' w x2) := ⟨(hP2.keeps.block _ (lt_of_block hP.at') (by omega)).trans hP.at', hP2.at', hP2.below hL1 (by omega)⟩
          clear hI hP hB1 hL1 hP2
          have a0 : x2.cell? ⟨w.heap.size, 0, none⟩ = some (.int .i64 ka') := (cell_of_row x2 _ 0 _ _ _ HI.out.1).trans rfl
          have a1 : x2.cell? ⟨w.heap.size, 1, none⟩ = some (.int .i64 na') := (cell_of_row x2 _ 1 _ _ _ HI.out.1).trans rfl
          have d0 : x2.cell? ⟨w.heap.size + 1, 0, none⟩ = some (.int .i64 kb') := (cell_of_row x2 _ 0 _ _ _ HI.out.2.1).trans rfl
          have d1 : x2.cell? ⟨w.heap.size + 1, 1, none⟩ = some (.int .i64 nb') := (cell_of_row x2 _ 1 _ _ _ HI.out.2.1).trans rfl
          go_wp2
          go_ret3
          exact ⟨rfl, HI.out.2.2⟩
        exact AllReady.nil
      exact AllReady.nil
    exact AllReady.nil
  exact AllReady.nil
set_option maxHeartbeats 2000000 in
theorem numbers_n2 (ka na kb nb ka' na' kb' nb' p q : Int) (sa sb sa' sb' : ByteArray) (w : World) (h1 : (ka' != p) = false) (h2 : (kb' != q) = true)
    (ha : ∀ w, Calls Tryz.prog 94 #[val ka na sa] w fun e w' => e = .returned (val ka' na' sa') ∧ Below w.heap.size w w')
    (hb : ∀ w, Calls Tryz.prog 94 #[val kb nb sb] w fun e w' => e = .returned (val kb' nb' sb') ∧ Below w.heap.size w w') :
    Calls Tryz.prog 122 #[val ka na sa, .int .i64 p, val kb nb sb, .int .i64 q] w fun e w' => e = .returned (.tuple #[.int .i64 0, .int .i64 0, .bool false]) ∧ Below w.heap.size w w' := by
  have HA := Lib.hid ha
  have HB := Lib.hid hb
  clear ha hb
  go_enter Tryz.func122, Tryz.ntmps122
  go_wp2_with fail
  have hI : In2 ka na kb nb sa sb w ((w.alloc (.cells #[.int .i64 ka, .int .i64 na, .string sa] 23)).alloc (.cells #[.int .i64 kb, .int .i64 nb, .string sb] 23)).drew := ⟨(heap_alloc_old _ _ (by simp)).trans (heap_alloc_new w _), new_at _ _ _ (by simp), by go_grown⟩
  refine wp_region_any (by kernel_rfl) ?_
  change wpAny _ _ _ _ _ _ _ (World.drew _)
  generalize ((w.alloc (.cells #[.int .i64 ka, .int .i64 na, .string sa] 23)).alloc (.cells #[.int .i64 kb, .int .i64 nb, .string sb] 23)).drew = wd at hI ⊢
  refine wpAny_ready (rs := [0, 2]) (by kernel_rfl) (by simp) ?_
  refine AllReady.cons (o := ⟨some 11, _, _, _, _, _⟩) rfl (fun K hK => ?_) ?_
  · rw [if_pos (by rfl)]
    refine wp_load_row 23 (.tmp 4) rfl w.heap.size rfl 23 #[.int .i64 ka, .int .i64 na, .string sa] (0, 0) _ hI.1 Tryz.underlying23 rfl size23 ?_
    refine hK _ _ ?_
    clear hK K
    try simp only [Act.put, List.setIfInBounds_toArray, List.set_cons_zero, List.set_cons_succ]
    refine wpAny_ready (rs := [1, 2]) (by kernel_rfl) (by simp) ?_
    refine AllReady.cons (o := ⟨some 12, _, _, _, _, _⟩) rfl (fun K hK => ?_) ?_
    · have HK := Lib.hid hK
      clear hK
      go_simp
      refine (HA.out _).mono ?_
      rintro e v1 ⟨rfl, hb1⟩
      refine HK.out _ _ ?_
      replace hI := hI.below hb1
      clear HK K hb1
      try simp only [Act.put, List.setIfInBounds_toArray, List.set_cons_zero, List.set_cons_succ]
      refine wpAny_ready (rs := [2]) (by kernel_rfl) (by simp) ?_
      refine AllReady.cons (o := ⟨some 13, _, _, _, _, _⟩) rfl (fun K hK => ?_) ?_
      · rw [if_pos (by rfl)]
        refine wp_load_row 23 (.tmp 6) rfl (w.heap.size + 1) rfl 23 #[.int .i64 kb, .int .i64 nb, .string sb] (0, 0) _ hI.2.1 Tryz.underlying23 rfl size23 ?_
        refine hK _ _ ?_
        clear hK K
        try simp only [Act.put, List.setIfInBounds_toArray, List.set_cons_zero, List.set_cons_succ]
        refine wpAny_ready (rs := [3]) (by kernel_rfl) (by simp) ?_
        refine AllReady.cons (o := ⟨some 14, _, _, _, _, _⟩) rfl (fun K hK => ?_) ?_
        · have HK := Lib.hid hK
          clear hK
          go_simp
          refine (HB.out _).mono ?_
          rintro e v3 ⟨rfl, hb3⟩
          refine HK.out _ _ ?_
          replace hI := hI.below hb3
          clear HK K hb3
          try simp only [Act.put, List.setIfInBounds_toArray, List.set_cons_zero, List.set_cons_succ]
          refine wpAny_ready (rs := [4]) (by kernel_rfl) (by simp) ?_
          refine AllReady.cons (o := ⟨none, _, _, _, _, _⟩) rfl (fun K hK => ?_) AllReady.nil
          rw [if_pos (by rfl)]
          refine wp_store_row 23 (.tmp 4) (.tmp 12) rfl w.heap.size #[.int .i64 ka', .int .i64 na', .string sa'] rfl rfl 23 #[.int .i64 ka, .int .i64 na, .string sa] hI.1 size23 rfl (by simp [Value.oneCell']) ?_
          have hP := puts_setRow (cells := #[.int .i64 ka', .int .i64 na', .string sa']) hI.1
          refine hK _ _ ?_
          generalize World.setRow _ w.heap.size #[.int .i64 ka', .int .i64 na', .string sa'] = x1 at hP ⊢
          clear hK K
          try simp only [Act.put]
          refine wpAny_ready (rs := [5]) (by kernel_rfl) (by simp) ?_
          refine AllReady.cons (o := ⟨none, _, _, _, _, _⟩) rfl (fun K hK => ?_) AllReady.nil
          rw [if_pos (by rfl)]
          have hB1 := (hP.keeps.block _ (lt_of_block hI.2.1) (by omega)).trans hI.2.1
          have hL1 := hP.below hI.2.2 (Nat.le_refl _)
          refine wp_store_row 23 (.tmp 6) (.tmp 14) rfl (w.heap.size + 1) #[.int .i64 kb', .int .i64 nb', .string sb'] rfl rfl 23 #[.int .i64 kb, .int .i64 nb, .string sb] hB1 size23 rfl (by simp [Value.oneCell']) ?_
          have hP2 := puts_setRow (cells := #[.int .i64 kb', .int .i64 nb', .string sb']) hB1
          refine hK _ _ ?_
          generalize World.setRow _ (w.heap.size + 1) #[.int .i64 kb', .int .i64 nb', .string sb'] = x2 at hP2 ⊢
          clear hK K
          try simp only [Act.put]
          refine wpAny_done (by kernel_rfl) ?_ _
          have HI : Hid (In2 ka' na' kb' nb' sa' sb' w x2) := ⟨(hP2.keeps.block _ (lt_of_block hP.at') (by omega)).trans hP.at', hP2.at', hP2.below hL1 (by omega)⟩
          clear hI hP hB1 hL1 hP2
          have a0 : x2.cell? ⟨w.heap.size, 0, none⟩ = some (.int .i64 ka') := (cell_of_row x2 _ 0 _ _ _ HI.out.1).trans rfl
          have a1 : x2.cell? ⟨w.heap.size, 1, none⟩ = some (.int .i64 na') := (cell_of_row x2 _ 1 _ _ _ HI.out.1).trans rfl
          have d0 : x2.cell? ⟨w.heap.size + 1, 0, none⟩ = some (.int .i64 kb') := (cell_of_row x2 _ 0 _ _ _ HI.out.2.1).trans rfl
          have d1 : x2.cell? ⟨w.heap.size + 1, 1, none⟩ = some (.int .i64 nb') := (cell_of_row x2 _ 1 _ _ _ HI.out.2.1).trans rfl
          go_wp2
          go_ret3
          exact ⟨rfl, HI.out.2.2⟩
        exact AllReady.nil
      exact AllReady.nil
    refine AllReady.cons (o := ⟨some 13, _, _, _, _, _⟩) rfl (fun K hK => ?_) ?_
    · rw [if_pos (by rfl)]
      refine wp_load_row 23 (.tmp 6) rfl (w.heap.size + 1) rfl 23 #[.int .i64 kb, .int .i64 nb, .string sb] (0, 0) _ hI.2.1 Tryz.underlying23 rfl size23 ?_
      refine hK _ _ ?_
      clear hK K
      try simp only [Act.put, List.setIfInBounds_toArray, List.set_cons_zero, List.set_cons_succ]
      refine wpAny_ready (rs := [1]) (by kernel_rfl) (by simp) ?_
      refine AllReady.cons (o := ⟨some 12, _, _, _, _, _⟩) rfl (fun K hK => ?_) ?_
      · have HK := Lib.hid hK
        clear hK
        go_simp
        refine (HA.out _).mono ?_
        rintro e v5 ⟨rfl, hb5⟩
        refine HK.out _ _ ?_
        replace hI := hI.below hb5
        clear HK K hb5
        try simp only [Act.put, List.setIfInBounds_toArray, List.set_cons_zero, List.set_cons_succ]
        refine wpAny_ready (rs := [3]) (by kernel_rfl) (by simp) ?_
        refine AllReady.cons (o := ⟨some 14, _, _, _, _, _⟩) rfl (fun K hK => ?_) ?_
        · have HK := Lib.hid hK
          clear hK
          go_simp
          refine (HB.out _).mono ?_
          rintro e v6 ⟨rfl, hb6⟩
          refine HK.out _ _ ?_
          replace hI := hI.below hb6
          clear HK K hb6
          try simp only [Act.put, List.setIfInBounds_toArray, List.set_cons_zero, List.set_cons_succ]
          refine wpAny_ready (rs := [4]) (by kernel_rfl) (by simp) ?_
          refine AllReady.cons (o := ⟨none, _, _, _, _, _⟩) rfl (fun K hK => ?_) AllReady.nil
          rw [if_pos (by rfl)]
          refine wp_store_row 23 (.tmp 4) (.tmp 12) rfl w.heap.size #[.int .i64 ka', .int .i64 na', .string sa'] rfl rfl 23 #[.int .i64 ka, .int .i64 na, .string sa] hI.1 size23 rfl (by simp [Value.oneCell']) ?_
          have hP := puts_setRow (cells := #[.int .i64 ka', .int .i64 na', .string sa']) hI.1
          refine hK _ _ ?_
          generalize World.setRow _ w.heap.size #[.int .i64 ka', .int .i64 na', .string sa'] = x1 at hP ⊢
          clear hK K
          try simp only [Act.put]
          refine wpAny_ready (rs := [5]) (by kernel_rfl) (by simp) ?_
          refine AllReady.cons (o := ⟨none, _, _, _, _, _⟩) rfl (fun K hK => ?_) AllReady.nil
          rw [if_pos (by rfl)]
          have hB1 := (hP.keeps.block _ (lt_of_block hI.2.1) (by omega)).trans hI.2.1
          have hL1 := hP.below hI.2.2 (Nat.le_refl _)
          refine wp_store_row 23 (.tmp 6) (.tmp 14) rfl (w.heap.size + 1) #[.int .i64 kb', .int .i64 nb', .string sb'] rfl rfl 23 #[.int .i64 kb, .int .i64 nb, .string sb] hB1 size23 rfl (by simp [Value.oneCell']) ?_
          have hP2 := puts_setRow (cells := #[.int .i64 kb', .int .i64 nb', .string sb']) hB1
          refine hK _ _ ?_
          generalize World.setRow _ (w.heap.size + 1) #[.int .i64 kb', .int .i64 nb', .string sb'] = x2 at hP2 ⊢
          clear hK K
          try simp only [Act.put]
          refine wpAny_done (by kernel_rfl) ?_ _
          have HI : Hid (In2 ka' na' kb' nb' sa' sb' w x2) := ⟨(hP2.keeps.block _ (lt_of_block hP.at') (by omega)).trans hP.at', hP2.at', hP2.below hL1 (by omega)⟩
          clear hI hP hB1 hL1 hP2
          have a0 : x2.cell? ⟨w.heap.size, 0, none⟩ = some (.int .i64 ka') := (cell_of_row x2 _ 0 _ _ _ HI.out.1).trans rfl
          have a1 : x2.cell? ⟨w.heap.size, 1, none⟩ = some (.int .i64 na') := (cell_of_row x2 _ 1 _ _ _ HI.out.1).trans rfl
          have d0 : x2.cell? ⟨w.heap.size + 1, 0, none⟩ = some (.int .i64 kb') := (cell_of_row x2 _ 0 _ _ _ HI.out.2.1).trans rfl
          have d1 : x2.cell? ⟨w.heap.size + 1, 1, none⟩ = some (.int .i64 nb') := (cell_of_row x2 _ 1 _ _ _ HI.out.2.1).trans rfl
          go_wp2
          go_ret3
          exact ⟨rfl, HI.out.2.2⟩
        exact AllReady.nil
      exact AllReady.nil
    exact AllReady.nil
  refine AllReady.cons (o := ⟨some 13, _, _, _, _, _⟩) rfl (fun K hK => ?_) ?_
  · rw [if_pos (by rfl)]
    refine wp_load_row 23 (.tmp 6) rfl (w.heap.size + 1) rfl 23 #[.int .i64 kb, .int .i64 nb, .string sb] (0, 0) _ hI.2.1 Tryz.underlying23 rfl size23 ?_
    refine hK _ _ ?_
    clear hK K
    try simp only [Act.put, List.setIfInBounds_toArray, List.set_cons_zero, List.set_cons_succ]
    refine wpAny_ready (rs := [0]) (by kernel_rfl) (by simp) ?_
    refine AllReady.cons (o := ⟨some 11, _, _, _, _, _⟩) rfl (fun K hK => ?_) ?_
    · rw [if_pos (by rfl)]
      refine wp_load_row 23 (.tmp 4) rfl w.heap.size rfl 23 #[.int .i64 ka, .int .i64 na, .string sa] (0, 0) _ hI.1 Tryz.underlying23 rfl size23 ?_
      refine hK _ _ ?_
      clear hK K
      try simp only [Act.put, List.setIfInBounds_toArray, List.set_cons_zero, List.set_cons_succ]
      refine wpAny_ready (rs := [1]) (by kernel_rfl) (by simp) ?_
      refine AllReady.cons (o := ⟨some 12, _, _, _, _, _⟩) rfl (fun K hK => ?_) ?_
      · have HK := Lib.hid hK
        clear hK
        go_simp
        refine (HA.out _).mono ?_
        rintro e v9 ⟨rfl, hb9⟩
        refine HK.out _ _ ?_
        replace hI := hI.below hb9
        clear HK K hb9
        try simp only [Act.put, List.setIfInBounds_toArray, List.set_cons_zero, List.set_cons_succ]
        refine wpAny_ready (rs := [3]) (by kernel_rfl) (by simp) ?_
        refine AllReady.cons (o := ⟨some 14, _, _, _, _, _⟩) rfl (fun K hK => ?_) ?_
        · have HK := Lib.hid hK
          clear hK
          go_simp
          refine (HB.out _).mono ?_
          rintro e v10 ⟨rfl, hb10⟩
          refine HK.out _ _ ?_
          replace hI := hI.below hb10
          clear HK K hb10
          try simp only [Act.put, List.setIfInBounds_toArray, List.set_cons_zero, List.set_cons_succ]
          refine wpAny_ready (rs := [4]) (by kernel_rfl) (by simp) ?_
          refine AllReady.cons (o := ⟨none, _, _, _, _, _⟩) rfl (fun K hK => ?_) AllReady.nil
          rw [if_pos (by rfl)]
          refine wp_store_row 23 (.tmp 4) (.tmp 12) rfl w.heap.size #[.int .i64 ka', .int .i64 na', .string sa'] rfl rfl 23 #[.int .i64 ka, .int .i64 na, .string sa] hI.1 size23 rfl (by simp [Value.oneCell']) ?_
          have hP := puts_setRow (cells := #[.int .i64 ka', .int .i64 na', .string sa']) hI.1
          refine hK _ _ ?_
          generalize World.setRow _ w.heap.size #[.int .i64 ka', .int .i64 na', .string sa'] = x1 at hP ⊢
          clear hK K
          try simp only [Act.put]
          refine wpAny_ready (rs := [5]) (by kernel_rfl) (by simp) ?_
          refine AllReady.cons (o := ⟨none, _, _, _, _, _⟩) rfl (fun K hK => ?_) AllReady.nil
          rw [if_pos (by rfl)]
          have hB1 := (hP.keeps.block _ (lt_of_block hI.2.1) (by omega)).trans hI.2.1
          have hL1 := hP.below hI.2.2 (Nat.le_refl _)
          refine wp_store_row 23 (.tmp 6) (.tmp 14) rfl (w.heap.size + 1) #[.int .i64 kb', .int .i64 nb', .string sb'] rfl rfl 23 #[.int .i64 kb, .int .i64 nb, .string sb] hB1 size23 rfl (by simp [Value.oneCell']) ?_
          have hP2 := puts_setRow (cells := #[.int .i64 kb', .int .i64 nb', .string sb']) hB1
          refine hK _ _ ?_
          generalize World.setRow _ (w.heap.size + 1) #[.int .i64 kb', .int .i64 nb', .string sb'] = x2 at hP2 ⊢
          clear hK K
          try simp only [Act.put]
          refine wpAny_done (by kernel_rfl) ?_ _
          have HI : Hid (In2 ka' na' kb' nb' sa' sb' w x2) := ⟨(hP2.keeps.block _ (lt_of_block hP.at') (by omega)).trans hP.at', hP2.at', hP2.below hL1 (by omega)⟩
          clear hI hP hB1 hL1 hP2
          have a0 : x2.cell? ⟨w.heap.size, 0, none⟩ = some (.int .i64 ka') := (cell_of_row x2 _ 0 _ _ _ HI.out.1).trans rfl
          have a1 : x2.cell? ⟨w.heap.size, 1, none⟩ = some (.int .i64 na') := (cell_of_row x2 _ 1 _ _ _ HI.out.1).trans rfl
          have d0 : x2.cell? ⟨w.heap.size + 1, 0, none⟩ = some (.int .i64 kb') := (cell_of_row x2 _ 0 _ _ _ HI.out.2.1).trans rfl
          have d1 : x2.cell? ⟨w.heap.size + 1, 1, none⟩ = some (.int .i64 nb') := (cell_of_row x2 _ 1 _ _ _ HI.out.2.1).trans rfl
          go_wp2
          go_ret3
          exact ⟨rfl, HI.out.2.2⟩
        exact AllReady.nil
      exact AllReady.nil
    exact AllReady.nil
  exact AllReady.nil
set_option maxHeartbeats 2000000 in
theorem numbers_y (ka na kb nb ka' na' kb' nb' p q : Int) (sa sb sa' sb' : ByteArray) (w : World) (h1 : (ka' != p) = false) (h2 : (kb' != q) = false)
    (ha : ∀ w, Calls Tryz.prog 94 #[val ka na sa] w fun e w' => e = .returned (val ka' na' sa') ∧ Below w.heap.size w w')
    (hb : ∀ w, Calls Tryz.prog 94 #[val kb nb sb] w fun e w' => e = .returned (val kb' nb' sb') ∧ Below w.heap.size w w') :
    Calls Tryz.prog 122 #[val ka na sa, .int .i64 p, val kb nb sb, .int .i64 q] w fun e w' => e = .returned (.tuple #[.int .i64 na', .int .i64 nb', .bool true]) ∧ Below w.heap.size w w' := by
  have HA := Lib.hid ha
  have HB := Lib.hid hb
  clear ha hb
  go_enter Tryz.func122, Tryz.ntmps122
  go_wp2_with fail
  have hI : In2 ka na kb nb sa sb w ((w.alloc (.cells #[.int .i64 ka, .int .i64 na, .string sa] 23)).alloc (.cells #[.int .i64 kb, .int .i64 nb, .string sb] 23)).drew := ⟨(heap_alloc_old _ _ (by simp)).trans (heap_alloc_new w _), new_at _ _ _ (by simp), by go_grown⟩
  refine wp_region_any (by kernel_rfl) ?_
  change wpAny _ _ _ _ _ _ _ (World.drew _)
  generalize ((w.alloc (.cells #[.int .i64 ka, .int .i64 na, .string sa] 23)).alloc (.cells #[.int .i64 kb, .int .i64 nb, .string sb] 23)).drew = wd at hI ⊢
  refine wpAny_ready (rs := [0, 2]) (by kernel_rfl) (by simp) ?_
  refine AllReady.cons (o := ⟨some 11, _, _, _, _, _⟩) rfl (fun K hK => ?_) ?_
  · rw [if_pos (by rfl)]
    refine wp_load_row 23 (.tmp 4) rfl w.heap.size rfl 23 #[.int .i64 ka, .int .i64 na, .string sa] (0, 0) _ hI.1 Tryz.underlying23 rfl size23 ?_
    refine hK _ _ ?_
    clear hK K
    try simp only [Act.put, List.setIfInBounds_toArray, List.set_cons_zero, List.set_cons_succ]
    refine wpAny_ready (rs := [1, 2]) (by kernel_rfl) (by simp) ?_
    refine AllReady.cons (o := ⟨some 12, _, _, _, _, _⟩) rfl (fun K hK => ?_) ?_
    · have HK := Lib.hid hK
      clear hK
      go_simp
      refine (HA.out _).mono ?_
      rintro e v1 ⟨rfl, hb1⟩
      refine HK.out _ _ ?_
      replace hI := hI.below hb1
      clear HK K hb1
      try simp only [Act.put, List.setIfInBounds_toArray, List.set_cons_zero, List.set_cons_succ]
      refine wpAny_ready (rs := [2]) (by kernel_rfl) (by simp) ?_
      refine AllReady.cons (o := ⟨some 13, _, _, _, _, _⟩) rfl (fun K hK => ?_) ?_
      · rw [if_pos (by rfl)]
        refine wp_load_row 23 (.tmp 6) rfl (w.heap.size + 1) rfl 23 #[.int .i64 kb, .int .i64 nb, .string sb] (0, 0) _ hI.2.1 Tryz.underlying23 rfl size23 ?_
        refine hK _ _ ?_
        clear hK K
        try simp only [Act.put, List.setIfInBounds_toArray, List.set_cons_zero, List.set_cons_succ]
        refine wpAny_ready (rs := [3]) (by kernel_rfl) (by simp) ?_
        refine AllReady.cons (o := ⟨some 14, _, _, _, _, _⟩) rfl (fun K hK => ?_) ?_
        · have HK := Lib.hid hK
          clear hK
          go_simp
          refine (HB.out _).mono ?_
          rintro e v3 ⟨rfl, hb3⟩
          refine HK.out _ _ ?_
          replace hI := hI.below hb3
          clear HK K hb3
          try simp only [Act.put, List.setIfInBounds_toArray, List.set_cons_zero, List.set_cons_succ]
          refine wpAny_ready (rs := [4]) (by kernel_rfl) (by simp) ?_
          refine AllReady.cons (o := ⟨none, _, _, _, _, _⟩) rfl (fun K hK => ?_) AllReady.nil
          rw [if_pos (by rfl)]
          refine wp_store_row 23 (.tmp 4) (.tmp 12) rfl w.heap.size #[.int .i64 ka', .int .i64 na', .string sa'] rfl rfl 23 #[.int .i64 ka, .int .i64 na, .string sa] hI.1 size23 rfl (by simp [Value.oneCell']) ?_
          have hP := puts_setRow (cells := #[.int .i64 ka', .int .i64 na', .string sa']) hI.1
          refine hK _ _ ?_
          generalize World.setRow _ w.heap.size #[.int .i64 ka', .int .i64 na', .string sa'] = x1 at hP ⊢
          clear hK K
          try simp only [Act.put]
          refine wpAny_ready (rs := [5]) (by kernel_rfl) (by simp) ?_
          refine AllReady.cons (o := ⟨none, _, _, _, _, _⟩) rfl (fun K hK => ?_) AllReady.nil
          rw [if_pos (by rfl)]
          have hB1 := (hP.keeps.block _ (lt_of_block hI.2.1) (by omega)).trans hI.2.1
          have hL1 := hP.below hI.2.2 (Nat.le_refl _)
          refine wp_store_row 23 (.tmp 6) (.tmp 14) rfl (w.heap.size + 1) #[.int .i64 kb', .int .i64 nb', .string sb'] rfl rfl 23 #[.int .i64 kb, .int .i64 nb, .string sb] hB1 size23 rfl (by simp [Value.oneCell']) ?_
          have hP2 := puts_setRow (cells := #[.int .i64 kb', .int .i64 nb', .string sb']) hB1
          refine hK _ _ ?_
          generalize World.setRow _ (w.heap.size + 1) #[.int .i64 kb', .int .i64 nb', .string sb'] = x2 at hP2 ⊢
          clear hK K
          try simp only [Act.put]
          refine wpAny_done (by kernel_rfl) ?_ _
          have HI : Hid (In2 ka' na' kb' nb' sa' sb' w x2) := ⟨(hP2.keeps.block _ (lt_of_block hP.at') (by omega)).trans hP.at', hP2.at', hP2.below hL1 (by omega)⟩
          clear hI hP hB1 hL1 hP2
          have a0 : x2.cell? ⟨w.heap.size, 0, none⟩ = some (.int .i64 ka') := (cell_of_row x2 _ 0 _ _ _ HI.out.1).trans rfl
          have a1 : x2.cell? ⟨w.heap.size, 1, none⟩ = some (.int .i64 na') := (cell_of_row x2 _ 1 _ _ _ HI.out.1).trans rfl
          have d0 : x2.cell? ⟨w.heap.size + 1, 0, none⟩ = some (.int .i64 kb') := (cell_of_row x2 _ 0 _ _ _ HI.out.2.1).trans rfl
          have d1 : x2.cell? ⟨w.heap.size + 1, 1, none⟩ = some (.int .i64 nb') := (cell_of_row x2 _ 1 _ _ _ HI.out.2.1).trans rfl
          go_wp2
          go_quiet (fail)
          go_wp2
          go_ret3
          exact ⟨rfl, below_drewN HI.out.2.2 _⟩
        exact AllReady.nil
      exact AllReady.nil
    refine AllReady.cons (o := ⟨some 13, _, _, _, _, _⟩) rfl (fun K hK => ?_) ?_
    · rw [if_pos (by rfl)]
      refine wp_load_row 23 (.tmp 6) rfl (w.heap.size + 1) rfl 23 #[.int .i64 kb, .int .i64 nb, .string sb] (0, 0) _ hI.2.1 Tryz.underlying23 rfl size23 ?_
      refine hK _ _ ?_
      clear hK K
      try simp only [Act.put, List.setIfInBounds_toArray, List.set_cons_zero, List.set_cons_succ]
      refine wpAny_ready (rs := [1]) (by kernel_rfl) (by simp) ?_
      refine AllReady.cons (o := ⟨some 12, _, _, _, _, _⟩) rfl (fun K hK => ?_) ?_
      · have HK := Lib.hid hK
        clear hK
        go_simp
        refine (HA.out _).mono ?_
        rintro e v5 ⟨rfl, hb5⟩
        refine HK.out _ _ ?_
        replace hI := hI.below hb5
        clear HK K hb5
        try simp only [Act.put, List.setIfInBounds_toArray, List.set_cons_zero, List.set_cons_succ]
        refine wpAny_ready (rs := [3]) (by kernel_rfl) (by simp) ?_
        refine AllReady.cons (o := ⟨some 14, _, _, _, _, _⟩) rfl (fun K hK => ?_) ?_
        · have HK := Lib.hid hK
          clear hK
          go_simp
          refine (HB.out _).mono ?_
          rintro e v6 ⟨rfl, hb6⟩
          refine HK.out _ _ ?_
          replace hI := hI.below hb6
          clear HK K hb6
          try simp only [Act.put, List.setIfInBounds_toArray, List.set_cons_zero, List.set_cons_succ]
          refine wpAny_ready (rs := [4]) (by kernel_rfl) (by simp) ?_
          refine AllReady.cons (o := ⟨none, _, _, _, _, _⟩) rfl (fun K hK => ?_) AllReady.nil
          rw [if_pos (by rfl)]
          refine wp_store_row 23 (.tmp 4) (.tmp 12) rfl w.heap.size #[.int .i64 ka', .int .i64 na', .string sa'] rfl rfl 23 #[.int .i64 ka, .int .i64 na, .string sa] hI.1 size23 rfl (by simp [Value.oneCell']) ?_
          have hP := puts_setRow (cells := #[.int .i64 ka', .int .i64 na', .string sa']) hI.1
          refine hK _ _ ?_
          generalize World.setRow _ w.heap.size #[.int .i64 ka', .int .i64 na', .string sa'] = x1 at hP ⊢
          clear hK K
          try simp only [Act.put]
          refine wpAny_ready (rs := [5]) (by kernel_rfl) (by simp) ?_
          refine AllReady.cons (o := ⟨none, _, _, _, _, _⟩) rfl (fun K hK => ?_) AllReady.nil
          rw [if_pos (by rfl)]
          have hB1 := (hP.keeps.block _ (lt_of_block hI.2.1) (by omega)).trans hI.2.1
          have hL1 := hP.below hI.2.2 (Nat.le_refl _)
          refine wp_store_row 23 (.tmp 6) (.tmp 14) rfl (w.heap.size + 1) #[.int .i64 kb', .int .i64 nb', .string sb'] rfl rfl 23 #[.int .i64 kb, .int .i64 nb, .string sb] hB1 size23 rfl (by simp [Value.oneCell']) ?_
          have hP2 := puts_setRow (cells := #[.int .i64 kb', .int .i64 nb', .string sb']) hB1
          refine hK _ _ ?_
          generalize World.setRow _ (w.heap.size + 1) #[.int .i64 kb', .int .i64 nb', .string sb'] = x2 at hP2 ⊢
          clear hK K
          try simp only [Act.put]
          refine wpAny_done (by kernel_rfl) ?_ _
          have HI : Hid (In2 ka' na' kb' nb' sa' sb' w x2) := ⟨(hP2.keeps.block _ (lt_of_block hP.at') (by omega)).trans hP.at', hP2.at', hP2.below hL1 (by omega)⟩
          clear hI hP hB1 hL1 hP2
          have a0 : x2.cell? ⟨w.heap.size, 0, none⟩ = some (.int .i64 ka') := (cell_of_row x2 _ 0 _ _ _ HI.out.1).trans rfl
          have a1 : x2.cell? ⟨w.heap.size, 1, none⟩ = some (.int .i64 na') := (cell_of_row x2 _ 1 _ _ _ HI.out.1).trans rfl
          have d0 : x2.cell? ⟨w.heap.size + 1, 0, none⟩ = some (.int .i64 kb') := (cell_of_row x2 _ 0 _ _ _ HI.out.2.1).trans rfl
          have d1 : x2.cell? ⟨w.heap.size + 1, 1, none⟩ = some (.int .i64 nb') := (cell_of_row x2 _ 1 _ _ _ HI.out.2.1).trans rfl
          go_wp2
          go_quiet (fail)
          go_wp2
          go_ret3
          exact ⟨rfl, below_drewN HI.out.2.2 _⟩
        exact AllReady.nil
      exact AllReady.nil
    exact AllReady.nil
  refine AllReady.cons (o := ⟨some 13, _, _, _, _, _⟩) rfl (fun K hK => ?_) ?_
  · rw [if_pos (by rfl)]
    refine wp_load_row 23 (.tmp 6) rfl (w.heap.size + 1) rfl 23 #[.int .i64 kb, .int .i64 nb, .string sb] (0, 0) _ hI.2.1 Tryz.underlying23 rfl size23 ?_
    refine hK _ _ ?_
    clear hK K
    try simp only [Act.put, List.setIfInBounds_toArray, List.set_cons_zero, List.set_cons_succ]
    refine wpAny_ready (rs := [0]) (by kernel_rfl) (by simp) ?_
    refine AllReady.cons (o := ⟨some 11, _, _, _, _, _⟩) rfl (fun K hK => ?_) ?_
    · rw [if_pos (by rfl)]
      refine wp_load_row 23 (.tmp 4) rfl w.heap.size rfl 23 #[.int .i64 ka, .int .i64 na, .string sa] (0, 0) _ hI.1 Tryz.underlying23 rfl size23 ?_
      refine hK _ _ ?_
      clear hK K
      try simp only [Act.put, List.setIfInBounds_toArray, List.set_cons_zero, List.set_cons_succ]
      refine wpAny_ready (rs := [1]) (by kernel_rfl) (by simp) ?_
      refine AllReady.cons (o := ⟨some 12, _, _, _, _, _⟩) rfl (fun K hK => ?_) ?_
      · have HK := Lib.hid hK
        clear hK
        go_simp
        refine (HA.out _).mono ?_
        rintro e v9 ⟨rfl, hb9⟩
        refine HK.out _ _ ?_
        replace hI := hI.below hb9
        clear HK K hb9
        try simp only [Act.put, List.setIfInBounds_toArray, List.set_cons_zero, List.set_cons_succ]
        refine wpAny_ready (rs := [3]) (by kernel_rfl) (by simp) ?_
        refine AllReady.cons (o := ⟨some 14, _, _, _, _, _⟩) rfl (fun K hK => ?_) ?_
        · have HK := Lib.hid hK
          clear hK
          go_simp
          refine (HB.out _).mono ?_
          rintro e v10 ⟨rfl, hb10⟩
          refine HK.out _ _ ?_
          replace hI := hI.below hb10
          clear HK K hb10
          try simp only [Act.put, List.setIfInBounds_toArray, List.set_cons_zero, List.set_cons_succ]
          refine wpAny_ready (rs := [4]) (by kernel_rfl) (by simp) ?_
          refine AllReady.cons (o := ⟨none, _, _, _, _, _⟩) rfl (fun K hK => ?_) AllReady.nil
          rw [if_pos (by rfl)]
          refine wp_store_row 23 (.tmp 4) (.tmp 12) rfl w.heap.size #[.int .i64 ka', .int .i64 na', .string sa'] rfl rfl 23 #[.int .i64 ka, .int .i64 na, .string sa] hI.1 size23 rfl (by simp [Value.oneCell']) ?_
          have hP := puts_setRow (cells := #[.int .i64 ka', .int .i64 na', .string sa']) hI.1
          refine hK _ _ ?_
          generalize World.setRow _ w.heap.size #[.int .i64 ka', .int .i64 na', .string sa'] = x1 at hP ⊢
          clear hK K
          try simp only [Act.put]
          refine wpAny_ready (rs := [5]) (by kernel_rfl) (by simp) ?_
          refine AllReady.cons (o := ⟨none, _, _, _, _, _⟩) rfl (fun K hK => ?_) AllReady.nil
          rw [if_pos (by rfl)]
          have hB1 := (hP.keeps.block _ (lt_of_block hI.2.1) (by omega)).trans hI.2.1
          have hL1 := hP.below hI.2.2 (Nat.le_refl _)
          refine wp_store_row 23 (.tmp 6) (.tmp 14) rfl (w.heap.size + 1) #[.int .i64 kb', .int .i64 nb', .string sb'] rfl rfl 23 #[.int .i64 kb, .int .i64 nb, .string sb] hB1 size23 rfl (by simp [Value.oneCell']) ?_
          have hP2 := puts_setRow (cells := #[.int .i64 kb', .int .i64 nb', .string sb']) hB1
          refine hK _ _ ?_
          generalize World.setRow _ (w.heap.size + 1) #[.int .i64 kb', .int .i64 nb', .string sb'] = x2 at hP2 ⊢
          clear hK K
          try simp only [Act.put]
          refine wpAny_done (by kernel_rfl) ?_ _
          have HI : Hid (In2 ka' na' kb' nb' sa' sb' w x2) := ⟨(hP2.keeps.block _ (lt_of_block hP.at') (by omega)).trans hP.at', hP2.at', hP2.below hL1 (by omega)⟩
          clear hI hP hB1 hL1 hP2
          have a0 : x2.cell? ⟨w.heap.size, 0, none⟩ = some (.int .i64 ka') := (cell_of_row x2 _ 0 _ _ _ HI.out.1).trans rfl
          have a1 : x2.cell? ⟨w.heap.size, 1, none⟩ = some (.int .i64 na') := (cell_of_row x2 _ 1 _ _ _ HI.out.1).trans rfl
          have d0 : x2.cell? ⟨w.heap.size + 1, 0, none⟩ = some (.int .i64 kb') := (cell_of_row x2 _ 0 _ _ _ HI.out.2.1).trans rfl
          have d1 : x2.cell? ⟨w.heap.size + 1, 1, none⟩ = some (.int .i64 nb') := (cell_of_row x2 _ 1 _ _ _ HI.out.2.1).trans rfl
          go_wp2
          go_quiet (fail)
          go_wp2
          go_ret3
          exact ⟨rfl, below_drewN HI.out.2.2 _⟩
        exact AllReady.nil
      exact AllReady.nil
    exact AllReady.nil
  exact AllReady.nil
end YtabojeleomfgnaaGreatDoor
end Go.Proofs
