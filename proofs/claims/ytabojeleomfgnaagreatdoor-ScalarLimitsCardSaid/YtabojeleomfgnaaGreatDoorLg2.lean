/- And and Or. -/
import Derived.Test.YtabojeleomfgnaaGreatDoorLg1
namespace Go.Proofs
open Go.RowKit
namespace YtabojeleomfgnaaGreatDoor
set_option maxRecDepth 100000
/-- the two arguments' boxes, the result's box -/
def In3 (x y : V3) (w0 w : World) : Prop :=
  w.heap[w0.heap.size]? = some (.cells (cells x) 23 (0, 0)) ∧ w.heap[w0.heap.size + 1]? = some (.cells (cells y) 23 (0, 0)) ∧ w.heap[w0.heap.size + 2]? = some (.cells (cells nullT) 23 (0, 0)) ∧ Below w0.heap.size w0 w
theorem In3.below {x y : V3} {w0 w w' : World} (h : In3 x y w0 w) (hb : Below w.heap.size w w') : In3 x y w0 w' :=
  ⟨(hb.block _ (lt_of_block h.1)).trans h.1, (hb.block _ (lt_of_block h.2.1)).trans h.2.1, (hb.block _ (lt_of_block h.2.2.1)).trans h.2.2.1, below_call h.2.2.2 hb⟩
abbrev Gives (f : FuncId) (x : V3) (b : Bool) : Prop := ∀ w, Calls Tryz.prog f #[toV x] w fun e w' => e = .returned (.bool b) ∧ Below w.heap.size w w'
def andB (fa fb ta tb : Bool) : V3 := if fa || fb then boolT false else if ta && tb then boolT true else nullT
def orB (ta tb fa fb : Bool) : V3 := if ta || tb then boolT true else if fa && fb then boolT false else nullT
set_option maxHeartbeats 1000000 in
theorem and_gen (x y : V3) (pa pb qa qb : Bool) (hpa : Gives 112 x pa) (hpb : Gives 112 y pb) (hqa : Gives 111 x qa) (hqb : Gives 111 y qb) (w : World) :
    Calls Tryz.prog 38 #[toV x, toV y] w fun e w' => e = .returned (toV (andB pa pb qa qb)) ∧ Below w.heap.size w w' := by
  have PA := Lib.hid hpa
  have PB := Lib.hid hpb
  have QA := Lib.hid hqa
  have QB := Lib.hid hqb
  clear hpa hpb hqa hqb
  cases pa with
  | true =>
    obtain ⟨ka, na, sa⟩ := x
    obtain ⟨kb, nb, sb⟩ := y
    change Calls Tryz.prog 38 #[val ka na sa, val kb nb sb] w _
    have I0 : Hid (In3 (ka, na, sa) (kb, nb, sb) w (((w.alloc (.cells #[.int .i64 ka, .int .i64 na, .string sa] 23)).alloc (.cells #[.int .i64 kb, .int .i64 nb, .string sb] 23)).alloc (.cells #[.int .i64 0, .int .i64 0, .string ⟨#[]⟩] 23))) := Lib.hid ⟨(heap_alloc_old _ _ (by simp only [World.size_alloc]; omega)).trans ((heap_alloc_old _ _ (by simp)).trans (heap_alloc_new w _)), (heap_alloc_old _ _ (by simp)).trans (new_at _ _ _ (by simp)), new_at _ _ _ (by simp), by go_grown⟩
    go_enter Tryz.func38, Tryz.ntmps38
    go_wp2_with fail
    refine (PA.out _).mono ?_
    rintro e w1 ⟨rfl, hb1⟩
    have I1 := Lib.hid (I0.out.below hb1)
    clear hb1
    have a0 : w1.cell? ⟨w.heap.size, 0, none⟩ = some (.int .i64 ka) := (cell_of_row w1 _ 0 _ _ _ I1.out.1).trans rfl
    have a1 : w1.cell? ⟨w.heap.size, 1, none⟩ = some (.int .i64 na) := (cell_of_row w1 _ 1 _ _ _ I1.out.1).trans rfl
    have a2 : w1.cell? ⟨w.heap.size, 2, none⟩ = some (.string sa) := (cell_of_row w1 _ 2 _ _ _ I1.out.1).trans rfl
    have d0 : w1.cell? ⟨w.heap.size + 1, 0, none⟩ = some (.int .i64 kb) := (cell_of_row w1 _ 0 _ _ _ I1.out.2.1).trans rfl
    have d1 : w1.cell? ⟨w.heap.size + 1, 1, none⟩ = some (.int .i64 nb) := (cell_of_row w1 _ 1 _ _ _ I1.out.2.1).trans rfl
    have d2 : w1.cell? ⟨w.heap.size + 1, 2, none⟩ = some (.string sb) := (cell_of_row w1 _ 2 _ _ _ I1.out.2.1).trans rfl
    go_wp2_with fail
    refine (bool_t false _).mono ?_
    rintro e w2 ⟨rfl, hb2⟩
    have I2 := Lib.hid (I1.out.below hb2)
    clear hb2
    go_wp2_with (refine store23 rfl (.tmp 4) (.tmp 12) rfl (w.heap.size + 2) (boolT false) rfl rfl _ I2.out.2.2.1 ?_; intro wz hp; have HP := Lib.hid hp; clear hp)
    exact bodyPost_ret (ret23 rfl rfl HP.out.at') rfl ⟨rfl, HP.out.low I2.out.2.2.2 (by omega)⟩
  | false =>
    cases pb with
    | true =>
      obtain ⟨ka, na, sa⟩ := x
      obtain ⟨kb, nb, sb⟩ := y
      change Calls Tryz.prog 38 #[val ka na sa, val kb nb sb] w _
      have I0 : Hid (In3 (ka, na, sa) (kb, nb, sb) w (((w.alloc (.cells #[.int .i64 ka, .int .i64 na, .string sa] 23)).alloc (.cells #[.int .i64 kb, .int .i64 nb, .string sb] 23)).alloc (.cells #[.int .i64 0, .int .i64 0, .string ⟨#[]⟩] 23))) := Lib.hid ⟨(heap_alloc_old _ _ (by simp only [World.size_alloc]; omega)).trans ((heap_alloc_old _ _ (by simp)).trans (heap_alloc_new w _)), (heap_alloc_old _ _ (by simp)).trans (new_at _ _ _ (by simp)), new_at _ _ _ (by simp), by go_grown⟩
      go_enter Tryz.func38, Tryz.ntmps38
      go_wp2_with fail
      refine (PA.out _).mono ?_
      rintro e w1 ⟨rfl, hb1⟩
      have I1 := Lib.hid (I0.out.below hb1)
      clear hb1
      have a0 : w1.cell? ⟨w.heap.size, 0, none⟩ = some (.int .i64 ka) := (cell_of_row w1 _ 0 _ _ _ I1.out.1).trans rfl
      have a1 : w1.cell? ⟨w.heap.size, 1, none⟩ = some (.int .i64 na) := (cell_of_row w1 _ 1 _ _ _ I1.out.1).trans rfl
      have a2 : w1.cell? ⟨w.heap.size, 2, none⟩ = some (.string sa) := (cell_of_row w1 _ 2 _ _ _ I1.out.1).trans rfl
      have d0 : w1.cell? ⟨w.heap.size + 1, 0, none⟩ = some (.int .i64 kb) := (cell_of_row w1 _ 0 _ _ _ I1.out.2.1).trans rfl
      have d1 : w1.cell? ⟨w.heap.size + 1, 1, none⟩ = some (.int .i64 nb) := (cell_of_row w1 _ 1 _ _ _ I1.out.2.1).trans rfl
      have d2 : w1.cell? ⟨w.heap.size + 1, 2, none⟩ = some (.string sb) := (cell_of_row w1 _ 2 _ _ _ I1.out.2.1).trans rfl
      go_wp2_with fail
      refine (PB.out _).mono ?_
      rintro e w2 ⟨rfl, hb2⟩
      have I2 := Lib.hid (I1.out.below hb2)
      clear hb2
      clear a0 a1 a2 d0 d1 d2
      have a0 : w2.cell? ⟨w.heap.size, 0, none⟩ = some (.int .i64 ka) := (cell_of_row w2 _ 0 _ _ _ I2.out.1).trans rfl
      have a1 : w2.cell? ⟨w.heap.size, 1, none⟩ = some (.int .i64 na) := (cell_of_row w2 _ 1 _ _ _ I2.out.1).trans rfl
      have a2 : w2.cell? ⟨w.heap.size, 2, none⟩ = some (.string sa) := (cell_of_row w2 _ 2 _ _ _ I2.out.1).trans rfl
      have d0 : w2.cell? ⟨w.heap.size + 1, 0, none⟩ = some (.int .i64 kb) := (cell_of_row w2 _ 0 _ _ _ I2.out.2.1).trans rfl
      have d1 : w2.cell? ⟨w.heap.size + 1, 1, none⟩ = some (.int .i64 nb) := (cell_of_row w2 _ 1 _ _ _ I2.out.2.1).trans rfl
      have d2 : w2.cell? ⟨w.heap.size + 1, 2, none⟩ = some (.string sb) := (cell_of_row w2 _ 2 _ _ _ I2.out.2.1).trans rfl
      go_wp2_with fail
      refine (bool_t false _).mono ?_
      rintro e w3 ⟨rfl, hb3⟩
      have I3 := Lib.hid (I2.out.below hb3)
      clear hb3
      go_wp2_with (refine store23 rfl (.tmp 4) (.tmp 12) rfl (w.heap.size + 2) (boolT false) rfl rfl _ I3.out.2.2.1 ?_; intro wz hp; have HP := Lib.hid hp; clear hp)
      exact bodyPost_ret (ret23 rfl rfl HP.out.at') rfl ⟨rfl, HP.out.low I3.out.2.2.2 (by omega)⟩
    | false =>
      cases qa with
      | false =>
        obtain ⟨ka, na, sa⟩ := x
        obtain ⟨kb, nb, sb⟩ := y
        change Calls Tryz.prog 38 #[val ka na sa, val kb nb sb] w _
        have I0 : Hid (In3 (ka, na, sa) (kb, nb, sb) w (((w.alloc (.cells #[.int .i64 ka, .int .i64 na, .string sa] 23)).alloc (.cells #[.int .i64 kb, .int .i64 nb, .string sb] 23)).alloc (.cells #[.int .i64 0, .int .i64 0, .string ⟨#[]⟩] 23))) := Lib.hid ⟨(heap_alloc_old _ _ (by simp only [World.size_alloc]; omega)).trans ((heap_alloc_old _ _ (by simp)).trans (heap_alloc_new w _)), (heap_alloc_old _ _ (by simp)).trans (new_at _ _ _ (by simp)), new_at _ _ _ (by simp), by go_grown⟩
        go_enter Tryz.func38, Tryz.ntmps38
        go_wp2_with fail
        refine (PA.out _).mono ?_
        rintro e w1 ⟨rfl, hb1⟩
        have I1 := Lib.hid (I0.out.below hb1)
        clear hb1
        have a0 : w1.cell? ⟨w.heap.size, 0, none⟩ = some (.int .i64 ka) := (cell_of_row w1 _ 0 _ _ _ I1.out.1).trans rfl
        have a1 : w1.cell? ⟨w.heap.size, 1, none⟩ = some (.int .i64 na) := (cell_of_row w1 _ 1 _ _ _ I1.out.1).trans rfl
        have a2 : w1.cell? ⟨w.heap.size, 2, none⟩ = some (.string sa) := (cell_of_row w1 _ 2 _ _ _ I1.out.1).trans rfl
        have d0 : w1.cell? ⟨w.heap.size + 1, 0, none⟩ = some (.int .i64 kb) := (cell_of_row w1 _ 0 _ _ _ I1.out.2.1).trans rfl
        have d1 : w1.cell? ⟨w.heap.size + 1, 1, none⟩ = some (.int .i64 nb) := (cell_of_row w1 _ 1 _ _ _ I1.out.2.1).trans rfl
        have d2 : w1.cell? ⟨w.heap.size + 1, 2, none⟩ = some (.string sb) := (cell_of_row w1 _ 2 _ _ _ I1.out.2.1).trans rfl
        go_wp2_with fail
        refine (PB.out _).mono ?_
        rintro e w2 ⟨rfl, hb2⟩
        have I2 := Lib.hid (I1.out.below hb2)
        clear hb2
        clear a0 a1 a2 d0 d1 d2
        have a0 : w2.cell? ⟨w.heap.size, 0, none⟩ = some (.int .i64 ka) := (cell_of_row w2 _ 0 _ _ _ I2.out.1).trans rfl
        have a1 : w2.cell? ⟨w.heap.size, 1, none⟩ = some (.int .i64 na) := (cell_of_row w2 _ 1 _ _ _ I2.out.1).trans rfl
        have a2 : w2.cell? ⟨w.heap.size, 2, none⟩ = some (.string sa) := (cell_of_row w2 _ 2 _ _ _ I2.out.1).trans rfl
        have d0 : w2.cell? ⟨w.heap.size + 1, 0, none⟩ = some (.int .i64 kb) := (cell_of_row w2 _ 0 _ _ _ I2.out.2.1).trans rfl
        have d1 : w2.cell? ⟨w.heap.size + 1, 1, none⟩ = some (.int .i64 nb) := (cell_of_row w2 _ 1 _ _ _ I2.out.2.1).trans rfl
        have d2 : w2.cell? ⟨w.heap.size + 1, 2, none⟩ = some (.string sb) := (cell_of_row w2 _ 2 _ _ _ I2.out.2.1).trans rfl
        go_wp2_with fail
        refine (QA.out _).mono ?_
        rintro e w3 ⟨rfl, hb3⟩
        have I3 := Lib.hid (I2.out.below hb3)
        clear hb3
        clear a0 a1 a2 d0 d1 d2
        have a0 : w3.cell? ⟨w.heap.size, 0, none⟩ = some (.int .i64 ka) := (cell_of_row w3 _ 0 _ _ _ I3.out.1).trans rfl
        have a1 : w3.cell? ⟨w.heap.size, 1, none⟩ = some (.int .i64 na) := (cell_of_row w3 _ 1 _ _ _ I3.out.1).trans rfl
        have a2 : w3.cell? ⟨w.heap.size, 2, none⟩ = some (.string sa) := (cell_of_row w3 _ 2 _ _ _ I3.out.1).trans rfl
        have d0 : w3.cell? ⟨w.heap.size + 1, 0, none⟩ = some (.int .i64 kb) := (cell_of_row w3 _ 0 _ _ _ I3.out.2.1).trans rfl
        have d1 : w3.cell? ⟨w.heap.size + 1, 1, none⟩ = some (.int .i64 nb) := (cell_of_row w3 _ 1 _ _ _ I3.out.2.1).trans rfl
        have d2 : w3.cell? ⟨w.heap.size + 1, 2, none⟩ = some (.string sb) := (cell_of_row w3 _ 2 _ _ _ I3.out.2.1).trans rfl
        go_wp2_with (refine store23 rfl (.tmp 4) (.tmp 21) rfl (w.heap.size + 2) (nullT) rfl rfl _ I3.out.2.2.1 ?_; intro wz hp; have HP := Lib.hid hp; clear hp)
        exact bodyPost_ret (ret23 rfl rfl HP.out.at') rfl ⟨rfl, HP.out.low I3.out.2.2.2 (by omega)⟩
      | true =>
        cases qb with
        | false =>
          obtain ⟨ka, na, sa⟩ := x
          obtain ⟨kb, nb, sb⟩ := y
          change Calls Tryz.prog 38 #[val ka na sa, val kb nb sb] w _
          have I0 : Hid (In3 (ka, na, sa) (kb, nb, sb) w (((w.alloc (.cells #[.int .i64 ka, .int .i64 na, .string sa] 23)).alloc (.cells #[.int .i64 kb, .int .i64 nb, .string sb] 23)).alloc (.cells #[.int .i64 0, .int .i64 0, .string ⟨#[]⟩] 23))) := Lib.hid ⟨(heap_alloc_old _ _ (by simp only [World.size_alloc]; omega)).trans ((heap_alloc_old _ _ (by simp)).trans (heap_alloc_new w _)), (heap_alloc_old _ _ (by simp)).trans (new_at _ _ _ (by simp)), new_at _ _ _ (by simp), by go_grown⟩
          go_enter Tryz.func38, Tryz.ntmps38
          go_wp2_with fail
          refine (PA.out _).mono ?_
          rintro e w1 ⟨rfl, hb1⟩
          have I1 := Lib.hid (I0.out.below hb1)
          clear hb1
          have a0 : w1.cell? ⟨w.heap.size, 0, none⟩ = some (.int .i64 ka) := (cell_of_row w1 _ 0 _ _ _ I1.out.1).trans rfl
          have a1 : w1.cell? ⟨w.heap.size, 1, none⟩ = some (.int .i64 na) := (cell_of_row w1 _ 1 _ _ _ I1.out.1).trans rfl
          have a2 : w1.cell? ⟨w.heap.size, 2, none⟩ = some (.string sa) := (cell_of_row w1 _ 2 _ _ _ I1.out.1).trans rfl
          have d0 : w1.cell? ⟨w.heap.size + 1, 0, none⟩ = some (.int .i64 kb) := (cell_of_row w1 _ 0 _ _ _ I1.out.2.1).trans rfl
          have d1 : w1.cell? ⟨w.heap.size + 1, 1, none⟩ = some (.int .i64 nb) := (cell_of_row w1 _ 1 _ _ _ I1.out.2.1).trans rfl
          have d2 : w1.cell? ⟨w.heap.size + 1, 2, none⟩ = some (.string sb) := (cell_of_row w1 _ 2 _ _ _ I1.out.2.1).trans rfl
          go_wp2_with fail
          refine (PB.out _).mono ?_
          rintro e w2 ⟨rfl, hb2⟩
          have I2 := Lib.hid (I1.out.below hb2)
          clear hb2
          clear a0 a1 a2 d0 d1 d2
          have a0 : w2.cell? ⟨w.heap.size, 0, none⟩ = some (.int .i64 ka) := (cell_of_row w2 _ 0 _ _ _ I2.out.1).trans rfl
          have a1 : w2.cell? ⟨w.heap.size, 1, none⟩ = some (.int .i64 na) := (cell_of_row w2 _ 1 _ _ _ I2.out.1).trans rfl
          have a2 : w2.cell? ⟨w.heap.size, 2, none⟩ = some (.string sa) := (cell_of_row w2 _ 2 _ _ _ I2.out.1).trans rfl
          have d0 : w2.cell? ⟨w.heap.size + 1, 0, none⟩ = some (.int .i64 kb) := (cell_of_row w2 _ 0 _ _ _ I2.out.2.1).trans rfl
          have d1 : w2.cell? ⟨w.heap.size + 1, 1, none⟩ = some (.int .i64 nb) := (cell_of_row w2 _ 1 _ _ _ I2.out.2.1).trans rfl
          have d2 : w2.cell? ⟨w.heap.size + 1, 2, none⟩ = some (.string sb) := (cell_of_row w2 _ 2 _ _ _ I2.out.2.1).trans rfl
          go_wp2_with fail
          refine (QA.out _).mono ?_
          rintro e w3 ⟨rfl, hb3⟩
          have I3 := Lib.hid (I2.out.below hb3)
          clear hb3
          clear a0 a1 a2 d0 d1 d2
          have a0 : w3.cell? ⟨w.heap.size, 0, none⟩ = some (.int .i64 ka) := (cell_of_row w3 _ 0 _ _ _ I3.out.1).trans rfl
          have a1 : w3.cell? ⟨w.heap.size, 1, none⟩ = some (.int .i64 na) := (cell_of_row w3 _ 1 _ _ _ I3.out.1).trans rfl
          have a2 : w3.cell? ⟨w.heap.size, 2, none⟩ = some (.string sa) := (cell_of_row w3 _ 2 _ _ _ I3.out.1).trans rfl
          have d0 : w3.cell? ⟨w.heap.size + 1, 0, none⟩ = some (.int .i64 kb) := (cell_of_row w3 _ 0 _ _ _ I3.out.2.1).trans rfl
          have d1 : w3.cell? ⟨w.heap.size + 1, 1, none⟩ = some (.int .i64 nb) := (cell_of_row w3 _ 1 _ _ _ I3.out.2.1).trans rfl
          have d2 : w3.cell? ⟨w.heap.size + 1, 2, none⟩ = some (.string sb) := (cell_of_row w3 _ 2 _ _ _ I3.out.2.1).trans rfl
          go_wp2_with fail
          refine (QB.out _).mono ?_
          rintro e w4 ⟨rfl, hb4⟩
          have I4 := Lib.hid (I3.out.below hb4)
          clear hb4
          clear a0 a1 a2 d0 d1 d2
          have a0 : w4.cell? ⟨w.heap.size, 0, none⟩ = some (.int .i64 ka) := (cell_of_row w4 _ 0 _ _ _ I4.out.1).trans rfl
          have a1 : w4.cell? ⟨w.heap.size, 1, none⟩ = some (.int .i64 na) := (cell_of_row w4 _ 1 _ _ _ I4.out.1).trans rfl
          have a2 : w4.cell? ⟨w.heap.size, 2, none⟩ = some (.string sa) := (cell_of_row w4 _ 2 _ _ _ I4.out.1).trans rfl
          have d0 : w4.cell? ⟨w.heap.size + 1, 0, none⟩ = some (.int .i64 kb) := (cell_of_row w4 _ 0 _ _ _ I4.out.2.1).trans rfl
          have d1 : w4.cell? ⟨w.heap.size + 1, 1, none⟩ = some (.int .i64 nb) := (cell_of_row w4 _ 1 _ _ _ I4.out.2.1).trans rfl
          have d2 : w4.cell? ⟨w.heap.size + 1, 2, none⟩ = some (.string sb) := (cell_of_row w4 _ 2 _ _ _ I4.out.2.1).trans rfl
          go_wp2_with (refine store23 rfl (.tmp 4) (.tmp 21) rfl (w.heap.size + 2) (nullT) rfl rfl _ I4.out.2.2.1 ?_; intro wz hp; have HP := Lib.hid hp; clear hp)
          exact bodyPost_ret (ret23 rfl rfl HP.out.at') rfl ⟨rfl, HP.out.low I4.out.2.2.2 (by omega)⟩
        | true =>
          obtain ⟨ka, na, sa⟩ := x
          obtain ⟨kb, nb, sb⟩ := y
          change Calls Tryz.prog 38 #[val ka na sa, val kb nb sb] w _
          have I0 : Hid (In3 (ka, na, sa) (kb, nb, sb) w (((w.alloc (.cells #[.int .i64 ka, .int .i64 na, .string sa] 23)).alloc (.cells #[.int .i64 kb, .int .i64 nb, .string sb] 23)).alloc (.cells #[.int .i64 0, .int .i64 0, .string ⟨#[]⟩] 23))) := Lib.hid ⟨(heap_alloc_old _ _ (by simp only [World.size_alloc]; omega)).trans ((heap_alloc_old _ _ (by simp)).trans (heap_alloc_new w _)), (heap_alloc_old _ _ (by simp)).trans (new_at _ _ _ (by simp)), new_at _ _ _ (by simp), by go_grown⟩
          go_enter Tryz.func38, Tryz.ntmps38
          go_wp2_with fail
          refine (PA.out _).mono ?_
          rintro e w1 ⟨rfl, hb1⟩
          have I1 := Lib.hid (I0.out.below hb1)
          clear hb1
          have a0 : w1.cell? ⟨w.heap.size, 0, none⟩ = some (.int .i64 ka) := (cell_of_row w1 _ 0 _ _ _ I1.out.1).trans rfl
          have a1 : w1.cell? ⟨w.heap.size, 1, none⟩ = some (.int .i64 na) := (cell_of_row w1 _ 1 _ _ _ I1.out.1).trans rfl
          have a2 : w1.cell? ⟨w.heap.size, 2, none⟩ = some (.string sa) := (cell_of_row w1 _ 2 _ _ _ I1.out.1).trans rfl
          have d0 : w1.cell? ⟨w.heap.size + 1, 0, none⟩ = some (.int .i64 kb) := (cell_of_row w1 _ 0 _ _ _ I1.out.2.1).trans rfl
          have d1 : w1.cell? ⟨w.heap.size + 1, 1, none⟩ = some (.int .i64 nb) := (cell_of_row w1 _ 1 _ _ _ I1.out.2.1).trans rfl
          have d2 : w1.cell? ⟨w.heap.size + 1, 2, none⟩ = some (.string sb) := (cell_of_row w1 _ 2 _ _ _ I1.out.2.1).trans rfl
          go_wp2_with fail
          refine (PB.out _).mono ?_
          rintro e w2 ⟨rfl, hb2⟩
          have I2 := Lib.hid (I1.out.below hb2)
          clear hb2
          clear a0 a1 a2 d0 d1 d2
          have a0 : w2.cell? ⟨w.heap.size, 0, none⟩ = some (.int .i64 ka) := (cell_of_row w2 _ 0 _ _ _ I2.out.1).trans rfl
          have a1 : w2.cell? ⟨w.heap.size, 1, none⟩ = some (.int .i64 na) := (cell_of_row w2 _ 1 _ _ _ I2.out.1).trans rfl
          have a2 : w2.cell? ⟨w.heap.size, 2, none⟩ = some (.string sa) := (cell_of_row w2 _ 2 _ _ _ I2.out.1).trans rfl
          have d0 : w2.cell? ⟨w.heap.size + 1, 0, none⟩ = some (.int .i64 kb) := (cell_of_row w2 _ 0 _ _ _ I2.out.2.1).trans rfl
          have d1 : w2.cell? ⟨w.heap.size + 1, 1, none⟩ = some (.int .i64 nb) := (cell_of_row w2 _ 1 _ _ _ I2.out.2.1).trans rfl
          have d2 : w2.cell? ⟨w.heap.size + 1, 2, none⟩ = some (.string sb) := (cell_of_row w2 _ 2 _ _ _ I2.out.2.1).trans rfl
          go_wp2_with fail
          refine (QA.out _).mono ?_
          rintro e w3 ⟨rfl, hb3⟩
          have I3 := Lib.hid (I2.out.below hb3)
          clear hb3
          clear a0 a1 a2 d0 d1 d2
          have a0 : w3.cell? ⟨w.heap.size, 0, none⟩ = some (.int .i64 ka) := (cell_of_row w3 _ 0 _ _ _ I3.out.1).trans rfl
          have a1 : w3.cell? ⟨w.heap.size, 1, none⟩ = some (.int .i64 na) := (cell_of_row w3 _ 1 _ _ _ I3.out.1).trans rfl
          have a2 : w3.cell? ⟨w.heap.size, 2, none⟩ = some (.string sa) := (cell_of_row w3 _ 2 _ _ _ I3.out.1).trans rfl
          have d0 : w3.cell? ⟨w.heap.size + 1, 0, none⟩ = some (.int .i64 kb) := (cell_of_row w3 _ 0 _ _ _ I3.out.2.1).trans rfl
          have d1 : w3.cell? ⟨w.heap.size + 1, 1, none⟩ = some (.int .i64 nb) := (cell_of_row w3 _ 1 _ _ _ I3.out.2.1).trans rfl
          have d2 : w3.cell? ⟨w.heap.size + 1, 2, none⟩ = some (.string sb) := (cell_of_row w3 _ 2 _ _ _ I3.out.2.1).trans rfl
          go_wp2_with fail
          refine (QB.out _).mono ?_
          rintro e w4 ⟨rfl, hb4⟩
          have I4 := Lib.hid (I3.out.below hb4)
          clear hb4
          clear a0 a1 a2 d0 d1 d2
          have a0 : w4.cell? ⟨w.heap.size, 0, none⟩ = some (.int .i64 ka) := (cell_of_row w4 _ 0 _ _ _ I4.out.1).trans rfl
          have a1 : w4.cell? ⟨w.heap.size, 1, none⟩ = some (.int .i64 na) := (cell_of_row w4 _ 1 _ _ _ I4.out.1).trans rfl
          have a2 : w4.cell? ⟨w.heap.size, 2, none⟩ = some (.string sa) := (cell_of_row w4 _ 2 _ _ _ I4.out.1).trans rfl
          have d0 : w4.cell? ⟨w.heap.size + 1, 0, none⟩ = some (.int .i64 kb) := (cell_of_row w4 _ 0 _ _ _ I4.out.2.1).trans rfl
          have d1 : w4.cell? ⟨w.heap.size + 1, 1, none⟩ = some (.int .i64 nb) := (cell_of_row w4 _ 1 _ _ _ I4.out.2.1).trans rfl
          have d2 : w4.cell? ⟨w.heap.size + 1, 2, none⟩ = some (.string sb) := (cell_of_row w4 _ 2 _ _ _ I4.out.2.1).trans rfl
          go_wp2_with fail
          refine (bool_t true _).mono ?_
          rintro e w5 ⟨rfl, hb5⟩
          have I5 := Lib.hid (I4.out.below hb5)
          clear hb5
          go_wp2_with (refine store23 rfl (.tmp 4) (.tmp 20) rfl (w.heap.size + 2) (boolT true) rfl rfl _ I5.out.2.2.1 ?_; intro wz hp; have HP := Lib.hid hp; clear hp)
          exact bodyPost_ret (ret23 rfl rfl HP.out.at') rfl ⟨rfl, HP.out.low I5.out.2.2.2 (by omega)⟩
set_option maxHeartbeats 1000000 in
theorem or_gen (x y : V3) (pa pb qa qb : Bool) (hpa : Gives 111 x pa) (hpb : Gives 111 y pb) (hqa : Gives 112 x qa) (hqb : Gives 112 y qb) (w : World) :
    Calls Tryz.prog 39 #[toV x, toV y] w fun e w' => e = .returned (toV (orB pa pb qa qb)) ∧ Below w.heap.size w w' := by
  have PA := Lib.hid hpa
  have PB := Lib.hid hpb
  have QA := Lib.hid hqa
  have QB := Lib.hid hqb
  clear hpa hpb hqa hqb
  cases pa with
  | true =>
    obtain ⟨ka, na, sa⟩ := x
    obtain ⟨kb, nb, sb⟩ := y
    change Calls Tryz.prog 39 #[val ka na sa, val kb nb sb] w _
    have I0 : Hid (In3 (ka, na, sa) (kb, nb, sb) w (((w.alloc (.cells #[.int .i64 ka, .int .i64 na, .string sa] 23)).alloc (.cells #[.int .i64 kb, .int .i64 nb, .string sb] 23)).alloc (.cells #[.int .i64 0, .int .i64 0, .string ⟨#[]⟩] 23))) := Lib.hid ⟨(heap_alloc_old _ _ (by simp only [World.size_alloc]; omega)).trans ((heap_alloc_old _ _ (by simp)).trans (heap_alloc_new w _)), (heap_alloc_old _ _ (by simp)).trans (new_at _ _ _ (by simp)), new_at _ _ _ (by simp), by go_grown⟩
    go_enter Tryz.func39, Tryz.ntmps39
    go_wp2_with fail
    refine (PA.out _).mono ?_
    rintro e w1 ⟨rfl, hb1⟩
    have I1 := Lib.hid (I0.out.below hb1)
    clear hb1
    have a0 : w1.cell? ⟨w.heap.size, 0, none⟩ = some (.int .i64 ka) := (cell_of_row w1 _ 0 _ _ _ I1.out.1).trans rfl
    have a1 : w1.cell? ⟨w.heap.size, 1, none⟩ = some (.int .i64 na) := (cell_of_row w1 _ 1 _ _ _ I1.out.1).trans rfl
    have a2 : w1.cell? ⟨w.heap.size, 2, none⟩ = some (.string sa) := (cell_of_row w1 _ 2 _ _ _ I1.out.1).trans rfl
    have d0 : w1.cell? ⟨w.heap.size + 1, 0, none⟩ = some (.int .i64 kb) := (cell_of_row w1 _ 0 _ _ _ I1.out.2.1).trans rfl
    have d1 : w1.cell? ⟨w.heap.size + 1, 1, none⟩ = some (.int .i64 nb) := (cell_of_row w1 _ 1 _ _ _ I1.out.2.1).trans rfl
    have d2 : w1.cell? ⟨w.heap.size + 1, 2, none⟩ = some (.string sb) := (cell_of_row w1 _ 2 _ _ _ I1.out.2.1).trans rfl
    go_wp2_with fail
    refine (bool_t true _).mono ?_
    rintro e w2 ⟨rfl, hb2⟩
    have I2 := Lib.hid (I1.out.below hb2)
    clear hb2
    go_wp2_with (refine store23 rfl (.tmp 4) (.tmp 12) rfl (w.heap.size + 2) (boolT true) rfl rfl _ I2.out.2.2.1 ?_; intro wz hp; have HP := Lib.hid hp; clear hp)
    exact bodyPost_ret (ret23 rfl rfl HP.out.at') rfl ⟨rfl, HP.out.low I2.out.2.2.2 (by omega)⟩
  | false =>
    cases pb with
    | true =>
      obtain ⟨ka, na, sa⟩ := x
      obtain ⟨kb, nb, sb⟩ := y
      change Calls Tryz.prog 39 #[val ka na sa, val kb nb sb] w _
      have I0 : Hid (In3 (ka, na, sa) (kb, nb, sb) w (((w.alloc (.cells #[.int .i64 ka, .int .i64 na, .string sa] 23)).alloc (.cells #[.int .i64 kb, .int .i64 nb, .string sb] 23)).alloc (.cells #[.int .i64 0, .int .i64 0, .string ⟨#[]⟩] 23))) := Lib.hid ⟨(heap_alloc_old _ _ (by simp only [World.size_alloc]; omega)).trans ((heap_alloc_old _ _ (by simp)).trans (heap_alloc_new w _)), (heap_alloc_old _ _ (by simp)).trans (new_at _ _ _ (by simp)), new_at _ _ _ (by simp), by go_grown⟩
      go_enter Tryz.func39, Tryz.ntmps39
      go_wp2_with fail
      refine (PA.out _).mono ?_
      rintro e w1 ⟨rfl, hb1⟩
      have I1 := Lib.hid (I0.out.below hb1)
      clear hb1
      have a0 : w1.cell? ⟨w.heap.size, 0, none⟩ = some (.int .i64 ka) := (cell_of_row w1 _ 0 _ _ _ I1.out.1).trans rfl
      have a1 : w1.cell? ⟨w.heap.size, 1, none⟩ = some (.int .i64 na) := (cell_of_row w1 _ 1 _ _ _ I1.out.1).trans rfl
      have a2 : w1.cell? ⟨w.heap.size, 2, none⟩ = some (.string sa) := (cell_of_row w1 _ 2 _ _ _ I1.out.1).trans rfl
      have d0 : w1.cell? ⟨w.heap.size + 1, 0, none⟩ = some (.int .i64 kb) := (cell_of_row w1 _ 0 _ _ _ I1.out.2.1).trans rfl
      have d1 : w1.cell? ⟨w.heap.size + 1, 1, none⟩ = some (.int .i64 nb) := (cell_of_row w1 _ 1 _ _ _ I1.out.2.1).trans rfl
      have d2 : w1.cell? ⟨w.heap.size + 1, 2, none⟩ = some (.string sb) := (cell_of_row w1 _ 2 _ _ _ I1.out.2.1).trans rfl
      go_wp2_with fail
      refine (PB.out _).mono ?_
      rintro e w2 ⟨rfl, hb2⟩
      have I2 := Lib.hid (I1.out.below hb2)
      clear hb2
      clear a0 a1 a2 d0 d1 d2
      have a0 : w2.cell? ⟨w.heap.size, 0, none⟩ = some (.int .i64 ka) := (cell_of_row w2 _ 0 _ _ _ I2.out.1).trans rfl
      have a1 : w2.cell? ⟨w.heap.size, 1, none⟩ = some (.int .i64 na) := (cell_of_row w2 _ 1 _ _ _ I2.out.1).trans rfl
      have a2 : w2.cell? ⟨w.heap.size, 2, none⟩ = some (.string sa) := (cell_of_row w2 _ 2 _ _ _ I2.out.1).trans rfl
      have d0 : w2.cell? ⟨w.heap.size + 1, 0, none⟩ = some (.int .i64 kb) := (cell_of_row w2 _ 0 _ _ _ I2.out.2.1).trans rfl
      have d1 : w2.cell? ⟨w.heap.size + 1, 1, none⟩ = some (.int .i64 nb) := (cell_of_row w2 _ 1 _ _ _ I2.out.2.1).trans rfl
      have d2 : w2.cell? ⟨w.heap.size + 1, 2, none⟩ = some (.string sb) := (cell_of_row w2 _ 2 _ _ _ I2.out.2.1).trans rfl
      go_wp2_with fail
      refine (bool_t true _).mono ?_
      rintro e w3 ⟨rfl, hb3⟩
      have I3 := Lib.hid (I2.out.below hb3)
      clear hb3
      go_wp2_with (refine store23 rfl (.tmp 4) (.tmp 12) rfl (w.heap.size + 2) (boolT true) rfl rfl _ I3.out.2.2.1 ?_; intro wz hp; have HP := Lib.hid hp; clear hp)
      exact bodyPost_ret (ret23 rfl rfl HP.out.at') rfl ⟨rfl, HP.out.low I3.out.2.2.2 (by omega)⟩
    | false =>
      cases qa with
      | false =>
        obtain ⟨ka, na, sa⟩ := x
        obtain ⟨kb, nb, sb⟩ := y
        change Calls Tryz.prog 39 #[val ka na sa, val kb nb sb] w _
        have I0 : Hid (In3 (ka, na, sa) (kb, nb, sb) w (((w.alloc (.cells #[.int .i64 ka, .int .i64 na, .string sa] 23)).alloc (.cells #[.int .i64 kb, .int .i64 nb, .string sb] 23)).alloc (.cells #[.int .i64 0, .int .i64 0, .string ⟨#[]⟩] 23))) := Lib.hid ⟨(heap_alloc_old _ _ (by simp only [World.size_alloc]; omega)).trans ((heap_alloc_old _ _ (by simp)).trans (heap_alloc_new w _)), (heap_alloc_old _ _ (by simp)).trans (new_at _ _ _ (by simp)), new_at _ _ _ (by simp), by go_grown⟩
        go_enter Tryz.func39, Tryz.ntmps39
        go_wp2_with fail
        refine (PA.out _).mono ?_
        rintro e w1 ⟨rfl, hb1⟩
        have I1 := Lib.hid (I0.out.below hb1)
        clear hb1
        have a0 : w1.cell? ⟨w.heap.size, 0, none⟩ = some (.int .i64 ka) := (cell_of_row w1 _ 0 _ _ _ I1.out.1).trans rfl
        have a1 : w1.cell? ⟨w.heap.size, 1, none⟩ = some (.int .i64 na) := (cell_of_row w1 _ 1 _ _ _ I1.out.1).trans rfl
        have a2 : w1.cell? ⟨w.heap.size, 2, none⟩ = some (.string sa) := (cell_of_row w1 _ 2 _ _ _ I1.out.1).trans rfl
        have d0 : w1.cell? ⟨w.heap.size + 1, 0, none⟩ = some (.int .i64 kb) := (cell_of_row w1 _ 0 _ _ _ I1.out.2.1).trans rfl
        have d1 : w1.cell? ⟨w.heap.size + 1, 1, none⟩ = some (.int .i64 nb) := (cell_of_row w1 _ 1 _ _ _ I1.out.2.1).trans rfl
        have d2 : w1.cell? ⟨w.heap.size + 1, 2, none⟩ = some (.string sb) := (cell_of_row w1 _ 2 _ _ _ I1.out.2.1).trans rfl
        go_wp2_with fail
        refine (PB.out _).mono ?_
        rintro e w2 ⟨rfl, hb2⟩
        have I2 := Lib.hid (I1.out.below hb2)
        clear hb2
        clear a0 a1 a2 d0 d1 d2
        have a0 : w2.cell? ⟨w.heap.size, 0, none⟩ = some (.int .i64 ka) := (cell_of_row w2 _ 0 _ _ _ I2.out.1).trans rfl
        have a1 : w2.cell? ⟨w.heap.size, 1, none⟩ = some (.int .i64 na) := (cell_of_row w2 _ 1 _ _ _ I2.out.1).trans rfl
        have a2 : w2.cell? ⟨w.heap.size, 2, none⟩ = some (.string sa) := (cell_of_row w2 _ 2 _ _ _ I2.out.1).trans rfl
        have d0 : w2.cell? ⟨w.heap.size + 1, 0, none⟩ = some (.int .i64 kb) := (cell_of_row w2 _ 0 _ _ _ I2.out.2.1).trans rfl
        have d1 : w2.cell? ⟨w.heap.size + 1, 1, none⟩ = some (.int .i64 nb) := (cell_of_row w2 _ 1 _ _ _ I2.out.2.1).trans rfl
        have d2 : w2.cell? ⟨w.heap.size + 1, 2, none⟩ = some (.string sb) := (cell_of_row w2 _ 2 _ _ _ I2.out.2.1).trans rfl
        go_wp2_with fail
        refine (QA.out _).mono ?_
        rintro e w3 ⟨rfl, hb3⟩
        have I3 := Lib.hid (I2.out.below hb3)
        clear hb3
        clear a0 a1 a2 d0 d1 d2
        have a0 : w3.cell? ⟨w.heap.size, 0, none⟩ = some (.int .i64 ka) := (cell_of_row w3 _ 0 _ _ _ I3.out.1).trans rfl
        have a1 : w3.cell? ⟨w.heap.size, 1, none⟩ = some (.int .i64 na) := (cell_of_row w3 _ 1 _ _ _ I3.out.1).trans rfl
        have a2 : w3.cell? ⟨w.heap.size, 2, none⟩ = some (.string sa) := (cell_of_row w3 _ 2 _ _ _ I3.out.1).trans rfl
        have d0 : w3.cell? ⟨w.heap.size + 1, 0, none⟩ = some (.int .i64 kb) := (cell_of_row w3 _ 0 _ _ _ I3.out.2.1).trans rfl
        have d1 : w3.cell? ⟨w.heap.size + 1, 1, none⟩ = some (.int .i64 nb) := (cell_of_row w3 _ 1 _ _ _ I3.out.2.1).trans rfl
        have d2 : w3.cell? ⟨w.heap.size + 1, 2, none⟩ = some (.string sb) := (cell_of_row w3 _ 2 _ _ _ I3.out.2.1).trans rfl
        go_wp2_with (refine store23 rfl (.tmp 4) (.tmp 21) rfl (w.heap.size + 2) (nullT) rfl rfl _ I3.out.2.2.1 ?_; intro wz hp; have HP := Lib.hid hp; clear hp)
        exact bodyPost_ret (ret23 rfl rfl HP.out.at') rfl ⟨rfl, HP.out.low I3.out.2.2.2 (by omega)⟩
      | true =>
        cases qb with
        | false =>
          obtain ⟨ka, na, sa⟩ := x
          obtain ⟨kb, nb, sb⟩ := y
          change Calls Tryz.prog 39 #[val ka na sa, val kb nb sb] w _
          have I0 : Hid (In3 (ka, na, sa) (kb, nb, sb) w (((w.alloc (.cells #[.int .i64 ka, .int .i64 na, .string sa] 23)).alloc (.cells #[.int .i64 kb, .int .i64 nb, .string sb] 23)).alloc (.cells #[.int .i64 0, .int .i64 0, .string ⟨#[]⟩] 23))) := Lib.hid ⟨(heap_alloc_old _ _ (by simp only [World.size_alloc]; omega)).trans ((heap_alloc_old _ _ (by simp)).trans (heap_alloc_new w _)), (heap_alloc_old _ _ (by simp)).trans (new_at _ _ _ (by simp)), new_at _ _ _ (by simp), by go_grown⟩
          go_enter Tryz.func39, Tryz.ntmps39
          go_wp2_with fail
          refine (PA.out _).mono ?_
          rintro e w1 ⟨rfl, hb1⟩
          have I1 := Lib.hid (I0.out.below hb1)
          clear hb1
          have a0 : w1.cell? ⟨w.heap.size, 0, none⟩ = some (.int .i64 ka) := (cell_of_row w1 _ 0 _ _ _ I1.out.1).trans rfl
          have a1 : w1.cell? ⟨w.heap.size, 1, none⟩ = some (.int .i64 na) := (cell_of_row w1 _ 1 _ _ _ I1.out.1).trans rfl
          have a2 : w1.cell? ⟨w.heap.size, 2, none⟩ = some (.string sa) := (cell_of_row w1 _ 2 _ _ _ I1.out.1).trans rfl
          have d0 : w1.cell? ⟨w.heap.size + 1, 0, none⟩ = some (.int .i64 kb) := (cell_of_row w1 _ 0 _ _ _ I1.out.2.1).trans rfl
          have d1 : w1.cell? ⟨w.heap.size + 1, 1, none⟩ = some (.int .i64 nb) := (cell_of_row w1 _ 1 _ _ _ I1.out.2.1).trans rfl
          have d2 : w1.cell? ⟨w.heap.size + 1, 2, none⟩ = some (.string sb) := (cell_of_row w1 _ 2 _ _ _ I1.out.2.1).trans rfl
          go_wp2_with fail
          refine (PB.out _).mono ?_
          rintro e w2 ⟨rfl, hb2⟩
          have I2 := Lib.hid (I1.out.below hb2)
          clear hb2
          clear a0 a1 a2 d0 d1 d2
          have a0 : w2.cell? ⟨w.heap.size, 0, none⟩ = some (.int .i64 ka) := (cell_of_row w2 _ 0 _ _ _ I2.out.1).trans rfl
          have a1 : w2.cell? ⟨w.heap.size, 1, none⟩ = some (.int .i64 na) := (cell_of_row w2 _ 1 _ _ _ I2.out.1).trans rfl
          have a2 : w2.cell? ⟨w.heap.size, 2, none⟩ = some (.string sa) := (cell_of_row w2 _ 2 _ _ _ I2.out.1).trans rfl
          have d0 : w2.cell? ⟨w.heap.size + 1, 0, none⟩ = some (.int .i64 kb) := (cell_of_row w2 _ 0 _ _ _ I2.out.2.1).trans rfl
          have d1 : w2.cell? ⟨w.heap.size + 1, 1, none⟩ = some (.int .i64 nb) := (cell_of_row w2 _ 1 _ _ _ I2.out.2.1).trans rfl
          have d2 : w2.cell? ⟨w.heap.size + 1, 2, none⟩ = some (.string sb) := (cell_of_row w2 _ 2 _ _ _ I2.out.2.1).trans rfl
          go_wp2_with fail
          refine (QA.out _).mono ?_
          rintro e w3 ⟨rfl, hb3⟩
          have I3 := Lib.hid (I2.out.below hb3)
          clear hb3
          clear a0 a1 a2 d0 d1 d2
          have a0 : w3.cell? ⟨w.heap.size, 0, none⟩ = some (.int .i64 ka) := (cell_of_row w3 _ 0 _ _ _ I3.out.1).trans rfl
          have a1 : w3.cell? ⟨w.heap.size, 1, none⟩ = some (.int .i64 na) := (cell_of_row w3 _ 1 _ _ _ I3.out.1).trans rfl
          have a2 : w3.cell? ⟨w.heap.size, 2, none⟩ = some (.string sa) := (cell_of_row w3 _ 2 _ _ _ I3.out.1).trans rfl
          have d0 : w3.cell? ⟨w.heap.size + 1, 0, none⟩ = some (.int .i64 kb) := (cell_of_row w3 _ 0 _ _ _ I3.out.2.1).trans rfl
          have d1 : w3.cell? ⟨w.heap.size + 1, 1, none⟩ = some (.int .i64 nb) := (cell_of_row w3 _ 1 _ _ _ I3.out.2.1).trans rfl
          have d2 : w3.cell? ⟨w.heap.size + 1, 2, none⟩ = some (.string sb) := (cell_of_row w3 _ 2 _ _ _ I3.out.2.1).trans rfl
          go_wp2_with fail
          refine (QB.out _).mono ?_
          rintro e w4 ⟨rfl, hb4⟩
          have I4 := Lib.hid (I3.out.below hb4)
          clear hb4
          clear a0 a1 a2 d0 d1 d2
          have a0 : w4.cell? ⟨w.heap.size, 0, none⟩ = some (.int .i64 ka) := (cell_of_row w4 _ 0 _ _ _ I4.out.1).trans rfl
          have a1 : w4.cell? ⟨w.heap.size, 1, none⟩ = some (.int .i64 na) := (cell_of_row w4 _ 1 _ _ _ I4.out.1).trans rfl
          have a2 : w4.cell? ⟨w.heap.size, 2, none⟩ = some (.string sa) := (cell_of_row w4 _ 2 _ _ _ I4.out.1).trans rfl
          have d0 : w4.cell? ⟨w.heap.size + 1, 0, none⟩ = some (.int .i64 kb) := (cell_of_row w4 _ 0 _ _ _ I4.out.2.1).trans rfl
          have d1 : w4.cell? ⟨w.heap.size + 1, 1, none⟩ = some (.int .i64 nb) := (cell_of_row w4 _ 1 _ _ _ I4.out.2.1).trans rfl
          have d2 : w4.cell? ⟨w.heap.size + 1, 2, none⟩ = some (.string sb) := (cell_of_row w4 _ 2 _ _ _ I4.out.2.1).trans rfl
          go_wp2_with (refine store23 rfl (.tmp 4) (.tmp 21) rfl (w.heap.size + 2) (nullT) rfl rfl _ I4.out.2.2.1 ?_; intro wz hp; have HP := Lib.hid hp; clear hp)
          exact bodyPost_ret (ret23 rfl rfl HP.out.at') rfl ⟨rfl, HP.out.low I4.out.2.2.2 (by omega)⟩
        | true =>
          obtain ⟨ka, na, sa⟩ := x
          obtain ⟨kb, nb, sb⟩ := y
          change Calls Tryz.prog 39 #[val ka na sa, val kb nb sb] w _
          have I0 : Hid (In3 (ka, na, sa) (kb, nb, sb) w (((w.alloc (.cells #[.int .i64 ka, .int .i64 na, .string sa] 23)).alloc (.cells #[.int .i64 kb, .int .i64 nb, .string sb] 23)).alloc (.cells #[.int .i64 0, .int .i64 0, .string ⟨#[]⟩] 23))) := Lib.hid ⟨(heap_alloc_old _ _ (by simp only [World.size_alloc]; omega)).trans ((heap_alloc_old _ _ (by simp)).trans (heap_alloc_new w _)), (heap_alloc_old _ _ (by simp)).trans (new_at _ _ _ (by simp)), new_at _ _ _ (by simp), by go_grown⟩
          go_enter Tryz.func39, Tryz.ntmps39
          go_wp2_with fail
          refine (PA.out _).mono ?_
          rintro e w1 ⟨rfl, hb1⟩
          have I1 := Lib.hid (I0.out.below hb1)
          clear hb1
          have a0 : w1.cell? ⟨w.heap.size, 0, none⟩ = some (.int .i64 ka) := (cell_of_row w1 _ 0 _ _ _ I1.out.1).trans rfl
          have a1 : w1.cell? ⟨w.heap.size, 1, none⟩ = some (.int .i64 na) := (cell_of_row w1 _ 1 _ _ _ I1.out.1).trans rfl
          have a2 : w1.cell? ⟨w.heap.size, 2, none⟩ = some (.string sa) := (cell_of_row w1 _ 2 _ _ _ I1.out.1).trans rfl
          have d0 : w1.cell? ⟨w.heap.size + 1, 0, none⟩ = some (.int .i64 kb) := (cell_of_row w1 _ 0 _ _ _ I1.out.2.1).trans rfl
          have d1 : w1.cell? ⟨w.heap.size + 1, 1, none⟩ = some (.int .i64 nb) := (cell_of_row w1 _ 1 _ _ _ I1.out.2.1).trans rfl
          have d2 : w1.cell? ⟨w.heap.size + 1, 2, none⟩ = some (.string sb) := (cell_of_row w1 _ 2 _ _ _ I1.out.2.1).trans rfl
          go_wp2_with fail
          refine (PB.out _).mono ?_
          rintro e w2 ⟨rfl, hb2⟩
          have I2 := Lib.hid (I1.out.below hb2)
          clear hb2
          clear a0 a1 a2 d0 d1 d2
          have a0 : w2.cell? ⟨w.heap.size, 0, none⟩ = some (.int .i64 ka) := (cell_of_row w2 _ 0 _ _ _ I2.out.1).trans rfl
          have a1 : w2.cell? ⟨w.heap.size, 1, none⟩ = some (.int .i64 na) := (cell_of_row w2 _ 1 _ _ _ I2.out.1).trans rfl
          have a2 : w2.cell? ⟨w.heap.size, 2, none⟩ = some (.string sa) := (cell_of_row w2 _ 2 _ _ _ I2.out.1).trans rfl
          have d0 : w2.cell? ⟨w.heap.size + 1, 0, none⟩ = some (.int .i64 kb) := (cell_of_row w2 _ 0 _ _ _ I2.out.2.1).trans rfl
          have d1 : w2.cell? ⟨w.heap.size + 1, 1, none⟩ = some (.int .i64 nb) := (cell_of_row w2 _ 1 _ _ _ I2.out.2.1).trans rfl
          have d2 : w2.cell? ⟨w.heap.size + 1, 2, none⟩ = some (.string sb) := (cell_of_row w2 _ 2 _ _ _ I2.out.2.1).trans rfl
          go_wp2_with fail
          refine (QA.out _).mono ?_
          rintro e w3 ⟨rfl, hb3⟩
          have I3 := Lib.hid (I2.out.below hb3)
          clear hb3
          clear a0 a1 a2 d0 d1 d2
          have a0 : w3.cell? ⟨w.heap.size, 0, none⟩ = some (.int .i64 ka) := (cell_of_row w3 _ 0 _ _ _ I3.out.1).trans rfl
          have a1 : w3.cell? ⟨w.heap.size, 1, none⟩ = some (.int .i64 na) := (cell_of_row w3 _ 1 _ _ _ I3.out.1).trans rfl
          have a2 : w3.cell? ⟨w.heap.size, 2, none⟩ = some (.string sa) := (cell_of_row w3 _ 2 _ _ _ I3.out.1).trans rfl
          have d0 : w3.cell? ⟨w.heap.size + 1, 0, none⟩ = some (.int .i64 kb) := (cell_of_row w3 _ 0 _ _ _ I3.out.2.1).trans rfl
          have d1 : w3.cell? ⟨w.heap.size + 1, 1, none⟩ = some (.int .i64 nb) := (cell_of_row w3 _ 1 _ _ _ I3.out.2.1).trans rfl
          have d2 : w3.cell? ⟨w.heap.size + 1, 2, none⟩ = some (.string sb) := (cell_of_row w3 _ 2 _ _ _ I3.out.2.1).trans rfl
          go_wp2_with fail
          refine (QB.out _).mono ?_
          rintro e w4 ⟨rfl, hb4⟩
          have I4 := Lib.hid (I3.out.below hb4)
          clear hb4
          clear a0 a1 a2 d0 d1 d2
          have a0 : w4.cell? ⟨w.heap.size, 0, none⟩ = some (.int .i64 ka) := (cell_of_row w4 _ 0 _ _ _ I4.out.1).trans rfl
          have a1 : w4.cell? ⟨w.heap.size, 1, none⟩ = some (.int .i64 na) := (cell_of_row w4 _ 1 _ _ _ I4.out.1).trans rfl
          have a2 : w4.cell? ⟨w.heap.size, 2, none⟩ = some (.string sa) := (cell_of_row w4 _ 2 _ _ _ I4.out.1).trans rfl
          have d0 : w4.cell? ⟨w.heap.size + 1, 0, none⟩ = some (.int .i64 kb) := (cell_of_row w4 _ 0 _ _ _ I4.out.2.1).trans rfl
          have d1 : w4.cell? ⟨w.heap.size + 1, 1, none⟩ = some (.int .i64 nb) := (cell_of_row w4 _ 1 _ _ _ I4.out.2.1).trans rfl
          have d2 : w4.cell? ⟨w.heap.size + 1, 2, none⟩ = some (.string sb) := (cell_of_row w4 _ 2 _ _ _ I4.out.2.1).trans rfl
          go_wp2_with fail
          refine (bool_t false _).mono ?_
          rintro e w5 ⟨rfl, hb5⟩
          have I5 := Lib.hid (I4.out.below hb5)
          clear hb5
          go_wp2_with (refine store23 rfl (.tmp 4) (.tmp 20) rfl (w.heap.size + 2) (boolT false) rfl rfl _ I5.out.2.2.1 ?_; intro wz hp; have HP := Lib.hid hp; clear hp)
          exact bodyPost_ret (ret23 rfl rfl HP.out.at') rfl ⟨rfl, HP.out.low I5.out.2.2.2 (by omega)⟩
theorem and_t (x y : V3) (w : World) : Calls Tryz.prog 38 #[toV x, toV y] w fun e w' => e = .returned (toV (thirdT (min (third x) (third y)))) ∧ Below w.heap.size w w' := by
  have h := and_gen x y _ _ _ _ (fun w => isFalse_t x w) (fun w => isFalse_t y w) (fun w => isTrue_t x w) (fun w => isTrue_t y w) w
  have e : andB (third x == 0) (third y == 0) (third x == 2) (third y == 2) = thirdT (min (third x) (third y)) := by
    rcases third_cases x with a | ⟨a, _⟩ | ⟨a, _⟩ <;> rcases third_cases y with b | ⟨b, _⟩ | ⟨b, _⟩ <;> rw [a, b] <;> rfl
  rw [e] at h
  exact h
theorem or_t (x y : V3) (w : World) : Calls Tryz.prog 39 #[toV x, toV y] w fun e w' => e = .returned (toV (thirdT (max (third x) (third y)))) ∧ Below w.heap.size w w' := by
  have h := or_gen x y _ _ _ _ (fun w => isTrue_t x w) (fun w => isTrue_t y w) (fun w => isFalse_t x w) (fun w => isFalse_t y w) w
  have e : orB (third x == 2) (third y == 2) (third x == 0) (third y == 0) = thirdT (max (third x) (third y)) := by
    rcases third_cases x with a | ⟨a, _⟩ | ⟨a, _⟩ <;> rcases third_cases y with b | ⟨b, _⟩ | ⟨b, _⟩ <;> rw [a, b] <;> rfl
  rw [e] at h
  exact h
end YtabojeleomfgnaaGreatDoor
end Go.Proofs
