/- A cache: forget, Hear, and the run that shows that package cache works. -/
import Derived.Test.YtbihfgcejlgffaaTke
namespace Go.Proofs
open Go.RowKit
namespace Ytbihfgcejlgffaa
set_option maxRecDepth 100000
set_option maxHeartbeats 4000000 in
theorem forget_t (b m e g rs : Nat) (u : Int) (w : World) (hb : w.heap[b]? = some (.cells (CA 2 u m) 85 (0, 0))) (hM : w.heap[m]? = some (.map #[{ key := NK, val := .pointer (some ⟨e, 0, none⟩), born := 0 }] 1)) (he : w.heap[e]? = some (.cells (EN 2 u g) 93 (0, 0))) (hr : w.heap[rs]? = some (.cells RC 69 (0, 0))) :
    Calls Try.prog 49 #[.pointer (some ⟨b, 0, none⟩), .agg (NT rs)] w fun x w' => x = .returned (.tuple #[]) ∧ w'.heap[m]? = some (.map #[] 1) ∧ KX [m] w w' := by
  have hmm := @run_makeMap Try.prog
  have BA : Below w.heap.size w (((w.alloc (.cells (NT rs) 65)).alloc (.map #[] 0)).alloc (.cells #[.map (some (w.heap.size + 1))] 117)) := by go_grown
  have N1 : Hid ((((w.alloc (.cells (NT rs) 65)).alloc (.map #[] 0)).alloc (.cells #[.map (some (w.heap.size + 1))] 117)).heap[w.heap.size]? = some (.cells (NT rs) 65 (0, 0))) := Lib.hid (al _ (al _ (heap_alloc_new w _)))
  have D1 : Hid ((((w.alloc (.cells (NT rs) 65)).alloc (.map #[] 0)).alloc (.cells #[.map (some (w.heap.size + 1))] 117)).heap[w.heap.size + 1]? = some (.map #[] 0)) := Lib.hid (al _ (new_at _ _ _ (by simp)))
  have C1 : Hid ((((w.alloc (.cells (NT rs) 65)).alloc (.map #[] 0)).alloc (.cells #[.map (some (w.heap.size + 1))] 117)).heap[w.heap.size + 1 + 1]? = some (.cells #[.map (some (w.heap.size + 1))] 117 (0, 0))) := Lib.hid (new_at _ _ _ (by simp))
  have S1 : Hid ((((w.alloc (.cells (NT rs) 65)).alloc (.map #[] 0)).alloc (.cells #[.map (some (w.heap.size + 1))] 117)).heap.size = w.heap.size + 1 + 1 + 1) := Lib.hid (by simp)
  have B1 := Lib.hid ((BA.block _ (lt_of_block hb)).trans hb)
  have M1 := Lib.hid ((BA.block _ (lt_of_block hM)).trans hM)
  have E1 := Lib.hid ((BA.block _ (lt_of_block he)).trans he)
  have R1 := Lib.hid ((BA.block _ (lt_of_block hr)).trans hr)
  have K1 : Hid (KX [m] w (((w.alloc (.cells (NT rs) 65)).alloc (.map #[] 0)).alloc (.cells #[.map (some (w.heap.size + 1))] 117))) := Lib.hid (KX.of_below BA)
  have LT := Lib.hid (show b < w.heap.size ∧ m < w.heap.size ∧ e < w.heap.size ∧ rs < w.heap.size from ⟨lt_of_block hb, lt_of_block hM, lt_of_block he, lt_of_block hr⟩)
  clear hb hM he hr BA
  go_enter Try.func49, Try.ntmps49
  go_wp2_with fail
  generalize ((w.alloc (.cells (NT rs) 65)).alloc (.map #[] 0)).alloc (.cells #[.map (some (w.heap.size + 1))] 117) = w1 at N1 D1 C1 S1 B1 M1 E1 R1 K1 ⊢
  clear hmm
  refine wp_loop_rounds 2 ?_
  rw [rounds_succ]
  have r0 : w1.cell? ⟨rs, 0, none⟩ = some (.string SA) := (cell_of_row w1 _ 0 _ _ _ R1.out).trans rfl
  have r1 : w1.cell? ⟨rs, 1, none⟩ = some (.int .i64 0) := (cell_of_row w1 _ 1 _ _ _ R1.out).trans rfl
  have r2 : w1.cell? ⟨rs, 2, none⟩ = some (.int .i64 1) := (cell_of_row w1 _ 2 _ _ _ R1.out).trans rfl
  have l1 : w.heap.size + 1 + 1 < w1.heap.size := lt_of_block C1.out
  have c0 : w1.cell? ⟨w.heap.size + 1 + 1, 0, none⟩ = some (.map (some (w.heap.size + 1))) := (cell_of_row w1 _ 0 _ _ _ C1.out).trans rfl
  have hu : (Instr.mapUpdate 117 (.map (some (w.heap.size + 1))) RK (.bool true)).run Try.prog (w1.alloc (.cells RC 69)) = .ok () ((w1.alloc (.cells RC 69)).putObj (w.heap.size + 1) (.map #[{ key := RK, val := .bool true, born := 0 }] 1)) := upd69 _ _ 0 _ (al _ D1.out)
  go_wp2_with fail
  clear hu
  obtain ⟨lb, lm, le, lr⟩ := LT.out
  have N5 : Hid (((w1.alloc (.cells RC 69)).putObj (w.heap.size + 1) (.map #[{ key := RK, val := .bool true, born := 0 }] 1)).heap[w.heap.size]? = some (.cells (NT rs) 65 (0, 0))) := Lib.hid ((World.putObj_heap_other (by omega)).trans (al _ N1.out))
  have C5 : Hid (((w1.alloc (.cells RC 69)).putObj (w.heap.size + 1) (.map #[{ key := RK, val := .bool true, born := 0 }] 1)).heap[w.heap.size + 1 + 1]? = some (.cells #[.map (some (w.heap.size + 1))] 117 (0, 0))) := Lib.hid ((World.putObj_heap_other (by omega)).trans (al _ C1.out))
  have D5 : Hid (((w1.alloc (.cells RC 69)).putObj (w.heap.size + 1) (.map #[{ key := RK, val := .bool true, born := 0 }] 1)).heap[w.heap.size + 1]? = some (.map #[{ key := RK, val := .bool true, born := 0 }] 1)) := Lib.hid (World.putObj_heap_same (lt_of_block (al _ D1.out)))
  have B5 : Hid (((w1.alloc (.cells RC 69)).putObj (w.heap.size + 1) (.map #[{ key := RK, val := .bool true, born := 0 }] 1)).heap[b]? = some (.cells (CA 2 u m) 85 (0, 0))) := Lib.hid ((World.putObj_heap_other (by omega)).trans (al _ B1.out))
  have M5 : Hid (((w1.alloc (.cells RC 69)).putObj (w.heap.size + 1) (.map #[{ key := RK, val := .bool true, born := 0 }] 1)).heap[m]? = some (.map #[{ key := NK, val := .pointer (some ⟨e, 0, none⟩), born := 0 }] 1)) := Lib.hid ((World.putObj_heap_other (by omega)).trans (al _ M1.out))
  have E5 : Hid (((w1.alloc (.cells RC 69)).putObj (w.heap.size + 1) (.map #[{ key := RK, val := .bool true, born := 0 }] 1)).heap[e]? = some (.cells (EN 2 u g) 93 (0, 0))) := Lib.hid ((World.putObj_heap_other (by omega)).trans (al _ E1.out))
  have K5 : Hid (KX [m] w ((w1.alloc (.cells RC 69)).putObj (w.heap.size + 1) (.map #[{ key := RK, val := .bool true, born := 0 }] 1))) := Lib.hid ((K1.out.alloc _).put (Or.inr (by omega)))
  clear r0 r1 r2 l1 c0 N1 D1 C1 S1 B1 M1 E1 R1 K1 lb lm le lr
  generalize (w1.alloc (.cells RC 69)).putObj (w.heap.size + 1) (.map #[{ key := RK, val := .bool true, born := 0 }] 1) = w5 at N5 C5 D5 B5 M5 E5 K5 ⊢
  have n0 : w5.cell? ⟨w.heap.size, 0, none⟩ = some (.int .i64 3) := (cell_of_row w5 _ 0 _ _ _ N5.out).trans rfl
  have n1 : w5.cell? ⟨w.heap.size, 1, none⟩ = some (.slice (some ⟨rs, 0, none⟩) 1 1) := (cell_of_row w5 _ 1 _ _ _ N5.out).trans rfl
  have n2 : w5.cell? ⟨w.heap.size, 2, none⟩ = some (.slice none 0 0) := (cell_of_row w5 _ 2 _ _ _ N5.out).trans rfl
  rw [rounds_succ]
  go_wp2_with fail
  refine (touching_t rs _).mono ?_
  rintro x w6 ⟨⟨p, q, s, rfl⟩, hb6⟩
  have BB : Below w5.heap.size w5 (w6.alloc (.cells #[.nilFunc] 118)) := hb6.alloc hb6.size _
  have T7 : Hid ((w6.alloc (.cells #[.nilFunc] 118)).heap[w6.heap.size]? = some (.cells #[.nilFunc] 118 (0, 0))) := Lib.hid (heap_alloc_new w6 _)
  have N7 := Lib.hid ((BB.block _ (lt_of_block N5.out)).trans N5.out)
  have C7 := Lib.hid ((BB.block _ (lt_of_block C5.out)).trans C5.out)
  have D7 := Lib.hid ((BB.block _ (lt_of_block D5.out)).trans D5.out)
  have B7 := Lib.hid ((BB.block _ (lt_of_block B5.out)).trans B5.out)
  have M7 := Lib.hid ((BB.block _ (lt_of_block M5.out)).trans M5.out)
  have E7 := Lib.hid ((BB.block _ (lt_of_block E5.out)).trans E5.out)
  have K7 : Hid (KX [m] w (w6.alloc (.cells #[.nilFunc] 118))) := Lib.hid (K5.out.trans (KX.of_below BB))
  have X7 := Lib.hid hb6.size
  clear BB hb6 n0 n1 n2 
  go_wp2_with (refine store_fn 118 size118 rfl (.tmp 7) (.tmp 20) rfl w6.heap.size 0 (.func 88) #[] #[.pointer (some ⟨p, 0, none⟩), .pointer (some ⟨q, 0, none⟩), .pointer (some ⟨s, 0, none⟩)] rfl rfl _ 118 T7.out (by simp) ?_; intro w8 hp; have P8 := Lib.hid hp; clear hp; have c4 : w8.cell? ⟨b, 4, none⟩ = some (.map (some m)) := (cell_of_row w8 _ 4 _ _ _ ((P8.out.keeps.block _ (lt_of_block B7.out) (by have h1 := lt_of_block B5.out; have h2 := X7.out; omega)).trans B7.out)).trans rfl)
  refine (delFunc_t m e g (w.heap.size + 1 + 1) (w.heap.size + 1) w6.heap.size w.heap.size rs u _ ((P8.out.keeps.block _ (lt_of_block M7.out) (by have h1 := lt_of_block M5.out; have h2 := X7.out; omega)).trans M7.out) ((P8.out.keeps.block _ (lt_of_block E7.out) (by have h1 := lt_of_block E5.out; have h2 := X7.out; omega)).trans E7.out) ((P8.out.keeps.block _ (lt_of_block C7.out) (by have h1 := lt_of_block C5.out; have h2 := X7.out; omega)).trans C7.out) ((P8.out.keeps.block _ (lt_of_block D7.out) (by have h1 := lt_of_block D5.out; have h2 := X7.out; omega)).trans D7.out) ((P8.out.keeps.block _ (lt_of_block N7.out) (by have h1 := lt_of_block N5.out; have h2 := X7.out; omega)).trans N7.out)).mono ?_
  rintro x w9 ⟨rfl, hm9, hk9⟩
  have K9 : Hid (KX [m] w w9) := Lib.hid ((K7.out.puts P8.out (Or.inr (by have h1 := K5.out.size; have h2 := X7.out; omega))).trans hk9)
  have M9 := Lib.hid hm9
  clear hk9 hm9 c4
  go_wp2_with fail
  exact bodyPost_end (results_none rfl _ _ _) rfl ⟨rfl, M9.out, K9.out⟩
set_option maxHeartbeats 2000000 in
theorem hear_yes (b m e g rs : Nat) (u : Int) (hbm : b ≠ m) (w : World) (hb : w.heap[b]? = some (.cells (CA 2 u m) 85 (0, 0))) (hM : w.heap[m]? = some (.map #[{ key := NK, val := .pointer (some ⟨e, 0, none⟩), born := 0 }] 1)) (he : w.heap[e]? = some (.cells (EN 2 u g) 93 (0, 0))) (hr : w.heap[rs]? = some (.cells RC 69 (0, 0))) :
    Calls Try.prog 28 #[.pointer (some ⟨b, 0, none⟩), .agg (NT rs)] w fun x w' => x = .returned (.int .i64 0) ∧ w'.heap[b]? = some (.cells (CA 3 u m) 85 (0, 0)) ∧ w'.heap[m]? = some (.map #[] 1) ∧ KX [b, m] w w' := by
  have CF := Lib.hid (fun w hb hM he hr => forget_t b m e g rs u w hb hM he hr)
  have N1 : Hid ((w.alloc (.cells (NT rs) 65)).heap[w.heap.size]? = some (.cells (NT rs) 65 (0, 0))) := Lib.hid (heap_alloc_new w _)
  have B1 : Hid ((w.alloc (.cells (NT rs) 65)).heap[b]? = some (.cells (CA 2 u m) 85 (0, 0))) := Lib.hid (al _ hb)
  have M1 := Lib.hid (al (.cells (NT rs) 65) hM)
  have E1 := Lib.hid (al (.cells (NT rs) 65) he)
  have R1 := Lib.hid (al (.cells (NT rs) 65) hr)
  have K1 : Hid (KX [b, m] w (w.alloc (.cells (NT rs) 65))) := Lib.hid ((KX.refl _ _).alloc _)
  have NE := Lib.hid (show b ≠ m ∧ w.heap.size ≠ m ∧ w.heap.size ≠ b from ⟨hbm, by have := lt_of_block hM; omega, by have := lt_of_block hb; omega⟩)
  clear hb hM he hr hbm
  go_enter Try.func28, Try.ntmps28
  go_wp2_with fail
  generalize w.alloc (.cells (NT rs) 65) = w1 at N1 B1 M1 E1 R1 K1 ⊢
  have c1 : w1.cell? ⟨b, 1, none⟩ = some (.int .i64 2) := (cell_of_row w1 _ 1 _ _ _ B1.out).trans rfl
  have n0 : w1.cell? ⟨w.heap.size, 0, none⟩ = some (.int .i64 3) := (cell_of_row w1 _ 0 _ _ _ N1.out).trans rfl
  go_quiet (fail)
  have N2 : Hid ((w1.drewN nq).heap[w.heap.size]? = some (.cells (NT rs) 65 (0, 0))) := N1
  have B2 : Hid ((w1.drewN nq).heap[b]? = some (.cells (CA 2 u m) 85 (0, 0))) := B1
  have M2 : Hid ((w1.drewN nq).heap[m]? = some (.map #[{ key := NK, val := .pointer (some ⟨e, 0, none⟩), born := 0 }] 1)) := M1
  have E2 : Hid ((w1.drewN nq).heap[e]? = some (.cells (EN 2 u g) 93 (0, 0))) := E1
  have R2 : Hid ((w1.drewN nq).heap[rs]? = some (.cells RC 69 (0, 0))) := R1
  have K2 : Hid (KX [b, m] w (w1.drewN nq)) := Lib.hid (K1.out.drew _)
  clear c1 n0 N1 B1 M1 E1 R1 K1
  generalize w1.drewN nq = w2 at N2 B2 M2 E2 R2 K2 ⊢
  have n0 : w2.cell? ⟨w.heap.size, 0, none⟩ = some (.int .i64 3) := (cell_of_row w2 _ 0 _ _ _ N2.out).trans rfl
  have n1 : w2.cell? ⟨w.heap.size, 1, none⟩ = some (.slice (some ⟨rs, 0, none⟩) 1 1) := (cell_of_row w2 _ 1 _ _ _ N2.out).trans rfl
  have n2 : w2.cell? ⟨w.heap.size, 2, none⟩ = some (.slice none 0 0) := (cell_of_row w2 _ 2 _ _ _ N2.out).trans rfl
  go_wp2_with fail
  refine (CF.out _ B2.out M2.out E2.out R2.out).mono ?_
  rintro x w3 ⟨rfl, hm3, hk3⟩
  have M3 := Lib.hid hm3
  have N3 : Hid (w3.heap[w.heap.size]? = some (.cells (NT rs) 65 (0, 0))) := Lib.hid ((hk3.block _ (lt_of_block N2.out) (by have := NE.out; simp; exact this.2.1)).trans N2.out)
  have B3 : Hid (w3.heap[b]? = some (.cells (CA 2 u m) 85 (0, 0))) := Lib.hid ((hk3.block _ (lt_of_block B2.out) (by have := NE.out; simp; exact this.1)).trans B2.out)
  have K3 : Hid (KX [b, m] w w3) := Lib.hid (K2.out.trans (hk3.mono (by simp)))
  clear hm3 hk3 n0 n1 n2 N2 B2 M2 E2 R2 K2
  have n0 : w3.cell? ⟨w.heap.size, 0, none⟩ = some (.int .i64 3) := (cell_of_row w3 _ 0 _ _ _ N3.out).trans rfl
  go_wp2_with (refine store_int rfl (.tmp 20) (.tmp 18) rfl b 1 3 rfl rfl _ 85 B3.out (by simp) ?_; intro w4 hp; have P4 := Lib.hid hp; clear hp)
  go_ret
  exact ⟨rfl, P4.out.at', (P4.out.keeps.block _ (lt_of_block M3.out) NE.out.1.symm).trans M3.out, K3.out.puts P4.out (Or.inl (by simp))⟩
end Ytbihfgcejlgffaa
end Go.Proofs
