/- A cache: it is made, and keeps an object. -/
import Derived.Test.YtbihfgcejlgffaaTka
namespace Go.Proofs
open Go.RowKit
namespace Ytbihfgcejlgffaa
set_option maxRecDepth 100000
theorem newCache_t (w : World) : Calls Try.prog 26 #[.int .i64 4, .int .i64 2] w fun e w' => e = .returned (.tuple #[.pointer (some ⟨w.heap.size + 1, 0, none⟩), .int .i64 0]) ∧ w' = (w.alloc (.map #[] 0)).alloc (.cells (CA 2 0 w.heap.size) 85) := by
  have hmm := @run_makeMap Try.prog
  go_enter Try.func26, Try.ntmps26
  go_wp2
  go_ret2
  exact ⟨rfl, rfl⟩
set_option maxHeartbeats 2000000 in
theorem keep_t (b m e g : Nat) (hbm : b ≠ m) (hbe : b ≠ e) (hme : m ≠ e) (w : World) (hb : w.heap[b]? = some (.cells (CA 2 0 m) 85 (0, 0))) (hm : w.heap[m]? = some (.map #[] 0)) (he : w.heap[e]? = some (.cells (EN 2 0 g) 93 (0, 0))) :
    Calls Try.prog 47 #[.pointer (some ⟨b, 0, none⟩), NK, .pointer (some ⟨e, 0, none⟩)] w fun r w' => r = .returned (.bool true) ∧ w'.heap[b]? = some (.cells (CA 2 1 m) 85 (0, 0)) ∧ w'.heap[m]? = some (.map #[{ key := NK, val := .pointer (some ⟨e, 0, none⟩), born := 0 }] 1) ∧ w'.heap[e]? = some (.cells (EN 2 1 g) 93 (0, 0)) ∧ KX [b, m, e] w w' := by
  have HNE : Hid (b ≠ m ∧ b ≠ e ∧ m ≠ e) := Lib.hid ⟨hbm, hbe, hme⟩
  have K0 : Hid (KX [b, m, e] w (w.alloc (.cells #[.bool false, .string SA, .int .i64 0, .int .i64 1, .string S0] 88))) := Lib.hid ((KX.refl _ _).alloc _)
  have BA := (Below.refl _ w).alloc (Nat.le_refl _) (.cells #[.bool false, .string SA, .int .i64 0, .int .i64 1, .string S0] 88)
  have R0 : Hid ((w.alloc (.cells #[.bool false, .string SA, .int .i64 0, .int .i64 1, .string S0] 88)).heap[w.heap.size]? = some (.cells #[.bool false, .string SA, .int .i64 0, .int .i64 1, .string S0] 88 (0, 0))) := Lib.hid (heap_alloc_new w _)
  have B0 := Lib.hid ((BA.block _ (lt_of_block hb)).trans hb)
  have M0 := Lib.hid ((BA.block _ (lt_of_block hm)).trans hm)
  have E0 := Lib.hid ((BA.block _ (lt_of_block he)).trans he)
  have LB := Lib.hid (show b < w.heap.size from lt_of_block hb)
  have LM := Lib.hid (show m < w.heap.size from lt_of_block hm)
  have LE := Lib.hid (show e < w.heap.size from lt_of_block he)
  clear hb hm he hbm hbe hme BA
  go_enter Try.func47, Try.ntmps47
  go_wp2_with fail
  generalize w.alloc (.cells #[.bool false, .string SA, .int .i64 0, .int .i64 1, .string S0] 88) = w1 at K0 R0 B0 M0 E0 ⊢
  have r0 : w1.cell? ⟨w.heap.size, 0, none⟩ = some (.bool false) := (cell_of_row w1 _ 0 _ _ _ R0.out).trans rfl
  have r1 : w1.cell? ⟨w.heap.size, 1, none⟩ = some (.string SA) := (cell_of_row w1 _ 1 _ _ _ R0.out).trans rfl
  have r2 : w1.cell? ⟨w.heap.size, 2, none⟩ = some (.int .i64 0) := (cell_of_row w1 _ 2 _ _ _ R0.out).trans rfl
  have r3 : w1.cell? ⟨w.heap.size, 3, none⟩ = some (.int .i64 1) := (cell_of_row w1 _ 3 _ _ _ R0.out).trans rfl
  have r4 : w1.cell? ⟨w.heap.size, 4, none⟩ = some (.string S0) := (cell_of_row w1 _ 4 _ _ _ R0.out).trans rfl
  have c4 : w1.cell? ⟨b, 4, none⟩ = some (.map (some m)) := (cell_of_row w1 _ 4 _ _ _ B0.out).trans rfl
  have hl : ∀ n, (Instr.lookup 83 (.map (some m)) NK true).run Try.prog (w1.drewN n) = .ok (.tuple #[.pointer none, .bool false]) (w1.drewN n) := fun n => look_no _ m 0 M0.out
  go_quiet (fail)
  clear hl
  have R1 : Hid ((w1.drewN nq).heap[w.heap.size]? = some (.cells #[.bool false, .string SA, .int .i64 0, .int .i64 1, .string S0] 88 (0, 0))) := R0
  have B1 : Hid ((w1.drewN nq).heap[b]? = some (.cells (CA 2 0 m) 85 (0, 0))) := B0
  have M1 : Hid ((w1.drewN nq).heap[m]? = some (.map #[] 0)) := M0
  have E1 : Hid ((w1.drewN nq).heap[e]? = some (.cells (EN 2 0 g) 93 (0, 0))) := E0
  have K1 : Hid (KX [b, m, e] w (w1.drewN nq)) := Lib.hid (K0.out.drew _)
  clear r0 r1 r2 r3 r4 c4 R0 B0 M0 E0 K0
  generalize w1.drewN nq = w2 at R1 B1 M1 E1 K1 ⊢
  have e2 : w2.cell? ⟨e, 2, none⟩ = some (.int .i64 2) := (cell_of_row w2 _ 2 _ _ _ E1.out).trans rfl
  have CF := Lib.hid (fun n => floor_t b m 2 0 (by omega) (w2.drewN n) B1.out)
  go_wp2_with fail
  go_quiet (exact Calls.quiet_of (CF.out _))
  have R2 : Hid ((w2.drewN nq).heap[w.heap.size]? = some (.cells #[.bool false, .string SA, .int .i64 0, .int .i64 1, .string S0] 88 (0, 0))) := R1
  have B2 : Hid ((w2.drewN nq).heap[b]? = some (.cells (CA 2 0 m) 85 (0, 0))) := B1
  have M2 : Hid ((w2.drewN nq).heap[m]? = some (.map #[] 0)) := M1
  have E2 : Hid ((w2.drewN nq).heap[e]? = some (.cells (EN 2 0 g) 93 (0, 0))) := E1
  have K2 : Hid (KX [b, m, e] w (w2.drewN nq)) := Lib.hid (K1.out.drew _)
  clear e2 CF R1 B1 M1 E1 K1
  generalize w2.drewN nq = w3 at R2 B2 M2 E2 K2 ⊢
  have r0 : w3.cell? ⟨w.heap.size, 0, none⟩ = some (.bool false) := (cell_of_row w3 _ 0 _ _ _ R2.out).trans rfl
  have r1 : w3.cell? ⟨w.heap.size, 1, none⟩ = some (.string SA) := (cell_of_row w3 _ 1 _ _ _ R2.out).trans rfl
  have r2 : w3.cell? ⟨w.heap.size, 2, none⟩ = some (.int .i64 0) := (cell_of_row w3 _ 2 _ _ _ R2.out).trans rfl
  have r3 : w3.cell? ⟨w.heap.size, 3, none⟩ = some (.int .i64 1) := (cell_of_row w3 _ 3 _ _ _ R2.out).trans rfl
  have r4 : w3.cell? ⟨w.heap.size, 4, none⟩ = some (.string S0) := (cell_of_row w3 _ 4 _ _ _ R2.out).trans rfl
  have c4 : w3.cell? ⟨b, 4, none⟩ = some (.map (some m)) := (cell_of_row w3 _ 4 _ _ _ B2.out).trans rfl
  have hu : (Instr.mapUpdate 83 (.map (some m)) NK (.pointer (some ⟨e, 0, none⟩))).run Try.prog w3.drew = .ok () (w3.drew.putObj m (.map #[{ key := NK, val := .pointer (some ⟨e, 0, none⟩), born := 0 }] 1)) := upd88 _ m 0 _ M2.out
  go_wp2_with fail
  go_region
  have M3 : Hid ((w3.drew.putObj m (.map #[{ key := NK, val := .pointer (some ⟨e, 0, none⟩), born := 0 }] 1)).heap[m]? = some (.map #[{ key := NK, val := .pointer (some ⟨e, 0, none⟩), born := 0 }] 1)) := Lib.hid (World.putObj_heap_same (lt_of_block M2.out))
  have B3 : Hid ((w3.drew.putObj m (.map #[{ key := NK, val := .pointer (some ⟨e, 0, none⟩), born := 0 }] 1)).heap[b]? = some (.cells (CA 2 0 m) 85 (0, 0))) := Lib.hid ((World.putObj_heap_other HNE.out.1).trans B2.out)
  have E3 : Hid ((w3.drew.putObj m (.map #[{ key := NK, val := .pointer (some ⟨e, 0, none⟩), born := 0 }] 1)).heap[e]? = some (.cells (EN 2 0 g) 93 (0, 0))) := Lib.hid ((World.putObj_heap_other HNE.out.2.2.symm).trans E2.out)
  have K3 : Hid (KX [b, m, e] w (w3.drew.putObj m (.map #[{ key := NK, val := .pointer (some ⟨e, 0, none⟩), born := 0 }] 1))) := Lib.hid (KX.put (w := w3.drew) (K2.out.drew 1) (Or.inl (by simp)))
  clear r0 r1 r2 r3 r4 c4 hu R2 B2 M2 E2 K2
  generalize w3.drew.putObj m (.map #[{ key := NK, val := .pointer (some ⟨e, 0, none⟩), born := 0 }] 1) = w4 at M3 B3 E3 K3 ⊢
  go_wp2_with fail
  refine (use_t b e m 2 0 2 0 g HNE.out.2.1 (by omega) (by omega) _ B3.out E3.out).mono ?_
  rintro r w5 ⟨rfl, hb5, he5, hk5⟩
  have B5 := Lib.hid hb5
  have E5 := Lib.hid he5
  have M5 : Hid (w5.heap[m]? = some (.map #[{ key := NK, val := .pointer (some ⟨e, 0, none⟩), born := 0 }] 1)) := Lib.hid ((hk5.block m (lt_of_block M3.out) (by have := HNE.out; simp; exact ⟨fun x => this.1 x.symm, this.2.2⟩)).trans M3.out)
  have K5 : Hid (KX [b, m, e] w w5) := Lib.hid (K3.out.trans (hk5.mono (by simp)))
  clear hb5 he5 hk5 M3 B3 E3 K3
  have c0 : w5.cell? ⟨b, 0, none⟩ = some (.int .i64 4) := (cell_of_row w5 _ 0 _ _ _ B5.out).trans rfl
  have c4 : w5.cell? ⟨b, 4, none⟩ = some (.map (some m)) := (cell_of_row w5 _ 4 _ _ _ B5.out).trans rfl
  have hlen : ∀ n, (Builtin.len_ #[83] 3 #[.map (some m)]).run Try.prog (w5.drewN n) = .ok (.int .i64 1) (w5.drewN n) := fun n => len83 _ m 1 1 _ rfl M5.out
  go_wp2_with fail
  go_quiet (fail)
  clear hlen
  go_wp2_with fail
  go_ret
  exact ⟨rfl, B5.out, M5.out, E5.out, K5.out.drew _⟩
end Ytbihfgcejlgffaa
end Go.Proofs
