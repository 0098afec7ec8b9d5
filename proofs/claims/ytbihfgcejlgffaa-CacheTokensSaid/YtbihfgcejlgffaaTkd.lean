/- A cache: Object, and a notice that comes too early. -/
import Derived.Test.YtbihfgcejlgffaaTkc
namespace Go.Proofs
open Go.RowKit
namespace Ytbihfgcejlgffaa
set_option maxRecDepth 100000
theorem ret59 {fn : Func} {r q : Tmp} (h : fn.results = #[.cell r 59, .tmp q]) {tmps : Array Value} {w : World} {g : Nat} {C : Array Value} {v : Value} (hC : C.size = 9) (hp : tmps.getD r undef = .pointer (some ⟨g, 0, none⟩)) (hg : w.heap[g]? = some (.cells C 59 (0, 0))) (hq : tmps.getD q undef = v) :
    (results fn tmps).run Try.prog w = .ok (.tuple #[.agg C, v]) w := by
  have hp' : tmps[r]?.getD undef = .pointer (some ⟨g, 0, none⟩) := by simpa using hp
  have hl := run_loadVar_row (P := Try.prog) w g 59 59 C (0, 0) _ hg Try.underlying59 rfl (by rw [hC]; exact size59)
  have hq' : tmps[q]?.getD undef = v := by simpa using hq
  simp [results, h, hp', asAddr, hl, hq']
theorem hear_no (b m : Nat) (u : Int) (w : World) (hb : w.heap[b]? = some (.cells (CA 2 u m) 85 (0, 0))) :
    Calls Try.prog 28 #[.pointer (some ⟨b, 0, none⟩), .agg #[.int .i64 4, .slice none 0 0, .slice none 0 0]] w fun r w' => r = .returned (.int .i64 7) ∧ Below w.heap.size w w' := by
  have BA := (Below.refl _ w).alloc (Nat.le_refl _) (.cells #[.int .i64 4, .slice none 0 0, .slice none 0 0] 65)
  have B1 := Lib.hid BA
  have c1 : (w.alloc (.cells #[.int .i64 4, .slice none 0 0, .slice none 0 0] 65)).cell? ⟨b, 1, none⟩ = some (.int .i64 2) := (cell_of_row _ _ 1 _ _ _ (al _ hb)).trans rfl
  have n0 : (w.alloc (.cells #[.int .i64 4, .slice none 0 0, .slice none 0 0] 65)).cell? ⟨w.heap.size, 0, none⟩ = some (.int .i64 4) := (cell_of_row _ _ 0 _ _ _ (heap_alloc_new w _)).trans rfl
  clear hb BA
  go_enter Try.func28, Try.ntmps28
  go_wp2_with fail
  generalize w.alloc (.cells #[.int .i64 4, .slice none 0 0, .slice none 0 0] 65) = w1 at B1 c1 n0 ⊢
  go_quiet (fail)
  go_wp2_with fail
  go_ret
  exact ⟨rfl, ⟨B1.out.os, B1.out.tape, B1.out.output, B1.out.size, B1.out.block⟩⟩
set_option maxHeartbeats 2000000 in
theorem object_no (b m : Nat) (h u : Int) (k : Nat) (w : World) (hb : w.heap[b]? = some (.cells (CA h u m) 85 (0, 0))) (hm : w.heap[m]? = some (.map #[] k)) :
    Calls Try.prog 29 #[.pointer (some ⟨b, 0, none⟩), .agg RC] w fun r w' => r = .returned (.tuple #[.agg OZ, .bool false]) ∧ Below w.heap.size w w' := by
  have BA : Below w.heap.size w ((w.alloc (.cells RC 69)).alloc (.cells OZ 59)) := by go_grown
  have R1 : Hid (((w.alloc (.cells RC 69)).alloc (.cells OZ 59)).heap[w.heap.size]? = some (.cells RC 69 (0, 0))) := Lib.hid (al _ (heap_alloc_new w _))
  have O1 : Hid (((w.alloc (.cells RC 69)).alloc (.cells OZ 59)).heap[w.heap.size + 1]? = some (.cells OZ 59 (0, 0))) := Lib.hid (new_at _ _ _ (by simp))
  have B1 := Lib.hid ((BA.block _ (lt_of_block hb)).trans hb)
  have M1 := Lib.hid ((BA.block _ (lt_of_block hm)).trans hm)
  have K1 := Lib.hid BA
  clear hb hm BA
  go_enter Try.func29, Try.ntmps29
  go_wp2_with fail
  generalize ((w.alloc (.cells RC 69)).alloc (.cells OZ 59)) = w1 at O1 R1 B1 M1 K1 ⊢
  have r0 : w1.cell? ⟨w.heap.size, 0, none⟩ = some (.string SA) := (cell_of_row w1 _ 0 _ _ _ R1.out).trans rfl
  have r1 : w1.cell? ⟨w.heap.size, 1, none⟩ = some (.int .i64 0) := (cell_of_row w1 _ 1 _ _ _ R1.out).trans rfl
  have r2 : w1.cell? ⟨w.heap.size, 2, none⟩ = some (.int .i64 1) := (cell_of_row w1 _ 2 _ _ _ R1.out).trans rfl
  have c4 : w1.cell? ⟨b, 4, none⟩ = some (.map (some m)) := (cell_of_row w1 _ 4 _ _ _ B1.out).trans rfl
  have hl : ∀ n, (Instr.lookup 83 (.map (some m)) NK true).run Try.prog (w1.drewN n) = .ok (.tuple #[.pointer none, .bool false]) (w1.drewN n) := fun n => look_no _ m k M1.out
  go_quiet (fail)
  clear hl r0 r1 r2 c4
  have O2 : Hid ((w1.drewN nq).heap[w.heap.size + 1]? = some (.cells OZ 59 (0, 0))) := O1
  have K2 : Hid (Below w.heap.size w (w1.drewN nq)) := Lib.hid ⟨K1.out.os, K1.out.tape, K1.out.output, K1.out.size, K1.out.block⟩
  generalize w1.drewN nq = w2 at O2 K2 ⊢
  go_wp2_with (refine store59 rfl (.tmp 4) (.tmp 20) rfl (w.heap.size + 1) OZ OZ rfl rfl rfl rfl (by simp [Value.oneCell']) O2.out ?_; intro w3 hp; have P3 := Lib.hid hp; clear hp)
  exact bodyPost_ret (ret59 (C := OZ) rfl rfl rfl P3.out.at' rfl) rfl ⟨rfl, P3.out.below K2.out (Nat.le_succ _)⟩
set_option maxHeartbeats 2000000 in
theorem object_yes (b m e g : Nat) (u : Int) (hu : 0 ≤ u) (hu2 : u ≤ 1000) (hbe : b ≠ e) (w : World) (hb : w.heap[b]? = some (.cells (CA 2 u m) 85 (0, 0))) (hm : w.heap[m]? = some (.map #[{ key := NK, val := .pointer (some ⟨e, 0, none⟩), born := 0 }] 1)) (he : w.heap[e]? = some (.cells (EN 2 u g) 93 (0, 0))) (hg : w.heap[g]? = some (.cells OC 59 (0, 0))) (hbg : b ≠ g) (heg : e ≠ g) :
    Calls Try.prog 29 #[.pointer (some ⟨b, 0, none⟩), .agg RC] w fun r w' => r = .returned (.tuple #[.agg OC, .bool true]) ∧ w'.heap[b]? = some (.cells (CA 2 (u + 1) m) 85 (0, 0)) ∧ w'.heap[e]? = some (.cells (EN 2 (u + 1) g) 93 (0, 0)) ∧ KX [b, e] w w' := by
  have CU := Lib.hid (fun w hb he => use_t b e m 2 u 2 u g hbe hu hu2 w hb he)
  have CO := Lib.hid objClone_t
  have BA : Below w.heap.size w ((w.alloc (.cells RC 69)).alloc (.cells OZ 59)) := by go_grown
  have R1 : Hid (((w.alloc (.cells RC 69)).alloc (.cells OZ 59)).heap[w.heap.size]? = some (.cells RC 69 (0, 0))) := Lib.hid (al _ (heap_alloc_new w _))
  have O1 : Hid (((w.alloc (.cells RC 69)).alloc (.cells OZ 59)).heap[w.heap.size + 1]? = some (.cells OZ 59 (0, 0))) := Lib.hid (new_at _ _ _ (by simp))
  have B1 := Lib.hid ((BA.block _ (lt_of_block hb)).trans hb)
  have M1 := Lib.hid ((BA.block _ (lt_of_block hm)).trans hm)
  have E1 := Lib.hid ((BA.block _ (lt_of_block he)).trans he)
  have G1 := Lib.hid ((BA.block _ (lt_of_block hg)).trans hg)
  have K1 : Hid (KX [b, e] w ((w.alloc (.cells RC 69)).alloc (.cells OZ 59))) := Lib.hid (KX.of_below BA)
  have LS := Lib.hid (show w.heap.size + 1 ≠ b ∧ w.heap.size + 1 ≠ e ∧ g ≠ b ∧ g ≠ e from ⟨by have := lt_of_block hb; omega, by have := lt_of_block he; omega, hbg.symm, heg.symm⟩)
  clear hb hm he hg BA hbg heg hbe hu hu2
  go_enter Try.func29, Try.ntmps29
  go_wp2_with fail
  generalize ((w.alloc (.cells RC 69)).alloc (.cells OZ 59)) = w1 at O1 R1 B1 M1 E1 G1 K1 ⊢
  have r0 : w1.cell? ⟨w.heap.size, 0, none⟩ = some (.string SA) := (cell_of_row w1 _ 0 _ _ _ R1.out).trans rfl
  have r1 : w1.cell? ⟨w.heap.size, 1, none⟩ = some (.int .i64 0) := (cell_of_row w1 _ 1 _ _ _ R1.out).trans rfl
  have r2 : w1.cell? ⟨w.heap.size, 2, none⟩ = some (.int .i64 1) := (cell_of_row w1 _ 2 _ _ _ R1.out).trans rfl
  have c4 : w1.cell? ⟨b, 4, none⟩ = some (.map (some m)) := (cell_of_row w1 _ 4 _ _ _ B1.out).trans rfl
  have hl : ∀ n, (Instr.lookup 83 (.map (some m)) NK true).run Try.prog (w1.drewN n) = .ok (.tuple #[.pointer (some ⟨e, 0, none⟩), .bool true]) (w1.drewN n) := fun n => look_yes _ m 1 0 _ M1.out
  go_quiet (fail)
  clear hl r0 r1 r2 c4
  have O2 : Hid ((w1.drewN nq).heap[w.heap.size + 1]? = some (.cells OZ 59 (0, 0))) := O1
  have B2 : Hid ((w1.drewN nq).heap[b]? = some (.cells (CA 2 u m) 85 (0, 0))) := B1
  have E2 : Hid ((w1.drewN nq).heap[e]? = some (.cells (EN 2 u g) 93 (0, 0))) := E1
  have G2 : Hid ((w1.drewN nq).heap[g]? = some (.cells OC 59 (0, 0))) := G1
  have K2 : Hid (KX [b, e] w (w1.drewN nq)) := Lib.hid (K1.out.drew _)
  clear O1 B1 E1 G1 K1 R1 M1
  generalize w1.drewN nq = w2 at O2 B2 E2 G2 K2 ⊢
  go_wp2_with fail
  refine (CU.out _ B2.out E2.out).mono ?_
  rintro r w3 ⟨rfl, hb3, he3, hk3⟩
  have B3 := Lib.hid hb3
  have E3 := Lib.hid he3
  have O3 : Hid (w3.heap[w.heap.size + 1]? = some (.cells OZ 59 (0, 0))) := Lib.hid ((hk3.block _ (lt_of_block O2.out) (by have := LS.out; simp; exact ⟨this.1, this.2.1⟩)).trans O2.out)
  have G3 : Hid (w3.heap[g]? = some (.cells OC 59 (0, 0))) := Lib.hid ((hk3.block _ (lt_of_block G2.out) (by have := LS.out; simp; exact ⟨this.2.2.1, this.2.2.2⟩)).trans G2.out)
  have K3 : Hid (KX [b, e] w w3) := Lib.hid (K2.out.trans hk3)
  clear hb3 he3 hk3 O2 B2 E2 G2 K2
  have e0 : w3.cell? ⟨e, 0, none⟩ = some (.slice (some ⟨g, 0, none⟩) 1 1) := (cell_of_row w3 _ 0 _ _ _ E3.out).trans rfl
  go_wp2_with (refine load59 rfl (.tmp 28) rfl g OC rfl rfl G3.out ?_)
  refine (CO.out _).mono ?_
  rintro r w4 ⟨rfl, hb4⟩
  have O4 : Hid (w4.heap[w.heap.size + 1]? = some (.cells OZ 59 (0, 0))) := Lib.hid ((hb4.block _ (lt_of_block O3.out)).trans O3.out)
  have B4 : Hid (w4.heap[b]? = some (.cells (CA 2 (u + 1) m) 85 (0, 0))) := Lib.hid ((hb4.block _ (lt_of_block B3.out)).trans B3.out)
  have E4 : Hid (w4.heap[e]? = some (.cells (EN 2 (u + 1) g) 93 (0, 0))) := Lib.hid ((hb4.block _ (lt_of_block E3.out)).trans E3.out)
  have K4 : Hid (KX [b, e] w w4) := Lib.hid (K3.out.trans (KX.of_below hb4))
  clear hb4 O3 B3 E3 K3 G3 e0
  go_wp2_with (refine store59 rfl (.tmp 4) (.tmp 30) rfl (w.heap.size + 1) OC OZ rfl rfl rfl rfl (by simp [Value.oneCell']) O4.out ?_; intro w5 hp; have P5 := Lib.hid hp; clear hp)
  have B5 : w5.heap[b]? = some (.cells (CA 2 (u + 1) m) 85 (0, 0)) := (P5.out.keeps.block _ (lt_of_block B4.out) LS.out.1.symm).trans B4.out
  have E5 : w5.heap[e]? = some (.cells (EN 2 (u + 1) g) 93 (0, 0)) := (P5.out.keeps.block _ (lt_of_block E4.out) LS.out.2.1.symm).trans E4.out
  exact bodyPost_ret (ret59 (C := OC) rfl rfl rfl P5.out.at' rfl) rfl ⟨rfl, B5, E5, K4.out.puts P5.out (Or.inr (Nat.le_succ _))⟩
end Ytbihfgcejlgffaa
end Go.Proofs
