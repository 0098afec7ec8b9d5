/- A cache: Keep. -/
import Derived.Test.YtbihfgcejlgffaaTkb
namespace Go.Proofs
open Go.RowKit
namespace Ytbihfgcejlgffaa
set_option maxRecDepth 100000
/-- a block is there behind an alloc -/
theorem al {w : World} {k : Nat} {x : Obj} (o : Obj) (h : w.heap[k]? = some x) : (w.alloc o).heap[k]? = some x := (((Below.refl _ w).alloc (Nat.le_refl _) o).block k (Array.getElem?_eq_some_iff.1 h).1).trans h
abbrev RC : Array Value := #[.string SA, .int .i64 0, .int .i64 1]
theorem ks {w : World} {r o : Nat} (h : w.heap[r]? = some (.cells RC 69 (0, 0))) (k : w.heap[o]? = some (.cells OC 59 (0, 0))) :
    w.cell? ⟨r, 0, none⟩ = some (.string SA) ∧ w.cell? ⟨r, 1, none⟩ = some (.int .i64 0) ∧ w.cell? ⟨r, 2, none⟩ = some (.int .i64 1) ∧ w.cell? ⟨o, 0, none⟩ = some (.string SA) ∧ w.cell? ⟨o, 1, none⟩ = some (.int .i64 0) ∧ w.cell? ⟨o, 2, none⟩ = some (.int .i64 1) ∧ w.cell? ⟨o, 3, none⟩ = some (.int .i64 0) ∧ w.cell? ⟨o, 4, none⟩ = some (.int .i64 0) ∧ w.cell? ⟨o, 5, none⟩ = some (.int .i64 0) ∧ w.cell? ⟨o, 6, none⟩ = some (.string S0) ∧ w.cell? ⟨o, 7, none⟩ = some (.slice none 0 0) ∧ w.cell? ⟨o, 8, none⟩ = some (.slice none 0 0) :=
  ⟨(cell_of_row w _ 0 _ _ _ h).trans rfl, (cell_of_row w _ 1 _ _ _ h).trans rfl, (cell_of_row w _ 2 _ _ _ h).trans rfl, (cell_of_row w _ 0 _ _ _ k).trans rfl, (cell_of_row w _ 1 _ _ _ k).trans rfl, (cell_of_row w _ 2 _ _ _ k).trans rfl, (cell_of_row w _ 3 _ _ _ k).trans rfl, (cell_of_row w _ 4 _ _ _ k).trans rfl, (cell_of_row w _ 5 _ _ _ k).trans rfl, (cell_of_row w _ 6 _ _ _ k).trans rfl, (cell_of_row w _ 7 _ _ _ k).trans rfl, (cell_of_row w _ 8 _ _ _ k).trans rfl⟩
set_option maxHeartbeats 4000000 in
theorem Keep_t (b m : Nat) (hbm : b ≠ m) (w : World) (hb : w.heap[b]? = some (.cells (CA 2 0 m) 85 (0, 0))) (hm : w.heap[m]? = some (.map #[] 0)) :
    Calls Try.prog 27 #[.pointer (some ⟨b, 0, none⟩), .agg OC, .int .i64 2] w fun r w' => ∃ e g, r = .returned (.bool true) ∧ w'.heap[b]? = some (.cells (CA 2 1 m) 85 (0, 0)) ∧ w'.heap[m]? = some (.map #[{ key := NK, val := .pointer (some ⟨e, 0, none⟩), born := 0 }] 1) ∧ w'.heap[e]? = some (.cells (EN 2 1 g) 93 (0, 0)) ∧ w'.heap[g]? = some (.cells OC 59 (0, 0)) ∧ w.heap.size ≤ e ∧ w.heap.size ≤ g ∧ KX [b, m] w w' := by
  have CO := Lib.hid objClone_t
  have CK := Lib.hid (fun e g w hbe hme hb hm he => keep_t b m e g hbm hbe hme w hb hm he)
  have BA : Below w.heap.size w ((w.alloc (.cells OC 59)).alloc (.cells RC 69)) := by go_grown
  have O1 : Hid (((w.alloc (.cells OC 59)).alloc (.cells RC 69)).heap[w.heap.size]? = some (.cells OC 59 (0, 0))) := Lib.hid (al _ (heap_alloc_new w _))
  have R1 : Hid (((w.alloc (.cells OC 59)).alloc (.cells RC 69)).heap[w.heap.size + 1]? = some (.cells RC 69 (0, 0))) := Lib.hid (new_at _ _ _ (by simp))
  have B1 := Lib.hid ((BA.block _ (lt_of_block hb)).trans hb)
  have M1 := Lib.hid ((BA.block _ (lt_of_block hm)).trans hm)
  have K1 : Hid (KX [b, m] w ((w.alloc (.cells OC 59)).alloc (.cells RC 69))) := Lib.hid (KX.of_below BA)
  have LB := Lib.hid (show b < w.heap.size from lt_of_block hb)
  have LM := Lib.hid (show m < w.heap.size from lt_of_block hm)
  clear hb hm BA
  go_enter Try.func27, Try.ntmps27
  go_wp2_with fail
  generalize ((w.alloc (.cells OC 59)).alloc (.cells RC 69)) = w1 at O1 R1 B1 M1 K1 ⊢
  obtain ⟨r0, r1, r2, o0, o1, o2, o3, o4, o5, o6, o7, o8⟩ := ks R1.out O1.out
  have HBM := Lib.hid hbm
  clear hbm
  go_region_held3 (fun w' => w'.cell? ⟨w.heap.size + 1, 0, none⟩ = some (.string SA) ∧ w'.cell? ⟨w.heap.size + 1, 1, none⟩ = some (.int .i64 0) ∧ w'.cell? ⟨w.heap.size + 1, 2, none⟩ = some (.int .i64 1) ∧ w'.cell? ⟨w.heap.size, 0, none⟩ = some (.string SA) ∧ w'.cell? ⟨w.heap.size, 1, none⟩ = some (.int .i64 0) ∧ w'.cell? ⟨w.heap.size, 2, none⟩ = some (.int .i64 1) ∧ w'.cell? ⟨w.heap.size, 3, none⟩ = some (.int .i64 0) ∧ w'.cell? ⟨w.heap.size, 4, none⟩ = some (.int .i64 0) ∧ w'.cell? ⟨w.heap.size, 5, none⟩ = some (.int .i64 0) ∧ w'.cell? ⟨w.heap.size, 6, none⟩ = some (.string S0) ∧ w'.cell? ⟨w.heap.size, 7, none⟩ = some (.slice none 0 0) ∧ w'.cell? ⟨w.heap.size, 8, none⟩ = some (.slice none 0 0))
    (first | exact ks R1.out O1.out | exact ks R2.out O2.out | exact ks (al _ R2.out) (al _ O2.out) | exact ks (al _ (al _ R2.out)) (al _ (al _ O2.out)) | exact ks R5.out O5.out | go_keep)
    (first
      | (go_at_call 48; refine (CO.out _).mono ?_; rintro e w2 ⟨rfl, hb2⟩; have O2 : Hid (w2.heap[w.heap.size]? = some (.cells OC 59 (0, 0))) := Lib.hid ((hb2.block _ (lt_of_block O1.out)).trans O1.out); have R2 : Hid (w2.heap[w.heap.size + 1]? = some (.cells RC 69 (0, 0))) := Lib.hid ((hb2.block _ (lt_of_block R1.out)).trans R1.out); have B2 : Hid (w2.heap[b]? = some (.cells (CA 2 0 m) 85 (0, 0))) := Lib.hid ((hb2.block _ (lt_of_block B1.out)).trans B1.out); have M2 : Hid (w2.heap[m]? = some (.map #[] 0)) := Lib.hid ((hb2.block _ (lt_of_block M1.out)).trans M1.out); have K2 : Hid (KX [b, m] w w2) := Lib.hid (KX.trans (b := w1.drew) (K1.out.drew 1) (KX.of_below hb2)); clear hb2)
      | (go_at_call 47; refine (CK.out (w2.heap.size + 1) w2.heap.size _ (by have := lt_of_block B2.out; omega) (by have := lt_of_block M2.out; omega) (al _ (al _ B2.out)) (al _ (al _ M2.out)) (new_at _ _ _ (by simp))).mono ?_; rintro e w5 ⟨rfl, hb5, hm5, he5, hk5⟩; have R5 : Hid (w5.heap[w.heap.size + 1]? = some (.cells RC 69 (0, 0))) := Lib.hid ((hk5.block _ (lt_of_block (al _ (al _ R2.out))) (by have h1 := LB.out; have h2 := LM.out; have h3 := lt_of_block R2.out; simp; omega)).trans (al _ (al _ R2.out))); have O5 : Hid (w5.heap[w.heap.size]? = some (.cells OC 59 (0, 0))) := Lib.hid ((hk5.block _ (lt_of_block (al _ (al _ O2.out))) (by have h1 := LB.out; have h2 := LM.out; have h3 := lt_of_block R2.out; simp; omega)).trans (al _ (al _ O2.out))); have B5 := Lib.hid hb5; have M5 := Lib.hid hm5; have E5 := Lib.hid he5; have K5 := Lib.hid hk5; clear hb5 hm5 he5 hk5))
  have H1 := LB.out
  have H2 := LM.out
  have H3 := lt_of_block R2.out
  have G5 : Hid (w5.heap[w2.heap.size]? = some (.cells OC 59 (0, 0))) := Lib.hid ((K5.out.block _ (by simp; omega) (by simp; omega)).trans (al _ (heap_alloc_new w2 _)))
  have K6 : Hid (KX [b, m] w w5) := Lib.hid ⟨K5.out.os.trans K2.out.os, K5.out.tape.trans K2.out.tape, K5.out.output.trans K2.out.output, Nat.le_trans K2.out.size (Nat.le_trans (by simp; omega) K5.out.size), fun k hk hx => (K5.out.block k (by simp; omega) (by simp at hx ⊢; omega)).trans (((((Below.refl _ (w2.alloc (.cells OC 59))).alloc (Nat.le_refl _) _).block k (by simp; omega)).trans (((Below.refl _ w2).alloc (Nat.le_refl _) _).block k (by omega))).trans (K2.out.block k hk hx))⟩
  clear H1 H2
  clear r0 r1 r2 o0 o1 o2 o3 o4 o5 o6 o7 o8
  go_wp2
  go_ret
  exact ⟨w2.heap.size + 1, w2.heap.size, rfl, B5.out, M5.out, E5.out, G5.out, by omega, by omega, K6.out⟩
end Ytbihfgcejlgffaa
end Go.Proofs
