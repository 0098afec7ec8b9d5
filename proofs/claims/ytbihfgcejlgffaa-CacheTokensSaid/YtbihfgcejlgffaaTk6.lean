/- Tokens: what Issue returns, by the reference. -/
import Derived.Test.YtbihfgcejlgffaaTk5
namespace Go.Proofs
open Go.RowKit
namespace Ytbihfgcejlgffaa
set_option maxRecDepth 100000
set_option maxHeartbeats 4000000 in
theorem rissue_t (s : ByteArray) (hs : s.size ≤ 1000) (a : Option Addr) (c : Nat) (zs : List Int) (hl : zs.length ≤ 1000) (u : Int) (w : World) (hz : Zs w a zs) :
    Calls Try.prog 8 #[.string s, .slice a zs.length c, .int .i64 u] w fun e w' => TokP (issT s zs u) (issU s zs u) (issS s zs u) (issE s zs u) w e w' := by
  have CT := Lib.hid (fun w (hz : Zs w a zs) => rterms_t s hs a c zs (by omega) u w hz)
  have HZ := Lib.hid hz
  clear hz
  have HE : Hid (issE s zs u = if termB s zs u = true then 1 else if 200 < zs.length then 2 else 0) := Lib.hid rfl
  have HT : Hid (issT s zs u = if issE s zs u = 0 then comp (sortZ zs) else []) := Lib.hid rfl
  have HU : Hid (issU s zs u = if issE s zs u = 0 then u else 0) := Lib.hid rfl
  have HS : Hid (issS s zs u = if issE s zs u = 0 then hashT s u (comp (sortZ zs)) else 0) := Lib.hid rfl
  generalize issE s zs u = E at HE HT HU HS ⊢
  generalize issT s zs u = T at HT ⊢
  generalize issU s zs u = U at HU ⊢
  generalize issS s zs u = S at HS ⊢
  cases htm : termB s zs u with
  | true =>
    rw [htm] at CT HE
    have hE : E = 1 := HE.out
    subst hE
    have hT : T = [] := HT.out
    have hU : U = 0 := HU.out
    have hS : S = 0 := HS.out
    subst hT hU hS
    clear HE HT HU HS
    go_enter Try.func8, Try.ntmps8
    go_wp2_with fail
    refine (CT.out _ (HZ.out.below (by go_grown))).mono ?_
    rintro e w1 ⟨rfl, hb1⟩
    have R1 : Hid (w1.heap[w.heap.size]? = some (.cells (ck none 0 0 0 0) 32 (0, 0))) := Lib.hid ((hb1.block _ (by simp)).trans (heap_alloc_new w _))
    have B1 : Hid (Below w.heap.size w w1) := Lib.hid (below_call (w := w) (by go_grown) hb1)
    clear hb1
    go_wp2_with (refine store32 rfl (.tmp 6) (.tmp 14) rfl w.heap.size none 0 0 0 0 rfl rfl none 0 0 0 0 R1.out ?_; intro w2 hp; have P2 := Lib.hid hp; clear hp)
    exact bodyPost_ret (ret32 (p := none) (n := 0) (c := 0) (u := 0) (S := 0) rfl rfl P2.out.at' rfl) rfl ⟨none, 0, rfl, Or.inl rfl, Or.inl rfl, P2.out.below B1.out (Nat.le_refl _)⟩
  | false =>
    rw [htm] at CT HE
    by_cases hlen : 200 < zs.length
    · have hE : E = 2 := by rw [HE.out, if_neg (by simp), if_pos hlen]
      subst hE
      have hT : T = [] := HT.out
      have hU : U = 0 := HU.out
      have hS : S = 0 := HS.out
      subst hT hU hS
      clear HE HT HU HS
      have hlen2 : (200 : Int) < (zs.length : Int) := by omega
      go_enter Try.func8, Try.ntmps8
      go_wp2_with fail
      refine (CT.out _ (HZ.out.below (by go_grown))).mono ?_
      rintro e w1 ⟨rfl, hb1⟩
      have R1 : Hid (w1.heap[w.heap.size]? = some (.cells (ck none 0 0 0 0) 32 (0, 0))) := Lib.hid ((hb1.block _ (by simp)).trans (heap_alloc_new w _))
      have B1 : Hid (Below w.heap.size w w1) := Lib.hid (below_call (w := w) (by go_grown) hb1)
      clear hb1
      go_wp2_with (refine store32 rfl (.tmp 6) (.tmp 19) rfl w.heap.size none 0 0 0 0 rfl rfl none 0 0 0 0 R1.out ?_; intro w2 hp; have P2 := Lib.hid hp; clear hp)
      exact bodyPost_ret (ret32 (p := none) (n := 0) (c := 0) (u := 0) (S := 0) rfl rfl P2.out.at' rfl) rfl ⟨none, 0, rfl, Or.inl rfl, Or.inl rfl, P2.out.below B1.out (Nat.le_refl _)⟩
    · have hE : E = 0 := by rw [HE.out, if_neg (by simp), if_neg hlen]
      subst hE
      have hT : T = comp (sortZ zs) := HT.out
      have hU : u = U := HU.out.symm
      have hS : S = hashT s u (comp (sortZ zs)) := HS.out
      subst hT hU hS
      clear HE HT HU HS
      have hlen2 : ¬ (200 : Int) < (zs.length : Int) := by omega
      have CS := Lib.hid (fun Bs w hB hc (hz : Zs w a zs) => sorted_t Bs a c zs (by omega) w hB hc hz)
      have CK := Lib.hid (fun g cap w0 w1 (h : Oz (sortZ zs) g cap w0 w1) => compact_t (sortZ zs) (by rw [sortZ_len]; omega) g cap w0 w1 h)
      have CH := Lib.hid (fun p c w (hz : Zs w p (comp (sortZ zs))) => rsum_t s hs p c (comp (sortZ zs)) (by have := comp_len (sortZ zs); rw [sortZ_len] at this; omega) u w hz)
      rw [sortZ_len] at CK
      go_enter Try.func8, Try.ntmps8
      go_wp2_with fail
      refine (CT.out _ (HZ.out.below (by go_grown))).mono ?_
      rintro e w1 ⟨rfl, hb1⟩
      have R1 : Hid (w1.heap[w.heap.size]? = some (.cells (ck none 0 0 0 0) 32 (0, 0))) := Lib.hid ((hb1.block _ (by simp)).trans (heap_alloc_new w _))
      have B1 : Hid (Below w.heap.size w w1) := Lib.hid (below_call (w := w) (by go_grown) hb1)
      clear hb1
      go_wp2_with fail
      refine (values_t _ _ _ _).mono ?_
      rintro e w2 ⟨rfl, hw2⟩
      have B2 : Hid (Below w1.heap.size w1 w2) := Lib.hid (by rw [hw2]; exact (Below.refl _ _).alloc (Nat.le_refl _) _)
      have S2 : Hid (w1.heap.size < w2.heap.size) := Lib.hid (by rw [hw2]; simp)
      have C2 : Hid (w2.cell? ⟨w1.heap.size, 0, none⟩ = some (.slice a zs.length c)) := Lib.hid (by rw [hw2]; exact (cell_of_row _ _ 0 _ _ _ (heap_alloc_new w1 _)).trans rfl)
      clear hw2
      go_wp2_with fail
      refine (CS.out w1.heap.size w2 S2.out C2.out ((HZ.out.below B1.out).below B2.out)).mono ?_
      rintro e w3 ⟨p, c3, rfl, hb3, hor⟩
      have R3 : Hid (w3.heap[w.heap.size]? = some (.cells (ck none 0 0 0 0) 32 (0, 0))) := Lib.hid ((hb3.block _ (Nat.lt_trans (lt_of_block R1.out) S2.out)).trans ((B2.out.block _ (lt_of_block R1.out)).trans R1.out))
      have B3 : Hid (Below w.heap.size w w3) := Lib.hid (below_call (below_call B1.out B2.out) hb3)
      have L2 : Hid (w.heap.size < w2.heap.size) := Lib.hid (Nat.lt_trans (lt_of_block R1.out) S2.out)
      clear R1 B1 B2 S2 C2 hb3
      rcases hor with hz0 | ⟨g, rfl, ho⟩
      · subst hz0
        have hC : comp (sortZ ([] : List Int)) = [] := by simp [comp, sortZ, Go.Lib.compact, Go.Lib.compactUpTo]
        rw [hC] at CH
        have HC := Lib.hid hC
        clear hC CS CK CT HZ
        go_wp2_with fail
        refine (Try.slices_Compact_int_empty p c3 _).mono ?_
        rintro e wx ⟨rfl, hwx⟩
        rw [hwx]
        clear hwx wx
        go_wp2_with fail
        refine (CH.out p c3 _ (Or.inl rfl)).mono ?_
        rintro e w7 ⟨rfl, hb7⟩
        have R7 : Hid (w7.heap[w.heap.size]? = some (.cells (ck none 0 0 0 0) 32 (0, 0))) := Lib.hid ((hb7.block _ (lt_of_block R3.out)).trans R3.out)
        have B7 := Lib.hid (below_call B3.out hb7)
        clear hb7 R3 B3
        go_wp2_with (refine store32 rfl (.tmp 6) (.tmp 30) rfl w.heap.size p 0 c3 u (hashT s u []) rfl rfl none 0 0 0 0 R7.out ?_; intro w9 hp; have P9 := Lib.hid hp; clear hp)
        exact bodyPost_ret (ret32 (p := p) (n := 0) (c := c3) (u := u) (S := hashT s u []) rfl rfl P9.out.at' rfl) rfl ⟨p, c3, by rw [HC.out]; rfl, Or.inl HC.out, Or.inl HC.out, P9.out.below B7.out (Nat.le_refl _)⟩
      · have O3 := Lib.hid ho
        have hgw : w2.heap.size ≤ g := by obtain ⟨_, h1, _⟩ := ho.row; exact h1
        have NR := Lib.hid (show w.heap.size ≠ g by have := L2.out; omega)
        have LB := Lib.hid (show w.heap.size ≤ g by have := L2.out; omega)
        clear ho hgw
        go_wp2_with fail
        refine (CK.out g c3 w2 _ O3.out).mono ?_
        rintro e w5 ⟨rfl, hz5, hg5, hb5⟩
        have Z5 := Lib.hid hz5
        have R5 : Hid (w5.heap[w.heap.size]? = some (.cells (ck none 0 0 0 0) 32 (0, 0))) := Lib.hid ((hg5.block _ (lt_of_block R3.out) (fun e => NR.out (by cases e; rfl))).trans R3.out)
        have B5 : Hid (Below w.heap.size w w5) := Lib.hid (B3.out.grown hg5 B3.out.size (fun k e => by cases e; have h1 := L2.out; obtain ⟨_, h2, _⟩ := O3.out.row; omega))
        clear hz5 hg5 hb5 O3 R3
        go_wp2_with fail
        refine (CH.out (some ⟨g, 0, none⟩) c3 _ Z5.out).mono ?_
        rintro e w7 ⟨rfl, hb7⟩
        have Z7 := Lib.hid (Z5.out.below hb7)
        have R7 : Hid (w7.heap[w.heap.size]? = some (.cells (ck none 0 0 0 0) 32 (0, 0))) := Lib.hid ((hb7.block _ (lt_of_block R5.out)).trans R5.out)
        have B7 := Lib.hid (below_call B5.out hb7)
        clear hb7 R5 B5 Z5
        go_wp2_with (refine store32 rfl (.tmp 6) (.tmp 30) rfl w.heap.size (some ⟨g, 0, none⟩) (comp (sortZ zs)).length c3 u (hashT s u (comp (sortZ zs))) rfl rfl none 0 0 0 0 R7.out ?_; intro w9 hp; have P9 := Lib.hid hp; clear hp)
        have Z9 := Lib.hid (Z7.out.keeps P9.out.keeps (fun e => NR.out e.symm))
        exact bodyPost_ret (ret32 (p := some ⟨g, 0, none⟩) (n := (comp (sortZ zs)).length) (c := c3) (u := u) (S := hashT s u (comp (sortZ zs))) rfl rfl P9.out.at' rfl) rfl ⟨some ⟨g, 0, none⟩, c3, rfl, Or.inr ⟨g, rfl, LB.out⟩, Z9.out, P9.out.below B7.out (Nat.le_refl _)⟩
end Ytbihfgcejlgffaa
end Go.Proofs
