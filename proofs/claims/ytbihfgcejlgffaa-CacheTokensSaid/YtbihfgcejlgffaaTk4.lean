/- Tokens: slices.Sorted(slices.Values(l)); slices.Clone, slices.Sort, slices.Compact and slices.IsSorted of numbers. -/
import Derived.Sort.OwnSortedInts
import Derived.Test.YtbihfgcejlgffaaSf
import Derived.Test.YtbihfgcejlgffaaTk3
import Derived.BigQuiet
namespace Go.Proofs
open Go.RowKit Go.Shelf Go.Sort
namespace Ytbihfgcejlgffaa
set_option maxRecDepth 100000 in
set_option maxHeartbeats 2000000 in
theorem collect_in (F : Fence) (n : Nat) (h40 : F.fn 40) (h69 : F.fn 69) (h41 : F.fn 41) (hro : F.round = none) (hn : 4 ≤ n) (Bs : Nat) (a : Option Addr) (c : Nat) (zs : List Int) (hl : zs.length ≤ 100000) (w : World) (hBs : Bs < w.heap.size) (hc : w.cell? ⟨Bs, 0, none⟩ = some (.slice a zs.length c)) (hI : Zs w a zs) :
    CallsIn F n Try.prog 40 #[.func (.func 41) #[] #[.pointer (some ⟨Bs, 0, none⟩)]] w fun e W' => ∃ v, e = .returned v ∧ W'.ownsRow w.heap.size 3 1 v zs.length (zs.map (Value.int .i64)) ∧ (v = .slice none 0 0 ↔ zs = []) ∧ Below w.heap.size w W' := by
  have h1 : 1 ≤ n := by omega
  have CA := appendSeq_in F (n - 1) h69 h41 hro (by omega) Bs a c zs hl w hBs hc hI
  refine callsIn_of_wp Try.func40 rfl h40 ?_ hro
  simp only [Try.ntmps40, List.size_toArray, List.length_cons, List.length_nil, Nat.reduceAdd, Nat.reduceSub, Array.replicate_succ, Array.replicate_zero, List.push_toArray, List.append_toArray, List.nil_append, List.cons_append]
  gi_wp2_with (gi_at_call 69; refine CA.mono ?_; rintro e w' ⟨v, rfl, hrow, hnil, hb⟩)
  go_ret
  exact ⟨v, rfl, hrow, hnil, hb⟩
theorem collect_t (Bs : Nat) (a : Option Addr) (c : Nat) (zs : List Int) (hl : zs.length ≤ 100000) (w : World) (hBs : Bs < w.heap.size) (hc : w.cell? ⟨Bs, 0, none⟩ = some (.slice a zs.length c)) (hI : Zs w a zs) :
    Calls Try.prog 40 #[.func (.func 41) #[] #[.pointer (some ⟨Bs, 0, none⟩)]] w fun e W' => ∃ v, e = .returned v ∧ W'.ownsRow w.heap.size 3 1 v zs.length (zs.map (Value.int .i64)) ∧ (v = .slice none 0 0 ↔ zs = []) ∧ Below w.heap.size w W' :=
  calls_of_every_depth (L := [40, 69, 41]) (n := 4) fun D => collect_in (Fence.list [40, 69, 41] (some D)) 4 (by simp [Fence.list]) (by simp [Fence.list]) (by simp [Fence.list]) rfl (by omega) Bs a c zs hl w hBs hc hI
/-- sorted -/
def sortZ (zs : List Int) : List Int := zs.mergeSort fun x y => decide (x ≤ y)
theorem sortZ_len (zs : List Int) : (sortZ zs).length = zs.length := List.length_mergeSort _
/-- a slice of the call's own, of one number at least -/
def Oz (zs : List Int) (g cap : Nat) (w0 w : World) : Prop := w.ownsRow w0.heap.size 3 1 (.slice (some ⟨g, 0, none⟩) zs.length cap) zs.length (zs.map (Value.int .i64)) ∧ Below w0.heap.size w0 w
theorem Oz.row {zs : List Int} {g cap : Nat} {w0 w : World} (h : Oz zs g cap w0 w) : ∃ cur, w0.heap.size ≤ g ∧ w.heap[g]? = some (.cells cur 3 (0, 0)) ∧ zs.length ≤ cap ∧ cap ≤ maxLen ∧ cur.size = cap * 1 ∧ cur.toList.take zs.length = zs.map (Value.int .i64) := by
  rcases h.1.2 with ⟨h0, _⟩ | ⟨g', cap', cur, hv, h1, h2, h3, h4, h5, h6⟩
  · cases h0
  · cases hv
    exact ⟨cur, h1, h2, h3, h4, h5, by simpa using h6⟩
theorem Oz.holds {zs : List Int} {g cap : Nat} {w0 w : World} (h : Oz zs g cap w0 w) : Holds (Value.int .i64) w g 0 zs.toArray := by
  obtain ⟨cur, _, h2, _, _, _, h6⟩ := h.row
  exact holds_of_blockI h2 h6
theorem Oz.lt {zs : List Int} {g cap : Nat} {w0 w : World} (h : Oz zs g cap w0 w) : g < w.heap.size := by
  obtain ⟨cur, _, h2, _⟩ := h.row
  exact (Array.getElem?_eq_some_iff.1 h2).1
theorem Oz.zs {zs : List Int} {g cap : Nat} {w0 w : World} (h : Oz zs g cap w0 w) : Zs w (some ⟨g, 0, none⟩) zs := by
  refine Or.inr ⟨g, 0, rfl, fun j hj => ?_⟩
  have := (h.holds j (by simpa using hj)).1
  simpa [List.getD, hj] using this
theorem sort_t (zs : List Int) (hl : zs.length ≤ 100000) (g cap : Nat) (w0 w : World) (h : Oz zs g cap w0 w) :
    Calls Try.prog 16 #[.slice (some ⟨g, 0, none⟩) zs.length cap] w fun e w' => e = .returned (.tuple #[]) ∧ Oz (sortZ zs) g cap w0 w' ∧ w.grownBy w' (some g) := by
  obtain ⟨cur, h1, h2, h3, h4, h5, h6⟩ := h.row
  refine (Try.slices_Sort_int g 0 cap zs w h.holds h.lt (by omega)).mono ?_
  rintro e w' ⟨rfl, n, os, rfl⟩
  have hg := grownBy_sortedI (w := w) (g := g) (n := n) (os := os) (zs.mergeSort fun x y => decide (x ≤ y)).toArray
  have ho := ownsRow_sortedI (w := w) (base := w0.heap.size) (n := n) (os := os) (ts := sortZ zs) (ss := zs) (sortZ_len zs) h1 h2 h3 h4 h5
  refine ⟨rfl, ⟨?_, h.2.grown hg h.2.size (fun k e => by cases e; exact h1)⟩, hg⟩
  rw [sortZ_len]
  exact ho
/-- each once, of sorted numbers -/
def comp (zs : List Int) : List Int := Go.Lib.compact zs
theorem comp_len (zs : List Int) : (comp zs).length ≤ zs.length := Go.Lib.compact_length_le zs
theorem compact_t (zs : List Int) (hl : zs.length ≤ 100000) (g cap : Nat) (w0 w : World) (h : Oz zs g cap w0 w) :
    Calls Try.prog 17 #[.slice (some ⟨g, 0, none⟩) zs.length cap] w fun e w' => e = .returned (.slice (some ⟨g, 0, none⟩) (comp zs).length cap) ∧ Zs w' (some ⟨g, 0, none⟩) (comp zs) ∧ w.grownBy w' (some g) ∧ Below w0.heap.size w0 w' := by
  obtain ⟨cur, h1, h2, h3, h4, h5, h6⟩ := h.row
  have hc := comp_len zs
  refine (Try.slices_Compact_int g 0 cap zs w h.holds (by omega) h3).mono ?_
  rintro e w' ⟨rfl, q, rfl⟩
  have hlen : (comp zs ++ List.replicate (zs.length - (comp zs).length) 0).length = zs.length := by simp; omega
  have hg := grownBy_sortedI (w := w) (g := g) (n := q) (os := #[]) (comp zs ++ List.replicate (zs.length - (comp zs).length) 0).toArray
  have ho := ownsRow_sortedI (w := w) (base := w0.heap.size) (n := q) (os := #[]) (ts := comp zs ++ List.replicate (zs.length - (comp zs).length) 0) (ss := zs) hlen h1 h2 h3 h4 h5
  have hgr : ∀ W : World, grow W #[] = W := fun W => by simp [grow]
  rw [hgr] at hg ho
  have hb : Below w0.heap.size w0 _ := h.2.grown hg h.2.size (fun k e => by cases e; exact h1)
  refine ⟨rfl, Or.inr ⟨g, 0, rfl, fun j hj => ?_⟩, hg, hb⟩
  have hz : Oz (comp zs ++ List.replicate (zs.length - (comp zs).length) 0) g cap w0 _ := ⟨by rw [hlen]; exact ho, hb⟩
  have h7 := (hz.holds j (by simp; omega)).1
  have e : (comp zs ++ List.replicate (zs.length - (comp zs).length) 0).toArray[j]! = (comp zs).getD j 0 := by
    simp [List.getD, List.getElem?_append_left hj]
  rw [e] at h7
  exact h7
theorem clone_t (a : Option Addr) (c : Nat) (zs : List Int) (hl : zs.length ≤ 100000) (w : World) (hI : Zs w a zs) :
    Calls Try.prog 10 #[.slice a zs.length c] w fun e w' => ∃ p c', e = .returned (.slice p zs.length c') ∧ Below w.heap.size w w' ∧ (zs = [] ∨ ∃ g, p = some ⟨g, 0, none⟩ ∧ Oz zs g c' w w') := by
  by_cases hne : zs = []
  · subst hne
    cases a with
    | none =>
      refine (Try.slices_Clone_int_nil 0 c w).mono ?_
      rintro e w' ⟨rfl, rfl⟩
      exact ⟨none, 0, rfl, Below.refl _ _, Or.inl rfl⟩
    | some a =>
      refine (Try.slices_Clone_int_zero a c w).mono ?_
      rintro e w' ⟨v, rfl, hrow, _, hb⟩
      rcases hrow.2 with ⟨rfl, _⟩ | ⟨g, cap, cur, rfl, _⟩
      · exact ⟨none, 0, rfl, hb, Or.inl rfl⟩
      · exact ⟨_, cap, rfl, hb, Or.inl rfl⟩
  · obtain ⟨b, o, rfl, hb, hc⟩ := hI.lt hne
    refine (Try.slices_Clone_int b o zs.length c zs w (Nat.le_refl _) (by omega) hc).mono ?_
    rintro e w' ⟨v, rfl, hrow, hnil, hb⟩
    rw [List.take_length] at hrow
    rcases hrow.2 with ⟨rfl, _⟩ | ⟨g, cap, cur, rfl, _⟩
    · exact absurd rfl hnil
    · exact ⟨_, cap, rfl, hb, Or.inr ⟨g, rfl, hrow, hb⟩⟩
theorem values_t (a : Option Addr) (n c : Nat) (w : World) : Calls Try.prog 21 #[.slice a n c] w fun e w' => e = .returned (.func (.func 41) #[] #[.pointer (some ⟨w.heap.size, 0, none⟩)]) ∧ w' = w.alloc (.cells #[.slice a n c] 22) := by
  go_enter Try.func21, Try.ntmps21
  go_wp2
  go_ret
  exact ⟨rfl, rfl⟩
/-- what slices.Sorted gives -/
def SrtP (zs : List Int) (w : World) (e : Ending) (w' : World) : Prop := ∃ p c', e = .returned (.slice p zs.length c') ∧ Below w.heap.size w w' ∧ (zs = [] ∨ ∃ g, p = some ⟨g, 0, none⟩ ∧ Oz (sortZ zs) g c' w w')
theorem SrtP.mk {zs : List Int} {w w' : World} {p : Option Addr} {n c' : Nat} (hn : n = zs.length) (hb : Below w.heap.size w w') (h : zs = [] ∨ ∃ g, p = some ⟨g, 0, none⟩ ∧ Oz (sortZ zs) g c' w w') : SrtP zs w (.returned (.slice p n c')) w' := ⟨p, c', by rw [hn], hb, h⟩
/-- slices.Sorted of slices.Values -/
theorem sorted_t (Bs : Nat) (a : Option Addr) (c : Nat) (zs : List Int) (hl : zs.length ≤ 100000) (w : World) (hBs : Bs < w.heap.size) (hc : w.cell? ⟨Bs, 0, none⟩ = some (.slice a zs.length c)) (hI : Zs w a zs) :
    Calls Try.prog 20 #[.func (.func 41) #[] #[.pointer (some ⟨Bs, 0, none⟩)]] w fun e w' => SrtP zs w e w' := by
  have CC := Lib.hid (collect_t Bs a c zs hl w hBs hc hI)
  have CS := Lib.hid (fun g cap w1 (h : Oz zs g cap w w1) => sort_t zs hl g cap w w1 h)
  clear hc hI hBs
  go_enter Try.func20, Try.ntmps20
  go_wp2_with fail
  refine CC.out.mono ?_
  rintro e w1 ⟨v, rfl, hrow, hnil, hb⟩
  have HB := Lib.hid hb
  rcases hrow.2 with ⟨rfl, h0⟩ | ⟨g, cap, cur, rfl, _⟩
  · have h1 : zs = [] := List.eq_nil_of_length_eq_zero h0
    subst h1
    clear hrow hnil h0 hb
    go_wp2_with fail
    refine (Try.slices_Sort_int_none none 0 _).mono ?_
    rintro e wx ⟨rfl, hwx⟩
    rw [hwx]
    clear hwx wx
    go_wp2_with fail
    go_ret
    exact SrtP.mk rfl HB.out (Or.inl rfl)
  · have HO : Hid (Oz zs g cap w w1) := Lib.hid ⟨hrow, hb⟩
    clear hrow hnil hb
    go_wp2_with fail
    refine (CS.out _ _ _ HO.out).mono ?_
    rintro e w2 ⟨rfl, ho, hg⟩
    have HO2 := Lib.hid ho
    clear ho hg
    go_wp2_with fail
    go_ret
    exact SrtP.mk rfl HO2.out.2 (Or.inr ⟨g, rfl, HO2.out⟩)
/-- no number is less than the one ahead of it -/
def risesB (zs : List Int) : Bool := (List.range (zs.length - 1)).all fun j => !decide (zs.getD (j + 1) 0 < zs.getD j 0)
theorem rises_yes {zs : List Int} (h : ∀ j : Nat, j + 1 < zs.length → zs.getD j 0 ≤ zs.getD (j + 1) 0) : risesB zs = true := by
  unfold risesB
  rw [List.all_eq_true]
  intro j hj
  rw [List.mem_range] at hj
  have := h j (by omega)
  simpa using this
theorem rises_no {zs : List Int} (j : Nat) (hj : j + 1 < zs.length) (h : zs.getD (j + 1) 0 < zs.getD j 0) : risesB zs = false := by
  unfold risesB
  rw [List.all_eq_false]
  exact ⟨j, by rw [List.mem_range]; omega, by simpa using h⟩
set_option maxHeartbeats 1000000 in
theorem isSorted_t (a : Option Addr) (c : Nat) (zs : List Int) (hl : zs.length ≤ 100000) (w : World) (hz : Zs w a zs) :
    Calls Try.prog 23 #[.slice a zs.length c] w fun e w' => e = .returned (.bool (risesB zs)) ∧ ∃ q, w' = w.drewN q := by
  have HZ := Lib.hid hz
  have HY : Hid ((∀ j : Nat, j + 1 < zs.length → zs.getD j 0 ≤ zs.getD (j + 1) 0) → risesB zs = true) := Lib.hid (fun h => rises_yes h)
  have HN : Hid (∀ j : Nat, j + 1 < zs.length → zs.getD (j + 1) 0 < zs.getD j 0 → risesB zs = false) := Lib.hid (fun j hj h => rises_no j hj h)
  have CL := Lib.hid Try.cmp_Less_int2
  clear hz
  go_enter Try.func23, Try.ntmps23
  go_wp2
  go_loopw [3] (fun i wr => ∃ (k : Int) (q : Nat), -1 ≤ k ∧ k < zs.length ∧ i = .int .i64 k ∧ Hid (wr = w.drewN q) ∧ Hid (∀ j : Nat, k ≤ j → j + 1 < zs.length → zs.getD j 0 ≤ zs.getD (j + 1) 0)) (fun i _ => (intOf i + 1).toNat)
  case atStart => exact ⟨(zs.length : Int) - 1, 0, by omega, by omega, by go_num, Lib.hid rfl, Lib.hid (fun j h1 h2 => by omega)⟩
  case round =>
    obtain ⟨k, q, hk0, hk1, rfl, hq, hk⟩ := hrel
    by_cases hlt : 0 < k
    · obtain ⟨m, rfl⟩ : ∃ m : Nat, k = (m : Int) + 1 := ⟨(k - 1).toNat, by omega⟩
      obtain ⟨b, o, rfl, hf⟩ := HZ.out.resolve_left (fun e => by subst e; simp at hk1; omega)
      have hm : m + 1 < zs.length := by omega
      have c0 : wr.cell? ⟨b, o + m, none⟩ = some (.int .i64 (zs.getD m 0)) := by rw [hq.out]; exact hf m (by omega)
      have c1 : wr.cell? ⟨b, o + (m + 1), none⟩ = some (.int .i64 (zs.getD (m + 1) 0)) := by rw [hq.out]; exact hf (m + 1) hm
      have HX : Hid (zs.getD (m + 1) 0 < zs.getD m 0 → risesB zs = false) := Lib.hid (HN.out m hm)
      have HK : Hid (zs.getD m 0 ≤ zs.getD (m + 1) 0 → ∀ j : Nat, (m : Int) ≤ j → j + 1 < zs.length → zs.getD j 0 ≤ zs.getD (j + 1) 0) := Lib.hid (fun h j h1 h2 => by
        rcases Nat.lt_or_ge m j with h3 | h3
        · exact hk.out j (by omega) h2
        · obtain rfl : j = m := by omega
          exact h)
      clear hf
      generalize zs.getD m 0 = x at c0 HX HK
      generalize zs.getD (m + 1) 0 = y at c1 HX HK
      have b1 : (0 : Int) ≤ (m : Int) + 1 := by omega
      have b2 : (m : Int) + 1 < (zs.length : Int) := by omega
      have b3 : (0 : Int) ≤ (m : Int) := by omega
      have b4 : (m : Int) < (zs.length : Int) := by omega
      have b5 : (m : Int) ≤ 100000 := by omega
      go_wp2
      go_quiet (exact Calls.quiet_of_same (CL.out _ _ _))
      have hD : Hid (wr.drewN nq = w.drewN (q + nq)) := Lib.hid (by rw [hq.out, World.drewN_drewN])
      by_cases hyx : y < x
      · go_wp2
        go_ret
        exact ⟨by rw [HX.out hyx]; rfl, q + nq, hD.out⟩
      · go_wp2
        go_roundw
        case rel => exact ⟨m, q + nq, by omega, by omega, by go_num, hD, Lib.hid (HK.out (by omega))⟩
        case measure => simp [intOf]; omega
    · have hk' := Lib.hid (HY.out (fun j h => hk.out j (by omega) h))
      go_wp2
      go_ret
      exact ⟨by rw [hk'.out]; rfl, q, hq.out⟩
end Ytbihfgcejlgffaa
end Go.Proofs
