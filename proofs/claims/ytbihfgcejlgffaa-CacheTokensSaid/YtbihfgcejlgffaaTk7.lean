/- Tokens: what CheckToken says. -/
import Derived.Deep.RegionHeld3
import Derived.Test.YtbihfgcejlgffaaTk6
namespace Go.Proofs
open Go.RowKit
namespace Ytbihfgcejlgffaa
set_option maxRecDepth 100000
/-- a copy of a list -/
def Cl (T : List Int) (p : Option Addr) (c : Nat) (w0 w : World) : Prop := (T = [] ∨ ∃ g, p = some ⟨g, 0, none⟩ ∧ Oz T g c w0 w) ∧ Below w0.heap.size w0 w
theorem compact_cl (T : List Int) (hl : T.length ≤ 100000) (p : Option Addr) (c : Nat) (w0 w : World) (h : Cl T p c w0 w) :
    Calls Try.prog 17 #[.slice p T.length c] w fun e w' => ∃ p', e = .returned (.slice p' (comp T).length c) ∧ Zs w' p' (comp T) ∧ Below w0.heap.size w0 w' := by
  obtain ⟨h1, h2⟩ := h
  rcases h1 with rfl | ⟨g, rfl, ho⟩
  · have hC : comp ([] : List Int) = [] := by simp [comp, Go.Lib.compact, Go.Lib.compactUpTo]
    refine (Try.slices_Compact_int_empty p c w).mono ?_
    rintro e w' ⟨rfl, rfl⟩
    exact ⟨p, by rw [hC]; rfl, Or.inl hC, h2⟩
  · refine (compact_t T hl g c w0 w ho).mono ?_
    rintro e w' ⟨rfl, hz, hg, hb⟩
    exact ⟨_, rfl, hz, hb⟩
/-- the tenants stand in order, each once -/
def ascB (T : List Int) : Bool := risesB T && (((comp T).length : Int) == (T.length : Int))
theorem contains_t (p : Option Addr) (c : Nat) (T : List Int) (hl : T.length ≤ 100000) (t : Int) (w : World) (hz : Zs w p T) :
    Calls Try.prog 25 #[.slice p T.length c, .int .i64 t] w fun e w' => e = .returned (.bool (T.contains t)) ∧ w' = w := by
  by_cases hne : T = []
  · subst hne
    exact (Try.slices_Contains_int_empty p c t w).mono fun e w' ⟨he, hw⟩ => ⟨he, hw⟩
  · obtain ⟨b, o, rfl, hb, hc⟩ := hz.lt hne
    refine (Try.slices_Contains_int b o T.length c T t w (Nat.le_refl _) (by omega) hc).mono ?_
    rintro e w' ⟨rfl, rfl⟩
    rw [List.take_length]
    exact ⟨rfl, rfl⟩
/-- what CheckToken says -/
def chkE (s : ByteArray) (T : List Int) (u S t now : Int) : Int :=
  if termB s T u = true then 1 else if ascB T = false then 1 else if t < 0 ∨ 999999999999999 < t then 1 else if momB now = false then 1
  else if S ≠ hashT s u T then 16 else if u < now then 22 else if T ≠ [] ∧ T.contains t = false then 22 else 0
set_option maxHeartbeats 4000000 in
theorem check_t (s : ByteArray) (hs : s.size ≤ 1000) (p : Option Addr) (c : Nat) (T : List Int) (hl : T.length ≤ 1000) (u S t now : Int) (w : World) (hz : Zs w p T) :
    Calls Try.prog 11 #[.string s, .agg (ck p T.length c u S), .int .i64 t, .int .i64 now] w fun e w' => e = .returned (.int .i64 (chkE s T u S t now)) ∧ Below w.heap.size w w' := by
  have CI := Lib.hid (fun w (hz : Zs w p T) => isSorted_t p c T (by omega) w hz)
  have CC := Lib.hid (fun w (hz : Zs w p T) => clone_t p c T (by omega) w hz)
  have CK := Lib.hid (fun p c w0 w h => compact_cl T (by omega) p c w0 w h)
  have B0 : Hid (Below w.heap.size w (w.alloc (.cells (ck p T.length c u S) 32))) := Lib.hid ((Below.refl _ _).alloc (Nat.le_refl _) _)
  have T0 : Hid ((w.alloc (.cells (ck p T.length c u S) 32)).heap[w.heap.size]? = some (.cells (ck p T.length c u S) 32 (0, 0))) := Lib.hid (heap_alloc_new w _)
  have Z0 := Lib.hid (hz.below B0.out)
  clear hz
  have CT := Lib.hid (fun w (hz : Zs w p T) => terms_t s hs p c T (by omega) u w hz)
  have CH := Lib.hid (fun w (hz : Zs w p T) => sumOf_t s hs p c T (by omega) u S w hz)
  have CX := Lib.hid (fun w (hz : Zs w p T) => contains_t p c T (by omega) t w hz)
  have HE : Hid (chkE s T u S t now = if termB s T u = true then 1 else if ascB T = false then 1 else if t < 0 ∨ 999999999999999 < t then 1 else if momB now = false then 1 else if S ≠ hashT s u T then 16 else if u < now then 22 else if T ≠ [] ∧ T.contains t = false then 22 else 0) := Lib.hid rfl
  have HA : Hid (ascB T = (risesB T && (((comp T).length : Int) == (T.length : Int)))) := Lib.hid rfl
  generalize chkE s T u S t now = E at HE ⊢
  generalize ascB T = A at HE HA
  generalize termB s T u = TB at CT HE
  generalize hashT s u T = H at CH HE
  go_enter Try.func11, Try.ntmps11
  go_wp2_with fail
  generalize w.alloc (.cells (ck p T.length c u S) 32) = w0 at B0 T0 Z0 ⊢
  have v0 : w0.cell? ⟨w.heap.size, 0, none⟩ = some (.slice p T.length c) := (cell_of_row w0 _ 0 _ _ _ T0.out).trans rfl
  cases hr : risesB T with
  | false =>
    rw [hr] at CI HA
    have hA : A = false := HA.out
    subst hA
    have CQ := Lib.hid (fun n => (CI.out (w0.drewN n) (by exact Z0.out)))
    have v1 : w0.cell? ⟨w.heap.size, 1, none⟩ = some (.int .i64 u) := (cell_of_row w0 _ 1 _ _ _ T0.out).trans rfl
    have hE : E = 1 := by rw [HE.out]; cases TB <;> simp
    subst hE
    clear HE HA
    go_quiet (exact Calls.quiet_of (CQ.out _))
    have Z1 : Hid (Zs (w0.drewN nq) p T) := Lib.hid (by exact Z0.out)
    have B1 : Hid (Below w.heap.size w (w0.drewN nq)) := Lib.hid ⟨B0.out.os, B0.out.tape, B0.out.output, B0.out.size, B0.out.block⟩
    go_wp2_with fail
    refine (CT.out _ Z1.out).mono ?_
    rintro e w5 ⟨rfl, hb5⟩
    have B5 := Lib.hid (below_call B1.out hb5)
    clear hb5 v0 v1
    cases TB with
    | true =>
      go_wp2_with fail
      go_ret
      exact ⟨rfl, B5.out⟩
    | false =>
      go_wp2_with fail
      go_ret
      exact ⟨rfl, B5.out⟩
  | true =>
    rw [hr] at CI HA
    simp only [Bool.true_and] at HA
    go_region_held3 (fun w' => w'.cell? ⟨w.heap.size, 0, none⟩ = some (.slice p T.length c)) (first | assumption | go_keep)
      (first
        | (go_at_call 23; refine (CI.out _ (by exact Z0.out)).mono ?_; rintro e w2 ⟨rfl, q, hq⟩; have Z2 : Hid (Zs w2 p T) := Lib.hid (by rw [hq]; exact Z0.out); have B2 : Hid (Below w.heap.size w w2) := Lib.hid (by rw [hq]; exact ⟨B0.out.os, B0.out.tape, B0.out.output, B0.out.size, B0.out.block⟩); have T2 : Hid (w2.heap[w.heap.size]? = some (.cells (ck p T.length c u S) 32 (0, 0))) := Lib.hid (by rw [hq]; exact T0.out); have v2 : w2.cell? ⟨w.heap.size, 0, none⟩ = some (.slice p T.length c) := (cell_of_row w2 _ 0 _ _ _ T2.out).trans rfl; clear hq v0)
        | (go_at_call 10; refine (CC.out _ Z2.out).mono ?_; rintro e w3 ⟨p3, c3, rfl, hb3, hor⟩; have C3 : Hid (Cl T p3 c3 w2 w3) := Lib.hid ⟨hor, hb3⟩; have v3 : w3.cell? ⟨w.heap.size, 0, none⟩ = some (.slice p T.length c) := (hb3.cell (p := ⟨w.heap.size, 0, none⟩) (lt_of_block T2.out)).trans v2; clear hor hb3)
        | (go_at_call 17; refine (CK.out _ _ w2 _ C3.out).mono ?_; rintro e w4 ⟨p4, rfl, _, hb4⟩; have B4 := Lib.hid (below_call B2.out hb4); have Z4 := Lib.hid (Z2.out.below hb4); have T4 : Hid (w4.heap[w.heap.size]? = some (.cells (ck p T.length c u S) 32 (0, 0))) := Lib.hid ((hb4.block _ (lt_of_block T2.out)).trans T2.out); have v4 : w4.cell? ⟨w.heap.size, 0, none⟩ = some (.slice p T.length c) := (cell_of_row w4 _ 0 _ _ _ T4.out).trans rfl; clear hb4))
    have u0 : w4.cell? ⟨w.heap.size, 1, none⟩ = some (.int .i64 u) := (cell_of_row w4 _ 1 _ _ _ T4.out).trans rfl
    clear v2 v3 C3 Z2 B2 T2 CI CC CK
    have HA2 : Hid (A = (((comp T).length : Int) == (T.length : Int))) := HA
    clear HA
    go_wp2_with fail
    refine (CT.out _ Z4.out).mono ?_
    rintro e w5 ⟨rfl, hb5⟩
    have B5 := Lib.hid (below_call B4.out hb5)
    have Z5 := Lib.hid (Z4.out.below hb5)
    have T5 : Hid (w5.heap[w.heap.size]? = some (.cells (ck p T.length c u S) 32 (0, 0))) := Lib.hid ((hb5.block _ (lt_of_block T4.out)).trans T4.out)
    clear hb5 v4 u0 B4 Z4 T4 CT
    rw [← HA2.out]
    cases TB with
    | true =>
      have hE : E = 1 := by rw [HE.out]; simp
      subst hE
      go_wp2_with fail
      go_ret
      exact ⟨rfl, B5.out⟩
    | false =>
      cases A with
      | false =>
        have hE : E = 1 := by rw [HE.out]; simp
        subst hE
        go_wp2_with fail
        go_ret
        exact ⟨rfl, B5.out⟩
      | true =>
        clear HA2
        by_cases ht : t < 0
        · have hE : E = 1 := by rw [HE.out]; simp [ht]
          subst hE
          go_wp2_with fail
          go_ret
          exact ⟨rfl, B5.out⟩
        · by_cases ht2 : 999999999999999 < t
          · have hE : E = 1 := by rw [HE.out]; simp [ht2]
            subst hE
            go_wp2_with fail
            go_ret
            exact ⟨rfl, B5.out⟩
          · generalize hM : momB now = M at HE
            have HM := Lib.hid hM
            clear hM
            go_wp2_with fail
            refine (moment_t _ _).mono ?_
            rintro e wx ⟨rfl, hwx⟩
            rw [hwx]
            clear hwx wx
            rw [HM.out]
            cases M with
            | false =>
              have hE : E = 1 := by rw [HE.out]; simp
              subst hE
              go_wp2_with fail
              go_ret
              exact ⟨rfl, B5.out⟩
            | true =>
              have HE2 : Hid (E = if S ≠ H then 16 else if u < now then 22 else if T ≠ [] ∧ T.contains t = false then 22 else 0) := Lib.hid (by rw [HE.out, if_neg (by simp), if_neg (by simp), if_neg (by omega), if_neg (by simp)])
              clear HE
              have v0 : w5.cell? ⟨w.heap.size, 0, none⟩ = some (.slice p T.length c) := (cell_of_row w5 _ 0 _ _ _ T5.out).trans rfl
              have v1 : w5.cell? ⟨w.heap.size, 1, none⟩ = some (.int .i64 u) := (cell_of_row w5 _ 1 _ _ _ T5.out).trans rfl
              have v2 : w5.cell? ⟨w.heap.size, 2, none⟩ = some (.int .u64 S) := (cell_of_row w5 _ 2 _ _ _ T5.out).trans rfl
              go_wp2_with fail
              go_region_held3 (fun w' => w'.cell? ⟨w.heap.size, 0, none⟩ = some (.slice p T.length c) ∧ w'.cell? ⟨w.heap.size, 1, none⟩ = some (.int .i64 u) ∧ w'.cell? ⟨w.heap.size, 2, none⟩ = some (.int .u64 S)) (first | go_keep | (exact ⟨x0, x1, x2⟩))
                ((go_at_call 18; refine (CH.out _ (by exact Z5.out)).mono ?_; rintro e w6 ⟨rfl, hb6⟩; have B6 : Hid (Below w.heap.size w w6) := Lib.hid (below_call B5.out.drew hb6); have Z6 : Hid (Zs w6 p T) := Lib.hid (Zs.below (w := w5.drew) (by exact Z5.out) hb6); have T6 : Hid (w6.heap[w.heap.size]? = some (.cells (ck p T.length c u S) 32 (0, 0))) := Lib.hid ((hb6.block _ (lt_of_block T5.out)).trans T5.out); have x0 : w6.cell? ⟨w.heap.size, 0, none⟩ = some (.slice p T.length c) := (cell_of_row w6 _ 0 _ _ _ T6.out).trans rfl; have x1 : w6.cell? ⟨w.heap.size, 1, none⟩ = some (.int .i64 u) := (cell_of_row w6 _ 1 _ _ _ T6.out).trans rfl; have x2 : w6.cell? ⟨w.heap.size, 2, none⟩ = some (.int .u64 S) := (cell_of_row w6 _ 2 _ _ _ T6.out).trans rfl; clear hb6))
              clear v0 v1 v2 B5 Z5 T5 CH
              by_cases hS : S = H
              · have HE3 : Hid (E = if u < now then 22 else if T ≠ [] ∧ T.contains t = false then 22 else 0) := Lib.hid (by rw [HE2.out, if_neg (by simp [hS])])
                clear HE2
                by_cases hn : u < now
                · have hE : E = 22 := by rw [HE3.out]; simp [hn]
                  subst hE
                  go_wp2_with fail
                  go_ret
                  exact ⟨rfl, B6.out⟩
                · by_cases hT : 0 < T.length
                  · have hT2 : (0 : Int) < (T.length : Int) := by omega
                    have hne : T ≠ [] := fun e => by subst e; simp at hT
                    have HN := Lib.hid hne
                    clear hne
                    go_wp2_with fail
                    refine (CX.out _ Z6.out).mono ?_
                    rintro e wx ⟨rfl, hwx⟩
                    rw [hwx]
                    clear hwx wx
                    generalize T.contains t = M at HE3
                    cases M with
                    | false =>
                      have hE : E = 22 := by rw [HE3.out, if_neg (by omega), if_pos ⟨HN.out, rfl⟩]
                      subst hE
                      go_wp2_with fail
                      go_ret
                      exact ⟨rfl, B6.out⟩
                    | true =>
                      have hE : E = 0 := by rw [HE3.out, if_neg (by omega), if_neg (by simp)]
                      subst hE
                      go_wp2_with fail
                      go_ret
                      exact ⟨rfl, B6.out⟩
                  · have hT2 : ¬ (0 : Int) < (T.length : Int) := by omega
                    have hE : E = 0 := by
                      rw [HE3.out, if_neg hn, if_neg]
                      rintro ⟨h, _⟩
                      cases T with
                      | nil => exact h rfl
                      | cons => simp at hT
                    subst hE
                    go_wp2_with fail
                    go_ret
                    exact ⟨rfl, B6.out⟩
              · have hE : E = 16 := by rw [HE2.out]; simp [hS]
                subst hE
                go_wp2_with fail
                go_ret
                exact ⟨rfl, B6.out⟩
end Ytbihfgcejlgffaa
end Go.Proofs
