/- What a cast gives, by the reference, is what it gives by the program; lists of values joined and read. Cast, by the reference. ValueCasts: the law. From the listed variables to what the numerals want of the world. -/
import Derived.Test.YtabojeleomfgnaaGreatDoorCs2
import Derived.Test.YtabojeleomfgnaaGreatDoorCs1
import Derived.Test.YtabojeleomfgnaaGreatDoorR1
import Derived.Test.YtabojeleomfgnaaGreatDoorS1
import Derived.Test.YtabojeleomfgnaaGreatDoorU1
import Derived.ChangeArms
namespace Go.Proofs
open Go.RowKit
namespace YtabojeleomfgnaaGreatDoor
set_option maxRecDepth 100000
noncomputable def castedT (x : V3) (k : Int) : V3 :=
  if (x.1 == 0 || !(canT x.1 k)) = true then nullT else if x.1 = k then x else if k = 3 then ctextT x else if x.1 = 3 then findT x.2.2 k else if k = 1 then boolT (!(x.2.1 == 0)) else if k = 4 then numT 4 x.2.1 else numT 2 x.2.1
theorem right_text {n : Int} {s : ByteArray} (h : Right (3, n, s)) : n = 0 := by
  unfold Right rightB at h
  simp only [Bool.and_eq_true] at h
  have h1 := h.1
  unfold formedB at h1
  simpa using h1
theorem trim_show {x : V3} (h : x.1 = 1 ∨ x.1 = 2) : trimB (showT x) = showT x := by
  apply trim_no
  rcases h with h | h
  · unfold showT
    rw [if_pos h]
    split <;> decide
  · unfold showT
    rw [if_neg (by rw [h]; decide), if_pos h]
    exact itoa_noat _
theorem cast_casted {x : V3} (hx : Right x) (k : Int) : castT x k = castedT x k := by
  obtain ⟨r0, r1, _⟩ := hx.bounds
  unfold castT castedT
  cases hc : canT x.1 k with
  | false => rw [if_pos rfl, if_pos (by simp)]
  | true =>
    rw [if_neg (by decide)]
    have hk : kindB x.1 = true ∧ kindB k = true := by
      unfold canT at hc
      simp only [Bool.and_eq_true] at hc
      exact ⟨hc.1, hc.2.1⟩
    have b1 := (kindB_bounds _).1 hk.1
    have b2 := (kindB_bounds _).1 hk.2
    have h0 : (x.1 == 0) = false := by simp; omega
    have hg : (x.1 == 0 || !true) = false := by rw [h0]; rfl
    rw [hg, if_neg (show ¬ (false = true) by decide)]
    by_cases e1 : x.1 = k
    · rw [if_pos e1, if_pos e1]
    rw [if_neg e1, if_neg e1]
    by_cases e2 : k = 3
    · rw [if_pos e2, if_pos e2]
      have e3 : x.1 ≠ 3 := fun h => e1 (h.trans e2.symm)
      unfold ctextT castS
      rw [if_neg e3]
      by_cases e4 : x.1 = 4
      · rw [if_pos e4]
        have : showT x = ⟨#[64]⟩ ++ momB x.2.1 := by unfold showT; rw [e4]; rfl
        rw [this, trim_at]
      · rw [if_neg e4, trim_show (by omega)]
    rw [if_neg e2, if_neg e2]
    by_cases e3 : x.1 = 3
    · rw [if_pos e3, if_pos e3]
      obtain ⟨K, n, s⟩ := x
      dsimp only at e3 hx ⊢
      subst e3
      have hn := right_text hx
      subst hn
      rw [find_read hx (by omega)]
    rw [if_neg e3, if_neg e3]
    by_cases e4 : k = 1
    · rw [if_pos e4, if_pos e4]
    rw [if_neg e4, if_neg e4]
    by_cases e5 : k = 4
    · rw [if_pos e5, e5]
    · rw [if_neg e5]
      have : k = 2 := by omega
      rw [this]
theorem ctext_right (x : V3) (h : Right x) : Right (ctextT x) := by
  unfold ctextT
  split
  · exact h
  · exact textT_right _
theorem mf_right {t : ByteArray} {v : V3} (h : mfT t = some v) : Right v := by
  unfold mfT at h
  split at h
  · split at h
    · split at h
      · rw [← Option.some.inj h]; exact datedT_right _ _ _ _ _ _
      · cases h
    · cases h
  · cases h
theorem cand_right (s : ByteArray) : ∀ x ∈ candT s, Right x := by
  intro x hx
  unfold candT at hx
  rcases List.mem_append.1 hx with h | h
  · rcases List.mem_append.1 h with h | h
    · rcases List.mem_append.1 h with h | h
      · simp only [List.mem_cons, List.not_mem_nil, or_false] at h
        rcases h with h | h | h
        · rw [h]; exact nullT_right
        · rw [h]; exact boolT_right _
        · rw [h]; exact boolT_right _
      · unfold cnumT at h
        split at h
        · rw [List.mem_singleton] at h; rw [h]; exact numT_right 2 _
        · exact absurd h (List.not_mem_nil)
    · unfold ctxtT at h
      split at h
      · rw [List.mem_singleton] at h; rw [h]; exact textT_right _
      · exact absurd h (List.not_mem_nil)
  · unfold cmomT at h
    split at h
    · rename_i v hv
      rw [List.mem_singleton] at h; rw [h]; exact mf_right hv
    · exact absurd h (List.not_mem_nil)
/-! lists -/
theorem flatV_get : ∀ (L : List V3) (i : Nat) (x : V3), L[i]? = some x → (flatV L)[i * 3]? = some (.int .i64 x.1) ∧ (flatV L)[i * 3 + 1]? = some (.int .i64 x.2.1) ∧ (flatV L)[i * 3 + 2]? = some (.string x.2.2)
  | [], i, x, h => by cases h
  | y :: L, 0, x, h => by
    have e : y = x := Option.some.inj h
    subst e
    exact ⟨rfl, rfl, rfl⟩
  | y :: L, i + 1, x, h => by
    have ih := flatV_get L i x h
    have e : flatV (y :: L) = [Value.int .i64 y.1, Value.int .i64 y.2.1, Value.string y.2.2] ++ flatV L := rfl
    rw [e, show (i + 1) * 3 = 3 + i * 3 by omega, show 3 + i * 3 + 1 = 3 + (i * 3 + 1) by omega, show 3 + i * 3 + 2 = 3 + (i * 3 + 2) by omega]
    rw [List.getElem?_append_right (by simp), List.getElem?_append_right (by simp), List.getElem?_append_right (by simp)]
    simpa using ih
theorem Av.row {L : List V3} {v : Value} {w0 w : World} (h : Av L v w0 w) (hne : L ≠ []) : ∃ b cap, v = .slice (some ⟨b, 0, none⟩) L.length cap ∧ w0.heap.size ≤ b ∧ b < w.heap.size ∧ ∀ j u, (flatV L)[j]? = some u → w.cell? ⟨b, j, none⟩ = some u := by
  obtain ⟨⟨h1, h2⟩, _⟩ := h
  rcases h2 with ⟨_, h0⟩ | ⟨g, cap, cur, rfl, h3, h4, h5, h6, h7, h8⟩
  · exact absurd (List.eq_nil_of_length_eq_zero h0) hne
  · refine ⟨g, cap, rfl, h3, lt_of_block h4, fun j u hj => ?_⟩
    have hlt := (List.getElem?_eq_some_iff.1 hj).1
    rw [cell_of_row w g j _ _ _ h4]
    rw [← h8, List.getElem?_take] at hj
    rw [flatV_length] at hlt
    rw [if_pos hlt] at hj
    simpa using hj
theorem Av.cells {L : List V3} {v : Value} {w0 w : World} (h : Av L v w0 w) (hne : L ≠ []) : ∃ b cap, v = .slice (some ⟨b, 0, none⟩) L.length cap ∧ b < w.heap.size ∧
    ∀ i x, L[i]? = some x → w.cell? ⟨b, i * 3, none⟩ = some (.int .i64 x.1) ∧ w.cell? ⟨b, i * 3 + 1, none⟩ = some (.int .i64 x.2.1) ∧ w.cell? ⟨b, i * 3 + 2, none⟩ = some (.string x.2.2) := by
  obtain ⟨b, cap, hv, _, hb, hc⟩ := h.row hne
  exact ⟨b, cap, hv, hb, fun i x hx => ⟨hc _ _ (flatV_get L i x hx).1, hc _ _ (flatV_get L i x hx).2.1, hc _ _ (flatV_get L i x hx).2.2⟩⟩
theorem flatV_cells (L : List V3) : ∀ u ∈ flatV L, u.oneCell' = true := by
  intro u hu
  unfold flatV at hu
  rw [List.mem_flatMap] at hu
  obtain ⟨x, _, hx⟩ := hu
  simp only [List.mem_cons, List.not_mem_nil, or_false] at hx
  rcases hx with rfl | rfl | rfl <;> rfl
theorem wp_joinV {o : Oper} {a : Act} {w : World} {K : Act → World → Prop} {Q : Exit → Act → World → Prop} (s x : Operand) (ho : o.op = .call { callee := .builtin .append, args := #[s, x], argTypes := #[28, 28] })
    (w0 wa : World) (L M : List V3) (v u : Value) (hs : a.eval s = v) (hx : a.eval x = u) (hA : Av L v w0 w) (hB : Av M u wa w) (hM : M ≠ []) (hl : L.length ≤ 1000) (hm : M.length ≤ 1000)
    (h : ∀ v' w', Av (L ++ M) v' w0 w' → K (a.put o.dst v') w') : o.wp Tryz.prog a w K Q := by
  obtain ⟨i3, hi, hz0, hz1, hz2⟩ := info_parts info23i
  obtain ⟨b, cap, rfl, _, _, hc⟩ := hB.row hM
  refine wp_append_own _ s x 28 ho w0.heap.size 23 i3 (.agg #[.int .i64 0, .int .i64 0, .string ⟨#[]⟩]) 3 32 Tryz.underlying28 hi hz0 hz1 hz2 rfl (by decide) v L.length _ hs hA.1 ⟨b, 0, none⟩ M.length cap (flatV M) hx (flatV_length M) ?_ (flatV_cells M) (by unfold maxLen; omega) (by omega) hA.2.size ?_
  · intro j u hj
    have hadd : (⟨b, 0, none⟩ : Addr).add j = ⟨b, j, none⟩ := by unfold Addr.add; split <;> simp_all
    rw [hadd]
    exact hc j u hj
  · intro v' w' h1 h2 _
    refine h v' w' ⟨?_, hA.2.grown h2 hA.2.size (fun k hk => (hA.1.lt k hk).1)⟩
    rw [flatV_append, List.length_append]
    exact h1
end YtabojeleomfgnaaGreatDoor
end Go.Proofs
namespace Go.Proofs
open Go.RowKit
namespace YtabojeleomfgnaaGreatDoor
set_option maxRecDepth 100000
def Sc (x : V3) (w0 w : World) : Prop := w.heap[w0.heap.size]? = some (.cells (cells x) 23 (0, 0)) ∧ w.heap[w0.heap.size + 1]? = some (.cells (cells nullT) 23 (0, 0)) ∧ Below w0.heap.size w0 w
theorem Sc.below {x : V3} {w0 w w' : World} (h : Sc x w0 w) (hb : Below w.heap.size w w') : Sc x w0 w' :=
  ⟨(hb.block _ (lt_of_block h.1)).trans h.1, (hb.block _ (lt_of_block h.2.1)).trans h.2.1, below_call h.2.2 hb⟩
def Sg (g : Nat) (y x : V3) (w0 w : World) : Prop := w.heap[g]? = some (.cells (cells y) 23 (0, 0)) ∧ Sc x w0 w
theorem Sg.below {g : Nat} {y x : V3} {w0 w w' : World} (h : Sg g y x w0 w) (hb : Below w.heap.size w w') : Sg g y x w0 w' := ⟨(hb.block _ (lt_of_block h.1)).trans h.1, h.2.below hb⟩
def Sh (g : Nat) (y x : V3) (w0 wa w : World) : Prop := Sg g y x w0 w ∧ Below wa.heap.size wa w
theorem Sh.below {g : Nat} {y x : V3} {w0 wa w w' : World} (h : Sh g y x w0 wa w) (hb : Below w.heap.size w w') : Sh g y x w0 wa w' := ⟨h.1.below hb, below_call h.2 hb⟩
theorem drop_at {α : Type} {L : List α} {i : Nat} {x : α} (h : L[i]? = some x) : L.drop i = x :: L.drop (i + 1) := by
  obtain ⟨hi, e⟩ := List.getElem?_eq_some_iff.1 h
  rw [List.drop_eq_getElem_cons hi, e]
theorem cand_ne (s : ByteArray) : candT s ≠ [] := by unfold candT; simp
set_option maxHeartbeats 8000000 in
theorem casted_t (x : V3) (k : Int) (hx : Sz x) (w : World) (hL : Lb w) : Calls Tryz.prog 68 #[toV x, .int .i64 k] w fun e w' => e = .returned (toV (castedT (clT x) k)) ∧ Below w.heap.size w w' := by
  have HL := Lib.hid hL
  have CX := Lib.hid (fun w => right_t x hx w)
  have hr := clT_right x
  have CC := Lib.hid (fun w => rcan_t (clT x).1 k w)
  have CT := Lib.hid (fun w hw => castText_t (clT x) hr w hw)
  have hR : castedT (clT x) k = if ((clT x).1 == 0 || !(canT (clT x).1 k)) = true then nullT else if (clT x).1 = k then clT x else if k = 3 then ctextT (clT x) else if (clT x).1 = 3 then findT (clT x).2.2 k else if k = 1 then boolT (!((clT x).2.1 == 0)) else if k = 4 then numT 4 (clT x).2.1 else numT 2 (clT x).2.1 := rfl
  clear hL hx
  generalize castedT (clT x) k = R at *
  generalize canT (clT x).1 k = C at *
  generalize clT x = X at *
  obtain ⟨ka, na, sa⟩ := x
  obtain ⟨K, n, s⟩ := X
  dsimp only at hR CC
  change Calls Tryz.prog 68 #[val ka na sa, .int .i64 k] w _
  change Hid (∀ w, Calls Tryz.prog 97 #[val ka na sa] w fun e w' => e = .returned (toV (K, n, s)) ∧ Below w.heap.size w w') at CX
  cases hK0 : (K == 0) with
  | true =>
    have HE : Hid (R = nullT) := Lib.hid (by rw [hR, hK0]; rfl)
    clear hR CT CC
    go_enter Tryz.func68, Tryz.ntmps68
    go_wp2_with fail
    refine (CX.out _).mono ?_
    rintro e w1 ⟨rfl, hb1⟩
    have B1 : Hid (w1.heap[w.heap.size]? = some (.cells (cells (ka, na, sa)) 23 (0, 0))) := Lib.hid ((hb1.block _ (by simp only [World.size_alloc]; omega)).trans ((heap_alloc_old _ _ (by simp)).trans (heap_alloc_new w _)))
    have R1 : Hid (w1.heap[w.heap.size + 1]? = some (.cells (cells nullT) 23 (0, 0))) := Lib.hid ((hb1.block _ (by simp)).trans (new_at _ _ _ (by simp)))
    have HL1 := Lib.hid (below_call (w := w) (by go_grown) hb1)
    clear hb1
    go_wp2_with (first | (refine store23 rfl (.tmp 2) (.tmp 8) rfl w.heap.size (K, n, s) rfl rfl _ B1.out ?_; intro w2 hp; have HP := Lib.hid hp; clear hp; have a0 : w2.cell? ⟨w.heap.size, 0, none⟩ = some (.int .i64 K) := (cell_of_row w2 _ 0 _ _ _ HP.out.at').trans rfl; have a1 : w2.cell? ⟨w.heap.size, 1, none⟩ = some (.int .i64 n) := (cell_of_row w2 _ 1 _ _ _ HP.out.at').trans rfl; have a2 : w2.cell? ⟨w.heap.size, 2, none⟩ = some (.string s) := (cell_of_row w2 _ 2 _ _ _ HP.out.at').trans rfl; have R2 : Hid (w2.heap[w.heap.size + 1]? = some (.cells (cells nullT) 23 (0, 0))) := Lib.hid ((HP.out.keeps.block _ (lt_of_block R1.out) (by omega)).trans R1.out); have HL2 := Lib.hid (HP.out.low HL1.out (Nat.le_refl _)); have X2 := Lib.hid HP.out.at'; clear HP) | (refine store23 rfl (.tmp 4) (.tmp 20) rfl (w.heap.size + 1) nullT rfl rfl _ R2.out ?_; intro wz hp; have HP := Lib.hid hp; clear hp))
    exact bodyPost_ret (ret23 rfl rfl HP.out.at') rfl ⟨by rw [HE.out], HP.out.low HL2.out (by omega)⟩
  | false =>
  cases C with
  | false =>
    have HE : Hid (R = nullT) := Lib.hid (by rw [hR, hK0]; rfl)
    clear hR CT
    go_enter Tryz.func68, Tryz.ntmps68
    go_wp2_with fail
    refine (CX.out _).mono ?_
    rintro e w1 ⟨rfl, hb1⟩
    have B1 : Hid (w1.heap[w.heap.size]? = some (.cells (cells (ka, na, sa)) 23 (0, 0))) := Lib.hid ((hb1.block _ (by simp only [World.size_alloc]; omega)).trans ((heap_alloc_old _ _ (by simp)).trans (heap_alloc_new w _)))
    have R1 : Hid (w1.heap[w.heap.size + 1]? = some (.cells (cells nullT) 23 (0, 0))) := Lib.hid ((hb1.block _ (by simp)).trans (new_at _ _ _ (by simp)))
    have HL1 := Lib.hid (below_call (w := w) (by go_grown) hb1)
    clear hb1
    go_wp2_with (refine store23 rfl (.tmp 2) (.tmp 8) rfl w.heap.size (K, n, s) rfl rfl _ B1.out ?_; intro w2 hp; have HP := Lib.hid hp; clear hp; have a0 : w2.cell? ⟨w.heap.size, 0, none⟩ = some (.int .i64 K) := (cell_of_row w2 _ 0 _ _ _ HP.out.at').trans rfl; have a1 : w2.cell? ⟨w.heap.size, 1, none⟩ = some (.int .i64 n) := (cell_of_row w2 _ 1 _ _ _ HP.out.at').trans rfl; have a2 : w2.cell? ⟨w.heap.size, 2, none⟩ = some (.string s) := (cell_of_row w2 _ 2 _ _ _ HP.out.at').trans rfl; have R2 : Hid (w2.heap[w.heap.size + 1]? = some (.cells (cells nullT) 23 (0, 0))) := Lib.hid ((HP.out.keeps.block _ (lt_of_block R1.out) (by omega)).trans R1.out); have HL2 := Lib.hid (HP.out.low HL1.out (Nat.le_refl _)); have X2 := Lib.hid HP.out.at'; clear HP)
    refine (CC.out _).mono ?_
    rintro e wx ⟨rfl, hwx⟩
    rw [hwx]
    clear hwx wx
    go_wp2_with (refine store23 rfl (.tmp 4) (.tmp 20) rfl (w.heap.size + 1) (nullT) rfl rfl _ R2.out ?_; intro wz hp; have HP := Lib.hid hp; clear hp)
    exact bodyPost_ret (ret23 rfl rfl HP.out.at') rfl ⟨by rw [HE.out], HP.out.low HL2.out (by omega)⟩
  | true =>
  rw [hK0, if_neg (show ¬ ((false || !true) = true) by decide)] at hR
  cases hKk : (K == k) with
  | true =>
    have HE : Hid (R = (K, n, s)) := Lib.hid (by rw [hR, if_pos (by simpa using hKk)])
    clear hR CT
    go_enter Tryz.func68, Tryz.ntmps68
    go_wp2_with fail
    refine (CX.out _).mono ?_
    rintro e w1 ⟨rfl, hb1⟩
    have B1 : Hid (w1.heap[w.heap.size]? = some (.cells (cells (ka, na, sa)) 23 (0, 0))) := Lib.hid ((hb1.block _ (by simp only [World.size_alloc]; omega)).trans ((heap_alloc_old _ _ (by simp)).trans (heap_alloc_new w _)))
    have R1 : Hid (w1.heap[w.heap.size + 1]? = some (.cells (cells nullT) 23 (0, 0))) := Lib.hid ((hb1.block _ (by simp)).trans (new_at _ _ _ (by simp)))
    have HL1 := Lib.hid (below_call (w := w) (by go_grown) hb1)
    clear hb1
    go_wp2_with (refine store23 rfl (.tmp 2) (.tmp 8) rfl w.heap.size (K, n, s) rfl rfl _ B1.out ?_; intro w2 hp; have HP := Lib.hid hp; clear hp; have a0 : w2.cell? ⟨w.heap.size, 0, none⟩ = some (.int .i64 K) := (cell_of_row w2 _ 0 _ _ _ HP.out.at').trans rfl; have a1 : w2.cell? ⟨w.heap.size, 1, none⟩ = some (.int .i64 n) := (cell_of_row w2 _ 1 _ _ _ HP.out.at').trans rfl; have a2 : w2.cell? ⟨w.heap.size, 2, none⟩ = some (.string s) := (cell_of_row w2 _ 2 _ _ _ HP.out.at').trans rfl; have R2 : Hid (w2.heap[w.heap.size + 1]? = some (.cells (cells nullT) 23 (0, 0))) := Lib.hid ((HP.out.keeps.block _ (lt_of_block R1.out) (by omega)).trans R1.out); have HL2 := Lib.hid (HP.out.low HL1.out (Nat.le_refl _)); have X2 := Lib.hid HP.out.at'; clear HP)
    refine (CC.out _).mono ?_
    rintro e wx ⟨rfl, hwx⟩
    rw [hwx]
    clear hwx wx
    go_wp2_with (refine store23 rfl (.tmp 4) (.tmp 26) rfl (w.heap.size + 1) ((K, n, s)) rfl rfl _ R2.out ?_; intro wz hp; have HP := Lib.hid hp; clear hp)
    exact bodyPost_ret (ret23 rfl rfl HP.out.at') rfl ⟨by rw [HE.out], HP.out.low HL2.out (by omega)⟩
  | false =>
  rw [if_neg (by simpa using hKk)] at hR
  cases hk3 : (k == 3) with
  | true =>
    have HE : Hid (R = ctextT (K, n, s)) := Lib.hid (by rw [hR, if_pos (by simpa using hk3)])
    clear hR
    generalize ctextT (K, n, s) = RT at *
    go_enter Tryz.func68, Tryz.ntmps68
    go_wp2_with fail
    refine (CX.out _).mono ?_
    rintro e w1 ⟨rfl, hb1⟩
    have B1 : Hid (w1.heap[w.heap.size]? = some (.cells (cells (ka, na, sa)) 23 (0, 0))) := Lib.hid ((hb1.block _ (by simp only [World.size_alloc]; omega)).trans ((heap_alloc_old _ _ (by simp)).trans (heap_alloc_new w _)))
    have R1 : Hid (w1.heap[w.heap.size + 1]? = some (.cells (cells nullT) 23 (0, 0))) := Lib.hid ((hb1.block _ (by simp)).trans (new_at _ _ _ (by simp)))
    have HL1 := Lib.hid (below_call (w := w) (by go_grown) hb1)
    clear hb1
    go_wp2_with (refine store23 rfl (.tmp 2) (.tmp 8) rfl w.heap.size (K, n, s) rfl rfl _ B1.out ?_; intro w2 hp; have HP := Lib.hid hp; clear hp; have a0 : w2.cell? ⟨w.heap.size, 0, none⟩ = some (.int .i64 K) := (cell_of_row w2 _ 0 _ _ _ HP.out.at').trans rfl; have a1 : w2.cell? ⟨w.heap.size, 1, none⟩ = some (.int .i64 n) := (cell_of_row w2 _ 1 _ _ _ HP.out.at').trans rfl; have a2 : w2.cell? ⟨w.heap.size, 2, none⟩ = some (.string s) := (cell_of_row w2 _ 2 _ _ _ HP.out.at').trans rfl; have R2 : Hid (w2.heap[w.heap.size + 1]? = some (.cells (cells nullT) 23 (0, 0))) := Lib.hid ((HP.out.keeps.block _ (lt_of_block R1.out) (by omega)).trans R1.out); have HL2 := Lib.hid (HP.out.low HL1.out (Nat.le_refl _)); have X2 := Lib.hid HP.out.at'; clear HP)
    refine (CC.out _).mono ?_
    rintro e wx ⟨rfl, hwx⟩
    rw [hwx]
    clear hwx wx
    go_wp2_with fail
    refine (CT.out _ (HL.out.below HL2.out)).mono ?_
    rintro e w3 ⟨rfl, hb3⟩
    have R3 : Hid (w3.heap[w.heap.size + 1]? = some (.cells (cells nullT) 23 (0, 0))) := Lib.hid ((hb3.block _ (lt_of_block R2.out)).trans R2.out)
    have HL3 := Lib.hid (below_call HL2.out hb3)
    clear hb3
    go_wp2_with (refine store23 rfl (.tmp 4) (.tmp 31) rfl (w.heap.size + 1) (RT) rfl rfl _ R3.out ?_; intro wz hp; have HP := Lib.hid hp; clear hp)
    exact bodyPost_ret (ret23 rfl rfl HP.out.at') rfl ⟨by rw [HE.out], HP.out.low HL3.out (by omega)⟩
  | false =>
  rw [if_neg (by simpa using hk3)] at hR
  clear CT
  cases hK3 : (K == 3) with
  | false =>
    rw [if_neg (by simpa using hK3)] at hR
    cases hk1 : (k == 1) with
    | true =>
      have HE : Hid (R = boolT (!(n == 0))) := Lib.hid (by rw [hR, if_pos (by simpa using hk1)])
      have CB := Lib.hid (fun w => truth_t (!(n == 0)) w)
      generalize boolT (!(n == 0)) = RB at *
      clear hR
      go_enter Tryz.func68, Tryz.ntmps68
      go_wp2_with fail
      refine (CX.out _).mono ?_
      rintro e w1 ⟨rfl, hb1⟩
      have B1 : Hid (w1.heap[w.heap.size]? = some (.cells (cells (ka, na, sa)) 23 (0, 0))) := Lib.hid ((hb1.block _ (by simp only [World.size_alloc]; omega)).trans ((heap_alloc_old _ _ (by simp)).trans (heap_alloc_new w _)))
      have R1 : Hid (w1.heap[w.heap.size + 1]? = some (.cells (cells nullT) 23 (0, 0))) := Lib.hid ((hb1.block _ (by simp)).trans (new_at _ _ _ (by simp)))
      have HL1 := Lib.hid (below_call (w := w) (by go_grown) hb1)
      clear hb1
      go_wp2_with (refine store23 rfl (.tmp 2) (.tmp 8) rfl w.heap.size (K, n, s) rfl rfl _ B1.out ?_; intro w2 hp; have HP := Lib.hid hp; clear hp; have a0 : w2.cell? ⟨w.heap.size, 0, none⟩ = some (.int .i64 K) := (cell_of_row w2 _ 0 _ _ _ HP.out.at').trans rfl; have a1 : w2.cell? ⟨w.heap.size, 1, none⟩ = some (.int .i64 n) := (cell_of_row w2 _ 1 _ _ _ HP.out.at').trans rfl; have a2 : w2.cell? ⟨w.heap.size, 2, none⟩ = some (.string s) := (cell_of_row w2 _ 2 _ _ _ HP.out.at').trans rfl; have R2 : Hid (w2.heap[w.heap.size + 1]? = some (.cells (cells nullT) 23 (0, 0))) := Lib.hid ((HP.out.keeps.block _ (lt_of_block R1.out) (by omega)).trans R1.out); have HL2 := Lib.hid (HP.out.low HL1.out (Nat.le_refl _)); have X2 := Lib.hid HP.out.at'; clear HP)
      refine (CC.out _).mono ?_
      rintro e wx ⟨rfl, hwx⟩
      rw [hwx]
      clear hwx wx
      go_wp2_with fail
      refine (CB.out _).mono ?_
      rintro e w3 ⟨rfl, hb3⟩
      have R3 : Hid (w3.heap[w.heap.size + 1]? = some (.cells (cells nullT) 23 (0, 0))) := Lib.hid ((hb3.block _ (lt_of_block R2.out)).trans R2.out)
      have HL3 := Lib.hid (below_call HL2.out hb3)
      clear hb3
      go_wp2_with (refine store23 rfl (.tmp 4) (.tmp 68) rfl (w.heap.size + 1) (RB) rfl rfl _ R3.out ?_; intro wz hp; have HP := Lib.hid hp; clear hp)
      exact bodyPost_ret (ret23 rfl rfl HP.out.at') rfl ⟨by rw [HE.out], HP.out.low HL3.out (by omega)⟩
    | false =>
      rw [if_neg (by simpa using hk1)] at hR
      cases hk4 : (k == 4) with
      | true =>
        have HE : Hid (R = numT 4 n) := Lib.hid (by rw [hR, if_pos (by simpa using hk4)])
        have CB := Lib.hid (fun w => rmoment_t n w)
        generalize numT 4 n = RB at *
        clear hR
        go_enter Tryz.func68, Tryz.ntmps68
        go_wp2_with fail
        refine (CX.out _).mono ?_
        rintro e w1 ⟨rfl, hb1⟩
        have B1 : Hid (w1.heap[w.heap.size]? = some (.cells (cells (ka, na, sa)) 23 (0, 0))) := Lib.hid ((hb1.block _ (by simp only [World.size_alloc]; omega)).trans ((heap_alloc_old _ _ (by simp)).trans (heap_alloc_new w _)))
        have R1 : Hid (w1.heap[w.heap.size + 1]? = some (.cells (cells nullT) 23 (0, 0))) := Lib.hid ((hb1.block _ (by simp)).trans (new_at _ _ _ (by simp)))
        have HL1 := Lib.hid (below_call (w := w) (by go_grown) hb1)
        clear hb1
        go_wp2_with (refine store23 rfl (.tmp 2) (.tmp 8) rfl w.heap.size (K, n, s) rfl rfl _ B1.out ?_; intro w2 hp; have HP := Lib.hid hp; clear hp; have a0 : w2.cell? ⟨w.heap.size, 0, none⟩ = some (.int .i64 K) := (cell_of_row w2 _ 0 _ _ _ HP.out.at').trans rfl; have a1 : w2.cell? ⟨w.heap.size, 1, none⟩ = some (.int .i64 n) := (cell_of_row w2 _ 1 _ _ _ HP.out.at').trans rfl; have a2 : w2.cell? ⟨w.heap.size, 2, none⟩ = some (.string s) := (cell_of_row w2 _ 2 _ _ _ HP.out.at').trans rfl; have R2 : Hid (w2.heap[w.heap.size + 1]? = some (.cells (cells nullT) 23 (0, 0))) := Lib.hid ((HP.out.keeps.block _ (lt_of_block R1.out) (by omega)).trans R1.out); have HL2 := Lib.hid (HP.out.low HL1.out (Nat.le_refl _)); have X2 := Lib.hid HP.out.at'; clear HP)
        refine (CC.out _).mono ?_
        rintro e wx ⟨rfl, hwx⟩
        rw [hwx]
        clear hwx wx
        go_wp2_with fail
        refine (CB.out _).mono ?_
        rintro e w3 ⟨rfl, hb3⟩
        have R3 : Hid (w3.heap[w.heap.size + 1]? = some (.cells (cells nullT) 23 (0, 0))) := Lib.hid ((hb3.block _ (lt_of_block R2.out)).trans R2.out)
        have HL3 := Lib.hid (below_call HL2.out hb3)
        clear hb3
        go_wp2_with (refine store23 rfl (.tmp 4) (.tmp 74) rfl (w.heap.size + 1) (RB) rfl rfl _ R3.out ?_; intro wz hp; have HP := Lib.hid hp; clear hp)
        exact bodyPost_ret (ret23 rfl rfl HP.out.at') rfl ⟨by rw [HE.out], HP.out.low HL3.out (by omega)⟩
      | false =>
        have HE : Hid (R = numT 2 n) := Lib.hid (by rw [hR, if_neg (by simpa using hk4)])
        have CB := Lib.hid (fun w => rnumber_t n w)
        generalize numT 2 n = RB at *
        clear hR
        go_enter Tryz.func68, Tryz.ntmps68
        go_wp2_with fail
        refine (CX.out _).mono ?_
        rintro e w1 ⟨rfl, hb1⟩
        have B1 : Hid (w1.heap[w.heap.size]? = some (.cells (cells (ka, na, sa)) 23 (0, 0))) := Lib.hid ((hb1.block _ (by simp only [World.size_alloc]; omega)).trans ((heap_alloc_old _ _ (by simp)).trans (heap_alloc_new w _)))
        have R1 : Hid (w1.heap[w.heap.size + 1]? = some (.cells (cells nullT) 23 (0, 0))) := Lib.hid ((hb1.block _ (by simp)).trans (new_at _ _ _ (by simp)))
        have HL1 := Lib.hid (below_call (w := w) (by go_grown) hb1)
        clear hb1
        go_wp2_with (refine store23 rfl (.tmp 2) (.tmp 8) rfl w.heap.size (K, n, s) rfl rfl _ B1.out ?_; intro w2 hp; have HP := Lib.hid hp; clear hp; have a0 : w2.cell? ⟨w.heap.size, 0, none⟩ = some (.int .i64 K) := (cell_of_row w2 _ 0 _ _ _ HP.out.at').trans rfl; have a1 : w2.cell? ⟨w.heap.size, 1, none⟩ = some (.int .i64 n) := (cell_of_row w2 _ 1 _ _ _ HP.out.at').trans rfl; have a2 : w2.cell? ⟨w.heap.size, 2, none⟩ = some (.string s) := (cell_of_row w2 _ 2 _ _ _ HP.out.at').trans rfl; have R2 : Hid (w2.heap[w.heap.size + 1]? = some (.cells (cells nullT) 23 (0, 0))) := Lib.hid ((HP.out.keeps.block _ (lt_of_block R1.out) (by omega)).trans R1.out); have HL2 := Lib.hid (HP.out.low HL1.out (Nat.le_refl _)); have X2 := Lib.hid HP.out.at'; clear HP)
        refine (CC.out _).mono ?_
        rintro e wx ⟨rfl, hwx⟩
        rw [hwx]
        clear hwx wx
        go_wp2_with fail
        refine (CB.out _).mono ?_
        rintro e w3 ⟨rfl, hb3⟩
        have R3 : Hid (w3.heap[w.heap.size + 1]? = some (.cells (cells nullT) 23 (0, 0))) := Lib.hid ((hb3.block _ (lt_of_block R2.out)).trans R2.out)
        have HL3 := Lib.hid (below_call HL2.out hb3)
        clear hb3
        go_wp2_with (refine store23 rfl (.tmp 4) (.tmp 77) rfl (w.heap.size + 1) (RB) rfl rfl _ R3.out ?_; intro wz hp; have HP := Lib.hid hp; clear hp)
        exact bodyPost_ret (ret23 rfl rfl HP.out.at') rfl ⟨by rw [HE.out], HP.out.low HL3.out (by omega)⟩
  | true =>
    obtain rfl : K = 3 := by simpa using hK3
    have hn := right_text hr
    subst hn
    rw [if_pos rfl] at hR
    have hs100 : s.size ≤ 100 := hr.bounds.2.2.2.2
    clear hr hK3 hK0
    have e64 : (⟨#[64]⟩ : ByteArray).size = 1 := rfl
    have C1 := Lib.hid (fun w hw => cands_t s (by omega) w hw)
    have C2 := Lib.hid (fun w hw => cands_t (⟨#[64]⟩ ++ s) (by rw [ByteArray.size_append]; omega) w hw)
    have hF : R = ((candT s ++ candT (⟨#[64]⟩ ++ s)).find? (okT s k)).getD nullT := hR
    have hRt : ∀ x ∈ candT s ++ candT (⟨#[64]⟩ ++ s), Right x := by
      intro x hx
      rcases List.mem_append.1 hx with h | h
      · exact cand_right _ x h
      · exact cand_right _ x h
    have hn1 := cand_ne s
    have hn2 := cand_ne (⟨#[64]⟩ ++ s)
    have hl1 := cand_len s
    have hl2 := cand_len (⟨#[64]⟩ ++ s)
    clear hR
    generalize candT s = L1 at *
    generalize candT (⟨#[64]⟩ ++ s) = L2 at *
    obtain ⟨LL, hLL⟩ : ∃ LL, LL = L1 ++ L2 := ⟨_, rfl⟩
    obtain ⟨nn, hnn⟩ : ∃ nn, nn = LL.length := ⟨_, rfl⟩
    have hnn12 : nn ≤ 12 := by rw [hnn, hLL, List.length_append]; omega
    have hne : LL ≠ [] := by rw [hLL]; simp [hn1]
    rw [← hLL] at hF hRt
    have HF0 : Hid (R = ((LL.drop 0).find? (okT s k)).getD nullT) := Lib.hid hF
    have HRt := Lib.hid hRt
    clear hF hRt hn1
    go_enter Tryz.func68, Tryz.ntmps68
    go_wp2_with fail
    refine (CX.out _).mono ?_
    rintro e w1 ⟨rfl, hb1⟩
    have B1 : Hid (w1.heap[w.heap.size]? = some (.cells (cells (ka, na, sa)) 23 (0, 0))) := Lib.hid ((hb1.block _ (by simp only [World.size_alloc]; omega)).trans ((heap_alloc_old _ _ (by simp)).trans (heap_alloc_new w _)))
    have R1 : Hid (w1.heap[w.heap.size + 1]? = some (.cells (cells nullT) 23 (0, 0))) := Lib.hid ((hb1.block _ (by simp)).trans (new_at _ _ _ (by simp)))
    have HL1 := Lib.hid (below_call (w := w) (by go_grown) hb1)
    clear hb1
    go_wp2_with (refine store23 rfl (.tmp 2) (.tmp 8) rfl w.heap.size (3, 0, s) rfl rfl _ B1.out ?_; intro w2 hp; have HP := Lib.hid hp; clear hp; have a0 : w2.cell? ⟨w.heap.size, 0, none⟩ = some (.int .i64 3) := (cell_of_row w2 _ 0 _ _ _ HP.out.at').trans rfl; have a1 : w2.cell? ⟨w.heap.size, 1, none⟩ = some (.int .i64 0) := (cell_of_row w2 _ 1 _ _ _ HP.out.at').trans rfl; have a2 : w2.cell? ⟨w.heap.size, 2, none⟩ = some (.string s) := (cell_of_row w2 _ 2 _ _ _ HP.out.at').trans rfl; have R2 : Hid (w2.heap[w.heap.size + 1]? = some (.cells (cells nullT) 23 (0, 0))) := Lib.hid ((HP.out.keeps.block _ (lt_of_block R1.out) (by omega)).trans R1.out); have HL2 := Lib.hid (HP.out.low HL1.out (Nat.le_refl _)); have X2 := Lib.hid HP.out.at'; clear HP)
    refine (CC.out _).mono ?_
    rintro e wx ⟨rfl, hwx⟩
    rw [hwx]
    clear hwx wx
    go_wp2_with fail
    clear a0 a1 a2
    refine wp_region_held_drew (S := Sc (3, 0, s) w) (by kernel_rfl) ⟨X2.out, R2.out, HL2.out.drew⟩ ?_
    intro hS
    generalize w2.drew = wd at hS ⊢
    refine wpAnyH_take (i := 0) (oi := ⟨some 36, _, _, _, _, _⟩) (v := .pointer (some ⟨w.heap.size, 2, none⟩)) rfl (by kernel_rfl) (by kernel_rfl) (by kernel_rfl) (fun _ _ _ h => h) (Or.inl ⟨rfl, fun w' h => by go_simp⟩) hS ?_
    simp only [Act.put, List.setIfInBounds_toArray, List.set_cons_zero, List.set_cons_succ]
    refine wpAnyH_take (i := 1) (oi := ⟨some 37, _, _, _, _, _⟩) (v := .string s) rfl (by kernel_rfl) (by kernel_rfl) (by kernel_rfl) (fun _ _ _ h => h) (Or.inl ⟨rfl, fun w' h => by have c := (cell_of_row w' w.heap.size 2 _ _ _ h.1).trans rfl; go_simp⟩) hS ?_
    simp only [Act.put, List.setIfInBounds_toArray, List.set_cons_zero, List.set_cons_succ]
    refine wpAnyH_take (i := 3) (oi := ⟨some 39, _, _, _, _, _⟩) (v := .pointer (some ⟨w.heap.size, 2, none⟩)) rfl (by kernel_rfl) (by kernel_rfl) (by kernel_rfl) (fun _ _ _ h => h) (Or.inl ⟨rfl, fun w' h => by go_simp⟩) hS ?_
    simp only [Act.put, List.setIfInBounds_toArray, List.set_cons_zero, List.set_cons_succ]
    refine wpAnyH_take (i := 4) (oi := ⟨some 40, _, _, _, _, _⟩) (v := .string s) rfl (by kernel_rfl) (by kernel_rfl) (by kernel_rfl) (fun _ _ _ h => h) (Or.inl ⟨rfl, fun w' h => by have c := (cell_of_row w' w.heap.size 2 _ _ _ h.1).trans rfl; go_simp⟩) hS ?_
    simp only [Act.put, List.setIfInBounds_toArray, List.set_cons_zero, List.set_cons_succ]
    refine wpAnyH_take (i := 5) (oi := ⟨some 41, _, _, _, _, _⟩) (v := .string (⟨#[64]⟩ ++ s)) rfl (by kernel_rfl) (by kernel_rfl) (by kernel_rfl) (fun _ _ _ h => h) (Or.inl ⟨rfl, fun w' h => op_add ⟨#[64]⟩ s _ rfl rfl rfl rfl (by omega) w'⟩) hS ?_
    simp only [Act.put, List.setIfInBounds_toArray, List.set_cons_zero, List.set_cons_succ]
    refine wpAnyH_take (i := 9) (oi := ⟨some 45, _, _, _, _, _⟩) (v := .int .i64 0) rfl (by kernel_rfl) (by kernel_rfl) (by kernel_rfl) (fun _ _ _ h => h) (Or.inl ⟨rfl, fun w' h => by go_simp⟩) hS ?_
    simp only [Act.put, List.setIfInBounds_toArray, List.set_cons_zero, List.set_cons_succ]
    refine wpAnyH_ready (rs := [2]) (by kernel_rfl) (by simp) ?_
    refine AllReadyH.cons rfl (fun K hK => ?_) AllReadyH.nil
    go_simp
    refine (C1.out _ (HL.out.below hS.2.2)).mono ?_
    rintro e w4 ⟨v1, rfl, hA1⟩
    refine hK.out _ _ (hS.below hA1.2) ?_
    clear hK K
    intro hS4
    try simp only [Act.put, List.setIfInBounds_toArray, List.set_cons_zero, List.set_cons_succ]
    refine wpAnyH_ready (rs := [6]) (by kernel_rfl) (by simp) ?_
    refine AllReadyH.cons rfl (fun K hK => ?_) AllReadyH.nil
    go_simp
    refine (C2.out _ (HL.out.below hS4.2.2)).mono ?_
    rintro e w5 ⟨v2, rfl, hA2⟩
    refine hK.out _ _ (hS4.below hA2.2) ?_
    clear hK K
    intro hS5
    try simp only [Act.put, List.setIfInBounds_toArray, List.set_cons_zero, List.set_cons_succ]
    refine wpAnyH_ready (rs := [7]) (by kernel_rfl) (by simp) ?_
    refine AllReadyH.cons (o := ⟨some 43, _, _, _, _, _⟩) rfl (fun K hK => ?_) AllReadyH.nil
    rw [if_pos (by rfl)]
    refine wp_joinV (.tmp 38) (.tmp 42) rfl wd w4 L1 L2 v1 v2 rfl rfl (hA1.below hA2.2) hA2 hn2 (by omega) (by omega) ?_
    intro v3 w6 hA3
    refine hK.out _ _ (hS.below hA3.2) ?_
    clear hK K hS4 hS5 hA1 hA2
    intro hS6
    rw [← hLL] at hA3
    obtain ⟨b, cap, rfl, hb, hc⟩ := hA3.cells hne
    rw [← hnn]
    clear hA3 hS
    try simp only [Act.put, List.setIfInBounds_toArray, List.set_cons_zero, List.set_cons_succ]
    refine wpAnyH_take (i := 8) (oi := ⟨some 44, _, _, _, _, _⟩) (v := .int .i64 nn) rfl (by kernel_rfl) (by kernel_rfl) (by kernel_rfl) (fun _ _ _ h => h) (Or.inl ⟨rfl, fun w' h => by go_simp⟩) hS6 ?_
    simp only [Act.put, List.setIfInBounds_toArray, List.set_cons_zero, List.set_cons_succ]
    refine wpAnyH_done (by kernel_rfl) ?_ _
    have HC := Lib.hid hc
    have HS6 := Lib.hid hS6
    have HNN := Lib.hid hnn
    have HB0 := Lib.hid (Below.refl w6.heap.size w6)
    clear hc hS6 hnn hLL hn2 hl1 hl2 hne C1 C2
    go_wp2_with fail
    go_loopw [45] (fun y wr => ∃ i : Nat, y = .int .i64 i ∧ i ≤ nn ∧ Hid (Sc (3, 0, s) w wr) ∧ Hid (Below w6.heap.size w6 wr) ∧ Hid (R = ((LL.drop i).find? (okT s k)).getD nullT)) (fun y _ => ((nn : Int) - intOf y).toNat)
    case atStart => exact ⟨0, rfl, by omega, HS6, HB0, HF0⟩
    case round =>
      obtain ⟨i, rfl, hi, hSr, hBr, hFr⟩ := hrel
      by_cases hlt : i < nn
      · obtain ⟨x, hx⟩ : ∃ x, LL[i]? = some x := ⟨_, List.getElem?_eq_getElem (by rw [← HNN.out]; exact hlt)⟩
        have hxr := HRt.out x (List.mem_of_getElem? hx)
        obtain ⟨h0, h1, h2⟩ := HC.out i x hx
        have HD := Lib.hid (drop_at hx)
        have CXT := Lib.hid (fun w hw => castText_t x hxr w hw)
        have HO : Hid (okT s k x = (decide (x.1 = k) && decide (ctextT x = (3, 0, s)))) := Lib.hid rfl
        generalize ctextT x = Y at *
        obtain ⟨xk, xn, xt⟩ := x
        dsimp only at h0 h1 h2 HO
        have c0 : wr.cell? ⟨b, i * 3, none⟩ = some (.int .i64 xk) := (hBr.out.cell (p := ⟨b, i * 3, none⟩) hb).trans h0
        have c1 : wr.cell? ⟨b, i * 3 + 1, none⟩ = some (.int .i64 xn) := (hBr.out.cell (p := ⟨b, i * 3 + 1, none⟩) hb).trans h1
        have c2 : wr.cell? ⟨b, i * 3 + 2, none⟩ = some (.string xt) := (hBr.out.cell (p := ⟨b, i * 3 + 2, none⟩) hb).trans h2
        clear h0 h1 h2 hx hxr
        go_wp2_with (refine store23 rfl (.tmp 6) (.tmp 48) rfl wr.heap.size (xk, xn, xt) rfl rfl nullT (new_at _ _ _ rfl) ?_; intro w7 hp; have X7 := Lib.hid hp.at'; have B7 := Lib.hid (hp.below (w0 := wr) ((Below.refl _ wr).alloc (Nat.le_refl _) _) (Nat.le_refl _)); clear hp c0 c1 c2)
        have S7 := Lib.hid (hSr.out.below B7.out)
        have D7 := Lib.hid (hBr.out.trans (B7.out.mono hBr.out.size))
        cases hxk : (xk == k) with
        | true =>
          refine region_all (Sh wr.heap.size (xk, xn, xt) (3, 0, s) w w7) (by kernel_rfl) (by kernel_rfl) ⟨⟨X7.out, S7.out.1, S7.out.2.1, S7.out.2.2.drew⟩, (Below.refl _ w7).drew⟩ ?_
          refine s_val (.pointer (some ⟨wr.heap.size, 0, none⟩)) (by rfl) (fun w' h => by go_simp) ?_
          simp only [Act.put, List.setIfInBounds_toArray, List.set_cons_zero, List.set_cons_succ]
          refine s_val (.int .i64 xk) (by rfl) (run_ld3 (C := (Sh wr.heap.size (xk, xn, xt) (3, 0, s) w w7)) (.tmp 49) rfl wr.heap.size 0 xk rfl (fun w h => (cell_of_row w _ 0 _ _ _ h.1.1).trans rfl)) ?_
          simp only [Act.put, List.setIfInBounds_toArray, List.set_cons_zero, List.set_cons_succ]
          refine s_val (.int .i64 k) (by rfl) (fun w' h => by rfl) ?_
          simp only [Act.put, List.setIfInBounds_toArray, List.set_cons_zero, List.set_cons_succ]
          refine s_val (.bool true) (by rfl) (fun w' h => by go_simp) ?_
          simp only [Act.put, List.setIfInBounds_toArray, List.set_cons_zero, List.set_cons_succ]
          refine s_val (.bool true) (by rfl) (fun w' h => by rfl) ?_
          simp only [Act.put, List.setIfInBounds_toArray, List.set_cons_zero, List.set_cons_succ]
          refine s_val (toV (xk, xn, xt)) (by rfl) (run_load23 (C := (Sh wr.heap.size (xk, xn, xt) (3, 0, s) w w7)) (.tmp 6) rfl wr.heap.size _ rfl rfl (fun w h => h.1.1)) ?_
          simp only [Act.put, List.setIfInBounds_toArray, List.set_cons_zero, List.set_cons_succ]
          refine s_call (toV Y) 142 #[toV (xk, xn, xt)] (by rfl) (fun w => by go_simp) (fun w' h => (CXT.out w' (HL.out.below h.1.2.2.2)).mono fun e x hx => ⟨hx.1, h.below hx.2⟩) ?_
          simp only [Act.put, List.setIfInBounds_toArray, List.set_cons_zero, List.set_cons_succ]
          refine s_val (toV (3, 0, s)) (by rfl) (run_load23 (C := (Sh wr.heap.size (xk, xn, xt) (3, 0, s) w w7)) (.tmp 2) rfl w.heap.size _ rfl rfl (fun w h => h.1.2.1)) ?_
          simp only [Act.put, List.setIfInBounds_toArray, List.set_cons_zero, List.set_cons_succ]
          refine s_val (.bool (decide (Y = (3, 0, s)))) (by rfl) (fun w' _ => op_eq23 Y (3, 0, s) rfl rfl rfl w') ?_
          simp only [Act.put, List.setIfInBounds_toArray, List.set_cons_zero, List.set_cons_succ]
          refine s_val (.bool (decide (Y = (3, 0, s)))) (by rfl) (fun w' _ => by rfl) ?_
          simp only [Act.put, List.setIfInBounds_toArray, List.set_cons_zero, List.set_cons_succ]
          refine s_done ?_
          intro w8 h8
          have G8 := Lib.hid h8.1
          have D8 := Lib.hid (D7.out.trans (h8.2.mono D7.out.size))
          clear h8
          cases hd : decide (Y = (3, 0, s)) with
          | true =>
            have HE : Hid (R = (xk, xn, xt)) := Lib.hid (by rw [hFr.out, HD.out, List.find?_cons, HO.out, hd, decide_eq_true (by simpa using hxk : xk = k)]; rfl)
            have b0 : w8.cell? ⟨wr.heap.size, 0, none⟩ = some (.int .i64 xk) := (cell_of_row w8 _ 0 _ _ _ G8.out.1).trans rfl
            have b1 : w8.cell? ⟨wr.heap.size, 1, none⟩ = some (.int .i64 xn) := (cell_of_row w8 _ 1 _ _ _ G8.out.1).trans rfl
            have b2 : w8.cell? ⟨wr.heap.size, 2, none⟩ = some (.string xt) := (cell_of_row w8 _ 2 _ _ _ G8.out.1).trans rfl
            go_wp2_with (refine store23 rfl (.tmp 4) (.tmp 59) rfl (w.heap.size + 1) (xk, xn, xt) rfl rfl _ G8.out.2.2.1 ?_; intro wz hp; have HP := Lib.hid hp; clear hp)
            exact bodyPost_ret (ret23 rfl rfl HP.out.at') rfl ⟨by rw [HE.out], HP.out.low G8.out.2.2.2 (by omega)⟩
          | false =>
            have HN : Hid (R = ((LL.drop (i + 1)).find? (okT s k)).getD nullT) := Lib.hid (by rw [hFr.out, HD.out, List.find?_cons, HO.out, hd, Bool.and_false])
            go_wp2_with fail
            go_roundw
            case rel => exact ⟨i + 1, by go_num, by omega, Lib.hid G8.out.2, D8, HN⟩
            case measure => simp [intOf]; omega
        | false =>
          have HN : Hid (R = ((LL.drop (i + 1)).find? (okT s k)).getD nullT) := Lib.hid (by rw [hFr.out, HD.out, List.find?_cons, HO.out, decide_eq_false (by simpa using hxk : ¬ xk = k), Bool.false_and])
          refine region_all (Sh wr.heap.size (xk, xn, xt) (3, 0, s) w w7) (by kernel_rfl) (by kernel_rfl) ⟨⟨X7.out, S7.out.1, S7.out.2.1, S7.out.2.2.drew⟩, (Below.refl _ w7).drew⟩ ?_
          refine s_val (.pointer (some ⟨wr.heap.size, 0, none⟩)) (by rfl) (fun w' h => by go_simp) ?_
          simp only [Act.put, List.setIfInBounds_toArray, List.set_cons_zero, List.set_cons_succ]
          refine s_val (.int .i64 xk) (by rfl) (run_ld3 (C := (Sh wr.heap.size (xk, xn, xt) (3, 0, s) w w7)) (.tmp 49) rfl wr.heap.size 0 xk rfl (fun w h => (cell_of_row w _ 0 _ _ _ h.1.1).trans rfl)) ?_
          simp only [Act.put, List.setIfInBounds_toArray, List.set_cons_zero, List.set_cons_succ]
          refine s_val (.int .i64 k) (by rfl) (fun w' h => by rfl) ?_
          simp only [Act.put, List.setIfInBounds_toArray, List.set_cons_zero, List.set_cons_succ]
          refine s_val (.bool false) (by rfl) (fun w' h => by go_simp) ?_
          simp only [Act.put, List.setIfInBounds_toArray, List.set_cons_zero, List.set_cons_succ]
          refine s_val (.bool false) (by rfl) (fun w' h => by rfl) ?_
          simp only [Act.put, List.setIfInBounds_toArray, List.set_cons_zero, List.set_cons_succ]
          refine s_skip (by rfl) ?_
          simp only [Act.put, List.setIfInBounds_toArray, List.set_cons_zero, List.set_cons_succ]
          refine s_skip (by rfl) ?_
          simp only [Act.put, List.setIfInBounds_toArray, List.set_cons_zero, List.set_cons_succ]
          refine s_skip (by rfl) ?_
          simp only [Act.put, List.setIfInBounds_toArray, List.set_cons_zero, List.set_cons_succ]
          refine s_skip (by rfl) ?_
          simp only [Act.put, List.setIfInBounds_toArray, List.set_cons_zero, List.set_cons_succ]
          refine s_val (.bool false) (by rfl) (fun w' _ => by rfl) ?_
          simp only [Act.put, List.setIfInBounds_toArray, List.set_cons_zero, List.set_cons_succ]
          refine s_done ?_
          intro w8 h8
          have G8 := Lib.hid h8.1
          have D8 := Lib.hid (D7.out.trans (h8.2.mono D7.out.size))
          clear h8
          go_wp2_with fail
          go_roundw
          case rel => exact ⟨i + 1, by go_num, by omega, Lib.hid G8.out.2, D8, HN⟩
          case measure => simp [intOf]; omega
      · have hnil : LL.drop i = [] := List.drop_eq_nil_of_le (by rw [← HNN.out]; omega)
        have HE : Hid (R = nullT) := Lib.hid (by rw [hFr.out, hnil]; rfl)
        clear hnil
        go_wp2_with (refine store23 rfl (.tmp 4) (.tmp 61) rfl (w.heap.size + 1) nullT rfl rfl _ hSr.out.2.1 ?_; intro wz hp; have HP := Lib.hid hp; clear hp)
        exact bodyPost_ret (ret23 rfl rfl HP.out.at') rfl ⟨by rw [HE.out], HP.out.low hSr.out.2.2 (by omega)⟩
end YtabojeleomfgnaaGreatDoor
end Go.Proofs
namespace Go.Proofs
open Go.RowKit
namespace YtabojeleomfgnaaGreatDoor
set_option maxRecDepth 100000
theorem guard_ne23 (x : V3) (u v : Operand) (w : World) : (eqGuard BinOp.neq 23 u v (toV x) (toV x)).run Tryz.prog w = .ok () w := by
  obtain ⟨k, n, s⟩ := x
  show (eqGuard BinOp.neq 23 u v (val k n s) (val k n s)).run Tryz.prog w = _
  go_simp
theorem bin_ne23 (x : V3) (w : World) : (binOp BinOp.neq 23 (toV x) (toV x)).run Tryz.prog w = .ok (.bool false) w := by
  obtain ⟨k, n, s⟩ := x
  show (binOp BinOp.neq 23 (val k n s) (val k n s)).run Tryz.prog w = _
  go_simp
theorem opne23 {a : Act} {o : Oper} {u v : Operand} {t : TypeId} (x : V3) (ho : o.op = .binOp .neq 23 u v t) (hu : a.eval u = toV x) (hv : a.eval v = toV x) (w : World) :
    (execOp a.eval o).run Tryz.prog w = .ok (.value (.bool false)) w := by
  unfold execOp
  simp only [ho, hu, hv]
  have h1 := guard_ne23 x u v w
  have h2 := bin_ne23 x w
  simp [go_sem, h1, h2]
theorem opne4 {a : Act} {o : Oper} {u v : Operand} {t : TypeId} (b : Bool) (ho : o.op = .binOp .neq 4 u v t) (hu : a.eval u = .bool b) (hv : a.eval v = .bool b) (w : World) :
    (execOp a.eval o).run Tryz.prog w = .ok (.value (.bool false)) w := by
  unfold execOp
  simp only [ho, hu, hv]
  cases b <;> go_simp
def Vb (x : V3) (w0 w : World) : Prop := w.heap[w0.heap.size]? = some (.cells (cells x) 23 (0, 0)) ∧ Below w0.heap.size w0 w
theorem Vb.below {x : V3} {w0 w w' : World} (h : Vb x w0 w) (hb : Below w.heap.size w w') : Vb x w0 w' := ⟨(hb.block _ (lt_of_block h.1)).trans h.1, below_call h.2 hb⟩
set_option maxHeartbeats 8000000 in
theorem law_casts (x : V3) (kind : Int) (hx : Sz x) (w : World) (hL : Lb w) (ho : Ops w) : Calls Tryz.prog 12 #[toV x, .int .i64 kind] w fun e w' => e = .returned (.bool true) ∧ Below w.heap.size w w' := by
  have HL := Lib.hid hL
  have HO := Lib.hid ho
  have C1 := Lib.hid (fun k w hw => cast_t x k hx w hw)
  have C2 : Hid (∀ k w, Lb w → Calls Tryz.prog 68 #[toV x, .int .i64 k] w fun e w' => e = .returned (toV (castT (clT x) k)) ∧ Below w.heap.size w w') := Lib.hid (fun k w hw => by rw [cast_casted (clT_right x) k]; exact casted_t x k hx w hw)
  have C3 := Lib.hid (fun a b w => can_t a b w)
  have C4 := Lib.hid (fun a b w => rcan_t a b w)
  clear hx hL ho
  generalize clT x = X at *
  obtain ⟨ka, na, sa⟩ := x
  change Calls Tryz.prog 12 #[val ka na sa, .int .i64 kind] w _
  have V0 : Hid (Vb (ka, na, sa) w (w.alloc (.cells #[.int .i64 ka, .int .i64 na, .string sa] 23))) := Lib.hid ⟨heap_alloc_new w _, by go_grown⟩
  go_enter Tryz.func12, Tryz.ntmps12
  go_wp2_with fail
  go_loopw [5] (fun i wr => ∃ u : Int, -1 ≤ u ∧ u ≤ 7 ∧ i = .int .i64 u ∧ Hid (Vb (ka, na, sa) w wr)) (fun i _ => (7 - intOf i).toNat)
  case atStart => exact ⟨-1, by omega, by omega, rfl, V0⟩
  case round =>
    obtain ⟨u, u1, u2, rfl, hV⟩ := hrel
    by_cases hlt : u < 7
    · have D1 := Lib.hid (C1.out u)
      have D2 := Lib.hid (C2.out u)
      have D3 := Lib.hid (C3.out u kind)
      have D4 := Lib.hid (C4.out u kind)
      have D5 := Lib.hid (C3.out kind u)
      have D6 := Lib.hid (C4.out kind u)
      generalize castT X u = R at D1 D2
      generalize canT u kind = p at D3 D4
      generalize canT kind u = q at D5 D6
      go_wp2_with fail
      refine region_all (Vb (ka, na, sa) w) (by kernel_rfl) (by kernel_rfl) ⟨hV.out.1, hV.out.2.drew⟩ ?_
      refine s_val (toV (ka, na, sa)) (by rfl) (run_load23 (.tmp 2) rfl (w.heap.size) _ rfl rfl (fun w h => h.1)) ?_
      simp only [Act.put, List.setIfInBounds_toArray, List.set_cons_zero, List.set_cons_succ]
      refine s_val (.int .i64 u) (by rfl) (fun w' _ => by rfl) ?_
      simp only [Act.put, List.setIfInBounds_toArray, List.set_cons_zero, List.set_cons_succ]
      refine s_call (toV R) 67 #[toV (ka, na, sa), .int .i64 u] (by rfl) (fun w => by go_simp) (fun w' h => (D1.out w' (HL.out.below h.2)).mono fun e x hx => ⟨hx.1, h.below hx.2⟩) ?_
      simp only [Act.put, List.setIfInBounds_toArray, List.set_cons_zero, List.set_cons_succ]
      refine s_val (toV (ka, na, sa)) (by rfl) (run_load23 (.tmp 2) rfl (w.heap.size) _ rfl rfl (fun w h => h.1)) ?_
      simp only [Act.put, List.setIfInBounds_toArray, List.set_cons_zero, List.set_cons_succ]
      refine s_val (.int .i64 u) (by rfl) (fun w' _ => by rfl) ?_
      simp only [Act.put, List.setIfInBounds_toArray, List.set_cons_zero, List.set_cons_succ]
      refine s_call (toV R) 68 #[toV (ka, na, sa), .int .i64 u] (by rfl) (fun w => by go_simp) (fun w' h => (D2.out w' (HL.out.below h.2)).mono fun e x hx => ⟨hx.1, h.below hx.2⟩) ?_
      simp only [Act.put, List.setIfInBounds_toArray, List.set_cons_zero, List.set_cons_succ]
      refine s_val (.bool false) (by rfl) (fun w' _ => opne23 R rfl rfl rfl w') ?_
      simp only [Act.put, List.setIfInBounds_toArray, List.set_cons_zero, List.set_cons_succ]
      refine s_val (.bool false) (by rfl) (fun w' _ => by rfl) ?_
      simp only [Act.put, List.setIfInBounds_toArray, List.set_cons_zero, List.set_cons_succ]
      refine s_val (.int .i64 u) (by rfl) (fun w' _ => by rfl) ?_
      simp only [Act.put, List.setIfInBounds_toArray, List.set_cons_zero, List.set_cons_succ]
      refine s_val (.int .i64 kind) (by rfl) (fun w' _ => by rfl) ?_
      simp only [Act.put, List.setIfInBounds_toArray, List.set_cons_zero, List.set_cons_succ]
      refine s_call (.bool p) 69 #[.int .i64 u, .int .i64 kind] (by rfl) (fun w => by go_simp) (fun w' h => (D3.out w').mono fun e x hx => ⟨hx.1, by rw [hx.2]; exact h⟩) ?_
      simp only [Act.put, List.setIfInBounds_toArray, List.set_cons_zero, List.set_cons_succ]
      refine s_val (.int .i64 u) (by rfl) (fun w' _ => by rfl) ?_
      simp only [Act.put, List.setIfInBounds_toArray, List.set_cons_zero, List.set_cons_succ]
      refine s_val (.int .i64 kind) (by rfl) (fun w' _ => by rfl) ?_
      simp only [Act.put, List.setIfInBounds_toArray, List.set_cons_zero, List.set_cons_succ]
      refine s_call (.bool p) 70 #[.int .i64 u, .int .i64 kind] (by rfl) (fun w => by go_simp) (fun w' h => (D4.out w').mono fun e x hx => ⟨hx.1, by rw [hx.2]; exact h⟩) ?_
      simp only [Act.put, List.setIfInBounds_toArray, List.set_cons_zero, List.set_cons_succ]
      refine s_val (.bool false) (by rfl) (fun w' _ => opne4 p rfl rfl rfl w') ?_
      simp only [Act.put, List.setIfInBounds_toArray, List.set_cons_zero, List.set_cons_succ]
      refine s_val (.bool false) (by rfl) (fun w' _ => by rfl) ?_
      simp only [Act.put, List.setIfInBounds_toArray, List.set_cons_zero, List.set_cons_succ]
      refine s_val (.bool false) (by rfl) (fun w' _ => by rfl) ?_
      simp only [Act.put, List.setIfInBounds_toArray, List.set_cons_zero, List.set_cons_succ]
      refine s_val (.int .i64 kind) (by rfl) (fun w' _ => by rfl) ?_
      simp only [Act.put, List.setIfInBounds_toArray, List.set_cons_zero, List.set_cons_succ]
      refine s_val (.int .i64 u) (by rfl) (fun w' _ => by rfl) ?_
      simp only [Act.put, List.setIfInBounds_toArray, List.set_cons_zero, List.set_cons_succ]
      refine s_call (.bool q) 69 #[.int .i64 kind, .int .i64 u] (by rfl) (fun w => by go_simp) (fun w' h => (D5.out w').mono fun e x hx => ⟨hx.1, by rw [hx.2]; exact h⟩) ?_
      simp only [Act.put, List.setIfInBounds_toArray, List.set_cons_zero, List.set_cons_succ]
      refine s_val (.int .i64 kind) (by rfl) (fun w' _ => by rfl) ?_
      simp only [Act.put, List.setIfInBounds_toArray, List.set_cons_zero, List.set_cons_succ]
      refine s_val (.int .i64 u) (by rfl) (fun w' _ => by rfl) ?_
      simp only [Act.put, List.setIfInBounds_toArray, List.set_cons_zero, List.set_cons_succ]
      refine s_call (.bool q) 70 #[.int .i64 kind, .int .i64 u] (by rfl) (fun w => by go_simp) (fun w' h => (D6.out w').mono fun e x hx => ⟨hx.1, by rw [hx.2]; exact h⟩) ?_
      simp only [Act.put, List.setIfInBounds_toArray, List.set_cons_zero, List.set_cons_succ]
      refine s_val (.bool false) (by rfl) (fun w' _ => opne4 q rfl rfl rfl w') ?_
      simp only [Act.put, List.setIfInBounds_toArray, List.set_cons_zero, List.set_cons_succ]
      refine s_val (.bool false) (by rfl) (fun w' _ => by rfl) ?_
      simp only [Act.put, List.setIfInBounds_toArray, List.set_cons_zero, List.set_cons_succ]
      refine s_done ?_
      intro w2 h2
      have V2 := Lib.hid h2
      clear h2
      go_wp2_with fail
      go_roundw
      case rel => exact ⟨u + 1, by omega, by omega, by go_num, V2⟩
      case measure => simp [intOf]; omega
    · have hu : u = 7 := by omega
      subst hu
      have D1 := Lib.hid (C1.out kind)
      have D2 := Lib.hid (C2.out kind)
      generalize castT X kind = R at D1 D2
      clear u1 u2 hlt C3 C4
      go_wp2_with fail
      refine region_all (Vb (ka, na, sa) w) (by kernel_rfl) (by kernel_rfl) ⟨hV.out.1, hV.out.2.drew⟩ ?_
      refine s_call (.bool true) 17 #[] (by rfl) (fun w => by go_simp) (fun w' h => (values_true w' (HO.out.below h.2)).mono fun e x hx => ⟨hx.1, h.below hx.2⟩) ?_
      simp only [Act.put, List.setIfInBounds_toArray, List.set_cons_zero, List.set_cons_succ]
      refine s_val (.bool true) (by rfl) (fun w' _ => by rfl) ?_
      simp only [Act.put, List.setIfInBounds_toArray, List.set_cons_zero, List.set_cons_succ]
      refine s_val (toV (ka, na, sa)) (by rfl) (run_load23 (.tmp 2) rfl (w.heap.size) _ rfl rfl (fun w h => h.1)) ?_
      simp only [Act.put, List.setIfInBounds_toArray, List.set_cons_zero, List.set_cons_succ]
      refine s_val (.int .i64 kind) (by rfl) (fun w' _ => by rfl) ?_
      simp only [Act.put, List.setIfInBounds_toArray, List.set_cons_zero, List.set_cons_succ]
      refine s_call (toV R) 67 #[toV (ka, na, sa), .int .i64 kind] (by rfl) (fun w => by go_simp) (fun w' h => (D1.out w' (HL.out.below h.2)).mono fun e x hx => ⟨hx.1, h.below hx.2⟩) ?_
      simp only [Act.put, List.setIfInBounds_toArray, List.set_cons_zero, List.set_cons_succ]
      refine s_val (toV (ka, na, sa)) (by rfl) (run_load23 (.tmp 2) rfl (w.heap.size) _ rfl rfl (fun w h => h.1)) ?_
      simp only [Act.put, List.setIfInBounds_toArray, List.set_cons_zero, List.set_cons_succ]
      refine s_val (.int .i64 kind) (by rfl) (fun w' _ => by rfl) ?_
      simp only [Act.put, List.setIfInBounds_toArray, List.set_cons_zero, List.set_cons_succ]
      refine s_call (toV R) 68 #[toV (ka, na, sa), .int .i64 kind] (by rfl) (fun w => by go_simp) (fun w' h => (D2.out w' (HL.out.below h.2)).mono fun e x hx => ⟨hx.1, h.below hx.2⟩) ?_
      simp only [Act.put, List.setIfInBounds_toArray, List.set_cons_zero, List.set_cons_succ]
      refine s_val (.bool true) (by rfl) (fun w' _ => (op_eq23 R R rfl rfl rfl w').trans (by simp)) ?_
      simp only [Act.put, List.setIfInBounds_toArray, List.set_cons_zero, List.set_cons_succ]
      refine s_val (.bool true) (by rfl) (fun w' _ => by rfl) ?_
      simp only [Act.put, List.setIfInBounds_toArray, List.set_cons_zero, List.set_cons_succ]
      refine s_val (.bool true) (by rfl) (fun w' _ => by rfl) ?_
      simp only [Act.put, List.setIfInBounds_toArray, List.set_cons_zero, List.set_cons_succ]
      refine s_done ?_
      intro w2 h2
      have V2 := Lib.hid h2
      clear h2
      go_wp2
      go_ret
      exact ⟨rfl, V2.out.2⟩
end YtabojeleomfgnaaGreatDoor
end Go.Proofs
namespace Go.Proofs
open Go.RowKit
namespace YtabojeleomfgnaaGreatDoor
set_option maxRecDepth 100000
theorem iface_one {H : Type} {enc : TypeId × Value → H} {P : Program} {w : World} {base : Nat} {sp : Nat → Bool} {held : Bool} {fuel : Nat} {t : TypeId} {ms : Array (String × TypeId)} {cs : List Value} {x : DataW H × List MemPlace}
    (ht : P.underlying t = some (.interface ms)) (h : DataW.trod enc P w base sp held fuel t cs = some x) : ∃ ev, cs = [ev] ∧ ErrV ev := by
  cases fuel with
  | zero => simp [DataW.trod] at h
  | succ n =>
    unfold DataW.trod at h
    rw [ht] at h
    split at h
    all_goals first
      | exact ⟨_, rfl, Or.inl rfl⟩
      | exact ⟨_, rfl, Or.inr ⟨_, _, rfl⟩⟩
      | simp_all
theorem gPow : Tryz.prog.globalNamed "internal/strconv.uint64pow10" = some 5 := by kernel_rfl
theorem tPow : (Tryz.prog.globals[5]?).map (·.type) = some 258 := by kernel_rfl
theorem uPow : Tryz.prog.underlying 258 = some (.array 20 37) := by kernel_rfl
theorem uU64 : Tryz.prog.underlying 37 = some (.int .u64) := by kernel_rfl
theorem cU64 : Tryz.prog.cellsOf 37 = 1 := by kernel_rfl
theorem cPow : Tryz.prog.cellsOf 258 = 20 := by kernel_rfl
theorem dPow : Rows.laid_internal_strconv_uint64pow10 (H := Unit) = Lib.tabData .u64 Lib.pow10Tab := by rfl
theorem gSyn : Tryz.prog.globalNamed "strconv.ErrSyntax" = some 3 := by kernel_rfl
theorem gRan : Tryz.prog.globalNamed "strconv.ErrRange" = some 4 := by kernel_rfl
theorem tSyn : (Tryz.prog.globals[3]?).map (·.type) = some 159 := by kernel_rfl
theorem tRan : (Tryz.prog.globals[4]?).map (·.type) = some 159 := by kernel_rfl
theorem err_cell {w : World} {nm : String} {d : DataW Unit} {g : Nat} (hg : Tryz.prog.globalNamed nm = some g) (ht : (Tryz.prog.globals[g]?).map (·.type) = some 159) (h : Lib.VarReads Tryz.prog w nm d) :
    ∃ ev, w.cell? ⟨g, 0, none⟩ = some ev ∧ ErrV ev := by
  obtain ⟨g', t', cs, fuel, p, hg', ht', hvar, hd⟩ := h
  obtain rfl := Option.some.inj (hg.symm.trans hg')
  obtain rfl := Option.some.inj (ht.symm.trans ht')
  obtain ⟨ev, hc, he⟩ := iface_one Tryz.underlying159 hd
  refine ⟨ev, (World.var?_cell hg hvar 0).trans ?_, he⟩
  rw [← Array.getElem?_toList, hc]; rfl
theorem lb_of_laid {w : World} (hL : laidMet Tryz.prog laidL w) (hsh : w.ShapedOpen Tryz.prog) : Lb w := by
  refine ⟨cell_of_shapedOpen_int hsh (g := 0) (t := 3) (zero := #[.int .i64 0]) (of_decide_eq_true (by kernel_rfl)) (by kernel_rfl) rfl (by kernel_rfl) (by kernel_rfl) Tryz.underlying3, ?_, ?_, ?_⟩
  · have hv : Lib.VarReads Tryz.prog w "internal/strconv.uint64pow10" Rows.laid_internal_strconv_uint64pow10 := Lib.laidMet.reads hL (.tail _ (.tail _ (.head _)))
    obtain ⟨g', t', cs, fuel, p, hg', ht', hvar, hd⟩ := hv
    obtain rfl := Option.some.inj (gPow.symm.trans hg')
    obtain rfl := Option.some.inj (tPow.symm.trans ht')
    rw [dPow] at hd
    have hc := Lib.cells_of_tab uPow uU64 cU64 cPow hd
    unfold Lib.TabIs
    rw [hvar, ← hc]
  · exact err_cell gSyn tSyn (Lib.laidMet.reads hL (.tail _ (.tail _ (.tail _ (.tail _ (.tail _ (.head _)))))) : Lib.VarReads Tryz.prog w "strconv.ErrSyntax" Rows.laid_strconv_ErrSyntax)
  · exact err_cell gRan tRan (Lib.laidMet.reads hL (.tail _ (.tail _ (.tail _ (.tail _ (.head _))))) : Lib.VarReads Tryz.prog w "strconv.ErrRange" Rows.laid_strconv_ErrRange)
end YtabojeleomfgnaaGreatDoor
end Go.Proofs
