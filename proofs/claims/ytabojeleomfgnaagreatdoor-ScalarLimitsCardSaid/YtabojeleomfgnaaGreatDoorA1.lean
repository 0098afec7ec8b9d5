/- Contracts of the small functions of package value and of the reference. -/
import Derived.Test.YtabojeleomfgnaaGreatDoorProg
import Derived.WalkKit
import Derived.Handy
import Derived.Outline
import Derived.Lib.ConvBytes
import Derived.Lib.Hide
import Derived.BigQuiet
import Derived.Deep.QuietTactic
namespace Go.Proofs
open Go.RowKit
namespace YtabojeleomfgnaaGreatDoor

theorem ret_bool {a b : Bool} (h : a = b) : Ending.returned (.bool a) = .returned (.bool b) := by rw [h]
theorem ret_int {k : IntKind} {a b : Int} (h : a = b) : Ending.returned (.int k a) = .returned (.int k b) := by rw [h]
theorem ret_str {a b : ByteArray} (h : a = b) : Ending.returned (.string a) = .returned (.string b) := by rw [h]
def kindB (k : Int) : Bool := decide (1 ≤ k ∧ k ≤ 4)
theorem isKind_any (k : Int) (w : World) : Calls Tryz.prog 90 #[.int .i64 k] w fun e w' => e = .returned (.bool (kindB k)) ∧ w = w' := by
  go_enter Tryz.func90, Tryz.ntmps90
  go_wp2
  all_goals (go_ret; exact ⟨by simp [kindB]; omega, rfl⟩)
def inB (x a b : Int) : Bool := decide (a ≤ x ∧ x ≤ b)
theorem within_any (x a b : Int) (w : World) : Calls Tryz.prog 194 #[.int .i64 x, .int .i64 a, .int .i64 b] w fun e w' => e = .returned (.bool (inB x a b)) ∧ w = w' := by
  go_enter Tryz.func194, Tryz.ntmps194
  go_wp2
  all_goals (go_ret; exact ⟨by simp [inB]; omega, rfl⟩)
theorem rwithin_any (x a b : Int) (w : World) : Calls Tryz.prog 132 #[.int .i64 x, .int .i64 a, .int .i64 b] w fun e w' => e = .returned (.bool (inB x a b)) ∧ w = w' := by
  go_enter Tryz.func132, Tryz.ntmps132
  go_wp2
  all_goals (go_ret; exact ⟨by simp [inB]; omega, rfl⟩)

abbrev val (k n : Int) (s : ByteArray) : Value := .agg #[.int .i64 k, .int .i64 n, .string s]
def formedB (k n : Int) (s : ByteArray) : Bool :=
  if k = 0 then (n == 0) && s.toList.isEmpty else if k = 1 ∨ k = 2 ∨ k = 4 then s.toList.isEmpty else if k = 3 then n == 0 else false
theorem formed_any (k n : Int) (s : ByteArray) (w : World) : Calls Tryz.prog 91 #[val k n s] w fun e w' => e = .returned (.bool (formedB k n s)) ∧ Below w.heap.size w w' := by
  go_enter Tryz.func91, Tryz.ntmps91
  go_wp2
  all_goals (go_ret; exact ⟨by simp_all [formedB], by go_grown⟩)
def okByte (c : UInt8) : Bool := decide (32 ≤ (c.toNat : Int) ∧ (c.toNat : Int) ≤ 126)
def allOk (s : ByteArray) : Bool := s.data.toList.all okByte
theorem take_snoc (s : ByteArray) (k : Nat) (h : k < s.size) : s.data.toList.take (k + 1) = s.data.toList.take k ++ [s[k]] := by
  rw [List.take_succ_eq_append_getElem (by simpa using h)]; rfl
theorem allOk_no (s : ByteArray) (k : Nat) (h : k < s.size) (hc : okByte s[k] = false) : allOk s = false := by
  unfold allOk
  rw [List.all_eq_false]
  exact ⟨s[k], by simp [ByteArray.getElem_eq_getElem_data], by simp [hc]⟩
theorem allOk_step (s : ByteArray) (k : Nat) (h : k < s.size) (hc : okByte s[k] = true) (ha : (s.data.toList.take k).all okByte = true) : (s.data.toList.take (k + 1)).all okByte = true := by
  rw [take_snoc s k h, List.all_append, ha]; simp [hc]
theorem allOk_end (s : ByteArray) (ha : (s.data.toList.take s.size).all okByte = true) : allOk s = true := by
  unfold allOk
  rwa [List.take_of_length_le (by simp)] at ha
theorem getD_at (s : ByteArray) (k : Nat) (h : k < s.size) : s.data.toList.getD k 0 = s[k] := by
  simp [List.getD, ByteArray.getElem_eq_getElem_data, h]
theorem okByte_of (c : UInt8) (h1 : ¬ ((c.toNat : Int) < 32)) (h2 : ¬ (126 < (c.toNat : Int))) : okByte c = true := by simp [okByte]; omega
theorem below_bytes (w : World) (e : TypeId) (s : ByteArray) : Below w.heap.size w (Lib.bytesWorld w e s) :=
  ⟨rfl, rfl, rfl, by rw [Lib.bytesWorld_size]; omega, fun k hk => Lib.bytesWorld_at_old w e s k hk⟩
theorem plain_any (s : ByteArray) (hs : s.size ≤ maxLen) (w : World) : Calls Tryz.prog 229 #[.string s] w fun e w' => e = .returned (.bool (allOk s)) ∧ Below w.heap.size w w' := by
  unfold maxLen at hs
  have hcv := Lib.run_convert_string_bytes (P := Tryz.prog) w 9 32 5 s Tryz.underlying9 Tryz.underlying32 Tryz.underlying5
  have hB : ∀ j, j < s.size → (Lib.bytesWorld w 5 s).cell? ⟨w.heap.size, j, none⟩ = some (.int .u8 (s.data.toList.getD j 0).toNat) := fun j hj => Lib.bytesWorld_cell w 5 s j hj
  have hb : Below w.heap.size w (Lib.bytesWorld w 5 s) := below_bytes w 5 s
  obtain ⟨W1, hW1⟩ : ∃ W1, W1 = Lib.bytesWorld w 5 s := ⟨_, rfl⟩
  rw [← hW1] at hcv hB hb
  clear hW1
  have HB := Lib.hid hB
  clear hB
  go_enter Tryz.func229, Tryz.ntmps229
  go_wp2
  go_loop [8] (fun i => ∃ k : Nat, k ≤ s.size ∧ i = .int .i64 k ∧ Hid ((s.data.toList.take k).all okByte = true)) (fun i => s.size - (intOf i).toNat)
  case atStart => exact ⟨0, by omega, rfl, by simp [Hid]⟩
  case round =>
    obtain ⟨k, hk, rfl, ha⟩ := hrel
    by_cases hlt : k < s.size
    · have hc := HB.out k hlt
      rw [getD_at s k hlt] at hc
      have hno := Lib.hid (allOk_no s k hlt)
      have hyes := Lib.hid (allOk_step s k hlt)
      generalize s[k] = c at hc hno hyes
      have hc256 : c.toNat < 256 := c.toNat_lt
      by_cases h1 : (c.toNat : Int) < 32
      · go_wp2
        go_ret
        exact ⟨ret_bool (hno.out (by simp [okByte]; omega)).symm, hb⟩
      · by_cases h2 : (126 : Int) < c.toNat
        · go_wp2
          go_ret
          exact ⟨ret_bool (hno.out (by simp [okByte]; omega)).symm, hb⟩
        · go_wp2
          exact ⟨⟨k + 1, by omega, by go_num, hyes.out (okByte_of c h1 h2) ha.out⟩, by simp [intOf]; omega⟩
    · have hks : k = s.size := by omega
      have hfin := Lib.hid (allOk_end s (by rw [← hks]; exact ha.out))
      clear hks
      go_wp2
      go_ret
      exact ⟨ret_bool hfin.out.symm, hb⟩
def inRangeB (k n : Int) (s : ByteArray) : Bool :=
  if k = 1 then decide (n = 0 ∨ n = 1) else if k = 2 then inB n (-999999999999999) 999999999999999 else if k = 4 then inB n 0 253402300799 else allOk s
theorem inRange_any (k n : Int) (s : ByteArray) (hs : s.size ≤ maxLen) (w : World) : Calls Tryz.prog 92 #[val k n s] w fun e w' => e = .returned (.bool (inRangeB k n s)) ∧ Below w.heap.size w w' := by
  unfold maxLen at hs
  go_enter Tryz.func92, Tryz.ntmps92
  go_wp2
  all_goals (try (go_ret; exact ⟨ret_bool (by simp_all [inRangeB, inB] <;> first | omega | (rw [Bool.eq_iff_iff]; simp; omega)), by go_grown⟩))
  go_loop [39] (fun i => ∃ k : Nat, k ≤ s.size ∧ i = .int .i64 k ∧ Hid ((s.data.toList.take k).all okByte = true)) (fun i => s.size - (intOf i).toNat)
  case atStart => exact ⟨0, by omega, rfl, by simp [Hid]⟩
  case round =>
    obtain ⟨j, hk, rfl, ha⟩ := hrel
    by_cases hlt : j < s.size
    · have hno := Lib.hid (allOk_no s j hlt)
      have hyes := Lib.hid (allOk_step s j hlt)
      have hc256 : s[j].toNat < 256 := s[j].toNat_lt
      by_cases h1 : (s[j].toNat : Int) < 32
      · go_wp2
        go_ret
        exact ⟨ret_bool (by simp_all [inRangeB]; exact hno.out (by simp [okByte]; omega)), by go_grown⟩
      · by_cases h2 : (126 : Int) < s[j].toNat
        · go_wp2
          go_ret
          exact ⟨ret_bool (by simp_all [inRangeB]; exact hno.out (by simp [okByte]; omega)), by go_grown⟩
        · go_wp2
          exact ⟨⟨j + 1, by omega, by go_num, hyes.out (okByte_of s[j] h1 h2) ha.out⟩, by simp [intOf]; omega⟩
    · have hks : j = s.size := by omega
      have hfin := Lib.hid (allOk_end s (by rw [← hks]; exact ha.out))
      clear hks
      go_wp2
      go_ret
      exact ⟨ret_bool (by simp_all [inRangeB]; exact hfin.out), by go_grown⟩

/-- a value is right -/
def rightB (k n : Int) (s : ByteArray) : Bool := formedB k n s && (decide (s.size ≤ 100) && inRangeB k n s)
/-- what clean gives -/
def cl (k n : Int) (s : ByteArray) : Value := if rightB k n s = true then val k n s else val 0 0 ByteArray.empty
theorem bcell {W w1 : World} (hb : Below W.heap.size W w1) : (∀ b o, b < W.heap.size → w1.cell? ⟨b, o, none⟩ = W.cell? ⟨b, o, none⟩) ∧ (∀ b o, b < W.heap.size → w1.frozen? ⟨b, o, none⟩ = W.frozen? ⟨b, o, none⟩) :=
  ⟨fun b o h => hb.cell (p := ⟨b, o, none⟩) h, fun b o h => hb.frozen (p := ⟨b, o, none⟩) h⟩
theorem cl_val (k n : Int) (s : ByteArray) (h : rightB k n s = true) : cl k n s = val k n s := by unfold cl; rw [if_pos h]
theorem cl_no (k n : Int) (s : ByteArray) (h : rightB k n s = false) : cl k n s = val 0 0 ByteArray.empty := by unfold cl; rw [if_neg (by simp [h])]
theorem below_call {w W w1 : World} (h : Below w.heap.size w W) (hb : Below W.heap.size W w1) : Below w.heap.size w w1 := h.trans (hb.mono h.size)
theorem clean_any (k n : Int) (s : ByteArray) (hs : s.size ≤ maxLen) (w : World) : Calls Tryz.prog 94 #[val k n s] w fun e w' => e = .returned (cl k n s) ∧ Below w.heap.size w w' := by
  have hs' := hs
  cases h1 : formedB k n s with
  | false =>
    have hc0 := Lib.hid (cl_no k n s (by simp [rightB, h1]))
    unfold maxLen at hs
    go_enter Tryz.func94, Tryz.ntmps94
    go_wp2_with fail
    refine (formed_any _ _ _ _).mono ?_
    rintro e w1 ⟨rfl, hb1⟩
    obtain ⟨hc1, hf1⟩ := bcell hb1
    have hz1_0 : w.heap.size < w1.heap.size := by have := hb1.size; (try simp at this); omega
    have hz1_1 : w.heap.size + 1 < w1.heap.size := by have := hb1.size; (try simp at this); omega
    go_wp2
    exact bodyPost_ret (v := val 0 0 ByteArray.empty) (by simp [results, Tryz.results94, go_sem, hc1]; try rfl) rfl ⟨by rw [hc0.out], by go_grown; exact (below_call (by go_grown) hb1)⟩
  | true =>
    by_cases h2 : s.size ≤ 100
    · cases h3 : inRangeB k n s with
      | false =>
        have hc0 := Lib.hid (cl_no k n s (by simp [rightB, h3]))
        unfold maxLen at hs
        go_enter Tryz.func94, Tryz.ntmps94
        go_wp2_with fail
        refine (formed_any _ _ _ _).mono ?_
        rintro e w1 ⟨rfl, hb1⟩
        obtain ⟨hc1, hf1⟩ := bcell hb1
        have hz1_0 : w.heap.size < w1.heap.size := by have := hb1.size; (try simp at this); omega
        have hz1_1 : w.heap.size + 1 < w1.heap.size := by have := hb1.size; (try simp at this); omega
        go_wp2_with fail
        refine (inRange_any _ _ _ hs' _).mono ?_
        rintro e w2 ⟨rfl, hb2⟩
        obtain ⟨hc2, hf2⟩ := bcell hb2
        have hz2_0 : w.heap.size < w2.heap.size := by have := hb2.size; (try simp at this); omega
        have hz2_1 : w.heap.size + 1 < w2.heap.size := by have := hb2.size; (try simp at this); omega
        go_wp2
        exact bodyPost_ret (v := val 0 0 ByteArray.empty) (by simp [results, Tryz.results94, go_sem, hc1, hz1_1, hc2]; try rfl) rfl ⟨by rw [hc0.out], by go_grown; exact (below_call (below_call (by go_grown) hb1) hb2)⟩
      | true =>
        have hc0 := Lib.hid (cl_val k n s (by simp [rightB, h1, h2, h3]))
        unfold maxLen at hs
        go_enter Tryz.func94, Tryz.ntmps94
        go_wp2_with fail
        refine (formed_any _ _ _ _).mono ?_
        rintro e w1 ⟨rfl, hb1⟩
        obtain ⟨hc1, hf1⟩ := bcell hb1
        have hz1_0 : w.heap.size < w1.heap.size := by have := hb1.size; (try simp at this); omega
        have hz1_1 : w.heap.size + 1 < w1.heap.size := by have := hb1.size; (try simp at this); omega
        go_wp2_with fail
        refine (inRange_any _ _ _ hs' _).mono ?_
        rintro e w2 ⟨rfl, hb2⟩
        obtain ⟨hc2, hf2⟩ := bcell hb2
        have hz2_0 : w.heap.size < w2.heap.size := by have := hb2.size; (try simp at this); omega
        have hz2_1 : w.heap.size + 1 < w2.heap.size := by have := hb2.size; (try simp at this); omega
        go_wp2
        exact bodyPost_ret (v := val k n s) (by simp [results, Tryz.results94, go_sem, hc1, hz1_1, hc2]; try rfl) rfl ⟨by rw [hc0.out], by go_grown; exact (below_call (below_call (by go_grown) hb1) hb2)⟩
    · have hc0 := Lib.hid (cl_no k n s (by simp [rightB, h2]))
      unfold maxLen at hs
      go_enter Tryz.func94, Tryz.ntmps94
      go_wp2_with fail
      refine (formed_any _ _ _ _).mono ?_
      rintro e w1 ⟨rfl, hb1⟩
      obtain ⟨hc1, hf1⟩ := bcell hb1
      have hz1_0 : w.heap.size < w1.heap.size := by have := hb1.size; (try simp at this); omega
      have hz1_1 : w.heap.size + 1 < w1.heap.size := by have := hb1.size; (try simp at this); omega
      go_wp2
      exact bodyPost_ret (v := val 0 0 ByteArray.empty) (by simp [results, Tryz.results94, go_sem, hc1]; try rfl) rfl ⟨by rw [hc0.out], by go_grown; exact (below_call (by go_grown) hb1)⟩
end YtabojeleomfgnaaGreatDoor
end Go.Proofs
