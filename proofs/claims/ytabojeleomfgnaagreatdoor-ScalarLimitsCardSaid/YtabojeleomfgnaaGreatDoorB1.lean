/- The reader of expressions: take, takeByte, wordEnd. -/
import Derived.Test.YtabojeleomfgnaaGreatDoorA5
import Derived.OneCell
import Derived.WalkSpells
namespace Go.Proofs
open Go.RowKit
namespace YtabojeleomfgnaaGreatDoor
/-- a reader at block p whose rest is s -/
def Rd (w : World) (p : Nat) (s : ByteArray) : Prop := w.heap[p]? = some (.cells #[.string s] 150 (0, 0))
/-- nothing that was there has changed but block p -/
structure Keeps (p : Nat) (w w' : World) : Prop where
  os : w'.os = w.os
  tape : w'.tape = w.tape
  output : w'.output = w.output
  size : w.heap.size ≤ w'.heap.size
  block : ∀ k, k < w.heap.size → k ≠ p → w'.heap[k]? = w.heap[k]?
theorem Keeps.refl (p : Nat) (w : World) : Keeps p w w := ⟨rfl, rfl, rfl, Nat.le_refl _, fun _ _ _ => rfl⟩
theorem Keeps.trans {p : Nat} {a b c : World} (h : Keeps p a b) (k : Keeps p b c) : Keeps p a c :=
  ⟨k.os.trans h.os, k.tape.trans h.tape, k.output.trans h.output, Nat.le_trans h.size k.size, fun i hi hp => (k.block i (Nat.lt_of_lt_of_le hi h.size) hp).trans (h.block i hi hp)⟩
theorem Keeps.of_below {p : Nat} {w w' : World} (h : Below w.heap.size w w') : Keeps p w w' := ⟨h.os, h.tape, h.output, h.size, fun k hk _ => h.block k hk⟩
theorem keeps_set (p : Nat) (v : Value) (w : World) : Keeps p w (w.setCell ⟨p, 0, none⟩ v) := by
  refine ⟨?_, ?_, ?_, ?_, fun k hk hp => Below.heap_setCell w _ _ k hp⟩
  · simp [World.setCell]
  · simp [World.setCell]
  · simp [World.setCell]
  · simp
theorem kcell {p : Nat} {W w1 : World} (hb : Keeps p W w1) : (∀ b o, b < W.heap.size → b ≠ p → w1.cell? ⟨b, o, none⟩ = W.cell? ⟨b, o, none⟩) ∧ (∀ b o, b < W.heap.size → b ≠ p → w1.frozen? ⟨b, o, none⟩ = W.frozen? ⟨b, o, none⟩) :=
  ⟨fun b _ h h2 => World.cell?_of_block (w := W) (hb.block b h h2), fun b _ h h2 => World.frozen?_of_block (w := W) (hb.block b h h2)⟩
theorem take_any (p : Nat) (s : ByteArray) (k : Nat) (w : World) (hr : Rd w p s) (hk : k ≤ s.size) :
    Calls Tryz.prog 266 #[.pointer (some ⟨p, 0, none⟩), .int .i64 k] w fun e w' => e = .returned (.string (s.extract 0 k)) ∧ Rd w' p (s.extract k s.size) ∧ Keeps p w w' := by
  have hc := cell_of_one hr
  have hf := free_of_one hr
  have hr2 := Lib.hid hr
  clear hr
  go_enter Tryz.func266, Tryz.ntmps266
  go_wp2
  go_ret
  exact ⟨rfl, one_setCell hr2.out, keeps_set p _ w⟩
theorem takeByte_no (p : Nat) (s : ByteArray) (c : Int) (w : World) (hr : Rd w p s) (h : s.toList.isEmpty = true) :
    Calls Tryz.prog 264 #[.pointer (some ⟨p, 0, none⟩), .int .u8 c] w fun e w' => e = .returned (.bool false) ∧ w = w' := by
  have hc := cell_of_one hr
  have hf := free_of_one hr
  unfold Rd at hr
  clear hr
  go_enter Tryz.func264, Tryz.ntmps264
  go_wp2
  go_ret
  exact ⟨rfl, rfl⟩
theorem takeByte_other (p : Nat) (s : ByteArray) (c : Int) (w : World) (hr : Rd w p s) (h : s.toList.isEmpty = false) (h0 : 0 < s.size) (hb : ((s[0].toNat : Int) != c) = true) :
    Calls Tryz.prog 264 #[.pointer (some ⟨p, 0, none⟩), .int .u8 c] w fun e w' => e = .returned (.bool false) ∧ w = w' := by
  have hc := cell_of_one hr
  have hf := free_of_one hr
  unfold Rd at hr
  clear hr
  go_enter Tryz.func264, Tryz.ntmps264
  go_wp2
  go_ret
  exact ⟨rfl, rfl⟩
theorem takeByte_yes (p : Nat) (s : ByteArray) (c : Int) (w : World) (hr : Rd w p s) (h : s.toList.isEmpty = false) (h0 : 0 < s.size) (hb : ((s[0].toNat : Int) != c) = false) :
    Calls Tryz.prog 264 #[.pointer (some ⟨p, 0, none⟩), .int .u8 c] w fun e w' => e = .returned (.bool true) ∧ Rd w' p (s.extract 1 s.size) ∧ Keeps p w w' := by
  have hc := cell_of_one hr
  have hf := free_of_one hr
  have T := take_any p s 1 w hr (by omega)
  go_enter Tryz.func264, Tryz.ntmps264
  go_wp2_with fail
  refine T.mono ?_
  rintro e w1 ⟨rfl, hr1, hk1⟩
  have HR := Lib.hid hr1
  clear hr1 hr
  go_wp2
  go_ret
  exact ⟨rfl, HR.out, hk1⟩
def wordB (c : UInt8) : Bool := decide ((97 ≤ (c.toNat : Int) ∧ (c.toNat : Int) ≤ 122) ∨ (48 ≤ (c.toNat : Int) ∧ (c.toNat : Int) ≤ 57) ∨ (c.toNat : Int) = 95 ∨ (c.toNat : Int) = 46)
def we (s : ByteArray) : Nat := (s.data.toList.takeWhile wordB).length
theorem wordB_no (c : UInt8) (h : ¬ ((97 ≤ (c.toNat : Int) ∧ (c.toNat : Int) ≤ 122) ∨ (48 ≤ (c.toNat : Int) ∧ (c.toNat : Int) ≤ 57) ∨ (c.toNat : Int) = 95 ∨ (c.toNat : Int) = 46)) : wordB c = false := by
  simpa [wordB] using h
theorem wordB_yes (c : UInt8) (h : (97 ≤ (c.toNat : Int) ∧ (c.toNat : Int) ≤ 122) ∨ (48 ≤ (c.toNat : Int) ∧ (c.toNat : Int) ≤ 57) ∨ (c.toNat : Int) = 95 ∨ (c.toNat : Int) = 46) : wordB c = true := by
  simpa [wordB] using h
theorem takeWhile_stop (l : List UInt8) (f : UInt8 → Bool) (k : Nat) (hk : k < l.length) (ha : (l.take k).all f = true) (hn : f l[k] = false) : (l.takeWhile f).length = k := by
  have e : l = l.take k ++ l[k] :: l.drop (k + 1) := by rw [← List.drop_eq_getElem_cons hk, List.take_append_drop]
  rw [e, List.takeWhile_append_of_pos (by simpa using ha), List.takeWhile_cons_of_neg (by simp [hn])]
  simp; omega
theorem takeWhile_all (l : List UInt8) (f : UInt8 → Bool) (ha : l.all f = true) : (l.takeWhile f).length = l.length := by
  have h := List.takeWhile_append_of_pos (p := f) (l₁ := l) (l₂ := []) (by simpa using ha)
  simp at h
  rw [h]
theorem wordEnd_any (s : ByteArray) (hs : s.size ≤ maxLen) (w : World) : Calls Tryz.prog 262 #[.string s] w fun e w' => e = .returned (.int .i64 (we s)) ∧ w = w' := by
  unfold maxLen at hs
  go_enter Tryz.func262, Tryz.ntmps262
  go_wp2
  go_loop [7] (fun i => ∃ k : Nat, k ≤ s.size ∧ i = .int .i64 k ∧ Hid ((s.data.toList.take k).all wordB = true)) (fun i => s.size - (intOf i).toNat)
  case atStart => exact ⟨0, by omega, rfl, by simp [Hid]⟩
  case round =>
    obtain ⟨j, hk, rfl, ha⟩ := hrel
    by_cases hlt : j < s.size
    · have hstop : wordB s[j] = false → Hid (we s = j) := fun h => takeWhile_stop s.data.toList wordB j (by simpa using hlt) ha.out h
      have hgo : wordB s[j] = true → Hid ((s.data.toList.take (j + 1)).all wordB = true) := fun h => by
        rw [take_snoc s j hlt, List.all_append, ha.out]; simp [Hid, h]
      have Hs := Lib.hid hstop
      have Hg := Lib.hid hgo
      clear hstop hgo
      have hc256 : s[j].toNat < 256 := s[j].toNat_lt
      by_cases h1 : (s[j].toNat : Int) < 97
      · by_cases h3 : (s[j].toNat : Int) < 48
        · by_cases h5 : (s[j].toNat : Int) = 95
          · have e95 : ((s[j].toNat : Int) != 95) = false := by rw [h5]; rfl
            have y := Hg.out (wordB_yes _ (Or.inr (Or.inr (Or.inl h5))))
            clear h5
            go_wp2
            exact ⟨⟨j + 1, by omega, by go_num, y.out⟩, by simp [intOf]; omega⟩
          · have e95 : ((s[j].toNat : Int) != 95) = true := by rw [bne_iff_ne]; omega
            by_cases h6 : (s[j].toNat : Int) = 46
            · have e46 : ((s[j].toNat : Int) != 46) = false := by rw [h6]; rfl
              have y := Hg.out (wordB_yes _ (Or.inr (Or.inr (Or.inr h6))))
              clear h6
              go_wp2
              exact ⟨⟨j + 1, by omega, by go_num, y.out⟩, by simp [intOf]; omega⟩
            · have e46 : ((s[j].toNat : Int) != 46) = true := by rw [bne_iff_ne]; omega
              have HW := (Hs.out (wordB_no _ (by omega)))
              clear h5 h6
              go_wp2
              go_ret
              exact ⟨ret_int (by rw [HW.out]), rfl⟩
        · by_cases h4 : (57 : Int) < s[j].toNat
          · by_cases h5 : (s[j].toNat : Int) = 95
            · have e95 : ((s[j].toNat : Int) != 95) = false := by rw [h5]; rfl
              have y := Hg.out (wordB_yes _ (Or.inr (Or.inr (Or.inl h5))))
              clear h5
              go_wp2
              exact ⟨⟨j + 1, by omega, by go_num, y.out⟩, by simp [intOf]; omega⟩
            · have e95 : ((s[j].toNat : Int) != 95) = true := by rw [bne_iff_ne]; omega
              by_cases h6 : (s[j].toNat : Int) = 46
              · have e46 : ((s[j].toNat : Int) != 46) = false := by rw [h6]; rfl
                have y := Hg.out (wordB_yes _ (Or.inr (Or.inr (Or.inr h6))))
                clear h6
                go_wp2
                exact ⟨⟨j + 1, by omega, by go_num, y.out⟩, by simp [intOf]; omega⟩
              · have e46 : ((s[j].toNat : Int) != 46) = true := by rw [bne_iff_ne]; omega
                have HW := (Hs.out (wordB_no _ (by omega)))
                clear h5 h6
                go_wp2
                go_ret
                exact ⟨ret_int (by rw [HW.out]), rfl⟩
          · go_wp2
            exact ⟨⟨j + 1, by omega, by go_num, (Hg.out (wordB_yes _ (by omega))).out⟩, by simp [intOf]; omega⟩
      · by_cases h2 : (122 : Int) < s[j].toNat
        · have h3 : ¬ (s[j].toNat : Int) < 48 := by omega
          have h4 : (57 : Int) < s[j].toNat := by omega
          by_cases h5 : (s[j].toNat : Int) = 95
          · have e95 : ((s[j].toNat : Int) != 95) = false := by rw [h5]; rfl
            have y := Hg.out (wordB_yes _ (Or.inr (Or.inr (Or.inl h5))))
            clear h5
            go_wp2
            exact ⟨⟨j + 1, by omega, by go_num, y.out⟩, by simp [intOf]; omega⟩
          · have e95 : ((s[j].toNat : Int) != 95) = true := by rw [bne_iff_ne]; omega
            by_cases h6 : (s[j].toNat : Int) = 46
            · have e46 : ((s[j].toNat : Int) != 46) = false := by rw [h6]; rfl
              have y := Hg.out (wordB_yes _ (Or.inr (Or.inr (Or.inr h6))))
              clear h6
              go_wp2
              exact ⟨⟨j + 1, by omega, by go_num, y.out⟩, by simp [intOf]; omega⟩
            · have e46 : ((s[j].toNat : Int) != 46) = true := by rw [bne_iff_ne]; omega
              have HW := (Hs.out (wordB_no _ (by omega)))
              clear h5 h6
              go_wp2
              go_ret
              exact ⟨ret_int (by rw [HW.out]), rfl⟩
        · go_wp2
          exact ⟨⟨j + 1, by omega, by go_num, (Hg.out (wordB_yes _ (by omega))).out⟩, by simp [intOf]; omega⟩
    · have hks : j = s.size := by omega
      have hfin : we s = s.size := by
        have := takeWhile_all s.data.toList wordB (by have h := ha.out; rw [hks, List.take_of_length_le (by simp)] at h; exact h)
        simpa [we] using this
      have HF := Lib.hid hfin
      clear hks hfin
      go_wp2
      go_ret
      exact ⟨ret_int (by rw [HF.out]), rfl⟩
end YtabojeleomfgnaaGreatDoor
end Go.Proofs
