/- strings.ToLower and strings.ToUpper, of bytes below 128. -/
import Derived.Test.YtabojeleomfgnaaGreatDoorI1
import Derived.Test.YtabojeleomfgnaaGreatDoorSh3
namespace Go.Proofs
open Go.RowKit
namespace YtabojeleomfgnaaGreatDoor
set_option maxRecDepth 100000
def capB (lo : Nat) (c : UInt8) : Bool := decide (lo ≤ c.toNat) && decide (c.toNat ≤ lo + 25)
def lowB (c : UInt8) : UInt8 := if capB 65 c = true then c + 32 else c
def upB (c : UInt8) : UInt8 := if capB 97 c = true then c - 32 else c
def mapT (f : UInt8 → UInt8) (s : ByteArray) : ByteArray := ⟨(s.data.toList.map f).toArray⟩
theorem low_yes (c : UInt8) (h1 : (65 : Int) ≤ c.toNat) (h2 : (c.toNat : Int) ≤ 90) : ((lowB c).toNat : Int) = c.toNat + 32 := by
  have h : capB 65 c = true := by simp [capB]; omega
  unfold lowB
  rw [if_pos h, UInt8.toNat_add]
  simp
  omega
theorem low_no (c : UInt8) (h : ¬ ((65 : Int) ≤ c.toNat ∧ (c.toNat : Int) ≤ 90)) : lowB c = c := by
  have h : capB 65 c = false := by simp [capB]; omega
  unfold lowB
  rw [h]; rfl
theorem up_yes (c : UInt8) (h1 : (97 : Int) ≤ c.toNat) (h2 : (c.toNat : Int) ≤ 122) : ((upB c).toNat : Int) = c.toNat - 32 := by
  have h : capB 97 c = true := by simp [capB]; omega
  unfold upB
  rw [if_pos h, UInt8.toNat_sub]
  simp
  omega
theorem up_no (c : UInt8) (h : ¬ ((97 : Int) ≤ c.toNat ∧ (c.toNat : Int) ≤ 122)) : upB c = c := by
  have h : capB 97 c = false := by simp [capB]; omega
  unfold upB
  rw [h]; rfl
theorem cap_yes (lo : Nat) (c : UInt8) (h1 : (lo : Int) ≤ c.toNat) (h2 : (c.toNat : Int) ≤ lo + 25) : capB lo c = true := by simp [capB]; omega
theorem cap_no (lo : Nat) (c : UInt8) (h : ¬ ((lo : Int) ≤ c.toNat ∧ (c.toNat : Int) ≤ lo + 25)) : capB lo c = false := by simp [capB]; omega
theorem any_step (s : ByteArray) (p : UInt8 → Bool) (k : Nat) (h : k < s.size) : (s.data.toList.take (k + 1)).any p = ((s.data.toList.take k).any p || p s[k]) := by
  rw [take_snoc s k h, List.any_append]; simp
theorem any_full (s : ByteArray) (p : UInt8 → Bool) : (s.data.toList.take s.size).any p = s.data.toList.any p := by
  rw [List.take_of_length_le (by simp)]
theorem map_none (s : ByteArray) (f : UInt8 → UInt8) (p : UInt8 → Bool) (hf : ∀ c, p c = false → f c = c) (h : s.data.toList.any p = false) : mapT f s = s := by
  unfold mapT
  rw [List.any_eq_false] at h
  have : s.data.toList.map f = s.data.toList := by
    conv => rhs; rw [← List.map_id s.data.toList]
    exact List.map_congr_left fun c hc => hf c (by simpa using h c hc)
  rw [this]
theorem map_size (s : ByteArray) (f : UInt8 → UInt8) : (mapT f s).size = s.size := by unfold mapT; show (List.toArray _).size = _; simp
/-- the bytes behind m, up to k, that the map leaves as they are -/
theorem run_map (l : List UInt8) (f : UInt8 → UInt8) (m k : Nat) (hm : m ≤ k) (hk : k ≤ l.length) (h : ∀ j, (hj : j < l.length) → m ≤ j → j < k → f l[j] = l[j]) : (l.take m).map f ++ (l.take k).drop m = (l.take k).map f := by
  have e : l.take k = l.take m ++ (l.take k).drop m := by
    conv => lhs; rw [← List.take_append_drop m (l.take k), List.take_take, Nat.min_eq_left hm]
  conv => rhs; rw [e, List.map_append]
  congr 1
  refine List.ext_getElem (by simp) fun i h1 h2 => ?_
  have h3 : m + i < k := by simp at h1; omega
  simp only [List.getElem_map, List.getElem_drop, List.getElem_take]
  exact (h (m + i) (by omega) (by omega) h3).symm
theorem snoc_map (s : ByteArray) (f : UInt8 → UInt8) (k : Nat) (h : k < s.size) : (s.data.toList.take (k + 1)).map f = (s.data.toList.take k).map f ++ [f s[k]] := by
  rw [take_snoc s k h, List.map_append]; rfl
theorem ext_list (s : ByteArray) (m k : Nat) : (s.extract m k).data.toList = (s.data.toList.take k).drop m := by
  rw [ByteArray.data_extract]; simp [List.drop_take]
theorem cells_run (s : ByteArray) (f : UInt8 → UInt8) (m k : Nat) (hm : m ≤ k) (hk : k ≤ s.size) (h : ∀ j, (hj : j < s.data.toList.length) → m ≤ j → j < k → f s.data.toList[j] = s.data.toList[j]) :
    Lib.byteCells ((s.data.toList.take m).map f) ++ Lib.strCells (s.extract m k) = Lib.byteCells ((s.data.toList.take k).map f) := by
  rw [Lib.strCells_eq, ← Lib.byteCells_append, ext_list, run_map _ f m k hm (by simpa using hk) h]
theorem cells_snoc (s : ByteArray) (f : UInt8 → UInt8) (k : Nat) (h : k < s.size) : Lib.byteCells ((s.data.toList.take k).map f) ++ [.int .u8 (f s[k]).toNat] = Lib.byteCells ((s.data.toList.take (k + 1)).map f) := by
  rw [snoc_map s f k h, Lib.byteCells_append]; rfl
set_option maxHeartbeats 2000000 in
theorem lower_t (s : ByteArray) (hs : s.size ≤ 100) (ha : ∀ k (h : k < s.size), s[k].toNat < 128) (w : World) :
    Calls Tryz.prog 126 #[.string s] w fun e w' => e = .returned (.string (mapT lowB s)) ∧ Below w.heap.size w w' := by
  have HA := Lib.hid ha
  clear ha
  go_enter Tryz.func126, Tryz.ntmps126
  go_wp2
  go_loop [3, 4, 5] (fun q h i => ∃ (k : Nat) (b : Bool), k ≤ s.size ∧ i = .int .i64 k ∧ h = .bool b ∧ q = .bool true ∧ Hid (b = (s.data.toList.take k).any (capB 65))) (fun _ _ i => s.size - (intOf i).toNat)
  case atStart => exact ⟨0, false, by omega, rfl, rfl, rfl, Lib.hid (by simp)⟩
  case round =>
    obtain ⟨k, b, hk, rfl, rfl, rfl, hb⟩ := hrel
    by_cases hlt : k < s.size
    · have h128 := HA.out k hlt
      have hst := Lib.hid (any_step s (capB 65) k hlt)
      by_cases h1 : (65 : Int) ≤ s[k].toNat
      · by_cases h2 : (s[k].toNat : Int) ≤ 90
        · have hcap := Lib.hid (cap_yes 65 s[k] h1 (by omega))
          cases b with
          | true =>
            go_wp2
            exact ⟨⟨k + 1, true, by omega, by go_num, rfl, rfl, Lib.hid (by rw [hst.out, ← hb.out]; rfl)⟩, by simp [intOf]; omega⟩
          | false =>
            go_wp2
            exact ⟨⟨k + 1, true, by omega, by go_num, rfl, rfl, Lib.hid (by rw [hst.out, hcap.out, Bool.or_true])⟩, by simp [intOf]; omega⟩
        · have hcap := Lib.hid (cap_no 65 s[k] (by omega))
          cases b with
          | true =>
            go_wp2
            exact ⟨⟨k + 1, true, by omega, by go_num, rfl, rfl, Lib.hid (by rw [hst.out, ← hb.out]; rfl)⟩, by simp [intOf]; omega⟩
          | false =>
            go_wp2
            exact ⟨⟨k + 1, false, by omega, by go_num, rfl, rfl, Lib.hid (by rw [hst.out, ← hb.out, hcap.out]; rfl)⟩, by simp [intOf]; omega⟩
      · have hcap := Lib.hid (cap_no 65 s[k] (by omega))
        cases b with
        | true =>
          go_wp2
          exact ⟨⟨k + 1, true, by omega, by go_num, rfl, rfl, Lib.hid (by rw [hst.out, ← hb.out]; rfl)⟩, by simp [intOf]; omega⟩
        | false =>
          go_wp2
          exact ⟨⟨k + 1, false, by omega, by go_num, rfl, rfl, Lib.hid (by rw [hst.out, ← hb.out, hcap.out]; rfl)⟩, by simp [intOf]; omega⟩
    · have hks : k = s.size := by omega
      subst hks
      cases b with
      | false =>
        have hid := Lib.hid (map_none s lowB (capB 65) (fun c hc => low_no c (by simp [capB] at hc; omega)) (by rw [← any_full]; exact hb.out.symm))
        clear hb
        go_wp2
        go_ret
        exact ⟨by rw [hid.out]; rfl, by go_grown⟩
      | true =>
        clear hb
        have hB0 := Lib.hid (Lib.fresh_isBuilder 145 5 w)
        go_wp2_with fail
        refine (Tryz.Builder_Grow_fresh w.heap.size w.heap.size s.size _ (Nat.le_refl _) (new_at _ _ _ rfl) (by simp) (by omega)).mono ?_
        rintro e w1 ⟨rfl, g1, b1⟩
        have G := Lib.hid (show Lib.IsBuilder 145 5 w.heap.size w.heap.size (Lib.byteCells []) w1 from Or.inr g1)
        have HL := Lib.hid (((Below.refl _ w).alloc (Nat.le_refl _) _).trans b1)
        clear g1 b1
        go_wp2
        go_loopw [8, 9] (fun p i wr => ∃ (m k : Nat), m ≤ k ∧ k ≤ s.size ∧ p = .int .i64 m ∧ i = .int .i64 k ∧ Hid (Lib.IsBuilder 145 5 w.heap.size w.heap.size (Lib.byteCells ((s.data.toList.take m).map lowB)) wr) ∧ Hid (Below w.heap.size w wr) ∧ Hid (∀ j, (hj : j < s.data.toList.length) → m ≤ j → j < k → lowB s.data.toList[j] = s.data.toList[j])) (fun _ i _ => s.size - (intOf i).toNat)
        case atStart => exact ⟨0, 0, by omega, by omega, rfl, rfl, G, HL, Lib.hid (fun j _ _ h => absurd h (by omega))⟩
        case round =>
          obtain ⟨m, k, hmk, hk, rfl, rfl, hI, hW, hN⟩ := hrel
          have hsz := hW.out.size
          have hlen := Lib.hid (show s.data.toList.length = s.size by simp)
          by_cases hlt : k < s.size
          · have h128 := HA.out k hlt
            by_cases h12 : (65 : Int) ≤ s[k].toNat ∧ (s[k].toNat : Int) ≤ 90
            · obtain ⟨h1, h2⟩ := h12
              have hy := Lib.hid (low_yes s[k] h1 h2)
              have hcell := Lib.hid (cells_snoc s lowB k hlt)
              by_cases hm : m < k
              · have hrun := Lib.hid (cells_run s lowB m k hmk hk hN.out)
                go_wp2_with fail
                refine (Tryz.Builder_WriteString w.heap.size w.heap.size _ (s.extract m k) _ hI.out (by rw [Lib.byteCells_length, List.length_map, List.length_take, ByteArray.size_extract]; omega) hsz).mono ?_
                rintro e W1 ⟨rfl, g1, b1⟩
                have G1 : Hid (Lib.IsBuilder 145 5 w.heap.size w.heap.size (Lib.byteCells ((s.data.toList.take k).map lowB)) W1) := Lib.hid (by rw [← hrun.out]; exact Or.inr g1)
                have HL1 := Lib.hid (hW.out.trans b1)
                have hsz1 := HL1.out.size
                clear g1 b1 hsz
                go_wp2_with fail
                refine (Tryz.Builder_WriteByte w.heap.size w.heap.size _ _ _ G1.out (by rw [Lib.byteCells_length, List.length_map, List.length_take]; omega) hsz1).mono ?_
                rintro e W2 ⟨rfl, g2, b2⟩
                have HL2 := Lib.hid (HL1.out.trans b2)
                have G2 : Hid (Lib.IsBuilder 145 5 w.heap.size w.heap.size (Lib.byteCells ((s.data.toList.take (k + 1)).map lowB)) W2) := Lib.hid (by rw [← hcell.out, hy.out]; exact Or.inr g2)
                clear g2 b2
                go_wp2
                go_roundw
                case rel => exact ⟨k + 1, k + 1, by omega, by omega, by go_num, by go_num, G2, HL2, Lib.hid (fun j _ h3 h4 => absurd h3 (by omega))⟩
                case measure => simp [intOf]; omega
              · have hmk' : m = k := by omega
                subst hmk'
                go_wp2_with fail
                refine (Tryz.Builder_WriteByte w.heap.size w.heap.size _ _ _ hI.out (by rw [Lib.byteCells_length, List.length_map, List.length_take]; omega) hsz).mono ?_
                rintro e W2 ⟨rfl, g2, b2⟩
                have HL2 := Lib.hid (hW.out.trans b2)
                have G2 : Hid (Lib.IsBuilder 145 5 w.heap.size w.heap.size (Lib.byteCells ((s.data.toList.take (m + 1)).map lowB)) W2) := Lib.hid (by rw [← hcell.out, hy.out]; exact Or.inr g2)
                clear g2 b2
                go_wp2
                go_roundw
                case rel => exact ⟨m + 1, m + 1, by omega, by omega, by go_num, by go_num, G2, HL2, Lib.hid (fun j _ h3 h4 => absurd h3 (by omega))⟩
                case measure => simp [intOf]; omega
            · have hno := Lib.hid (low_no s[k] h12)
              have hN' : Hid (∀ j, (hj : j < s.data.toList.length) → m ≤ j → j < k + 1 → lowB s.data.toList[j] = s.data.toList[j]) := Lib.hid (fun j hj h3 h4 => by
                rcases (by omega : j < k ∨ j = k) with h5 | h5
                · exact hN.out j hj h3 h5
                · subst h5; exact hno.out)
              clear hno
              by_cases h1 : (65 : Int) ≤ s[k].toNat
              · have h2 : ¬ (s[k].toNat : Int) ≤ 90 := fun h => h12 ⟨h1, h⟩
                clear h12
                go_wp2
                go_roundw
                case rel => exact ⟨m, k + 1, by omega, by omega, rfl, by go_num, hI, hW, hN'⟩
                case measure => simp [intOf]; omega
              · clear h12
                go_wp2
                go_roundw
                case rel => exact ⟨m, k + 1, by omega, by omega, rfl, by go_num, hI, hW, hN'⟩
                case measure => simp [intOf]; omega
          · have hks : k = s.size := by omega
            subst hks
            have hall : Hid ((s.data.toList.take s.size).map lowB = s.data.toList.map lowB) := Lib.hid (by rw [List.take_of_length_le (by simp)])
            by_cases hm : m < s.size
            · have hrun := Lib.hid (cells_run s lowB m s.size hmk hk hN.out)
              go_wp2_with fail
              refine (Tryz.Builder_WriteString w.heap.size w.heap.size _ (s.extract m s.size) _ hI.out (by rw [Lib.byteCells_length, List.length_map, List.length_take, ByteArray.size_extract]; omega) hsz).mono ?_
              rintro e W1 ⟨rfl, g1, b1⟩
              have G1 : Hid (Lib.IsBuilder 145 5 w.heap.size w.heap.size (Lib.byteCells (s.data.toList.map lowB)) W1) := Lib.hid (by rw [← hall.out, ← hrun.out]; exact Or.inr g1)
              have HL1 := Lib.hid (hW.out.trans b1)
              have hsz1 := HL1.out.size
              clear g1 b1 hsz
              go_wp2_with fail
              refine (Tryz.Builder_String_any w.heap.size w.heap.size _ _ G1.out hsz1).mono ?_
              rintro e W2 ⟨rfl, b2⟩
              have HL2 := Lib.hid (HL1.out.trans b2)
              clear b2
              go_wp2
              go_ret
              exact ⟨rfl, HL2.out⟩
            · have hmk' : m = s.size := by omega
              subst hmk'
              have G1 : Hid (Lib.IsBuilder 145 5 w.heap.size w.heap.size (Lib.byteCells (s.data.toList.map lowB)) wr) := Lib.hid (by rw [← hall.out]; exact hI.out)
              go_wp2_with fail
              refine (Tryz.Builder_String_any w.heap.size w.heap.size _ _ G1.out hsz).mono ?_
              rintro e W2 ⟨rfl, b2⟩
              have HL2 := Lib.hid (hW.out.trans b2)
              clear b2
              go_wp2
              go_ret
              exact ⟨rfl, HL2.out⟩
set_option maxHeartbeats 2000000 in
theorem upper_t (s : ByteArray) (hs : s.size ≤ 100) (ha : ∀ k (h : k < s.size), s[k].toNat < 128) (w : World) :
    Calls Tryz.prog 127 #[.string s] w fun e w' => e = .returned (.string (mapT upB s)) ∧ Below w.heap.size w w' := by
  have HA := Lib.hid ha
  clear ha
  go_enter Tryz.func127, Tryz.ntmps127
  go_wp2
  go_loop [3, 4, 5] (fun q h i => ∃ (k : Nat) (b : Bool), k ≤ s.size ∧ i = .int .i64 k ∧ h = .bool b ∧ q = .bool true ∧ Hid (b = (s.data.toList.take k).any (capB 97))) (fun _ _ i => s.size - (intOf i).toNat)
  case atStart => exact ⟨0, false, by omega, rfl, rfl, rfl, Lib.hid (by simp)⟩
  case round =>
    obtain ⟨k, b, hk, rfl, rfl, rfl, hb⟩ := hrel
    by_cases hlt : k < s.size
    · have h128 := HA.out k hlt
      have hst := Lib.hid (any_step s (capB 97) k hlt)
      by_cases h1 : (97 : Int) ≤ s[k].toNat
      · by_cases h2 : (s[k].toNat : Int) ≤ 122
        · have hcap := Lib.hid (cap_yes 97 s[k] h1 (by omega))
          cases b with
          | true =>
            go_wp2
            exact ⟨⟨k + 1, true, by omega, by go_num, rfl, rfl, Lib.hid (by rw [hst.out, ← hb.out]; rfl)⟩, by simp [intOf]; omega⟩
          | false =>
            go_wp2
            exact ⟨⟨k + 1, true, by omega, by go_num, rfl, rfl, Lib.hid (by rw [hst.out, hcap.out, Bool.or_true])⟩, by simp [intOf]; omega⟩
        · have hcap := Lib.hid (cap_no 97 s[k] (by omega))
          cases b with
          | true =>
            go_wp2
            exact ⟨⟨k + 1, true, by omega, by go_num, rfl, rfl, Lib.hid (by rw [hst.out, ← hb.out]; rfl)⟩, by simp [intOf]; omega⟩
          | false =>
            go_wp2
            exact ⟨⟨k + 1, false, by omega, by go_num, rfl, rfl, Lib.hid (by rw [hst.out, ← hb.out, hcap.out]; rfl)⟩, by simp [intOf]; omega⟩
      · have hcap := Lib.hid (cap_no 97 s[k] (by omega))
        cases b with
        | true =>
          go_wp2
          exact ⟨⟨k + 1, true, by omega, by go_num, rfl, rfl, Lib.hid (by rw [hst.out, ← hb.out]; rfl)⟩, by simp [intOf]; omega⟩
        | false =>
          go_wp2
          exact ⟨⟨k + 1, false, by omega, by go_num, rfl, rfl, Lib.hid (by rw [hst.out, ← hb.out, hcap.out]; rfl)⟩, by simp [intOf]; omega⟩
    · have hks : k = s.size := by omega
      subst hks
      cases b with
      | false =>
        have hid := Lib.hid (map_none s upB (capB 97) (fun c hc => up_no c (by simp [capB] at hc; omega)) (by rw [← any_full]; exact hb.out.symm))
        clear hb
        go_wp2
        go_ret
        exact ⟨by rw [hid.out]; rfl, by go_grown⟩
      | true =>
        clear hb
        have hB0 := Lib.hid (Lib.fresh_isBuilder 145 5 w)
        go_wp2_with fail
        refine (Tryz.Builder_Grow_fresh w.heap.size w.heap.size s.size _ (Nat.le_refl _) (new_at _ _ _ rfl) (by simp) (by omega)).mono ?_
        rintro e w1 ⟨rfl, g1, b1⟩
        have G := Lib.hid (show Lib.IsBuilder 145 5 w.heap.size w.heap.size (Lib.byteCells []) w1 from Or.inr g1)
        have HL := Lib.hid (((Below.refl _ w).alloc (Nat.le_refl _) _).trans b1)
        clear g1 b1
        go_wp2
        go_loopw [8, 9] (fun p i wr => ∃ (m k : Nat), m ≤ k ∧ k ≤ s.size ∧ p = .int .i64 m ∧ i = .int .i64 k ∧ Hid (Lib.IsBuilder 145 5 w.heap.size w.heap.size (Lib.byteCells ((s.data.toList.take m).map upB)) wr) ∧ Hid (Below w.heap.size w wr) ∧ Hid (∀ j, (hj : j < s.data.toList.length) → m ≤ j → j < k → upB s.data.toList[j] = s.data.toList[j])) (fun _ i _ => s.size - (intOf i).toNat)
        case atStart => exact ⟨0, 0, by omega, by omega, rfl, rfl, G, HL, Lib.hid (fun j _ _ h => absurd h (by omega))⟩
        case round =>
          obtain ⟨m, k, hmk, hk, rfl, rfl, hI, hW, hN⟩ := hrel
          have hsz := hW.out.size
          have hlen := Lib.hid (show s.data.toList.length = s.size by simp)
          by_cases hlt : k < s.size
          · have h128 := HA.out k hlt
            by_cases h12 : (97 : Int) ≤ s[k].toNat ∧ (s[k].toNat : Int) ≤ 122
            · obtain ⟨h1, h2⟩ := h12
              have hy := Lib.hid (up_yes s[k] h1 h2)
              have hcell := Lib.hid (cells_snoc s upB k hlt)
              by_cases hm : m < k
              · have hrun := Lib.hid (cells_run s upB m k hmk hk hN.out)
                go_wp2_with fail
                refine (Tryz.Builder_WriteString w.heap.size w.heap.size _ (s.extract m k) _ hI.out (by rw [Lib.byteCells_length, List.length_map, List.length_take, ByteArray.size_extract]; omega) hsz).mono ?_
                rintro e W1 ⟨rfl, g1, b1⟩
                have G1 : Hid (Lib.IsBuilder 145 5 w.heap.size w.heap.size (Lib.byteCells ((s.data.toList.take k).map upB)) W1) := Lib.hid (by rw [← hrun.out]; exact Or.inr g1)
                have HL1 := Lib.hid (hW.out.trans b1)
                have hsz1 := HL1.out.size
                clear g1 b1 hsz
                go_wp2_with fail
                refine (Tryz.Builder_WriteByte w.heap.size w.heap.size _ _ _ G1.out (by rw [Lib.byteCells_length, List.length_map, List.length_take]; omega) hsz1).mono ?_
                rintro e W2 ⟨rfl, g2, b2⟩
                have HL2 := Lib.hid (HL1.out.trans b2)
                have G2 : Hid (Lib.IsBuilder 145 5 w.heap.size w.heap.size (Lib.byteCells ((s.data.toList.take (k + 1)).map upB)) W2) := Lib.hid (by rw [← hcell.out, hy.out]; exact Or.inr g2)
                clear g2 b2
                go_wp2
                go_roundw
                case rel => exact ⟨k + 1, k + 1, by omega, by omega, by go_num, by go_num, G2, HL2, Lib.hid (fun j _ h3 h4 => absurd h3 (by omega))⟩
                case measure => simp [intOf]; omega
              · have hmk' : m = k := by omega
                subst hmk'
                go_wp2_with fail
                refine (Tryz.Builder_WriteByte w.heap.size w.heap.size _ _ _ hI.out (by rw [Lib.byteCells_length, List.length_map, List.length_take]; omega) hsz).mono ?_
                rintro e W2 ⟨rfl, g2, b2⟩
                have HL2 := Lib.hid (hW.out.trans b2)
                have G2 : Hid (Lib.IsBuilder 145 5 w.heap.size w.heap.size (Lib.byteCells ((s.data.toList.take (m + 1)).map upB)) W2) := Lib.hid (by rw [← hcell.out, hy.out]; exact Or.inr g2)
                clear g2 b2
                go_wp2
                go_roundw
                case rel => exact ⟨m + 1, m + 1, by omega, by omega, by go_num, by go_num, G2, HL2, Lib.hid (fun j _ h3 h4 => absurd h3 (by omega))⟩
                case measure => simp [intOf]; omega
            · have hno := Lib.hid (up_no s[k] h12)
              have hN' : Hid (∀ j, (hj : j < s.data.toList.length) → m ≤ j → j < k + 1 → upB s.data.toList[j] = s.data.toList[j]) := Lib.hid (fun j hj h3 h4 => by
                rcases (by omega : j < k ∨ j = k) with h5 | h5
                · exact hN.out j hj h3 h5
                · subst h5; exact hno.out)
              clear hno
              by_cases h1 : (97 : Int) ≤ s[k].toNat
              · have h2 : ¬ (s[k].toNat : Int) ≤ 122 := fun h => h12 ⟨h1, h⟩
                clear h12
                go_wp2
                go_roundw
                case rel => exact ⟨m, k + 1, by omega, by omega, rfl, by go_num, hI, hW, hN'⟩
                case measure => simp [intOf]; omega
              · clear h12
                go_wp2
                go_roundw
                case rel => exact ⟨m, k + 1, by omega, by omega, rfl, by go_num, hI, hW, hN'⟩
                case measure => simp [intOf]; omega
          · have hks : k = s.size := by omega
            subst hks
            have hall : Hid ((s.data.toList.take s.size).map upB = s.data.toList.map upB) := Lib.hid (by rw [List.take_of_length_le (by simp)])
            by_cases hm : m < s.size
            · have hrun := Lib.hid (cells_run s upB m s.size hmk hk hN.out)
              go_wp2_with fail
              refine (Tryz.Builder_WriteString w.heap.size w.heap.size _ (s.extract m s.size) _ hI.out (by rw [Lib.byteCells_length, List.length_map, List.length_take, ByteArray.size_extract]; omega) hsz).mono ?_
              rintro e W1 ⟨rfl, g1, b1⟩
              have G1 : Hid (Lib.IsBuilder 145 5 w.heap.size w.heap.size (Lib.byteCells (s.data.toList.map upB)) W1) := Lib.hid (by rw [← hall.out, ← hrun.out]; exact Or.inr g1)
              have HL1 := Lib.hid (hW.out.trans b1)
              have hsz1 := HL1.out.size
              clear g1 b1 hsz
              go_wp2_with fail
              refine (Tryz.Builder_String_any w.heap.size w.heap.size _ _ G1.out hsz1).mono ?_
              rintro e W2 ⟨rfl, b2⟩
              have HL2 := Lib.hid (HL1.out.trans b2)
              clear b2
              go_wp2
              go_ret
              exact ⟨rfl, HL2.out⟩
            · have hmk' : m = s.size := by omega
              subst hmk'
              have G1 : Hid (Lib.IsBuilder 145 5 w.heap.size w.heap.size (Lib.byteCells (s.data.toList.map upB)) wr) := Lib.hid (by rw [← hall.out]; exact hI.out)
              go_wp2_with fail
              refine (Tryz.Builder_String_any w.heap.size w.heap.size _ _ G1.out hsz).mono ?_
              rintro e W2 ⟨rfl, b2⟩
              have HL2 := Lib.hid (hW.out.trans b2)
              clear b2
              go_wp2
              go_ret
              exact ⟨rfl, HL2.out⟩
end YtabojeleomfgnaaGreatDoor
end Go.Proofs
