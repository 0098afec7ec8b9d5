/- Streams of numbers. Picks of a stream. -/
import Derived.Test.YtabojeleomfgnaaGreatDoorMp1
import Derived.Test.YtabojeleomfgnaaGreatDoorE1
import Derived.Test.YtabojeleomfgnaaGreatDoorN1
namespace Go.Proofs
open Go.RowKit
namespace YtabojeleomfgnaaGreatDoor
set_option maxRecDepth 100000
/-- the cells of a list of numbers -/
def IntsAt (w : World) (a : Option Addr) (len : Nat) : Prop := len = 0 ∨ ∃ (b o : Nat) (f : Nat → Int), a = some ⟨b, o, none⟩ ∧ ∀ i, i < len → w.cell? ⟨b, o + i, none⟩ = some (.int .i64 (f i))
theorem IntsAt.below {w w' : World} {a : Option Addr} {len : Nat} (h : IntsAt w a len) (hb : Below w.heap.size w w') : IntsAt w' a len := by
  rcases h with h | ⟨b, o, f, ha, hf⟩
  · exact Or.inl h
  · exact Or.inr ⟨b, o, f, ha, fun i hi => (hb.cell (p := ⟨b, o + i, none⟩) (block_lt_of_cell (hf i hi))).trans (hf i hi)⟩
/-- the cells of a list of numbers, none of them in block p -/
def Ip (p : Nat) (w : World) (a : Option Addr) (len : Nat) : Prop := len = 0 ∨ ∃ (b o : Nat) (f : Nat → Int), a = some ⟨b, o, none⟩ ∧ b ≠ p ∧ ∀ i, i < len → w.cell? ⟨b, o + i, none⟩ = some (.int .i64 (f i))
theorem IntsAt.ip {w : World} {a : Option Addr} {len : Nat} (h : IntsAt w a len) : Ip w.heap.size w a len := by
  rcases h with h | ⟨b, o, f, ha, hf⟩
  · exact Or.inl h
  · rcases Nat.eq_zero_or_pos len with h0 | h0
    · exact Or.inl h0
    · exact Or.inr ⟨b, o, f, ha, Nat.ne_of_lt (block_lt_of_cell (hf 0 h0)), hf⟩
theorem IntsAt.ip' {p : Nat} {w : World} {a : Option Addr} {len : Nat} (h : IntsAt w a len) (hp : w.heap.size ≤ p) : Ip p w a len := by
  rcases h with h | ⟨b, o, f, ha, hf⟩
  · exact Or.inl h
  · rcases Nat.eq_zero_or_pos len with h0 | h0
    · exact Or.inl h0
    · exact Or.inr ⟨b, o, f, ha, by have : b < w.heap.size := block_lt_of_cell (hf 0 h0); omega, hf⟩
theorem cell_kept {p b o : Nat} {w w' : World} (hb : Keeps p w w') (hp : b ≠ p) (h : b < w.heap.size) : w'.cell? ⟨b, o, none⟩ = w.cell? ⟨b, o, none⟩ := World.cell?_of_block (a := ⟨b, o, none⟩) (hb.block b h hp)
theorem Ip.keeps {p : Nat} {w w' : World} {a : Option Addr} {len : Nat} (h : Ip p w a len) (hb : Keeps p w w') : Ip p w' a len := by
  rcases h with h | ⟨b, o, f, ha, hp, hf⟩
  · exact Or.inl h
  · exact Or.inr ⟨b, o, f, ha, hp, fun i hi => (cell_kept hb hp (block_lt_of_cell (hf i hi))).trans (hf i hi)⟩
/-- a stream at block p -/
def Sm (p : Nat) (a : Option Addr) (len cap : Nat) (t : Nat) (w : World) : Prop := w.heap[p]? = some (.cells #[.slice a len cap, .int .i64 t] 54 (0, 0)) ∧ Ip p w a len
theorem Sm.below {p len cap t : Nat} {a : Option Addr} {w w' : World} (h : Sm p a len cap t w) (hb : Below w.heap.size w w') : Sm p a len cap t w' := ⟨(hb.block _ (lt_of_block h.1)).trans h.1, h.2.keeps (Keeps.of_below hb)⟩
theorem Sm.drew {p len cap t : Nat} {a : Option Addr} {w : World} (h : Sm p a len cap t w) : Sm p a len cap t w.drew := h
theorem below_num (x n : Int) (hn : 1 ≤ n) (h2 : n ≤ 4611686018427387904) (w : World) : Calls Tryz.prog 128 #[.int .i64 x, .int .i64 n] w fun e w' => (∃ r : Int, e = .returned (.int .i64 r) ∧ 0 ≤ r ∧ r < n) ∧ w' = w := by
  have h3 := Int.tmod_lt_of_pos x (show 0 < n by omega)
  have h4 := Int.lt_tmod_of_pos x (show 0 < n by omega)
  generalize hr : x.tmod n = r at h3 h4
  by_cases hneg : r < 0
  · subst hr
    go_enter Tryz.func128, Tryz.ntmps128
    go_wp2
    go_ret
    exact ⟨⟨_, rfl, by omega, by omega⟩, rfl⟩
  · subst hr
    go_enter Tryz.func128, Tryz.ntmps128
    go_wp2
    go_ret
    exact ⟨⟨_, rfl, by omega, by omega⟩, rfl⟩
set_option maxHeartbeats 1000000 in
theorem next_t (p : Nat) (a : Option Addr) (len cap t : Nat) (n : Int) (hn : 1 ≤ n) (h2 : n ≤ 4611686018427387904) (ht : t ≤ 1000) (hl : len ≤ maxLen) (w : World) (hS : Sm p a len cap t w) :
    Calls Tryz.prog 54 #[.pointer (some ⟨p, 0, none⟩), .int .i64 n] w fun e w' => ∃ r : Int, e = .returned (.int .i64 r) ∧ 0 ≤ r ∧ r < n ∧ Sm p a len cap (t + 1) w' ∧ Keeps p w w' := by
  have S0 := Lib.hid hS
  have CB := Lib.hid (fun x w => below_num x n hn h2 w)
  have CC := Lib.hid (fun x w => below_num x 1073741824 (by omega) (by omega) w)
  have c0 : w.cell? ⟨p, 0, none⟩ = some (.slice a len cap) := (cell_of_row w _ 0 _ _ _ S0.out.1).trans rfl
  have c1 : w.cell? ⟨p, 1, none⟩ = some (.int .i64 t) := (cell_of_row w _ 1 _ _ _ S0.out.1).trans rfl
  unfold maxLen at hl
  clear hS
  rcases Nat.eq_zero_or_pos len with rfl | hpos
  · go_enter Tryz.func54, Tryz.ntmps54
    go_wp2_with (refine store_int rfl (.tmp 13) (.tmp 11) rfl p 1 (t + 1) rfl rfl (#[.slice a 0 cap, .int .i64 t]) 54 S0.out.1 (by simp) ?_; intro w1 hp; have S1 : Hid (Sm p a 0 cap (t + 1) w1) := Lib.hid ⟨hp.at', Or.inl rfl⟩; have K1 := Lib.hid hp.keeps; clear hp c0 c1; have c0 : w1.cell? ⟨p, 0, none⟩ = some (.slice a 0 cap) := (cell_of_row w1 _ 0 _ _ _ S1.out.1).trans rfl; have c1 : w1.cell? ⟨p, 1, none⟩ = some (.int .i64 (t + 1)) := (cell_of_row w1 _ 1 _ _ _ S1.out.1).trans rfl)
    refine (CB.out _ _).mono ?_
    rintro e wx ⟨⟨r, rfl, r1, r2⟩, hwx⟩
    rw [hwx]
    clear hwx wx
    go_wp2_with fail
    go_ret
    exact ⟨r, rfl, r1, r2, S1.out, K1.out⟩
  · obtain ⟨b, o, f, rfl, hbp, hf⟩ := S0.out.2.resolve_left (by omega)
    have HF := Lib.hid hf
    have HP := Lib.hid hbp
    have hk : t % len < len := Nat.mod_lt _ hpos
    have e1 : (t : Int).tmod (len : Int) = ((t % len : Nat) : Int) := rfl
    have e2 : (t : Int).tdiv (len : Int) = ((t / len : Nat) : Int) := rfl
    have hne : ¬ (len : Int) = 0 := by omega
    have E1 := Lib.hid e1
    have E2 := Lib.hid e2
    clear hf hbp e1 e2
    go_enter Tryz.func54, Tryz.ntmps54
    go_wp2_with (refine store_int rfl (.tmp 13) (.tmp 11) rfl p 1 (t + 1) rfl rfl (#[.slice (some ⟨b, o, none⟩) len cap, .int .i64 t]) 54 S0.out.1 (by simp) ?_; intro w1 hp; have S1 : Hid (Sm p (some ⟨b, o, none⟩) len cap (t + 1) w1) := Lib.hid ⟨hp.at', S0.out.2.keeps hp.keeps⟩; have K1 := Lib.hid hp.keeps; clear hp c0 c1; have c0 : w1.cell? ⟨p, 0, none⟩ = some (.slice (some ⟨b, o, none⟩) len cap) := (cell_of_row w1 _ 0 _ _ _ S1.out.1).trans rfl; have c1 : w1.cell? ⟨p, 1, none⟩ = some (.int .i64 (t + 1)) := (cell_of_row w1 _ 1 _ _ _ S1.out.1).trans rfl)
    go_quiet (fail)
    go_wp2_with fail
    go_quiet (fail)
    obtain ⟨k, hk2, hik⟩ : ∃ k : Nat, k < len ∧ (t : Int) % (len : Int) = k := ⟨t % len, hk, by omega⟩
    rw [hik]
    generalize wrap64 ((t : Int) / (len : Int)) = rd
    have cf : w1.cell? ⟨b, o + k, none⟩ = some (.int .i64 (f k)) := (cell_kept K1.out HP.out (block_lt_of_cell (HF.out k hk2))).trans (HF.out k hk2)
    clear hik hk
    generalize f k = fk at cf
    go_wp2_with fail
    refine (CC.out _ _).mono ?_
    rintro e wx ⟨⟨r0, rfl, r3, r4⟩, hwx⟩
    rw [hwx]
    clear hwx wx
    go_wp2_with fail
    refine (CB.out _ _).mono ?_
    rintro e wx ⟨⟨r, rfl, r1, r2⟩, hwx⟩
    rw [hwx]
    clear hwx wx
    go_wp2_with fail
    go_ret
    exact ⟨r, rfl, r1, r2, S1.out, ⟨K1.out.os, K1.out.tape, K1.out.output, K1.out.size, K1.out.block⟩⟩
end YtabojeleomfgnaaGreatDoor
end Go.Proofs
namespace Go.Proofs
open Go.RowKit
namespace YtabojeleomfgnaaGreatDoor
set_option maxRecDepth 100000
theorem ints_row {w : World} {g : Nat} (l : List Int) (h : w.heap[g]? = some (.cells (l.map (Value.int .i64)).toArray 3 (0, 0))) : IntsAt w (some ⟨g, 0, none⟩) l.length := by
  refine Or.inr ⟨g, 0, fun i => l.getD i 0, rfl, fun i hi => ?_⟩
  rw [Nat.zero_add]
  refine (cell_of_row w g i _ _ _ h).trans ?_
  simp [List.getD, hi]
set_option maxHeartbeats 1000000 in
theorem pick_t (p g : Nat) (a : Option Addr) (len cap t k c : Nat) (hk : 1 ≤ k) (hk2 : k ≤ 1000) (ht : t ≤ 1000) (hl : len ≤ maxLen) (hg : g ≠ p) (w : World) (hI : IntsAt w (some ⟨g, 0, none⟩) k) (hS : Sm p a len cap t w) :
    Calls Tryz.prog 56 #[.pointer (some ⟨p, 0, none⟩), .slice (some ⟨g, 0, none⟩) k c] w fun e w' => ∃ r : Int, e = .returned (.int .i64 r) ∧ Sm p a len cap (t + 1) w' ∧ Keeps p w w' := by
  obtain ⟨b, o, f, hb, hf⟩ := hI.resolve_left (by omega)
  simp only [Option.some.injEq, Addr.mk.injEq] at hb
  obtain ⟨rfl, rfl, _⟩ := hb
  have HF := Lib.hid hf
  have CN := Lib.hid (next_t p a len cap t k (by omega) (by omega) ht hl w hS)
  clear hf hS ht hl hI
  go_enter Tryz.func56, Tryz.ntmps56
  go_wp2_with fail
  refine CN.out.mono ?_
  rintro e w1 ⟨r, rfl, r0, r1, hS1, hK1⟩
  obtain ⟨j, rfl⟩ : ∃ j : Nat, r = j := ⟨r.toNat, by omega⟩
  have hj : j < k := by omega
  have S1 := Lib.hid hS1
  have K1 := Lib.hid hK1
  have c0 : w1.cell? ⟨g, j, none⟩ = some (.int .i64 (f j)) := by
    have h := HF.out j hj
    rw [Nat.zero_add] at h
    exact (cell_kept hK1 hg (block_lt_of_cell h)).trans h
  clear hS1 hK1 r0 r1 HF CN
  generalize f j = r at c0
  go_wp2_with fail
  go_ret
  exact ⟨_, rfl, S1.out, K1.out⟩
theorem pick_new (p : Nat) (a : Option Addr) (len cap t : Nat) (l : List Int) (n c : Nat) (hn : l.length = n) (h1 : 1 ≤ n) (h2 : n ≤ 1000) (ht : t ≤ 1000) (hl : len ≤ maxLen) (cs : Array Value) (hc : cs = (l.map (Value.int .i64)).toArray) (w : World) (hS : Sm p a len cap t w) :
    Calls Tryz.prog 56 #[.pointer (some ⟨p, 0, none⟩), .slice (some ⟨w.heap.size, 0, none⟩) n c] (w.alloc (.cells cs 3)) fun e w' => ∃ r : Int, e = .returned (.int .i64 r) ∧ Sm p a len cap (t + 1) w' ∧ Keeps p w w' := by
  subst hc hn
  have hz := lt_of_block hS.1
  have hb : Below w.heap.size w (w.alloc (.cells (l.map (Value.int .i64)).toArray 3)) := (Below.refl _ _).alloc (Nat.le_refl _) _
  refine (pick_t p w.heap.size a len cap t l.length c h1 h2 ht hl (by omega) _ (ints_row l (heap_alloc_new w _)) (hS.below hb)).mono ?_
  rintro e w' ⟨r, rfl, hS', hK⟩
  exact ⟨r, rfl, hS', (Keeps.of_below hb).trans hK⟩
theorem range_t (p : Nat) (a : Option Addr) (len cap t : Nat) (lo hi : Int) (h0 : lo ≤ hi) (h1 : -10000000 ≤ lo) (h2 : hi ≤ 10000000) (ht : t ≤ 1000) (hl : len ≤ maxLen) (w : World) (hS : Sm p a len cap t w) :
    Calls Tryz.prog 57 #[.pointer (some ⟨p, 0, none⟩), .int .i64 lo, .int .i64 hi] w fun e w' => ∃ r : Int, e = .returned (.int .i64 r) ∧ Sm p a len cap (t + 1) w' ∧ Keeps p w w' := by
  have CN := Lib.hid (next_t p a len cap t (hi - lo + 1) (by omega) (by omega) ht hl w hS)
  clear hS ht hl
  go_enter Tryz.func57, Tryz.ntmps57
  go_wp2_with fail
  refine CN.out.mono ?_
  rintro e w1 ⟨r, rfl, r0, r1, hS1, hK1⟩
  have S1 := Lib.hid hS1
  have K1 := Lib.hid hK1
  clear hS1 hK1 CN
  go_wp2_with fail
  go_ret
  exact ⟨_, rfl, S1.out, K1.out⟩
set_option maxHeartbeats 1000000 in
theorem int_t (p : Nat) (a : Option Addr) (len cap t : Nat) (ht : t ≤ 900) (hl : len ≤ maxLen) (w : World) (hS : Sm p a len cap t w) :
    Calls Tryz.prog 58 #[.pointer (some ⟨p, 0, none⟩)] w fun e w' => ∃ r : Int, e = .returned (.int .i64 r) ∧ Sm p a len cap (t + 2) w' ∧ Keeps p w w' := by
  have hp := lt_of_block hS.1
  have CN := Lib.hid (next_t p a len cap t 10 (by omega) (by omega) (by omega) hl w hS)
  have CP := Lib.hid (fun (w : World) (hS : Sm p a len cap (t + 1) w) => pick_new p a len cap (t + 1) [999999999999999, -999999999999999, 1000000000000000, -1000000000000000, 4611686018427387904, -9223372036854775808, 9223372036854775807, 253402300799, 253402300800] 9 9 rfl (by omega) (by omega) (by omega) hl #[.int .i64 999999999999999, .int .i64 (-999999999999999), .int .i64 1000000000000000, .int .i64 (-1000000000000000), .int .i64 4611686018427387904, .int .i64 (-9223372036854775808), .int .i64 9223372036854775807, .int .i64 253402300799, .int .i64 253402300800] rfl w hS)
  have CR := Lib.hid (fun lo hi h0 h1 h2 w hS => range_t p a len cap (t + 1) lo hi h0 h1 h2 (by omega) hl w hS)
  clear hS ht hl hp
  go_enter Tryz.func58, Tryz.ntmps58
  go_wp2_with fail
  refine CN.out.mono ?_
  rintro e w1 ⟨r, rfl, r0, r1, hS1, hK1⟩
  have S1 := Lib.hid hS1
  have K1 := Lib.hid hK1
  clear hS1 hK1 CN
  rcases (by omega : r = 0 ∨ r = 1 ∨ (¬ r = 0 ∧ ¬ r = 1)) with rfl | rfl | ⟨q0, q1⟩
  · clear r0 r1
    go_wp2_with fail
    refine (CP.out w1 S1.out).mono ?_
    rintro e w2 ⟨r, rfl, hS2, hK2⟩
    have S2 := Lib.hid hS2
    have K2 := Lib.hid (K1.out.trans hK2)
    clear hS2 hK2
    go_wp2_with fail
    go_ret
    exact ⟨_, rfl, S2.out, K2.out⟩
  · clear r0 r1
    go_wp2_with fail
    refine (CR.out _ _ (by omega) (by omega) (by omega) w1 S1.out).mono ?_
    rintro e w2 ⟨r, rfl, hS2, hK2⟩
    have S2 := Lib.hid hS2
    have K2 := Lib.hid (K1.out.trans hK2)
    clear hS2 hK2
    go_wp2_with fail
    go_ret
    exact ⟨_, rfl, S2.out, K2.out⟩
  · go_wp2_with fail
    refine (CR.out _ _ (by omega) (by omega) (by omega) w1 S1.out).mono ?_
    rintro e w2 ⟨r, rfl, hS2, hK2⟩
    have S2 := Lib.hid hS2
    have K2 := Lib.hid (K1.out.trans hK2)
    clear hS2 hK2
    go_wp2_with fail
    go_ret
    exact ⟨_, rfl, S2.out, K2.out⟩
end YtabojeleomfgnaaGreatDoor
end Go.Proofs
