/- What the stream gives in the law. -/
import Derived.Test.YtbihfgcejlgffaaTh1
namespace Go.Proofs
open Go.RowKit
namespace Ytbihfgcejlgffaa
set_option maxRecDepth 100000
theorem flip_n (n : Int) (hn : 1 ≤ n) (h2 : n ≤ 1000) (p : Nat) (a : Option Addr) (len cap t : Nat) (ht : t ≤ 1000) (hl : len ≤ maxLen) (w : World) (hS : Sm p a len cap t w) :
    Calls Try.prog 5 #[.pointer (some ⟨p, 0, none⟩), .int .i64 n] w fun e w' => (∃ b : Bool, e = .returned (.bool b)) ∧ Sm p a len cap (t + 1) w' ∧ Keeps p w w' := by
  have CN := Lib.hid (next_t p a len cap t n hn (by omega) ht hl w hS)
  clear hS ht hl hn h2
  go_enter Try.func5, Try.ntmps5
  go_wp2_with fail
  refine CN.out.mono ?_
  rintro e w1 ⟨r, rfl, r0, r1, hS1, hK1⟩
  have S1 := Lib.hid hS1
  have K1 := Lib.hid hK1
  clear hS1 hK1 r0 r1 CN
  go_wp2_with fail
  go_ret
  exact ⟨⟨_, rfl⟩, S1.out, K1.out⟩
section
variable {a : Option Addr} {len cap t : Nat} {T : List Int} {v : Value} {w wr : World}
theorem next_ts (n : Int) (hn : 1 ≤ n) (h2 : n ≤ 1000) (ht : t ≤ 900) (hl : len ≤ maxLen) (hI : IntsAt w a len) (h : Ts a len cap t T v w wr) :
    Calls Try.prog 6 #[.pointer (some ⟨w.heap.size, 0, none⟩), .int .i64 n] wr fun e w' => ∃ r : Int, e = .returned (.int .i64 r) ∧ 0 ≤ r ∧ r < n ∧ Ts a len cap (t + 1) T v w w' ∧ Keeps w.heap.size wr w' := by
  refine (next_t w.heap.size a len cap t n hn (by omega) (by omega) hl wr (h.sm hI)).mono ?_
  rintro e w' ⟨r, rfl, h0, h1, hS, hK⟩
  exact ⟨r, rfl, h0, h1, h.call hS hK, hK⟩
theorem flip_ts (n : Int) (hn : 1 ≤ n) (h2 : n ≤ 1000) (ht : t ≤ 900) (hl : len ≤ maxLen) (hI : IntsAt w a len) (h : Ts a len cap t T v w wr) :
    Calls Try.prog 5 #[.pointer (some ⟨w.heap.size, 0, none⟩), .int .i64 n] wr fun e w' => ∃ b : Bool, e = .returned (.bool b) ∧ Ts a len cap (t + 1) T v w w' ∧ Keeps w.heap.size wr w' := by
  refine (flip_n n hn h2 w.heap.size a len cap t (by omega) hl wr (h.sm hI)).mono ?_
  rintro e w' ⟨⟨b, rfl⟩, hS, hK⟩
  exact ⟨b, rfl, h.call hS hK, hK⟩
theorem pick_ts (l : List Int) (n : Nat) (hn : l.length = n) (h1 : 1 ≤ n) (h2 : n ≤ 100) (ht : t ≤ 900) (hl : len ≤ maxLen) (hI : IntsAt w a len) (cs : Array Value) (hc : cs = (l.map (Value.int .i64)).toArray) (h : Ts a len cap t T v w wr) :
    Calls Try.prog 4 #[.pointer (some ⟨w.heap.size, 0, none⟩), .slice (some ⟨wr.heap.size, 0, none⟩) n n] (wr.alloc (.cells cs 3)) fun e w' => ∃ r : Int, e = .returned (.int .i64 r) ∧ r ∈ l ∧ Ts a len cap (t + 1) T v w w' ∧ Keeps w.heap.size wr w' := by
  subst hn hc
  have h3 := h.alloc (.cells (l.map (Value.int .i64)).toArray 3)
  have hp := lt_of_block h.st
  refine (pick_of w.heap.size wr.heap.size a len cap t l.length l.length h1 (by omega) (by omega) hl (by omega) (fun i => l.getD i 0) _ (fun i hi => ?_) (h3.sm hI)).mono ?_
  · rw [cell_of_row _ _ i _ _ _ (heap_alloc_new wr _)]
    simp [List.getD, hi]
  · rintro e w' ⟨⟨j, hj, rfl⟩, hS, hK⟩
    exact ⟨_, rfl, by simp [List.getD, hj], h3.call hS hK, (Keeps.of_below ((Below.refl _ wr).alloc (Nat.le_refl _) _)).trans hK⟩
end
end Ytbihfgcejlgffaa
end Go.Proofs
