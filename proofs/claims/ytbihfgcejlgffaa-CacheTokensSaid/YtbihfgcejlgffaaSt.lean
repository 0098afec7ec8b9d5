/- Streams of numbers, and their picks. -/
import Derived.WalkKit
import Derived.Handy
import Derived.Outline
import Derived.Lib.ConvBytes
import Derived.Lib.Hide
import Derived.BigQuiet
import Derived.Deep.QuietTactic
import Derived.Laws.Closers25
import Derived.Lib.Bytes
import Derived.OneCell
import Derived.WalkSpells
import Derived.Laws.Tables
import Derived.Laws.Rows
import Derived.WalkSmall
import Derived.Deep.RegionHeld3
import Derived.Shelf.Small.Strs
import Derived.Shelf.Strings.Cut
import Derived.Ground.Names2Prog
import Derived.OwnWalk
import Derived.Deep.DeepMust
import Derived.Deep.MidRow
import Derived.Deep.WholeRow
import Derived.StillTail
import Derived.Deep.Quiet
import Derived.ProofKit
import Derived.Lay
import Derived.LaidMore
import Derived.OpenShut
import Derived.MakeChecks
import Derived.HandedShaped
import Derived.Lib.LaidU8
import Derived.Lib.SmallJoins
import Derived.Shelf.Vars
import Derived.JoinedOf
import Derived.KernelRfl
import Derived.SevenTiedAt
import Derived.Deep.Slices
import Derived.Carry
import Derived.ChangeOld
import Derived.Deep.DeepCutAuto
import Derived.Maps.Own
import Derived.Shelf.Bits.Mul64
import Derived.Shelf.Strings.Prefix
import Derived.Shelf.Small.Wraps
import Derived.Lib.Small
import Derived.Lib.Strings
import Derived.ChangeArms
import Derived.JoinedCond
import Derived.Laws.BytesArg
import Derived.Deep.AppendLies
import Derived.Deep.RegionHeld
import Derived.ChangeMaps5
import Derived.Shelf.Strings.Search3
import Derived.Laws.CopyOwn
import Derived.Laws.MakeOwn
import Derived.Test.YtbihfgcejlgffaaProg
namespace Go.Proofs
open Go.RowKit
namespace Ytbihfgcejlgffaa
set_option maxRecDepth 100000
/-- nothing that was there has changed but block p -/
structure Keeps (p : Nat) (w w' : World) : Prop where
  os : w'.os = w.os
  tape : w'.tape = w.tape
  output : w'.output = w.output
  size : w.heap.size ≤ w'.heap.size
  block : ∀ k, k < w.heap.size → k ≠ p → w'.heap[k]? = w.heap[k]?
theorem Keeps.refl (p : Nat) (w : World) : Keeps p w w := ⟨rfl, rfl, rfl, Nat.le_refl _, fun _ _ _ => rfl⟩
theorem Keeps.trans {p : Nat} {a b c : World} (h : Keeps p a b) (k : Keeps p b c) : Keeps p a c :=
  ⟨k.os.trans h.os, k.tape.trans h.tape, k.output.trans h.output, Nat.le_trans h.size k.size, fun i hi hp => (k.block i (Nat.lt_of_lt_of_le hi h.size) hp).trans (h.block i hi hp)⟩
theorem Keeps.of_below {p : Nat} {w w' : World} (h : Below w.heap.size w w') : Keeps p w w' := ⟨h.os, h.tape, h.output, h.size, fun k hk _ => h.block k hk⟩
/-- one block written, all else kept -/
structure Puts (g : Nat) (cells : Array Value) (t : TypeId) (w w' : World) : Prop where
  at' : w'.heap[g]? = some (.cells cells t (0, 0))
  keeps : Keeps g w w'
  size : w'.heap.size = w.heap.size
theorem Puts.below {g : Nat} {cells : Array Value} {t : TypeId} {w0 w w' : World} (h : Puts g cells t w w') (hb : Below w0.heap.size w0 w) (hg : w0.heap.size ≤ g) : Below w0.heap.size w0 w' :=
  ⟨h.keeps.os.trans hb.os, h.keeps.tape.trans hb.tape, h.keeps.output.trans hb.output, by rw [h.size]; exact hb.size, fun k hk => (h.keeps.block k (Nat.lt_of_lt_of_le hk hb.size) (by omega)).trans (hb.block k hk)⟩
theorem Keeps.alloc {p : Nat} {a w : World} (h : Keeps p a w) (o : Obj) : Keeps p a (w.alloc o) := h.trans (Keeps.of_below ((Below.refl _ _).alloc (Nat.le_refl _) o))
theorem puts_setCell {w : World} {g i : Nat} {old : Array Value} {t : TypeId} (v : Value) (hg : w.heap[g]? = some (.cells old t (0, 0))) : Puts g (old.setIfInBounds i v) t w (w.setCell ⟨g, i, none⟩ v) := by
  have hs : (w.setCell ⟨g, i, none⟩ v).heap.size = w.heap.size := by simp [World.setCell]
  exact ⟨heap_setCell_same w g i old t v hg, ⟨rfl, rfl, rfl, by rw [hs]; exact Nat.le_refl _, fun k _ hk => heap_setCell_other w _ k v hk⟩, hs⟩
theorem Puts.trans {g : Nat} {a b : Array Value} {t : TypeId} {w w1 w2 : World} (h1 : Puts g a t w w1) (h2 : Puts g b t w1 w2) : Puts g b t w w2 :=
  ⟨h2.at', h1.keeps.trans h2.keeps, h2.size.trans h1.size⟩
theorem there_of_block {w : World} {g o n : Nat} {old : Array Value} {t : TypeId} (hg : w.heap[g]? = some (.cells old t (0, 0))) (h : o + n ≤ old.size) : w.there g o n := fun j hj => by
  refine ⟨?_, frozen_of_row w g _ old t hg⟩
  rw [cell_of_row w g (o + j) old t _ hg]
  simp
  omega
theorem run_store_int (w : World) (g i : Nat) (n : Int) (old : Array Value) (t : TypeId) (hg : w.heap[g]? = some (.cells old t (0, 0))) (hi : i < old.size) :
    (storeVar 3 ⟨g, i, none⟩ (.int .i64 n)).run Try.prog w = .ok () (w.setCells g i [.int .i64 n]) := by
  have ht := there_of_block (n := 1) (o := i) hg (by omega)
  have := run_storeCells_cells (P := Try.prog) g i [.int .i64 n] 0 w (fun j hj => by simpa using (ht j (by simpa using hj)).1) (fun j hj => by simpa using (ht j (by simpa using hj)).2) (fun v hv => by simp at hv; subst hv; rfl)
  simp only [Nat.add_zero] at this
  have hi : (Try.prog.info? 3).map (·.size) = some 1 := by kernel_rfl
  cases hq : Try.prog.info? 3 with
  | none => simp [hq] at hi
  | some i =>
    have hs : i.size = 1 := by simpa [hq] using hi
    simp [storeVar, sizeOf, typeInfo, hq, Value.cells, hs, this]
theorem store_int {ops : Array Oper} {rest : List Oper} {o : Oper} {a : Act} {w : World} {Q : Exit → Act → World → Prop} (hgd : o.guard = none) (u v : Operand) (ho : o.op = .store 3 u v)
    (g i : Nat) (n : Int) (hx : a.eval u = .pointer (some ⟨g, i, none⟩)) (hy : a.eval v = .int .i64 n) (old : Array Value) (t : TypeId) (hg : w.heap[g]? = some (.cells old t (0, 0))) (hi : i < old.size)
    (h : ∀ w', Puts g (old.setIfInBounds i (.int .i64 n)) t w w' → wpList Try.prog ops Q rest (a.put o.dst undef) w') : wpList Try.prog ops Q (o :: rest) a w :=
  wpList_plain hgd fun _ hK => by
    unfold Oper.wp execOp
    simp only [ho, hx, hy, Instr.storeAt, Instr.sureAddr, Sem.run_bind, Sem.run_pure, Result.andThen_ok, run_store_int w g i n old t hg hi]
    exact hK _ _ (h _ (puts_setCell _ hg))
/-! the callees that reckon alone -/
/-- the cells of a list of numbers -/
def IntsAt (w : World) (a : Option Addr) (len : Nat) : Prop := len = 0 ∨ ∃ (b o : Nat) (f : Nat → Int), a = some ⟨b, o, none⟩ ∧ ∀ i, i < len → w.cell? ⟨b, o + i, none⟩ = some (.int .i64 (f i))
theorem IntsAt.below {w w' : World} {a : Option Addr} {len : Nat} (h : IntsAt w a len) (hb : Below w.heap.size w w') : IntsAt w' a len := by
  rcases h with h | ⟨b, o, f, ha, hf⟩
  · exact Or.inl h
  · exact Or.inr ⟨b, o, f, ha, fun i hi => (hb.cell (p := ⟨b, o + i, none⟩) (block_lt_of_cell (hf i hi))).trans (hf i hi)⟩
/-- the cells of a list of numbers, none of them in block p -/
def Ip (p : Nat) (w : World) (a : Option Addr) (len : Nat) : Prop := len = 0 ∨ ∃ (b o : Nat) (f : Nat → Int), a = some ⟨b, o, none⟩ ∧ b ≠ p ∧ ∀ i, i < len → w.cell? ⟨b, o + i, none⟩ = some (.int .i64 (f i))
theorem cell_kept {p b o : Nat} {w w' : World} (hb : Keeps p w w') (hp : b ≠ p) (h : b < w.heap.size) : w'.cell? ⟨b, o, none⟩ = w.cell? ⟨b, o, none⟩ := World.cell?_of_block (a := ⟨b, o, none⟩) (hb.block b h hp)
theorem Ip.keeps {p : Nat} {w w' : World} {a : Option Addr} {len : Nat} (h : Ip p w a len) (hb : Keeps p w w') : Ip p w' a len := by
  rcases h with h | ⟨b, o, f, ha, hp, hf⟩
  · exact Or.inl h
  · exact Or.inr ⟨b, o, f, ha, hp, fun i hi => (cell_kept hb hp (block_lt_of_cell (hf i hi))).trans (hf i hi)⟩
/-- a stream at block p -/
def Sm (p : Nat) (a : Option Addr) (len cap : Nat) (t : Nat) (w : World) : Prop := w.heap[p]? = some (.cells #[.slice a len cap, .int .i64 t] 25 (0, 0)) ∧ Ip p w a len
theorem Sm.below {p len cap t : Nat} {a : Option Addr} {w w' : World} (h : Sm p a len cap t w) (hb : Below w.heap.size w w') : Sm p a len cap t w' := ⟨(hb.block _ (lt_of_block h.1)).trans h.1, h.2.keeps (Keeps.of_below hb)⟩
theorem below_num (x n : Int) (hn : 1 ≤ n) (h2 : n ≤ 4611686018427387904) (w : World) : Calls Try.prog 14 #[.int .i64 x, .int .i64 n] w fun e w' => (∃ r : Int, e = .returned (.int .i64 r) ∧ 0 ≤ r ∧ r < n) ∧ w' = w := by
  have h3 := Int.tmod_lt_of_pos x (show 0 < n by omega)
  have h4 := Int.lt_tmod_of_pos x (show 0 < n by omega)
  generalize hr : x.tmod n = r at h3 h4
  by_cases hneg : r < 0
  · subst hr
    go_enter Try.func14, Try.ntmps14
    go_wp2
    go_ret
    exact ⟨⟨_, rfl, by omega, by omega⟩, rfl⟩
  · subst hr
    go_enter Try.func14, Try.ntmps14
    go_wp2
    go_ret
    exact ⟨⟨_, rfl, by omega, by omega⟩, rfl⟩
set_option maxHeartbeats 1000000 in
theorem next_t (p : Nat) (a : Option Addr) (len cap t : Nat) (n : Int) (hn : 1 ≤ n) (h2 : n ≤ 4611686018427387904) (ht : t ≤ 1000) (hl : len ≤ maxLen) (w : World) (hS : Sm p a len cap t w) :
    Calls Try.prog 6 #[.pointer (some ⟨p, 0, none⟩), .int .i64 n] w fun e w' => ∃ r : Int, e = .returned (.int .i64 r) ∧ 0 ≤ r ∧ r < n ∧ Sm p a len cap (t + 1) w' ∧ Keeps p w w' := by
  have S0 := Lib.hid hS
  have CB := Lib.hid (fun x w => below_num x n hn h2 w)
  have CC := Lib.hid (fun x w => below_num x 1073741824 (by omega) (by omega) w)
  have c0 : w.cell? ⟨p, 0, none⟩ = some (.slice a len cap) := (cell_of_row w _ 0 _ _ _ S0.out.1).trans rfl
  have c1 : w.cell? ⟨p, 1, none⟩ = some (.int .i64 t) := (cell_of_row w _ 1 _ _ _ S0.out.1).trans rfl
  unfold maxLen at hl
  clear hS
  rcases Nat.eq_zero_or_pos len with rfl | hpos
  · go_enter Try.func6, Try.ntmps6
    go_wp2_with (refine store_int rfl (.tmp 13) (.tmp 11) rfl p 1 (t + 1) rfl rfl (#[.slice a 0 cap, .int .i64 t]) 25 S0.out.1 (by simp) ?_; intro w1 hp; have S1 : Hid (Sm p a 0 cap (t + 1) w1) := Lib.hid ⟨hp.at', Or.inl rfl⟩; have K1 := Lib.hid hp.keeps; clear hp c0 c1; have c0 : w1.cell? ⟨p, 0, none⟩ = some (.slice a 0 cap) := (cell_of_row w1 _ 0 _ _ _ S1.out.1).trans rfl; have c1 : w1.cell? ⟨p, 1, none⟩ = some (.int .i64 (t + 1)) := (cell_of_row w1 _ 1 _ _ _ S1.out.1).trans rfl)
    refine (CB.out _ _).mono ?_
    rintro e wx ⟨⟨r, rfl, r1, r2⟩, hwx⟩
    rw [hwx]
    clear hwx wx
    go_wp2_with fail
    go_ret
    exact ⟨r, rfl, r1, r2, S1.out, K1.out⟩
  · obtain ⟨b, o, f, rfl, hbp, hf⟩ := S0.out.2.resolve_left (by omega)
    have HF := Lib.hid hf
    have HP := Lib.hid hbp
    have hk : t % len < len := Nat.mod_lt _ hpos
    have e1 : (t : Int).tmod (len : Int) = ((t % len : Nat) : Int) := rfl
    have e2 : (t : Int).tdiv (len : Int) = ((t / len : Nat) : Int) := rfl
    have hne : ¬ (len : Int) = 0 := by omega
    have E1 := Lib.hid e1
    have E2 := Lib.hid e2
    clear hf hbp e1 e2
    go_enter Try.func6, Try.ntmps6
    go_wp2_with (refine store_int rfl (.tmp 13) (.tmp 11) rfl p 1 (t + 1) rfl rfl (#[.slice (some ⟨b, o, none⟩) len cap, .int .i64 t]) 25 S0.out.1 (by simp) ?_; intro w1 hp; have S1 : Hid (Sm p (some ⟨b, o, none⟩) len cap (t + 1) w1) := Lib.hid ⟨hp.at', S0.out.2.keeps hp.keeps⟩; have K1 := Lib.hid hp.keeps; clear hp c0 c1; have c0 : w1.cell? ⟨p, 0, none⟩ = some (.slice (some ⟨b, o, none⟩) len cap) := (cell_of_row w1 _ 0 _ _ _ S1.out.1).trans rfl; have c1 : w1.cell? ⟨p, 1, none⟩ = some (.int .i64 (t + 1)) := (cell_of_row w1 _ 1 _ _ _ S1.out.1).trans rfl)
    go_quiet (fail)
    go_wp2_with fail
    go_quiet (fail)
    obtain ⟨k, hk2, hik⟩ : ∃ k : Nat, k < len ∧ (t : Int) % (len : Int) = k := ⟨t % len, hk, by omega⟩
    rw [hik]
    generalize wrap64 ((t : Int) / (len : Int)) = rd
    have cf : w1.cell? ⟨b, o + k, none⟩ = some (.int .i64 (f k)) := (cell_kept K1.out HP.out (block_lt_of_cell (HF.out k hk2))).trans (HF.out k hk2)
    clear hik hk
    generalize f k = fk at cf
    go_wp2_with fail
    refine (CC.out _ _).mono ?_
    rintro e wx ⟨⟨r0, rfl, r3, r4⟩, hwx⟩
    rw [hwx]
    clear hwx wx
    go_wp2_with fail
    refine (CB.out _ _).mono ?_
    rintro e wx ⟨⟨r, rfl, r1, r2⟩, hwx⟩
    rw [hwx]
    clear hwx wx
    go_wp2_with fail
    go_ret
    exact ⟨r, rfl, r1, r2, S1.out, ⟨K1.out.os, K1.out.tape, K1.out.output, K1.out.size, K1.out.block⟩⟩
theorem ints_row {w : World} {g : Nat} (l : List Int) (h : w.heap[g]? = some (.cells (l.map (Value.int .i64)).toArray 3 (0, 0))) : IntsAt w (some ⟨g, 0, none⟩) l.length := by
  refine Or.inr ⟨g, 0, fun i => l.getD i 0, rfl, fun i hi => ?_⟩
  rw [Nat.zero_add]
  refine (cell_of_row w g i _ _ _ h).trans ?_
  simp [List.getD, hi]
set_option maxHeartbeats 1000000 in
theorem pick_t (p g : Nat) (a : Option Addr) (len cap t k c : Nat) (hk : 1 ≤ k) (hk2 : k ≤ 1000) (ht : t ≤ 1000) (hl : len ≤ maxLen) (hg : g ≠ p) (w : World) (hI : IntsAt w (some ⟨g, 0, none⟩) k) (hS : Sm p a len cap t w) :
    Calls Try.prog 4 #[.pointer (some ⟨p, 0, none⟩), .slice (some ⟨g, 0, none⟩) k c] w fun e w' => ∃ r : Int, e = .returned (.int .i64 r) ∧ Sm p a len cap (t + 1) w' ∧ Keeps p w w' := by
  obtain ⟨b, o, f, hb, hf⟩ := hI.resolve_left (by omega)
  simp only [Option.some.injEq, Addr.mk.injEq] at hb
  obtain ⟨rfl, rfl, _⟩ := hb
  have HF := Lib.hid hf
  have CN := Lib.hid (next_t p a len cap t k (by omega) (by omega) ht hl w hS)
  clear hf hS ht hl hI
  go_enter Try.func4, Try.ntmps4
  go_wp2_with fail
  refine CN.out.mono ?_
  rintro e w1 ⟨r, rfl, r0, r1, hS1, hK1⟩
  obtain ⟨j, rfl⟩ : ∃ j : Nat, r = j := ⟨r.toNat, by omega⟩
  have hj : j < k := by omega
  have S1 := Lib.hid hS1
  have K1 := Lib.hid hK1
  have c0 : w1.cell? ⟨g, j, none⟩ = some (.int .i64 (f j)) := by
    have h := HF.out j hj
    rw [Nat.zero_add] at h
    exact (cell_kept hK1 hg (block_lt_of_cell h)).trans h
  clear hS1 hK1 r0 r1 HF CN
  generalize f j = r at c0
  go_wp2_with fail
  go_ret
  exact ⟨_, rfl, S1.out, K1.out⟩
theorem pick_new (p : Nat) (a : Option Addr) (len cap t : Nat) (l : List Int) (n c : Nat) (hn : l.length = n) (h1 : 1 ≤ n) (h2 : n ≤ 1000) (ht : t ≤ 1000) (hl : len ≤ maxLen) (cs : Array Value) (hc : cs = (l.map (Value.int .i64)).toArray) (w : World) (hS : Sm p a len cap t w) :
    Calls Try.prog 4 #[.pointer (some ⟨p, 0, none⟩), .slice (some ⟨w.heap.size, 0, none⟩) n c] (w.alloc (.cells cs 3)) fun e w' => ∃ r : Int, e = .returned (.int .i64 r) ∧ Sm p a len cap (t + 1) w' ∧ Keeps p w w' := by
  subst hc hn
  have hz := lt_of_block hS.1
  have hb : Below w.heap.size w (w.alloc (.cells (l.map (Value.int .i64)).toArray 3)) := (Below.refl _ _).alloc (Nat.le_refl _) _
  refine (pick_t p w.heap.size a len cap t l.length c h1 h2 ht hl (by omega) _ (ints_row l (heap_alloc_new w _)) (hS.below hb)).mono ?_
  rintro e w' ⟨r, rfl, hS', hK⟩
  exact ⟨r, rfl, hS', (Keeps.of_below hb).trans hK⟩
end Ytbihfgcejlgffaa
end Go.Proofs
