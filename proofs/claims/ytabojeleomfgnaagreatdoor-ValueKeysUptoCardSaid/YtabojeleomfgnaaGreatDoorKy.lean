/- The shelf's contracts at this dump, in plain words (the command of the kit that lays the shelf printed them): that of strings.IndexByte. The bytes of a key; the list of bytes that is being made; appendKey. appendKey. Key, by the program and by the reference; Hash. Key, by the reference. Hash. The number that eight bytes of a key tell; the place of a byte in a list. The first value of a key, by the program. FromKey, by the program. Unkeyed: FromKey by the reference. Two lists of bytes, two lists of values, compared; what FromKey returns is right. -/
import Derived.Shelf.Small.Strs
import Derived.Ground.Names2Prog
import Derived.Test.YtabojeleomfgnaaGreatDoorProg
import Derived.Test.YtabojeleomfgnaaGreatDoorLq1
import Derived.Test.YtabojeleomfgnaaGreatDoorT1
import Derived.Test.YtabojeleomfgnaaGreatDoorT2
import Derived.Test.YtabojeleomfgnaaGreatDoorM3
import Derived.Test.YtabojeleomfgnaaGreatDoorCs1
import Derived.Test.YtabojeleomfgnaaGreatDoorMp1
import Derived.Test.YtabojeleomfgnaaGreatDoorCs2
import Derived.Laws.BytesArg
import Derived.Deep.AppendLies
import Derived.Deep.RegionHeld
import Derived.Test.YtabojeleomfgnaaGreatDoorCs3
import Derived.BigQuiet
namespace Go.Proofs
open Go.Shelf
def Tryz.lays137_ren : Go.Shelf.Ren := ⟨fun | 137 => 174 | 217 => 231 | 266 => 275 | n => n, fun | 9 => 9 | 5 => 5 | 3 => 3 | n => n, fun | n => n⟩
theorem Tryz.lays137 : Go.Proofs.Lays.n137 Tryz.prog Tryz.lays137_ren := {
  mixed := by kernel_rfl
  f137 := Tryz.func174.trans (congrArg some (by kernel_rfl))
  f217 := Tryz.func231.trans (congrArg some (by kernel_rfl))
  f266 := Tryz.func275.trans (congrArg some (by kernel_rfl))
  t3 := Tryz.underlying3
  a3 := Tryz.isAgg3
  z3 := Tryz.sizeOf3
  v3 := Tryz.zeroValue3
  t5 := Tryz.underlying5
  a5 := Tryz.isAgg5
  z5 := Tryz.sizeOf5
  v5 := Tryz.zeroValue5
  t9 := Tryz.underlying9
  a9 := Tryz.isAgg9
  z9 := Tryz.sizeOf9
  v9 := Tryz.zeroValue9 }
open Go.RowKit in
/-- strings.IndexByte: "IndexByte returns the index of the first instance of c in s, or -1 if c is not present in s.": IT RETURNS 'Lib.indexByte s c'; the world is as it was. (LAID: no walk: one application.) -/
theorem Tryz.strings_IndexByte (s : ByteArray) (c : Int) (w : World) :
    Calls Tryz.prog 174 #[.string s, .int .u8 c] w fun e w' => e = .returned (.int .i64 (Lib.indexByte s.data.toList c.toNat.toUInt8)) ∧ w' = w := Any.strings_IndexByte Tryz.lays137 s c w
end Go.Proofs
namespace Go.Proofs
open Go.RowKit
namespace YtabojeleomfgnaaGreatDoor
set_option maxRecDepth 100000
/-- a byte of a number's eight -/
def kbyte (n : Int) (s : Nat) : Int := (n + 4611686018427387904) / 2 ^ s % 256
def eightTo (n : Int) : Nat → List Int
  | 0 => []
  | k + 1 => eightTo n k ++ [kbyte n (56 - 8 * k)]
def keyV (x : V3) : List Int := x.1 :: (if x.1 = 0 then [] else if x.1 = 3 then bytesOf x.2.2 ++ [0] else eightTo x.2.1 8)
def keyL (L : List V3) : List Int := L.flatMap fun x => keyV (clT x)
abbrev u8s (l : List Int) : List Value := l.map (Value.int .u8)
/-- the list of bytes that is being made, and nothing else turned -/
def Ab (acc : List Int) (v : Value) (w0 w : World) : Prop := w.ownsRow w0.heap.size 5 1 v acc.length (u8s acc) ∧ Below w0.heap.size w0 w
theorem Ab.below {acc : List Int} {v : Value} {w0 w w' : World} (h : Ab acc v w0 w) (hb : Below w.heap.size w w') : Ab acc v w0 w' := by
  refine ⟨?_, below_call h.2 hb⟩
  obtain ⟨⟨h1, h2⟩, _⟩ := h
  refine ⟨h1, ?_⟩
  rcases h2 with h2 | ⟨g, cap, cur, hv, h3, h4, h5⟩
  · exact Or.inl h2
  · exact Or.inr ⟨g, cap, cur, hv, h3, (hb.block _ (lt_of_block h4)).trans h4, h5⟩
theorem Ab.alloc {acc : List Int} {v : Value} {w0 w : World} (h : Ab acc v w0 w) (o : Obj) : Ab acc v w0 (w.alloc o) := h.below ((Below.refl _ w).alloc (Nat.le_refl _) o)
theorem info5i : (Tryz.prog.info? 5).map (fun i => (i.zero, i.size, i.bytes)) = some (some (.int .u8 0), 1, 1) := by kernel_rfl
/-- a block of another type is as it was -/
theorem Ab.other {acc : List Int} {v : Value} {w0 w w' : World} (hA : Ab acc v w0 w) (hg : w.grownBy w' v.ownBlock) {g : Nat} {cells : Array Value} {t : TypeId} (h : w.heap[g]? = some (.cells cells t (0, 0))) (ht : t ≠ 5) : w'.heap[g]? = some (.cells cells t (0, 0)) := by
  refine (hg.block g (lt_of_block h) (fun e => ?_)).trans h
  obtain ⟨⟨_, h2⟩, _⟩ := hA
  rcases h2 with ⟨rfl, _⟩ | ⟨b, cap, cur, rfl, _, h4, _⟩
  · cases e
  · have e2 : some g = some b := e
    obtain rfl := Option.some.inj e2
    rw [h4] at h
    have := Option.some.inj h
    simp only [Obj.cells.injEq] at this
    exact ht this.2.1.symm
theorem wpList_pushB {ops : Array Oper} {rest : List Oper} {o : Oper} {a : Act} {w : World} {Q : Exit → Act → World → Prop} (hgd : o.guard = none) (s x : Operand) (ho : o.op = .call { callee := .builtin .append, args := #[s, x], argTypes := #[32, 32] })
    (w0 wr : World) (acc : List Int) (v : Value) (p : Int) (hs : a.eval s = v) (hA : Ab acc v w0 wr) (hw : w = wr.alloc (.cells #[.int .u8 p] 5)) (hx : a.eval x = .slice (some ⟨wr.heap.size, 0, none⟩) 1 1) (hlen : acc.length ≤ 100000000000000)
    (h : ∀ v' w', Ab (acc ++ [p]) v' w0 w' → (∀ (g : Nat) (cs : Array Value) (t : TypeId), t ≠ 5 → wr.heap[g]? = some (Obj.cells cs t (0, 0)) → w'.heap[g]? = some (Obj.cells cs t (0, 0))) → wpList Tryz.prog ops Q rest (a.put o.dst v') w') : wpList Tryz.prog ops Q (o :: rest) a w := by
  subst hw
  obtain ⟨i3, hi, hz0, hz1, hz2⟩ := info_parts info5i
  have hA1 := hA.alloc (.cells #[.int .u8 p] 5)
  refine wpList_append_own _ hgd s x 32 ho w0.heap.size 5 i3 (.int .u8 0) 1 1 Tryz.underlying32 hi hz0 hz1 hz2 rfl (by decide) v acc.length _ hs hA1.1 ⟨wr.heap.size, 0, none⟩ 1 1 [.int .u8 p] hx rfl ?_ (by simp [Value.oneCell']) (by unfold maxLen; omega) (by omega) hA1.2.size ?_
  · intro j u hj
    have hr : (wr.alloc (.cells #[.int .u8 p] 5)).heap[wr.heap.size]? = some (.cells #[.int .u8 p] 5 (0, 0)) := heap_alloc_new wr _
    have hj0 : j = 0 := by
      have := (List.getElem?_eq_some_iff.1 hj).1
      simpa using this
    subst hj0
    exact (cell_of_row _ _ 0 _ _ _ hr).trans hj
  · intro v' w' h1 h2 _
    refine h v' w' ⟨by simpa [u8s] using h1, hA1.2.grown h2 hA1.2.size (fun k hk => (hA1.1.lt k hk).1)⟩ (fun g cs t ht hg => ?_)
    exact Ab.other hA1 h2 ((heap_alloc_old _ _ (lt_of_block hg)).trans hg) ht
theorem strCells_u8s (s : ByteArray) : Lib.strCells s = u8s (bytesOf s) := by
  unfold u8s bytesOf
  rw [List.map_map]
  rfl
theorem wpList_pushS {ops : Array Oper} {rest : List Oper} {o : Oper} {a : Act} {w : World} {Q : Exit → Act → World → Prop} (hgd : o.guard = none) (s x : Operand) (ho : o.op = .call { callee := .builtin .append, args := #[s, x], argTypes := #[32, 9] })
    (w0 : World) (acc : List Int) (v : Value) (t : ByteArray) (hs : a.eval s = v) (hA : Ab acc v w0 w) (hx : a.eval x = .string t) (hlen : acc.length ≤ 100000000000000) (ht : t.size ≤ 1000)
    (h : ∀ v' w', Ab (acc ++ bytesOf t) v' w0 w' → (∀ (g : Nat) (cs : Array Value) (t : TypeId), t ≠ 5 → w.heap[g]? = some (Obj.cells cs t (0, 0)) → w'.heap[g]? = some (Obj.cells cs t (0, 0))) → wpList Tryz.prog ops Q rest (a.put o.dst v') w') : wpList Tryz.prog ops Q (o :: rest) a w := by
  obtain ⟨i3, hi, hz0, hz1, hz2⟩ := info_parts info5i
  refine Lib.wpList_append_own_string w hgd s x 32 9 ho w0.heap.size 5 i3 Tryz.underlying32 Tryz.underlying9 hi hz0 hz1 hz2 v acc.length _ hs hA.1 t hx (by unfold maxLen; omega) (by omega) hA.2.size ?_
  intro v' w' h1 h2 _
  refine h v' w' ⟨?_, hA.2.grown h2 hA.2.size (fun k hk => (hA.1.lt k hk).1)⟩ (fun g cs u hu hg => Ab.other hA h2 hg hu)
  rw [strCells_u8s] at h1
  unfold u8s at h1 ⊢
  rw [List.map_append, List.length_append, bytesOf_length]
  exact h1
/-- what stays behind an append to the list of bytes -/
def Same5 (w w' : World) : Prop := ∀ (g : Nat) (cs : Array Value) (t : TypeId), t ≠ 5 → w.heap[g]? = some (Obj.cells cs t (0, 0)) → w'.heap[g]? = some (Obj.cells cs t (0, 0))
theorem Same5.trans {a b c : World} (h : Same5 a b) (k : Same5 b c) : Same5 a c := fun g cs t ht hg => k g cs t ht (h g cs t ht hg)
theorem Same5.below {w w' : World} (h : Below w.heap.size w w') : Same5 w w' := fun g _ _ _ hg => (h.block g (lt_of_block hg)).trans hg
def AbP (acc : List Int) (w0 wa : World) (e : Ending) (w : World) : Prop := ∃ v, e = .returned v ∧ Ab acc v w0 w ∧ Same5 wa w
theorem AbP.mk {acc acc' : List Int} {v : Value} {w0 wa w : World} (h : Ab acc' v w0 w) (hs : Same5 wa w) (e : acc = acc') : AbP acc w0 wa (.returned v) w := ⟨v, rfl, e ▸ h, hs⟩
end YtabojeleomfgnaaGreatDoor
end Go.Proofs
namespace Go.Proofs
open Go.RowKit
namespace YtabojeleomfgnaaGreatDoor
set_option maxRecDepth 100000
theorem eight_len (n : Int) : ∀ k, (eightTo n k).length = k
  | 0 => rfl
  | k + 1 => by rw [eightTo, List.length_append, eight_len n k]; rfl
set_option maxHeartbeats 4000000 in
theorem appendKey_t (x : V3) (hx : Right x) (acc : List Int) (v : Value) (w0 w : World) (hA : Ab acc v w0 w) (hl : acc.length ≤ 10000000000000) :
    Calls Tryz.prog 100 #[v, toV x] w fun e w' => AbP (acc ++ keyV x) w0 w e w' := by
  have HA := Lib.hid hA
  obtain ⟨b1, b2, b3, b4, b5⟩ := hx.bounds
  have HK : keyV x = x.1 :: (if x.1 = 0 then [] else if x.1 = 3 then bytesOf x.2.2 ++ [0] else eightTo x.2.1 8) := rfl
  generalize keyV x = KV at *
  obtain ⟨K, n, s⟩ := x
  dsimp only at b1 b2 b3 b4 b5 HK
  clear hA hx
  change Calls Tryz.prog 100 #[v, val K n s] w _
  have A0 : Hid (Ab acc v w0 (w.alloc (.cells #[.int .i64 K, .int .i64 n, .string s] 23))) := Lib.hid (HA.out.alloc _)
  have X0 : Hid ((w.alloc (.cells #[.int .i64 K, .int .i64 n, .string s] 23)).heap[w.heap.size]? = some (.cells (cells (K, n, s)) 23 (0, 0))) := Lib.hid (heap_alloc_new w _)
  have S0 : Hid (Same5 w (w.alloc (.cells #[.int .i64 K, .int .i64 n, .string s] 23))) := Lib.hid (Same5.below (by go_grown))
  rcases (by omega : K = 0 ∨ K = 3 ∨ K = 1 ∨ K = 2 ∨ K = 4) with rfl | rfl | rfl | rfl | rfl
  · have HE := Lib.hid (show KV = [0] from HK)
    clear HK
    go_enter Tryz.func100, Tryz.ntmps100
    go_wp2_with (at_builtin; go_must (refine wpList_pushB rfl (.tmp 7) (.tmp 11) rfl w0 (w.alloc (.cells #[.int .i64 0, .int .i64 n, .string s] 23)) acc v 0 rfl A0.out rfl (by simp only [World.size_alloc]; rfl) (by omega) ?_); intro v1 w1 hA' hS'; have A1 := Lib.hid hA'; have S1 := Lib.hid (S0.out.trans hS'); have X1 := Lib.hid (hS' _ _ _ (by decide) X0.out); clear hA' hS'; have a0 : w1.cell? ⟨w.heap.size, 0, none⟩ = some (.int .i64 0) := (cell_of_row w1 _ 0 _ _ _ X1.out).trans rfl; have a1 : w1.cell? ⟨w.heap.size, 1, none⟩ = some (.int .i64 n) := (cell_of_row w1 _ 1 _ _ _ X1.out).trans rfl; have a2 : w1.cell? ⟨w.heap.size, 2, none⟩ = some (.string s) := (cell_of_row w1 _ 2 _ _ _ X1.out).trans rfl)
    go_ret
    exact AbP.mk A1.out S1.out (by rw [HE.out])
  · have HE := Lib.hid (show KV = 3 :: (bytesOf s ++ [0]) from HK)
    clear HK
    have hb := bytesOf_length s
    go_enter Tryz.func100, Tryz.ntmps100
    go_wp2_with (first | (at_builtin; (refine wpList_pushB rfl (.tmp 7) (.tmp 11) rfl w0 (w.alloc (.cells #[.int .i64 3, .int .i64 n, .string s] 23)) acc v 3 rfl A0.out rfl (by simp only [World.size_alloc]; rfl) (by omega) ?_); intro v1 w1 hA' hS'; have A1 := Lib.hid hA'; have S1 := Lib.hid (S0.out.trans hS'); have X1 := Lib.hid (hS' _ _ _ (by decide) X0.out); clear hA' hS'; have a0 : w1.cell? ⟨w.heap.size, 0, none⟩ = some (.int .i64 3) := (cell_of_row w1 _ 0 _ _ _ X1.out).trans rfl; have a1 : w1.cell? ⟨w.heap.size, 1, none⟩ = some (.int .i64 n) := (cell_of_row w1 _ 1 _ _ _ X1.out).trans rfl; have a2 : w1.cell? ⟨w.heap.size, 2, none⟩ = some (.string s) := (cell_of_row w1 _ 2 _ _ _ X1.out).trans rfl) | (at_builtin; refine wpList_pushS rfl (.tmp 20) (.tmp 22) rfl w0 _ v1 s rfl A1.out rfl (by simp only [List.length_append, List.length_cons, List.length_nil]; omega) (by omega) ?_; intro v2 w2 hA' hS'; have A2 := Lib.hid hA'; have S2 := Lib.hid (S1.out.trans hS'); clear hA' hS') | (at_builtin; refine wpList_pushB rfl (.tmp 23) (.tmp 24) rfl w0 w2 _ v2 0 rfl A2.out rfl rfl (by simp only [List.length_append, List.length_cons, List.length_nil]; omega) ?_; intro v3 w3 hA' hS'; have A3 := Lib.hid hA'; have S3 := Lib.hid (S2.out.trans hS'); clear hA' hS'))
    go_ret
    exact AbP.mk A3.out S3.out (by rw [HE.out]; simp)
  · have HE := Lib.hid (show KV = 1 :: eightTo n 8 from HK)
    clear HK
    go_enter Tryz.func100, Tryz.ntmps100
    go_wp2_with (at_builtin; go_must (refine wpList_pushB rfl (.tmp 7) (.tmp 11) rfl w0 (w.alloc (.cells #[.int .i64 1, .int .i64 n, .string s] 23)) acc v 1 rfl A0.out rfl (by simp only [World.size_alloc]; rfl) (by omega) ?_); intro v1 w1 hA' hS'; have A1 := Lib.hid hA'; have S1 := Lib.hid (S0.out.trans hS'); have X1 := Lib.hid (hS' _ _ _ (by decide) X0.out); clear hA' hS'; have a0 : w1.cell? ⟨w.heap.size, 0, none⟩ = some (.int .i64 1) := (cell_of_row w1 _ 0 _ _ _ X1.out).trans rfl; have a1 : w1.cell? ⟨w.heap.size, 1, none⟩ = some (.int .i64 n) := (cell_of_row w1 _ 1 _ _ _ X1.out).trans rfl; have a2 : w1.cell? ⟨w.heap.size, 2, none⟩ = some (.string s) := (cell_of_row w1 _ 2 _ _ _ X1.out).trans rfl)
    go_loopw [0, 6] (fun y z wr => ∃ (k : Nat) (u : Value), k ≤ 8 ∧ u = y ∧ z = .int .i64 (56 - 8 * (k : Int)) ∧ Hid (Ab (acc ++ [1] ++ eightTo n k) u w0 wr) ∧ Hid (Same5 w wr)) (fun _ z _ => (intOf z + 8).toNat)
    case atStart => exact ⟨0, v1, by omega, rfl, by go_num, Lib.hid (by simpa [eightTo] using A1.out), S1⟩
    case round =>
      obtain ⟨k, u, hk, rfl, rfl, hA, hS⟩ := hrel
      by_cases hlt : k < 8
      · have hlen : (acc ++ [1] ++ eightTo n k).length ≤ 100000000000000 := by simp only [List.length_append, List.length_cons, List.length_nil, eight_len]; omega
        go_wp2_with (at_builtin; go_must (refine wpList_pushB rfl (.tmp 34) (.tmp 39) rfl w0 wr _ u ((n + 4611686018427387904) / 2 ^ (56 - 8 * k) % 256) rfl hA.out rfl rfl hlen ?_); intro v2 w2 hA' hS'; have A2 := Lib.hid hA'; have S2 := Lib.hid (hS.out.trans hS'); clear hA' hS')
        go_roundw
        case rel => exact ⟨k + 1, v2, by omega, rfl, by go_num, Lib.hid (by rw [eightTo, ← List.append_assoc]; exact A2.out), S2⟩
        case measure => simp [intOf]; omega
      · have hk8 : k = 8 := by omega
        subst hk8
        go_wp2_with fail
        go_ret
        exact AbP.mk hA.out hS.out (by rw [HE.out]; simp)
  · have HE := Lib.hid (show KV = 2 :: eightTo n 8 from HK)
    clear HK
    go_enter Tryz.func100, Tryz.ntmps100
    go_wp2_with (at_builtin; go_must (refine wpList_pushB rfl (.tmp 7) (.tmp 11) rfl w0 (w.alloc (.cells #[.int .i64 2, .int .i64 n, .string s] 23)) acc v 2 rfl A0.out rfl (by simp only [World.size_alloc]; rfl) (by omega) ?_); intro v1 w1 hA' hS'; have A1 := Lib.hid hA'; have S1 := Lib.hid (S0.out.trans hS'); have X1 := Lib.hid (hS' _ _ _ (by decide) X0.out); clear hA' hS'; have a0 : w1.cell? ⟨w.heap.size, 0, none⟩ = some (.int .i64 2) := (cell_of_row w1 _ 0 _ _ _ X1.out).trans rfl; have a1 : w1.cell? ⟨w.heap.size, 1, none⟩ = some (.int .i64 n) := (cell_of_row w1 _ 1 _ _ _ X1.out).trans rfl; have a2 : w1.cell? ⟨w.heap.size, 2, none⟩ = some (.string s) := (cell_of_row w1 _ 2 _ _ _ X1.out).trans rfl)
    go_loopw [0, 6] (fun y z wr => ∃ (k : Nat) (u : Value), k ≤ 8 ∧ u = y ∧ z = .int .i64 (56 - 8 * (k : Int)) ∧ Hid (Ab (acc ++ [2] ++ eightTo n k) u w0 wr) ∧ Hid (Same5 w wr)) (fun _ z _ => (intOf z + 8).toNat)
    case atStart => exact ⟨0, v1, by omega, rfl, by go_num, Lib.hid (by simpa [eightTo] using A1.out), S1⟩
    case round =>
      obtain ⟨k, u, hk, rfl, rfl, hA, hS⟩ := hrel
      by_cases hlt : k < 8
      · have hlen : (acc ++ [2] ++ eightTo n k).length ≤ 100000000000000 := by simp only [List.length_append, List.length_cons, List.length_nil, eight_len]; omega
        go_wp2_with (at_builtin; go_must (refine wpList_pushB rfl (.tmp 34) (.tmp 39) rfl w0 wr _ u ((n + 4611686018427387904) / 2 ^ (56 - 8 * k) % 256) rfl hA.out rfl rfl hlen ?_); intro v2 w2 hA' hS'; have A2 := Lib.hid hA'; have S2 := Lib.hid (hS.out.trans hS'); clear hA' hS')
        go_roundw
        case rel => exact ⟨k + 1, v2, by omega, rfl, by go_num, Lib.hid (by rw [eightTo, ← List.append_assoc]; exact A2.out), S2⟩
        case measure => simp [intOf]; omega
      · have hk8 : k = 8 := by omega
        subst hk8
        go_wp2_with fail
        go_ret
        exact AbP.mk hA.out hS.out (by rw [HE.out]; simp)
  · have HE := Lib.hid (show KV = 4 :: eightTo n 8 from HK)
    clear HK
    go_enter Tryz.func100, Tryz.ntmps100
    go_wp2_with (at_builtin; go_must (refine wpList_pushB rfl (.tmp 7) (.tmp 11) rfl w0 (w.alloc (.cells #[.int .i64 4, .int .i64 n, .string s] 23)) acc v 4 rfl A0.out rfl (by simp only [World.size_alloc]; rfl) (by omega) ?_); intro v1 w1 hA' hS'; have A1 := Lib.hid hA'; have S1 := Lib.hid (S0.out.trans hS'); have X1 := Lib.hid (hS' _ _ _ (by decide) X0.out); clear hA' hS'; have a0 : w1.cell? ⟨w.heap.size, 0, none⟩ = some (.int .i64 4) := (cell_of_row w1 _ 0 _ _ _ X1.out).trans rfl; have a1 : w1.cell? ⟨w.heap.size, 1, none⟩ = some (.int .i64 n) := (cell_of_row w1 _ 1 _ _ _ X1.out).trans rfl; have a2 : w1.cell? ⟨w.heap.size, 2, none⟩ = some (.string s) := (cell_of_row w1 _ 2 _ _ _ X1.out).trans rfl)
    go_loopw [0, 6] (fun y z wr => ∃ (k : Nat) (u : Value), k ≤ 8 ∧ u = y ∧ z = .int .i64 (56 - 8 * (k : Int)) ∧ Hid (Ab (acc ++ [4] ++ eightTo n k) u w0 wr) ∧ Hid (Same5 w wr)) (fun _ z _ => (intOf z + 8).toNat)
    case atStart => exact ⟨0, v1, by omega, rfl, by go_num, Lib.hid (by simpa [eightTo] using A1.out), S1⟩
    case round =>
      obtain ⟨k, u, hk, rfl, rfl, hA, hS⟩ := hrel
      by_cases hlt : k < 8
      · have hlen : (acc ++ [4] ++ eightTo n k).length ≤ 100000000000000 := by simp only [List.length_append, List.length_cons, List.length_nil, eight_len]; omega
        go_wp2_with (at_builtin; go_must (refine wpList_pushB rfl (.tmp 34) (.tmp 39) rfl w0 wr _ u ((n + 4611686018427387904) / 2 ^ (56 - 8 * k) % 256) rfl hA.out rfl rfl hlen ?_); intro v2 w2 hA' hS'; have A2 := Lib.hid hA'; have S2 := Lib.hid (hS.out.trans hS'); clear hA' hS')
        go_roundw
        case rel => exact ⟨k + 1, v2, by omega, rfl, by go_num, Lib.hid (by rw [eightTo, ← List.append_assoc]; exact A2.out), S2⟩
        case measure => simp [intOf]; omega
      · have hk8 : k = 8 := by omega
        subst hk8
        go_wp2_with fail
        go_ret
        exact AbP.mk hA.out hS.out (by rw [HE.out]; simp)
end YtabojeleomfgnaaGreatDoor
end Go.Proofs
namespace Go.Proofs
open Go.RowKit
namespace YtabojeleomfgnaaGreatDoor
set_option maxRecDepth 100000
theorem keyV_len {x : V3} (h : Right x) : (keyV x).length ≤ 102 := by
  obtain ⟨_, _, _, _, b5⟩ := h.bounds
  unfold keyV
  rw [List.length_cons]
  split
  · simp
  · split
    · rw [List.length_append, bytesOf_length]; simp; omega
    · rw [eight_len]; omega
theorem keyL_len : ∀ L : List V3, (keyL L).length ≤ 102 * L.length
  | [] => Nat.le_refl _
  | x :: L => by
    have h1 := keyL_len L
    have h2 := keyV_len (clT_right x)
    have e : keyL (x :: L) = keyV (clT x) ++ keyL L := rfl
    rw [e, List.length_append, List.length_cons]
    omega
theorem keyL_take (L : List V3) (k : Nat) (h : k < L.length) : keyL (L.take (k + 1)) = keyL (L.take k) ++ keyV (clT L[k]) := by
  rw [List.take_succ_eq_append_getElem h]
  unfold keyL
  rw [List.flatMap_append]
  simp
def KeyP (l : List Int) (w0 : World) (e : Ending) (w : World) : Prop := ∃ v, e = .returned v ∧ Ab l v w0 w
theorem KeyP.mk {l m : List Int} {v : Value} {w0 w : World} (h : Ab m v w0 w) (e : l = m) : KeyP l w0 (.returned v) w := ⟨v, rfl, e ▸ h⟩
set_option maxHeartbeats 2000000 in
theorem key_t (a : Option Addr) (c : Nat) (L : List V3) (w : World) (hl : L.length ≤ 10000000) (h : Lst w a L) : Calls Tryz.prog 24 #[.slice a L.length c] w fun e w' => KeyP (keyL L) w e w' := by
  have H := Lib.hid h
  clear h
  have A0 : Hid (Ab (keyL (L.take 0)) (.slice none 0 0) w w) := Lib.hid ⟨World.ownsRow_nil _ _ _ _, Below.refl _ _⟩
  go_enter Tryz.func24, Tryz.ntmps24
  go_wp2_with fail
  go_loopw [3, 8] (fun y z wr => ∃ (k : Nat) (u : Value), k ≤ L.length ∧ u = y ∧ z = .int .i64 k ∧ Hid (Ab (keyL (L.take k)) u w wr)) (fun _ z _ => L.length - (intOf z).toNat)
  case atStart => exact ⟨0, _, Nat.zero_le _, rfl, rfl, A0⟩
  case round =>
    obtain ⟨k, u, hk, rfl, rfl, hA⟩ := hrel
    by_cases hlt : k < L.length
    · have HT := Lib.hid (keyL_take L k hlt)
      have hlen := keyL_len (L.take k)
      have hlen2 : (keyL (L.take k)).length ≤ 10000000000000 := by rw [List.length_take] at hlen; omega
      clear hlen
      obtain ⟨b, o, rfl, x0, x1, x2, xs⟩ := (H.out.below hA.out.2) k hlt
      generalize L[k] = x at HT x0 x1 x2 xs
      obtain ⟨xk, xn, xt⟩ := x
      dsimp only at x0 x1 x2 xs
      have CX := Lib.hid (fun w => clean_t (xk, xn, xt) xs w)
      have hr := clT_right (xk, xn, xt)
      have CK := Lib.hid (fun w2 (h2 : Ab (keyL (L.take k)) u w w2) => appendKey_t (clT (xk, xn, xt)) hr (keyL (L.take k)) u w w2 h2 hlen2)
      generalize clT (xk, xn, xt) = X at *
      clear hr hlen2 xs
      go_wp2_with (refine store23 rfl (.tmp 5) (.tmp 11) rfl wr.heap.size (xk, xn, xt) rfl rfl nullT (new_at _ _ _ rfl) ?_; intro w1 hp; have X1 := Lib.hid hp.at'; have B1 := Lib.hid (hp.below (w0 := wr) ((Below.refl _ wr).alloc (Nat.le_refl _) _) (Nat.le_refl _)); clear hp x0 x1 x2; have a0 : w1.cell? ⟨wr.heap.size, 0, none⟩ = some (.int .i64 xk) := (cell_of_row w1 _ 0 _ _ _ X1.out).trans rfl; have a1 : w1.cell? ⟨wr.heap.size, 1, none⟩ = some (.int .i64 xn) := (cell_of_row w1 _ 1 _ _ _ X1.out).trans rfl; have a2 : w1.cell? ⟨wr.heap.size, 2, none⟩ = some (.string xt) := (cell_of_row w1 _ 2 _ _ _ X1.out).trans rfl)
      refine (CX.out _).mono ?_
      rintro e w2 ⟨rfl, hb2⟩
      have A2 := Lib.hid (hA.out.below (B1.out.trans (hb2.mono B1.out.size)))
      clear hb2 a0 a1 a2
      go_wp2_with fail
      refine (CK.out _ A2.out).mono ?_
      rintro e w3 ⟨u3, rfl, hA3, _⟩
      have A3 := Lib.hid hA3
      clear hA3
      go_wp2_with fail
      go_roundw
      case rel => exact ⟨k + 1, u3, by omega, rfl, by go_num, by rw [HT.out]; exact A3⟩
      case measure => simp [intOf]; omega
    · have hk2 : k = L.length := by omega
      subst hk2
      go_wp2_with fail
      go_ret
      exact KeyP.mk hA.out (by rw [List.take_length])
end YtabojeleomfgnaaGreatDoor
end Go.Proofs
namespace Go.Proofs
open Go.RowKit
namespace YtabojeleomfgnaaGreatDoor
set_option maxRecDepth 100000
set_option maxHeartbeats 8000000 in
theorem keyed_t (a : Option Addr) (c : Nat) (L : List V3) (w : World) (hl : L.length ≤ 10000000) (h : Lst w a L) : Calls Tryz.prog 28 #[.slice a L.length c] w fun e w' => KeyP (keyL L) w e w' := by
  have H := Lib.hid h
  clear h
  have A0 : Hid (Ab (keyL (L.take 0)) (.slice none 0 0) w w) := Lib.hid ⟨World.ownsRow_nil _ _ _ _, Below.refl _ _⟩
  go_enter Tryz.func28, Tryz.ntmps28
  go_wp2_with fail
  go_loopw [3, 9] (fun y z wr => ∃ (k : Nat) (u : Value), k ≤ L.length ∧ u = y ∧ z = .int .i64 k ∧ Hid (Ab (keyL (L.take k)) u w wr)) (fun _ z _ => L.length - (intOf z).toNat)
  case atStart => exact ⟨0, _, Nat.zero_le _, rfl, rfl, A0⟩
  case round =>
    obtain ⟨k, u, hk, rfl, rfl, hA⟩ := hrel
    by_cases hlt : k < L.length
    · have HT := Lib.hid (keyL_take L k hlt)
      have hlen := keyL_len (L.take k)
      have hlen2 : (keyL (L.take k)).length ≤ 10000000000000 := by rw [List.length_take] at hlen; omega
      clear hlen
      obtain ⟨b, o, rfl, x0, x1, x2, xs⟩ := (H.out.below hA.out.2) k hlt
      generalize L[k] = x at HT x0 x1 x2 xs
      generalize keyL (L.take k) = acc at *
      obtain ⟨xk, xn, xt⟩ := x
      dsimp only at x0 x1 x2 xs
      have CX := Lib.hid (fun w => right_t (xk, xn, xt) xs w)
      obtain ⟨b1, b2, b3, b4, b5⟩ := (clT_right (xk, xn, xt)).bounds
      have HK : keyV (clT (xk, xn, xt)) = (clT (xk, xn, xt)).1 :: (if (clT (xk, xn, xt)).1 = 0 then [] else if (clT (xk, xn, xt)).1 = 3 then bytesOf (clT (xk, xn, xt)).2.2 ++ [0] else eightTo (clT (xk, xn, xt)).2.1 8) := rfl
      generalize keyV (clT (xk, xn, xt)) = KV at *
      generalize clT (xk, xn, xt) = X at *
      obtain ⟨K, n, s⟩ := X
      dsimp only at b1 b2 b3 b4 b5 HK
      clear xs
      have hb := bytesOf_length s
      rcases (by omega : K = 0 ∨ K = 3 ∨ K = 1 ∨ K = 2 ∨ K = 4) with rfl | rfl | rfl | rfl | rfl
      · have HE := Lib.hid (show KV = [0] from HK)
        clear HK
        go_wp2_with (refine store23 rfl (.tmp 5) (.tmp 12) rfl wr.heap.size (xk, xn, xt) rfl rfl nullT (new_at _ _ _ rfl) ?_; intro w1 hp; have X1 := Lib.hid hp.at'; have B1 := Lib.hid (hp.below (w0 := wr) ((Below.refl _ wr).alloc (Nat.le_refl _) _) (Nat.le_refl _)); clear hp x0 x1 x2; have a0 : w1.cell? ⟨wr.heap.size, 0, none⟩ = some (.int .i64 xk) := (cell_of_row w1 _ 0 _ _ _ X1.out).trans rfl; have a1 : w1.cell? ⟨wr.heap.size, 1, none⟩ = some (.int .i64 xn) := (cell_of_row w1 _ 1 _ _ _ X1.out).trans rfl; have a2 : w1.cell? ⟨wr.heap.size, 2, none⟩ = some (.string xt) := (cell_of_row w1 _ 2 _ _ _ X1.out).trans rfl)
        refine (CX.out _).mono ?_
        rintro e w2 ⟨rfl, hb2⟩
        have X2 := Lib.hid ((hb2.block _ (lt_of_block X1.out)).trans X1.out)
        have B2 := Lib.hid (B1.out.trans (hb2.mono B1.out.size))
        clear hb2 a0 a1 a2
        go_wp2_with (first | (refine store23 rfl (.tmp 5) (.tmp 14) rfl wr.heap.size (0, n, s) rfl rfl _ X2.out ?_; intro w3 hp; have X3 := Lib.hid hp.at'; have A3 := Lib.hid (hA.out.below (hp.below (w0 := wr) B2.out (Nat.le_refl _))); clear hp; have a0 : w3.cell? ⟨wr.heap.size, 0, none⟩ = some (.int .i64 0) := (cell_of_row w3 _ 0 _ _ _ X3.out).trans rfl; have a1 : w3.cell? ⟨wr.heap.size, 1, none⟩ = some (.int .i64 n) := (cell_of_row w3 _ 1 _ _ _ X3.out).trans rfl; have a2 : w3.cell? ⟨wr.heap.size, 2, none⟩ = some (.string s) := (cell_of_row w3 _ 2 _ _ _ X3.out).trans rfl) | (at_builtin; refine wpList_pushB rfl (.tmp 15) (.tmp 19) rfl w w3 acc u 0 rfl A3.out rfl rfl (by omega) ?_; intro v4 w4 hA' hS'; have A4 := Lib.hid hA'; have X4 := Lib.hid (hS' _ _ _ (by decide) X3.out); clear hA' hS' a0 a1 a2; have a0 : w4.cell? ⟨wr.heap.size, 0, none⟩ = some (.int .i64 0) := (cell_of_row w4 _ 0 _ _ _ X4.out).trans rfl; have a1 : w4.cell? ⟨wr.heap.size, 1, none⟩ = some (.int .i64 n) := (cell_of_row w4 _ 1 _ _ _ X4.out).trans rfl; have a2 : w4.cell? ⟨wr.heap.size, 2, none⟩ = some (.string s) := (cell_of_row w4 _ 2 _ _ _ X4.out).trans rfl))
        clear a0 a1 a2
        go_roundw
        case rel => exact ⟨k + 1, v4, by omega, rfl, by go_num, by rw [HT.out, HE.out]; exact A4⟩
        case measure => simp [intOf]; omega
      · have HE := Lib.hid (show KV = 3 :: (bytesOf s ++ [0]) from HK)
        clear HK
        go_wp2_with (refine store23 rfl (.tmp 5) (.tmp 12) rfl wr.heap.size (xk, xn, xt) rfl rfl nullT (new_at _ _ _ rfl) ?_; intro w1 hp; have X1 := Lib.hid hp.at'; have B1 := Lib.hid (hp.below (w0 := wr) ((Below.refl _ wr).alloc (Nat.le_refl _) _) (Nat.le_refl _)); clear hp x0 x1 x2; have a0 : w1.cell? ⟨wr.heap.size, 0, none⟩ = some (.int .i64 xk) := (cell_of_row w1 _ 0 _ _ _ X1.out).trans rfl; have a1 : w1.cell? ⟨wr.heap.size, 1, none⟩ = some (.int .i64 xn) := (cell_of_row w1 _ 1 _ _ _ X1.out).trans rfl; have a2 : w1.cell? ⟨wr.heap.size, 2, none⟩ = some (.string xt) := (cell_of_row w1 _ 2 _ _ _ X1.out).trans rfl)
        refine (CX.out _).mono ?_
        rintro e w2 ⟨rfl, hb2⟩
        have X2 := Lib.hid ((hb2.block _ (lt_of_block X1.out)).trans X1.out)
        have B2 := Lib.hid (B1.out.trans (hb2.mono B1.out.size))
        clear hb2 a0 a1 a2
        go_wp2_with (first | (refine store23 rfl (.tmp 5) (.tmp 14) rfl wr.heap.size (3, n, s) rfl rfl _ X2.out ?_; intro w3 hp; have X3 := Lib.hid hp.at'; have A3 := Lib.hid (hA.out.below (hp.below (w0 := wr) B2.out (Nat.le_refl _))); clear hp; have a0 : w3.cell? ⟨wr.heap.size, 0, none⟩ = some (.int .i64 3) := (cell_of_row w3 _ 0 _ _ _ X3.out).trans rfl; have a1 : w3.cell? ⟨wr.heap.size, 1, none⟩ = some (.int .i64 n) := (cell_of_row w3 _ 1 _ _ _ X3.out).trans rfl; have a2 : w3.cell? ⟨wr.heap.size, 2, none⟩ = some (.string s) := (cell_of_row w3 _ 2 _ _ _ X3.out).trans rfl) | (at_builtin; refine wpList_pushB rfl (.tmp 15) (.tmp 19) rfl w w3 acc u 3 rfl A3.out rfl rfl (by omega) ?_; intro v4 w4 hA' hS'; have A4 := Lib.hid hA'; have X4 := Lib.hid (hS' _ _ _ (by decide) X3.out); clear hA' hS' a0 a1 a2; have a0 : w4.cell? ⟨wr.heap.size, 0, none⟩ = some (.int .i64 3) := (cell_of_row w4 _ 0 _ _ _ X4.out).trans rfl; have a1 : w4.cell? ⟨wr.heap.size, 1, none⟩ = some (.int .i64 n) := (cell_of_row w4 _ 1 _ _ _ X4.out).trans rfl; have a2 : w4.cell? ⟨wr.heap.size, 2, none⟩ = some (.string s) := (cell_of_row w4 _ 2 _ _ _ X4.out).trans rfl) | (at_builtin; refine wpList_pushS rfl (.tmp 40) (.tmp 42) rfl w _ v4 s rfl A4.out rfl (by simp only [List.length_append, List.length_cons, List.length_nil]; omega) (by omega) ?_; intro v5 w5 hA' hS'; have A5 := Lib.hid hA'; clear hA' hS' a0 a1 a2) | (at_builtin; refine wpList_pushB rfl (.tmp 43) (.tmp 44) rfl w w5 _ v5 0 rfl A5.out rfl rfl (by simp only [List.length_append, List.length_cons, List.length_nil]; omega) ?_; intro v6 w6 hA' hS'; have A6 := Lib.hid hA'; clear hA' hS'))
        go_roundw
        case rel => exact ⟨k + 1, v6, by omega, rfl, by go_num, by rw [HT.out, HE.out]; exact Lib.hid (by simpa using A6.out)⟩
        case measure => simp [intOf]; omega
      · have HE := Lib.hid (show KV = 1 :: eightTo n 8 from HK)
        clear HK
        go_wp2_with (refine store23 rfl (.tmp 5) (.tmp 12) rfl wr.heap.size (xk, xn, xt) rfl rfl nullT (new_at _ _ _ rfl) ?_; intro w1 hp; have X1 := Lib.hid hp.at'; have B1 := Lib.hid (hp.below (w0 := wr) ((Below.refl _ wr).alloc (Nat.le_refl _) _) (Nat.le_refl _)); clear hp x0 x1 x2; have a0 : w1.cell? ⟨wr.heap.size, 0, none⟩ = some (.int .i64 xk) := (cell_of_row w1 _ 0 _ _ _ X1.out).trans rfl; have a1 : w1.cell? ⟨wr.heap.size, 1, none⟩ = some (.int .i64 xn) := (cell_of_row w1 _ 1 _ _ _ X1.out).trans rfl; have a2 : w1.cell? ⟨wr.heap.size, 2, none⟩ = some (.string xt) := (cell_of_row w1 _ 2 _ _ _ X1.out).trans rfl)
        refine (CX.out _).mono ?_
        rintro e w2 ⟨rfl, hb2⟩
        have X2 := Lib.hid ((hb2.block _ (lt_of_block X1.out)).trans X1.out)
        have B2 := Lib.hid (B1.out.trans (hb2.mono B1.out.size))
        clear hb2 a0 a1 a2
        go_wp2_with (first | (refine store23 rfl (.tmp 5) (.tmp 14) rfl wr.heap.size (1, n, s) rfl rfl _ X2.out ?_; intro w3 hp; have X3 := Lib.hid hp.at'; have A3 := Lib.hid (hA.out.below (hp.below (w0 := wr) B2.out (Nat.le_refl _))); clear hp; have a0 : w3.cell? ⟨wr.heap.size, 0, none⟩ = some (.int .i64 1) := (cell_of_row w3 _ 0 _ _ _ X3.out).trans rfl; have a1 : w3.cell? ⟨wr.heap.size, 1, none⟩ = some (.int .i64 n) := (cell_of_row w3 _ 1 _ _ _ X3.out).trans rfl; have a2 : w3.cell? ⟨wr.heap.size, 2, none⟩ = some (.string s) := (cell_of_row w3 _ 2 _ _ _ X3.out).trans rfl) | (at_builtin; refine wpList_pushB rfl (.tmp 15) (.tmp 19) rfl w w3 acc u 1 rfl A3.out rfl rfl (by omega) ?_; intro v4 w4 hA' hS'; have A4 := Lib.hid hA'; have X4 := Lib.hid (hS' _ _ _ (by decide) X3.out); clear hA' hS' a0 a1 a2; have a0 : w4.cell? ⟨wr.heap.size, 0, none⟩ = some (.int .i64 1) := (cell_of_row w4 _ 0 _ _ _ X4.out).trans rfl; have a1 : w4.cell? ⟨wr.heap.size, 1, none⟩ = some (.int .i64 n) := (cell_of_row w4 _ 1 _ _ _ X4.out).trans rfl; have a2 : w4.cell? ⟨wr.heap.size, 2, none⟩ = some (.string s) := (cell_of_row w4 _ 2 _ _ _ X4.out).trans rfl))
        clear a0 a1 a2 X1 X2 X3 B1 B2 A3 CX
        generalize wr.heap.size = g5 at *
        go_loopw [3, 6] (fun y z wq => ∃ (j : Nat) (v : Value), j ≤ 8 ∧ v = y ∧ z = .int .i64 (56 - 8 * (j : Int)) ∧ Hid (Ab (acc ++ [1] ++ eightTo n j) v w wq) ∧ Hid (wq.heap[g5]? = some (.cells (cells (1, n, s)) 23 (0, 0)))) (fun _ z _ => (intOf z + 8).toNat)
        case atStart => exact ⟨0, v4, by omega, rfl, by go_num, Lib.hid (by simpa [eightTo] using A4.out), X4⟩
        case round =>
          obtain ⟨j, v, hj, rfl, rfl, hB, hX⟩ := hrel
          by_cases hj8 : j < 8
          · have hlen : (acc ++ [1] ++ eightTo n j).length ≤ 100000000000000 := by simp only [List.length_append, List.length_cons, List.length_nil, eight_len]; omega
            have a1 : wr.cell? ⟨g5, 1, none⟩ = some (.int .i64 n) := (cell_of_row wr _ 1 _ _ _ hX.out).trans rfl
            go_wp2_with (at_builtin; go_must (refine wpList_pushB rfl (.tmp 27) (.tmp 34) rfl w wr _ v ((n + 4611686018427387904) / 2 ^ (56 - 8 * j) % 256) rfl hB.out rfl rfl hlen ?_); intro v5 w5 hA' hS'; have A5 := Lib.hid hA'; have X5 := Lib.hid (hS' _ _ _ (by decide) hX.out); clear hA' hS' a1)
            go_roundw
            case rel => exact ⟨j + 1, v5, by omega, rfl, by go_num, Lib.hid (by rw [eightTo, ← List.append_assoc]; exact A5.out), X5⟩
            case measure => simp [intOf]; omega
          · have hj9 : j = 8 := by omega
            subst hj9
            go_wp2_with fail
            go_roundw
            case rel => exact ⟨k + 1, v, by omega, rfl, by go_num, by rw [HT.out, HE.out]; exact Lib.hid (by simpa using hB.out)⟩
            case measure => simp [intOf]; omega
      · have HE := Lib.hid (show KV = 2 :: eightTo n 8 from HK)
        clear HK
        go_wp2_with (refine store23 rfl (.tmp 5) (.tmp 12) rfl wr.heap.size (xk, xn, xt) rfl rfl nullT (new_at _ _ _ rfl) ?_; intro w1 hp; have X1 := Lib.hid hp.at'; have B1 := Lib.hid (hp.below (w0 := wr) ((Below.refl _ wr).alloc (Nat.le_refl _) _) (Nat.le_refl _)); clear hp x0 x1 x2; have a0 : w1.cell? ⟨wr.heap.size, 0, none⟩ = some (.int .i64 xk) := (cell_of_row w1 _ 0 _ _ _ X1.out).trans rfl; have a1 : w1.cell? ⟨wr.heap.size, 1, none⟩ = some (.int .i64 xn) := (cell_of_row w1 _ 1 _ _ _ X1.out).trans rfl; have a2 : w1.cell? ⟨wr.heap.size, 2, none⟩ = some (.string xt) := (cell_of_row w1 _ 2 _ _ _ X1.out).trans rfl)
        refine (CX.out _).mono ?_
        rintro e w2 ⟨rfl, hb2⟩
        have X2 := Lib.hid ((hb2.block _ (lt_of_block X1.out)).trans X1.out)
        have B2 := Lib.hid (B1.out.trans (hb2.mono B1.out.size))
        clear hb2 a0 a1 a2
        go_wp2_with (first | (refine store23 rfl (.tmp 5) (.tmp 14) rfl wr.heap.size (2, n, s) rfl rfl _ X2.out ?_; intro w3 hp; have X3 := Lib.hid hp.at'; have A3 := Lib.hid (hA.out.below (hp.below (w0 := wr) B2.out (Nat.le_refl _))); clear hp; have a0 : w3.cell? ⟨wr.heap.size, 0, none⟩ = some (.int .i64 2) := (cell_of_row w3 _ 0 _ _ _ X3.out).trans rfl; have a1 : w3.cell? ⟨wr.heap.size, 1, none⟩ = some (.int .i64 n) := (cell_of_row w3 _ 1 _ _ _ X3.out).trans rfl; have a2 : w3.cell? ⟨wr.heap.size, 2, none⟩ = some (.string s) := (cell_of_row w3 _ 2 _ _ _ X3.out).trans rfl) | (at_builtin; refine wpList_pushB rfl (.tmp 15) (.tmp 19) rfl w w3 acc u 2 rfl A3.out rfl rfl (by omega) ?_; intro v4 w4 hA' hS'; have A4 := Lib.hid hA'; have X4 := Lib.hid (hS' _ _ _ (by decide) X3.out); clear hA' hS' a0 a1 a2; have a0 : w4.cell? ⟨wr.heap.size, 0, none⟩ = some (.int .i64 2) := (cell_of_row w4 _ 0 _ _ _ X4.out).trans rfl; have a1 : w4.cell? ⟨wr.heap.size, 1, none⟩ = some (.int .i64 n) := (cell_of_row w4 _ 1 _ _ _ X4.out).trans rfl; have a2 : w4.cell? ⟨wr.heap.size, 2, none⟩ = some (.string s) := (cell_of_row w4 _ 2 _ _ _ X4.out).trans rfl))
        clear a0 a1 a2 X1 X2 X3 B1 B2 A3 CX
        generalize wr.heap.size = g5 at *
        go_loopw [3, 6] (fun y z wq => ∃ (j : Nat) (v : Value), j ≤ 8 ∧ v = y ∧ z = .int .i64 (56 - 8 * (j : Int)) ∧ Hid (Ab (acc ++ [2] ++ eightTo n j) v w wq) ∧ Hid (wq.heap[g5]? = some (.cells (cells (2, n, s)) 23 (0, 0)))) (fun _ z _ => (intOf z + 8).toNat)
        case atStart => exact ⟨0, v4, by omega, rfl, by go_num, Lib.hid (by simpa [eightTo] using A4.out), X4⟩
        case round =>
          obtain ⟨j, v, hj, rfl, rfl, hB, hX⟩ := hrel
          by_cases hj8 : j < 8
          · have hlen : (acc ++ [2] ++ eightTo n j).length ≤ 100000000000000 := by simp only [List.length_append, List.length_cons, List.length_nil, eight_len]; omega
            have a1 : wr.cell? ⟨g5, 1, none⟩ = some (.int .i64 n) := (cell_of_row wr _ 1 _ _ _ hX.out).trans rfl
            go_wp2_with (at_builtin; go_must (refine wpList_pushB rfl (.tmp 27) (.tmp 34) rfl w wr _ v ((n + 4611686018427387904) / 2 ^ (56 - 8 * j) % 256) rfl hB.out rfl rfl hlen ?_); intro v5 w5 hA' hS'; have A5 := Lib.hid hA'; have X5 := Lib.hid (hS' _ _ _ (by decide) hX.out); clear hA' hS' a1)
            go_roundw
            case rel => exact ⟨j + 1, v5, by omega, rfl, by go_num, Lib.hid (by rw [eightTo, ← List.append_assoc]; exact A5.out), X5⟩
            case measure => simp [intOf]; omega
          · have hj9 : j = 8 := by omega
            subst hj9
            go_wp2_with fail
            go_roundw
            case rel => exact ⟨k + 1, v, by omega, rfl, by go_num, by rw [HT.out, HE.out]; exact Lib.hid (by simpa using hB.out)⟩
            case measure => simp [intOf]; omega
      · have HE := Lib.hid (show KV = 4 :: eightTo n 8 from HK)
        clear HK
        go_wp2_with (refine store23 rfl (.tmp 5) (.tmp 12) rfl wr.heap.size (xk, xn, xt) rfl rfl nullT (new_at _ _ _ rfl) ?_; intro w1 hp; have X1 := Lib.hid hp.at'; have B1 := Lib.hid (hp.below (w0 := wr) ((Below.refl _ wr).alloc (Nat.le_refl _) _) (Nat.le_refl _)); clear hp x0 x1 x2; have a0 : w1.cell? ⟨wr.heap.size, 0, none⟩ = some (.int .i64 xk) := (cell_of_row w1 _ 0 _ _ _ X1.out).trans rfl; have a1 : w1.cell? ⟨wr.heap.size, 1, none⟩ = some (.int .i64 xn) := (cell_of_row w1 _ 1 _ _ _ X1.out).trans rfl; have a2 : w1.cell? ⟨wr.heap.size, 2, none⟩ = some (.string xt) := (cell_of_row w1 _ 2 _ _ _ X1.out).trans rfl)
        refine (CX.out _).mono ?_
        rintro e w2 ⟨rfl, hb2⟩
        have X2 := Lib.hid ((hb2.block _ (lt_of_block X1.out)).trans X1.out)
        have B2 := Lib.hid (B1.out.trans (hb2.mono B1.out.size))
        clear hb2 a0 a1 a2
        go_wp2_with (first | (refine store23 rfl (.tmp 5) (.tmp 14) rfl wr.heap.size (4, n, s) rfl rfl _ X2.out ?_; intro w3 hp; have X3 := Lib.hid hp.at'; have A3 := Lib.hid (hA.out.below (hp.below (w0 := wr) B2.out (Nat.le_refl _))); clear hp; have a0 : w3.cell? ⟨wr.heap.size, 0, none⟩ = some (.int .i64 4) := (cell_of_row w3 _ 0 _ _ _ X3.out).trans rfl; have a1 : w3.cell? ⟨wr.heap.size, 1, none⟩ = some (.int .i64 n) := (cell_of_row w3 _ 1 _ _ _ X3.out).trans rfl; have a2 : w3.cell? ⟨wr.heap.size, 2, none⟩ = some (.string s) := (cell_of_row w3 _ 2 _ _ _ X3.out).trans rfl) | (at_builtin; refine wpList_pushB rfl (.tmp 15) (.tmp 19) rfl w w3 acc u 4 rfl A3.out rfl rfl (by omega) ?_; intro v4 w4 hA' hS'; have A4 := Lib.hid hA'; have X4 := Lib.hid (hS' _ _ _ (by decide) X3.out); clear hA' hS' a0 a1 a2; have a0 : w4.cell? ⟨wr.heap.size, 0, none⟩ = some (.int .i64 4) := (cell_of_row w4 _ 0 _ _ _ X4.out).trans rfl; have a1 : w4.cell? ⟨wr.heap.size, 1, none⟩ = some (.int .i64 n) := (cell_of_row w4 _ 1 _ _ _ X4.out).trans rfl; have a2 : w4.cell? ⟨wr.heap.size, 2, none⟩ = some (.string s) := (cell_of_row w4 _ 2 _ _ _ X4.out).trans rfl))
        clear a0 a1 a2 X1 X2 X3 B1 B2 A3 CX
        generalize wr.heap.size = g5 at *
        go_loopw [3, 6] (fun y z wq => ∃ (j : Nat) (v : Value), j ≤ 8 ∧ v = y ∧ z = .int .i64 (56 - 8 * (j : Int)) ∧ Hid (Ab (acc ++ [4] ++ eightTo n j) v w wq) ∧ Hid (wq.heap[g5]? = some (.cells (cells (4, n, s)) 23 (0, 0)))) (fun _ z _ => (intOf z + 8).toNat)
        case atStart => exact ⟨0, v4, by omega, rfl, by go_num, Lib.hid (by simpa [eightTo] using A4.out), X4⟩
        case round =>
          obtain ⟨j, v, hj, rfl, rfl, hB, hX⟩ := hrel
          by_cases hj8 : j < 8
          · have hlen : (acc ++ [4] ++ eightTo n j).length ≤ 100000000000000 := by simp only [List.length_append, List.length_cons, List.length_nil, eight_len]; omega
            have a1 : wr.cell? ⟨g5, 1, none⟩ = some (.int .i64 n) := (cell_of_row wr _ 1 _ _ _ hX.out).trans rfl
            go_wp2_with (at_builtin; go_must (refine wpList_pushB rfl (.tmp 27) (.tmp 34) rfl w wr _ v ((n + 4611686018427387904) / 2 ^ (56 - 8 * j) % 256) rfl hB.out rfl rfl hlen ?_); intro v5 w5 hA' hS'; have A5 := Lib.hid hA'; have X5 := Lib.hid (hS' _ _ _ (by decide) hX.out); clear hA' hS' a1)
            go_roundw
            case rel => exact ⟨j + 1, v5, by omega, rfl, by go_num, Lib.hid (by rw [eightTo, ← List.append_assoc]; exact A5.out), X5⟩
            case measure => simp [intOf]; omega
          · have hj9 : j = 8 := by omega
            subst hj9
            go_wp2_with fail
            go_roundw
            case rel => exact ⟨k + 1, v, by omega, rfl, by go_num, by rw [HT.out, HE.out]; exact Lib.hid (by simpa using hB.out)⟩
            case measure => simp [intOf]; omega
    · have hk2 : k = L.length := by omega
      subst hk2
      go_wp2_with fail
      go_ret
      exact KeyP.mk hA.out (by rw [List.take_length])
end YtabojeleomfgnaaGreatDoor
end Go.Proofs
namespace Go.Proofs
open Go.RowKit
namespace YtabojeleomfgnaaGreatDoor
set_option maxRecDepth 100000
/-- a list of bytes lies there -/
def Lsb (w : World) (a : Option Addr) (S : List Int) : Prop := ∀ k p, S[k]? = some p → ∃ b o, a = some ⟨b, o, none⟩ ∧ w.cell? ⟨b, o + k, none⟩ = some (.int .u8 p)
theorem Lsb.below {w w' : World} {a : Option Addr} {S : List Int} (h : Lsb w a S) (hb : Below w.heap.size w w') : Lsb w' a S := fun k p hk => by
  obtain ⟨b, o, ha, hc⟩ := h k p hk
  exact ⟨b, o, ha, (hb.cell (p := ⟨b, o + k, none⟩) (block_lt_of_cell hc)).trans hc⟩
def bytesOk (S : List Int) : Prop := ∀ p ∈ S, 0 ≤ p ∧ p ≤ 255
def hstep (h c : Int) : Int := IntKind.u64.wrap (bits BinOp.xor IntKind.u64 h c * 1099511628211)
def hashI (S : List Int) : Int := S.foldl hstep 14695981039346656037
theorem hash_take {S : List Int} {k : Nat} {p : Int} (h : S[k]? = some p) : hashI (S.take (k + 1)) = hstep (hashI (S.take k)) p := by
  obtain ⟨hk, e⟩ := List.getElem?_eq_some_iff.1 h
  rw [List.take_succ_eq_append_getElem hk, e]
  unfold hashI
  rw [List.foldl_append]
  rfl
set_option maxHeartbeats 2000000 in
theorem hashOf_t (a : Option Addr) (c : Nat) (S : List Int) (w : World) (hl : S.length ≤ 100000000000000) (h : Lsb w a S) (hS : bytesOk S) : Calls Tryz.prog 31 #[.slice a S.length c] w fun e w' => e = .returned (.int .u64 (hashI S)) ∧ w' = w := by
  have H := Lib.hid h
  clear h
  go_enter Tryz.func31, Tryz.ntmps31
  go_wp2_with fail
  go_loopw [3, 8] (fun y z wr => ∃ (k : Nat) (u : Int), k ≤ S.length ∧ y = .int .u64 u ∧ Hid (u = hashI (S.take k)) ∧ z = .int .i64 k ∧ Hid (wr = w)) (fun _ z _ => S.length - (intOf z).toNat)
  case atStart => exact ⟨0, 14695981039346656037, Nat.zero_le _, rfl, Lib.hid rfl, rfl, Lib.hid rfl⟩
  case round =>
    obtain ⟨k, u, hk, rfl, hu, rfl, hw⟩ := hrel
    obtain rfl := hw.out
    by_cases hlt : k < S.length
    · obtain ⟨p, hp⟩ := lt_some hlt
      obtain ⟨b, o, rfl, c0⟩ := H.out k p hp
      obtain ⟨p0, p1⟩ := hS p (List.mem_of_getElem? hp)
      have HN := Lib.hid (hash_take hp)
      clear hp
      go_wp2_with fail
      go_roundw
      case rel => exact ⟨k + 1, _, by omega, rfl, Lib.hid (by rw [HN.out, ← hu.out]; rfl), by go_num, Lib.hid trivial⟩
      case measure => simp [intOf]; omega
    · have hk2 : k = S.length := by omega
      subst hk2
      go_wp2_with fail
      go_ret
      exact ⟨by rw [hu.out, List.take_length]; rfl, rfl⟩
theorem Ab.bytes {acc : List Int} {v : Value} {w0 w : World} (h : Ab acc v w0 w) : ∃ a cap, v = .slice a acc.length cap ∧ Lsb w a acc := by
  obtain ⟨⟨h1, h2⟩, _⟩ := h
  rcases h2 with ⟨rfl, h0⟩ | ⟨g, cap, cur, rfl, h3, h4, h5, h6, h7, h8⟩
  · refine ⟨none, 0, by rw [h0], fun k p hk => ?_⟩
    have := some_lt hk
    omega
  · refine ⟨_, cap, rfl, fun k p hk => ⟨g, 0, rfl, ?_⟩⟩
    have hlt := some_lt hk
    rw [Nat.zero_add, cell_of_row w g k _ _ _ h4]
    have h9 : (u8s acc)[k]? = some (.int .u8 p) := by unfold u8s; rw [List.getElem?_map, hk]; rfl
    rw [← h8, List.getElem?_take] at h9
    simpa [hlt] using h9
theorem keyV_ok {x : V3} (h : Right x) : bytesOk (keyV x) := by
  obtain ⟨b1, b2, b3, b4, b5⟩ := h.bounds
  have he : ∀ n k, bytesOk (eightTo n k) := by
    intro n k
    induction k with
    | zero => intro p hp; cases hp
    | succ k ih =>
      intro p hp
      rw [eightTo] at hp
      rcases List.mem_append.1 hp with hp | hp
      · exact ih p hp
      · rw [List.mem_singleton] at hp
        rw [hp]
        unfold kbyte
        omega
  intro p hp
  unfold keyV at hp
  rcases List.mem_cons.1 hp with rfl | hp
  · omega
  · split at hp
    · cases hp
    · split at hp
      · rcases List.mem_append.1 hp with hp | hp
        · unfold bytesOf at hp
          obtain ⟨b, _, rfl⟩ := List.mem_map.1 hp
          have := b.toNat_lt
          omega
        · rw [List.mem_singleton] at hp; omega
      · exact he _ _ p hp
theorem keyL_ok (L : List V3) : bytesOk (keyL L) := by
  intro p hp
  unfold keyL at hp
  obtain ⟨x, _, hx⟩ := List.mem_flatMap.1 hp
  exact keyV_ok (clT_right x) p hx
set_option maxHeartbeats 2000000 in
theorem hash_t (a : Option Addr) (c : Nat) (L : List V3) (w : World) (hl : L.length ≤ 10000000) (h : Lst w a L) : Calls Tryz.prog 30 #[.slice a L.length c] w fun e w' => e = .returned (.int .u64 (hashI (keyL L))) ∧ Below w.heap.size w w' := by
  have CK := Lib.hid (key_t a c L w hl h)
  have hlen := keyL_len L
  have hS := keyL_ok L
  generalize keyL L = S at *
  clear h
  go_enter Tryz.func30, Tryz.ntmps30
  go_wp2_with fail
  refine CK.out.mono ?_
  rintro e w1 ⟨v, rfl, hA⟩
  obtain ⟨b, cap, rfl, hb⟩ := hA.bytes
  have H := Lib.hid hb
  have HB := Lib.hid hA.2
  clear hb hA CK
  go_wp2_with fail
  go_loopw [3, 9] (fun y z wr => ∃ (k : Nat) (u : Int), k ≤ S.length ∧ y = .int .u64 u ∧ Hid (u = hashI (S.take k)) ∧ z = .int .i64 k ∧ Hid (wr = w1)) (fun _ z _ => S.length - (intOf z).toNat)
  case atStart => exact ⟨0, 14695981039346656037, Nat.zero_le _, rfl, Lib.hid rfl, rfl, Lib.hid rfl⟩
  case round =>
    obtain ⟨k, u, hk, rfl, hu, rfl, hw⟩ := hrel
    obtain rfl := hw.out
    by_cases hlt : k < S.length
    · obtain ⟨p, hp⟩ := lt_some hlt
      obtain ⟨g, o, rfl, c0⟩ := H.out k p hp
      obtain ⟨p0, p1⟩ := hS p (List.mem_of_getElem? hp)
      have HN := Lib.hid (hash_take hp)
      clear hp
      go_wp2_with fail
      go_roundw
      case rel => exact ⟨k + 1, _, by omega, rfl, Lib.hid (by rw [HN.out, ← hu.out]; rfl), by go_num, Lib.hid trivial⟩
      case measure => simp [intOf]; omega
    · have hk2 : k = S.length := by omega
      subst hk2
      go_wp2_with fail
      go_ret
      exact ⟨by rw [hu.out, List.take_length]; rfl, HB.out⟩
end YtabojeleomfgnaaGreatDoor
end Go.Proofs
namespace Go.Proofs
open Go.RowKit
namespace YtabojeleomfgnaaGreatDoor
set_option maxRecDepth 100000
def nstep (u c : Int) : Int := bits BinOp.or IntKind.u64 (IntKind.u64.wrap (u * 256)) c
def nfold (S : List Int) : Int := S.foldl nstep 0
def numK (S : List Int) : Int := wrap64 (IntKind.u64.wrap (nfold S - 4611686018427387904))
theorem nfold_take {S : List Int} {k : Nat} {p : Int} (h : S[k]? = some p) : nfold (S.take (k + 1)) = nstep (nfold (S.take k)) p := by
  obtain ⟨hk, e⟩ := List.getElem?_eq_some_iff.1 h
  rw [List.take_succ_eq_append_getElem hk, e]
  unfold nfold
  rw [List.foldl_append]
  rfl
set_option maxHeartbeats 2000000 in
theorem numKey_t (s : ByteArray) (hs : s.size ≤ 100) (w : World) : Calls Tryz.prog 175 #[.string s] w fun e w' => e = .returned (.int .i64 (numK (bytesOf s))) ∧ w' = w := by
  go_enter Tryz.func175, Tryz.ntmps175
  go_wp2_with fail
  go_loopw [3, 7] (fun y z wr => ∃ (k : Nat) (u : Int), k ≤ s.size ∧ y = .int .u64 u ∧ Hid (u = nfold ((bytesOf s).take k)) ∧ z = .int .i64 k ∧ Hid (wr = w)) (fun _ z _ => s.size - (intOf z).toNat)
  case atStart => exact ⟨0, 0, Nat.zero_le _, rfl, Lib.hid rfl, rfl, Lib.hid rfl⟩
  case round =>
    obtain ⟨k, u, hk, rfl, hu, rfl, hw⟩ := hrel
    obtain rfl := hw.out
    by_cases hlt : k < s.size
    · have hc8 : s[k].toNat < 256 := s[k].toNat_lt
      have HN := Lib.hid (nfold_take (bytesOf_some hlt))
      obtain ⟨c, hcs⟩ : ∃ c : Int, ((s[k].toNat : Nat) : Int) = c := ⟨_, rfl⟩
      rw [hcs] at HN
      have hc0 : 0 ≤ c := by omega
      have hc1 : c ≤ 255 := by omega
      go_wp2_with fail
      go_roundw
      case rel => exact ⟨k + 1, _, by omega, rfl, Lib.hid (by rw [HN.out, ← hu.out]; rfl), by go_num, Lib.hid trivial⟩
      case measure => simp [intOf]; omega
    · have hk2 : k = s.size := by omega
      subst hk2
      have HE : Hid (numK (bytesOf s) = wrap64 (IntKind.u64.wrap (u - 4611686018427387904))) := Lib.hid (by
        unfold numK
        have := hu.out
        rw [← bytesOf_length s, List.take_length] at this
        rw [this])
      go_wp2_with fail
      go_ret
      exact ⟨by rw [HE.out]; rfl, rfl⟩
/-- the place of a zero, -1 if there is none -/
def zeroAt : List Int → Int
  | [] => -1
  | p :: l => if p = 0 then 0 else if zeroAt l = -1 then -1 else zeroAt l + 1
theorem zeroAt_ge : ∀ l, -1 ≤ zeroAt l
  | [] => by unfold zeroAt; omega
  | p :: l => by
    have := zeroAt_ge l
    unfold zeroAt
    split
    · omega
    · split <;> omega
theorem zeroAt_byte : ∀ l : List UInt8, Lib.indexByte l 0 = zeroAt (l.map fun b => (b.toNat : Int))
  | [] => rfl
  | b :: l => by
    have ih := zeroAt_byte l
    rw [List.map_cons]
    unfold Lib.indexByte zeroAt
    rw [← ih]
    by_cases h : b = 0
    · subst h
      simp
    · have h2 : ¬ ((b.toNat : Int) = 0) := fun e => h (UInt8.toNat_inj.1 (by show b.toNat = 0; omega))
      have h3 : ¬ b.toNat = 0 := by omega
      simp [h, h3]
theorem zeroAt_hit {S : List Int} {k : Nat} (h : S[k]? = some 0) (hn : ∀ j p, j < k → S[j]? = some p → p ≠ 0) : zeroAt S = k := by
  induction S generalizing k with
  | nil => cases h
  | cons p l ih =>
    cases k with
    | zero =>
      have : p = 0 := Option.some.inj h
      unfold zeroAt
      rw [if_pos this]; rfl
    | succ k =>
      have hp : p ≠ 0 := hn 0 p (by omega) rfl
      have e := ih (k := k) h (fun j q hj hq => hn (j + 1) q (by omega) hq)
      unfold zeroAt
      rw [if_neg hp, e, if_neg (by omega)]
      omega
theorem zeroAt_none {S : List Int} (hn : ∀ p ∈ S, p ≠ 0) : zeroAt S = -1 := by
  induction S with
  | nil => rfl
  | cons p l ih =>
    unfold zeroAt
    rw [if_neg (hn p (List.mem_cons_self)), ih (fun q hq => hn q (List.mem_cons_of_mem _ hq)), if_pos rfl]
set_option maxHeartbeats 2000000 in
theorem index0_t (a : Option Addr) (c : Nat) (S : List Int) (w : World) (hl : S.length ≤ 100000000000000) (h : Lsb w a S) (hS : bytesOk S) : Calls Tryz.prog 102 #[.slice a S.length c, .int .u8 0] w fun e w' => e = .returned (.int .i64 (zeroAt S)) ∧ w' = w := by
  have H := Lib.hid h
  clear h
  go_enter Tryz.func102, Tryz.ntmps102
  go_wp2_with fail
  go_loopw [8] (fun z wr => ∃ k : Nat, k ≤ S.length ∧ z = .int .i64 k ∧ Hid (∀ j p, j < k → S[j]? = some p → p ≠ 0) ∧ Hid (wr = w)) (fun z _ => S.length - (intOf z).toNat)
  case atStart => exact ⟨0, Nat.zero_le _, rfl, Lib.hid (fun j p hj => by omega), Lib.hid rfl⟩
  case round =>
    obtain ⟨k, hk, rfl, hno, hw⟩ := hrel
    obtain rfl := hw.out
    by_cases hlt : k < S.length
    · obtain ⟨p, hp⟩ := lt_some hlt
      have HP := Lib.hid hp
      obtain ⟨b, o, rfl, c0⟩ := H.out k p hp
      obtain ⟨p0, p1⟩ := hS p (List.mem_of_getElem? hp)
      clear hp
      cases hz : ((0 : Int) == p) with
      | true =>
        obtain rfl : (0 : Int) = p := by simpa using hz
        have HE := Lib.hid (zeroAt_hit HP.out hno.out)
        go_wp2_with fail
        go_ret
        exact ⟨by rw [HE.out]; rfl, rfl⟩
      | false =>
        have hz2 : p ≠ 0 := fun e => by rw [e] at hz; simp at hz
        have HN : Hid (∀ j q, j < k + 1 → S[j]? = some q → q ≠ 0) := Lib.hid (fun j q hj hq => by
          rcases (by omega : j < k ∨ j = k) with h | h
          · exact hno.out j q h hq
          · subst h
            rw [HP.out] at hq
            rw [← Option.some.inj hq]
            exact hz2)
        clear hz2
        go_wp2_with fail
        go_roundw
        case rel => exact ⟨k + 1, by omega, by go_num, HN, Lib.hid trivial⟩
        case measure => simp [intOf]; omega
    · have hk2 : k = S.length := by omega
      subst hk2
      have HE : Hid (zeroAt S = -1) := Lib.hid (zeroAt_none (fun p hp => by
        obtain ⟨j, hj, e⟩ := List.mem_iff_getElem.1 hp
        exact hno.out j p hj (by rw [List.getElem?_eq_getElem hj, e])))
      go_wp2_with fail
      go_ret
      exact ⟨by rw [HE.out]; rfl, rfl⟩
end YtabojeleomfgnaaGreatDoor
end Go.Proofs
namespace Go.Proofs
open Go.RowKit
namespace YtabojeleomfgnaaGreatDoor
set_option maxRecDepth 100000
def strB (l : List Int) : ByteArray := ⟨(l.map fun p => UInt8.ofNat p.toNat).toArray⟩
theorem strB_bytes (s : ByteArray) : strB (bytesOf s) = s := by
  apply ba_ext
  show List.map (fun p : Int => UInt8.ofNat p.toNat) (s.data.toList.map fun b => (b.toNat : Int)) = s.data.toList
  rw [List.map_map]
  conv => rhs; rw [← List.map_id s.data.toList]
  apply List.map_congr_left
  intro b _
  simp
theorem bytes_ext (s : ByteArray) (a b : Nat) : bytesOf (s.extract a b) = ((bytesOf s).take b).drop a := by
  unfold bytesOf
  rw [ext_lst, List.map_drop, List.map_take]
def finT (v : V3) (n : Int) : V3 × Int × Int := if clT v = v then (v, n, 0) else (nullT, 0, 1)
/-- the first value of a key, the number of its bytes, the fault -/
def firstT : List Int → V3 × Int × Int
  | [] => (nullT, 0, 0)
  | p :: r =>
    if p = 0 then (nullT, 1, 0)
    else if kindB p = false then (nullT, 0, 4)
    else if p = 3 then (if zeroAt r < 0 then (nullT, 0, 15) else finT (3, 0, strB (r.take (zeroAt r).toNat)) (zeroAt r + 2))
    else if r.length < 8 then (nullT, 0, 15)
    else finT (p, numK (r.take 8), ByteArray.empty) 9
theorem run_store_str (w : World) (g i : Nat) (n : ByteArray) (old : Array Value) (t : TypeId) (hg : w.heap[g]? = some (.cells old t (0, 0))) (hi : i < old.size) :
    (storeVar 9 ⟨g, i, none⟩ (.string n)).run Tryz.prog w = .ok () (w.setCells g i [.string n]) := by
  have ht := there_of_block (n := 1) (o := i) hg (by omega)
  have := run_storeCells_cells (P := Tryz.prog) g i [.string n] 0 w (fun j hj => by simpa using (ht j (by simpa using hj)).1) (fun j hj => by simpa using (ht j (by simpa using hj)).2) (fun v hv => by simp at hv; subst hv; rfl)
  simp only [Nat.add_zero] at this
  have hi : (Tryz.prog.info? 9).map (·.size) = some 1 := by kernel_rfl
  cases hq : Tryz.prog.info? 9 with
  | none => simp [hq] at hi
  | some i =>
    have hs : i.size = 1 := by simpa [hq] using hi
    simp [storeVar, sizeOf, typeInfo, hq, Value.cells, hs, this]
theorem store_str {ops : Array Oper} {rest : List Oper} {o : Oper} {a : Act} {w : World} {Q : Exit → Act → World → Prop} (hgd : o.guard = none) (u v : Operand) (ho : o.op = .store 9 u v)
    (g i : Nat) (n : ByteArray) (hx : a.eval u = .pointer (some ⟨g, i, none⟩)) (hy : a.eval v = .string n) (old : Array Value) (t : TypeId) (hg : w.heap[g]? = some (.cells old t (0, 0))) (hi : i < old.size)
    (h : ∀ w', Puts g (old.setIfInBounds i (.string n)) t w w' → wpList Tryz.prog ops Q rest (a.put o.dst undef) w') : wpList Tryz.prog ops Q (o :: rest) a w :=
  wpList_plain hgd fun _ hK => by
    unfold Oper.wp execOp
    simp only [ho, hx, hy, Instr.storeAt, Instr.sureAddr, Sem.run_bind, Sem.run_pure, Result.andThen_ok, run_store_str w g i n old t hg hi]
    exact hK _ _ (h _ (puts_setCell _ hg))
theorem ret23_two {fn : Func} {r q u : Tmp} (h : fn.results = #[.cell r 23, .tmp q, .tmp u]) {tmps : Array Value} {w : World} {g : Nat} {x : V3} {v z : Value} (hp : tmps.getD r undef = .pointer (some ⟨g, 0, none⟩)) (hg : w.heap[g]? = some (.cells (cells x) 23 (0, 0))) (hq : tmps.getD q undef = v) (hu : tmps.getD u undef = z) :
    (results fn tmps).run Tryz.prog w = .ok (.tuple #[toV x, v, z]) w := by
  have hp' : tmps[r]?.getD undef = .pointer (some ⟨g, 0, none⟩) := by simpa using hp
  have hl := run_loadVar_row (P := Tryz.prog) w g 23 23 (cells x) (0, 0) _ hg Tryz.underlying23 rfl size23
  have hq' : tmps[q]?.getD undef = v := by simpa using hq
  have hu' : tmps[u]?.getD undef = z := by simpa using hu
  simp [results, h, hp', asAddr, hl, hq', hu']
  rfl
theorem zeroAt_lt : ∀ l : List Int, zeroAt l < l.length ∨ zeroAt l = -1
  | [] => Or.inr rfl
  | p :: l => by
    have := zeroAt_lt l
    unfold zeroAt
    rw [List.length_cons]
    split
    · omega
    · split <;> omega
theorem run_guardne (x y : V3) (u v : Operand) (w : World) : (eqGuard BinOp.neq 23 u v (toV x) (toV y)).run Tryz.prog w = .ok () w := by
  obtain ⟨k, n, s⟩ := x
  obtain ⟨k', n', s'⟩ := y
  show (eqGuard BinOp.neq 23 u v (val k n s) (val k' n' s')).run Tryz.prog w = _
  go_simp
theorem run_binne (x y : V3) (w : World) : (binOp BinOp.neq 23 (toV x) (toV y)).run Tryz.prog w = .ok (.bool (!decide (x = y))) w := by
  obtain ⟨k, n, s⟩ := x
  obtain ⟨k', n', s'⟩ := y
  show (binOp BinOp.neq 23 (val k n s) (val k' n' s')).run Tryz.prog w = _
  go_simp
  by_cases h1 : k = k'
  · by_cases h2 : n = n'
    · by_cases h3 : s.toList = s'.toList
      · simp [h1, h2, (bytes_eq s s').mp h3]
      · have h4 : ¬ s = s' := fun h => h3 ((bytes_eq s s').mpr h)
        simp [h1, h2, h3, h4]
    · simp [h1, h2]
  · simp [h1]
theorem opne2 {a : Act} {o : Oper} {u v : Operand} {t : TypeId} (x y : V3) (ho : o.op = .binOp .neq 23 u v t) (hu : a.eval u = toV x) (hv : a.eval v = toV y) (w : World) :
    (execOp a.eval o).run Tryz.prog w = .ok (.value (.bool (!decide (x = y)))) w := by
  unfold execOp
  simp only [ho, hu, hv]
  have h1 := run_guardne x y u v w
  have h2 := run_binne x y w
  simp [go_sem, h1, h2]
def Cq (x : V3) (w0 w : World) : Prop := w.heap[w0.heap.size + 1]? = some (.cells (cells x) 23 (0, 0)) ∧ w.heap[w0.heap.size]? = some (.cells (cells nullT) 23 (0, 0)) ∧ Below w0.heap.size w0 w
theorem Cq.below {x : V3} {w0 w w' : World} (h : Cq x w0 w) (hb : Below w.heap.size w w') : Cq x w0 w' :=
  ⟨(hb.block _ (lt_of_block h.1)).trans h.1, (hb.block _ (lt_of_block h.2.1)).trans h.2.1, below_call h.2.2 hb⟩
theorem bytes_cons (s : ByteArray) (h : 0 < s.size) : bytesOf s = (s[0].toNat : Int) :: (bytesOf s).drop 1 := by
  have e := bytesOf_some h
  cases hb : bytesOf s with
  | nil => rw [hb] at e; cases e
  | cons a r =>
    rw [hb] at e
    rw [← Option.some.inj e]; rfl
set_option maxHeartbeats 4000000 in
theorem firstKey_t (s : ByteArray) (h0 : 0 < s.size) (hs : s.size ≤ 100000000000000) (w : World) :
    Calls Tryz.prog 101 #[.string s] w fun e w' => e = .returned (.tuple #[toV (firstT (bytesOf s)).1, .int .i64 (firstT (bytesOf s)).2.1, .int .i64 (firstT (bytesOf s)).2.2]) ∧ Below w.heap.size w w' := by
  have hc := bytes_cons s h0
  have hlen := bytesOf_length s
  have hF : firstT (bytesOf s) = firstT ((s[0].toNat : Int) :: (bytesOf s).drop 1) := by rw [← hc]
  generalize firstT (bytesOf s) = F at *
  have hp8 : s[0].toNat < 256 := s[0].toNat_lt
  obtain ⟨p, hp⟩ : ∃ p : Int, ((s[0].toNat : Nat) : Int) = p := ⟨_, rfl⟩
  have hp0 : 0 ≤ p := by omega
  have hp1 : p ≤ 255 := by omega
  rw [hp] at hF hc
  have hF2 : F = if p = 0 then (nullT, 1, 0) else if kindB p = false then (nullT, 0, 4) else if p = 3 then (if zeroAt ((bytesOf s).drop 1) < 0 then (nullT, 0, 15) else finT (3, 0, strB (((bytesOf s).drop 1).take (zeroAt ((bytesOf s).drop 1)).toNat)) (zeroAt ((bytesOf s).drop 1) + 2)) else if ((bytesOf s).drop 1).length < 8 then (nullT, 0, 15) else finT (p, numK (((bytesOf s).drop 1).take 8), ByteArray.empty) 9 := hF
  clear hF
  have X0 : Hid (((w.alloc (.cells #[.int .i64 0, .int .i64 0, .string ⟨#[]⟩] 23)).alloc (.cells #[.int .i64 0, .int .i64 0, .string ⟨#[]⟩] 23)).heap[w.heap.size]? = some (.cells (cells nullT) 23 (0, 0))) := Lib.hid ((heap_alloc_old _ _ (by simp)).trans (heap_alloc_new w _))
  have B0 : Hid (Below w.heap.size w ((w.alloc (.cells #[.int .i64 0, .int .i64 0, .string ⟨#[]⟩] 23)).alloc (.cells #[.int .i64 0, .int .i64 0, .string ⟨#[]⟩] 23))) := Lib.hid (by go_grown)
  have hi64 : IntKind.i64.wrap p = p := i64_in' p (by omega)
  cases c0 : (p == 0) with
  | true =>
    have hz : p = 0 := by simpa using c0
    have HE := Lib.hid (show F = (nullT, 1, 0) by rw [hF2, if_pos hz])
    clear hF2 hc hz
    go_enter Tryz.func101, Tryz.ntmps101
    go_wp2_with (first | (refine store23 rfl (.tmp 5) (.tmp 11) rfl (w.heap.size + 1) (p, 0, ByteArray.empty) rfl rfl nullT (new_at _ _ _ (by simp)) ?_; intro w1 hp'; have X1 := Lib.hid hp'.at'; have R1 : Hid (w1.heap[w.heap.size]? = some (.cells (cells nullT) 23 (0, 0))) := Lib.hid ((hp'.keeps.block _ (by simp only [World.size_alloc]; omega) (by omega)).trans X0.out); have B1 := Lib.hid (hp'.low B0.out (by omega)); clear hp'; have a0 : w1.cell? ⟨w.heap.size + 1, 0, none⟩ = some (.int .i64 p) := (cell_of_row w1 _ 0 _ _ _ X1.out).trans rfl; have a1 : w1.cell? ⟨w.heap.size + 1, 1, none⟩ = some (.int .i64 0) := (cell_of_row w1 _ 1 _ _ _ X1.out).trans rfl; have a2 : w1.cell? ⟨w.heap.size + 1, 2, none⟩ = some (.string ⟨#[]⟩) := (cell_of_row w1 _ 2 _ _ _ X1.out).trans rfl) | (refine store23 rfl (.tmp 2) (.tmp 31) rfl w.heap.size (p, 0, ByteArray.empty) rfl rfl nullT R1.out ?_; intro wz hq; have HP := Lib.hid hq; clear hq))
    obtain rfl : p = 0 := by simpa using c0
    exact bodyPost_ret (ret23_two (x := nullT) rfl rfl HP.out.at' rfl rfl) rfl ⟨by rw [HE.out]; rfl, HP.out.low B1.out (Nat.le_refl _)⟩
  | false =>
  rw [if_neg (by simpa using c0)] at hF2
  have CK := Lib.hid (isKind_any p)
  cases ck : kindB p with
  | false =>
    have HE := Lib.hid (show F = (nullT, 0, 4) by rw [hF2, if_pos ck])
    rw [ck] at CK
    clear hF2 hc
    go_enter Tryz.func101, Tryz.ntmps101
    go_wp2_with (refine store23 rfl (.tmp 5) (.tmp 11) rfl (w.heap.size + 1) (p, 0, ByteArray.empty) rfl rfl nullT (new_at _ _ _ (by simp)) ?_; intro w1 hp'; have X1 := Lib.hid hp'.at'; have R1 : Hid (w1.heap[w.heap.size]? = some (.cells (cells nullT) 23 (0, 0))) := Lib.hid ((hp'.keeps.block _ (by simp only [World.size_alloc]; omega) (by omega)).trans X0.out); have B1 := Lib.hid (hp'.low B0.out (by omega)); clear hp'; have a0 : w1.cell? ⟨w.heap.size + 1, 0, none⟩ = some (.int .i64 p) := (cell_of_row w1 _ 0 _ _ _ X1.out).trans rfl; have a1 : w1.cell? ⟨w.heap.size + 1, 1, none⟩ = some (.int .i64 0) := (cell_of_row w1 _ 1 _ _ _ X1.out).trans rfl; have a2 : w1.cell? ⟨w.heap.size + 1, 2, none⟩ = some (.string ⟨#[]⟩) := (cell_of_row w1 _ 2 _ _ _ X1.out).trans rfl)
    refine (CK.out _).mono ?_
    rintro e wx ⟨rfl, hwx⟩
    rw [← hwx]
    clear hwx wx
    go_wp2_with (refine store23 rfl (.tmp 2) (.tmp 38) rfl w.heap.size nullT rfl rfl nullT R1.out ?_; intro wz hq; have HP := Lib.hid hq; clear hq)
    exact bodyPost_ret (ret23_two (x := nullT) rfl rfl HP.out.at' rfl rfl) rfl ⟨by rw [HE.out]; rfl, HP.out.low B1.out (Nat.le_refl _)⟩
  | true =>
  rw [if_neg (by rw [ck]; decide)] at hF2
  rw [ck] at CK
  have hkb := (kindB_bounds p).1 ck
  cases c3 : (p == 3) with
  | true =>
    obtain rfl : p = 3 := by simpa using c3
    rw [if_pos rfl] at hF2
    have hdrop : bytesOf (s.extract 1 s.size) = (bytesOf s).drop 1 := by rw [bytes_ext, ← bytesOf_length s, List.take_length]
    have CI : ∀ w, Calls Tryz.prog 174 #[.string (s.extract 1 s.size), .int .u8 0] w fun e w' => e = .returned (.int .i64 (Lib.indexByte (s.extract 1 s.size).data.toList 0)) ∧ w' = w := fun w => Tryz.strings_IndexByte _ 0 w
    have hzb : Lib.indexByte (s.extract 1 s.size).data.toList 0 = zeroAt ((bytesOf s).drop 1) := by rw [zeroAt_byte, ← hdrop]; rfl
    rw [hzb] at CI
    have CI := Lib.hid CI
    have hzl := zeroAt_lt ((bytesOf s).drop 1)
    have hzg := zeroAt_ge ((bytesOf s).drop 1)
    rw [List.length_drop, hlen] at hzl
    by_cases hz : zeroAt ((bytesOf s).drop 1) < 0
    · have HE := Lib.hid (show F = (nullT, 0, 15) by rw [hF2, if_pos hz])
      generalize zeroAt ((bytesOf s).drop 1) = Z at *
      obtain rfl : Z = -1 := by omega
      clear hF2 hc hdrop hzb hzl hzg hz
      go_enter Tryz.func101, Tryz.ntmps101
      go_wp2_with (refine store23 rfl (.tmp 5) (.tmp 11) rfl (w.heap.size + 1) (3, 0, ByteArray.empty) rfl rfl nullT (new_at _ _ _ (by simp)) ?_; intro w1 hp'; have X1 := Lib.hid hp'.at'; have R1 : Hid (w1.heap[w.heap.size]? = some (.cells (cells nullT) 23 (0, 0))) := Lib.hid ((hp'.keeps.block _ (by simp only [World.size_alloc]; omega) (by omega)).trans X0.out); have B1 := Lib.hid (hp'.low B0.out (by omega)); clear hp'; have a0 : w1.cell? ⟨w.heap.size + 1, 0, none⟩ = some (.int .i64 3) := (cell_of_row w1 _ 0 _ _ _ X1.out).trans rfl; have a1 : w1.cell? ⟨w.heap.size + 1, 1, none⟩ = some (.int .i64 0) := (cell_of_row w1 _ 1 _ _ _ X1.out).trans rfl; have a2 : w1.cell? ⟨w.heap.size + 1, 2, none⟩ = some (.string ⟨#[]⟩) := (cell_of_row w1 _ 2 _ _ _ X1.out).trans rfl)
      refine (CK.out _).mono ?_
      rintro e wx ⟨rfl, hwx⟩
      rw [← hwx]
      clear hwx wx
      go_wp2_with fail
      refine (CI.out _).mono ?_
      rintro e wx ⟨rfl, hwx⟩
      rw [hwx]
      clear hwx wx
      go_wp2_with (refine store23 rfl (.tmp 2) (.tmp 49) rfl w.heap.size nullT rfl rfl nullT R1.out ?_; intro wz hq; have HP := Lib.hid hq; clear hq)
      exact bodyPost_ret (ret23_two (x := nullT) rfl rfl HP.out.at' rfl rfl) rfl ⟨by rw [HE.out]; rfl, HP.out.low B1.out (Nat.le_refl _)⟩
    · rw [if_neg hz] at hF2
      obtain ⟨n, hn⟩ : ∃ n : Nat, zeroAt ((bytesOf s).drop 1) = n := ⟨(zeroAt ((bytesOf s).drop 1)).toNat, by omega⟩
      rw [hn] at hF2 hzl CI
      have hT : strB (((bytesOf s).drop 1).take (n : Int).toNat) = s.extract 1 (1 + n) := by
        rw [show ((n : Int).toNat) = n from rfl, ← strB_bytes (s.extract 1 (1 + n)), bytes_ext, List.drop_take, Nat.add_sub_cancel_left]
      rw [hT] at hF2
      clear hn hz hc hdrop hzb hT hzg
      have hn2 : n + 1 < s.size := by omega
      have CC := Lib.hid (fun w => clean_t (3, 0, s.extract 1 (1 + n)) (by show (s.extract 1 (1 + n)).size ≤ _; rw [ByteArray.size_extract]; unfold maxLen; omega) w)
      have HF := Lib.hid hF2
      clear hF2 hzl
      go_enter Tryz.func101, Tryz.ntmps101
      go_wp2_with (refine store23 rfl (.tmp 5) (.tmp 11) rfl (w.heap.size + 1) (3, 0, ByteArray.empty) rfl rfl nullT (new_at _ _ _ (by simp)) ?_; intro w1 hp'; have X1 := Lib.hid hp'.at'; have R1 : Hid (w1.heap[w.heap.size]? = some (.cells (cells nullT) 23 (0, 0))) := Lib.hid ((hp'.keeps.block _ (by simp only [World.size_alloc]; omega) (by omega)).trans X0.out); have B1 := Lib.hid (hp'.low B0.out (by omega)); clear hp'; have a0 : w1.cell? ⟨w.heap.size + 1, 0, none⟩ = some (.int .i64 3) := (cell_of_row w1 _ 0 _ _ _ X1.out).trans rfl; have a1 : w1.cell? ⟨w.heap.size + 1, 1, none⟩ = some (.int .i64 0) := (cell_of_row w1 _ 1 _ _ _ X1.out).trans rfl; have a2 : w1.cell? ⟨w.heap.size + 1, 2, none⟩ = some (.string ⟨#[]⟩) := (cell_of_row w1 _ 2 _ _ _ X1.out).trans rfl)
      refine (CK.out _).mono ?_
      rintro e wx ⟨rfl, hwx⟩
      rw [← hwx]
      clear hwx wx
      go_wp2_with fail
      refine (CI.out _).mono ?_
      rintro e wx ⟨rfl, hwx⟩
      rw [hwx]
      clear hwx wx
      go_wp2_with (refine store_str rfl (.tmp 56) (.tmp 55) rfl (w.heap.size + 1) 2 (s.extract 1 (1 + n)) rfl rfl _ 23 X1.out (by show 2 < 3; decide) ?_; intro w2 hq; have X2 : Hid (w2.heap[w.heap.size + 1]? = some (.cells (cells (3, 0, s.extract 1 (1 + n))) 23 (0, 0))) := Lib.hid hq.at'; have R2 := Lib.hid ((hq.keeps.block _ (lt_of_block R1.out) (by omega)).trans R1.out); have B2 := Lib.hid (hq.below B1.out (by omega)); clear hq a0 a1 a2)
      generalize s.extract 1 (1 + n) = ST at *
      refine region_all (Cq (3, 0, ST) w) (by kernel_rfl) (by kernel_rfl) ⟨X2.out, R2.out, B2.out.drew⟩ ?_
      refine s_val (toV (3, 0, ST)) (by rfl) (run_load23 (C := Cq (3, 0, ST) w) (.tmp 5) rfl (w.heap.size + 1) _ rfl rfl (fun w h => h.1)) ?_
      simp only [Act.put, List.setIfInBounds_toArray, List.set_cons_zero, List.set_cons_succ]
      refine s_call (toV (clT (3, 0, ST))) 94 #[toV (3, 0, ST)] (by rfl) (fun w => by go_simp) (fun w' h => (CC.out w').mono fun e x hx => ⟨hx.1, h.below hx.2⟩) ?_
      simp only [Act.put, List.setIfInBounds_toArray, List.set_cons_zero, List.set_cons_succ]
      refine s_val (toV (3, 0, ST)) (by rfl) (run_load23 (C := Cq (3, 0, ST) w) (.tmp 5) rfl (w.heap.size + 1) _ rfl rfl (fun w h => h.1)) ?_
      simp only [Act.put, List.setIfInBounds_toArray, List.set_cons_zero, List.set_cons_succ]
      refine s_val (.bool (!decide (clT (3, 0, ST) = (3, 0, ST)))) (by rfl) (fun w' _ => opne2 (clT (3, 0, ST)) (3, 0, ST) rfl rfl rfl w') ?_
      simp only [Act.put, List.setIfInBounds_toArray, List.set_cons_zero, List.set_cons_succ]
      refine s_done ?_
      intro w4 h4
      have F4 := Lib.hid h4
      clear h4
      cases hd : decide (clT (3, 0, ST) = (3, 0, ST)) with
      | true =>
        have HE := Lib.hid (show F = ((3, 0, ST), (n : Int) + 2, 0) by rw [HF.out]; unfold finT; rw [if_pos (of_decide_eq_true hd)])
        have b0 : w4.cell? ⟨w.heap.size + 1, 0, none⟩ = some (.int .i64 3) := (cell_of_row w4 _ 0 _ _ _ F4.out.1).trans rfl
        have b1 : w4.cell? ⟨w.heap.size + 1, 1, none⟩ = some (.int .i64 0) := (cell_of_row w4 _ 1 _ _ _ F4.out.1).trans rfl
        have b2 : w4.cell? ⟨w.heap.size + 1, 2, none⟩ = some (.string ST) := (cell_of_row w4 _ 2 _ _ _ F4.out.1).trans rfl
        go_wp2_with (refine store23 rfl (.tmp 2) (.tmp 66) rfl w.heap.size (3, 0, ST) rfl rfl nullT F4.out.2.1 ?_; intro wz hq; have HP := Lib.hid hq; clear hq)
        exact bodyPost_ret (ret23_two (x := (3, 0, ST)) (v := .int .i64 (1 + ((n : Int) + 1))) (z := .int .i64 0) rfl rfl HP.out.at' rfl rfl) rfl ⟨by rw [HE.out, show (1 + ((n : Int) + 1)) = (n : Int) + 2 by omega], HP.out.low F4.out.2.2 (Nat.le_refl _)⟩
      | false =>
        have HE := Lib.hid (show F = (nullT, 0, 1) by rw [HF.out]; unfold finT; rw [if_neg (of_decide_eq_false hd)])
        go_wp2_with (refine store23 rfl (.tmp 2) (.tmp 65) rfl w.heap.size nullT rfl rfl nullT F4.out.2.1 ?_; intro wz hq; have HP := Lib.hid hq; clear hq)
        exact bodyPost_ret (ret23_two (x := nullT) rfl rfl HP.out.at' rfl rfl) rfl ⟨by rw [HE.out]; rfl, HP.out.low F4.out.2.2 (Nat.le_refl _)⟩
  | false =>
    rw [if_neg (by simpa using c3)] at hF2
    have hrl : ((bytesOf s).drop 1).length = s.size - 1 := by rw [List.length_drop, hlen]
    rw [hrl] at hF2
    clear hrl hc
    by_cases hz : s.size < 9
    · have HE := Lib.hid (show F = (nullT, 0, 15) by rw [hF2, if_pos (by omega)])
      clear hF2
      go_enter Tryz.func101, Tryz.ntmps101
      go_wp2_with (refine store23 rfl (.tmp 5) (.tmp 11) rfl (w.heap.size + 1) (p, 0, ByteArray.empty) rfl rfl nullT (new_at _ _ _ (by simp)) ?_; intro w1 hp'; have X1 := Lib.hid hp'.at'; have R1 : Hid (w1.heap[w.heap.size]? = some (.cells (cells nullT) 23 (0, 0))) := Lib.hid ((hp'.keeps.block _ (by simp only [World.size_alloc]; omega) (by omega)).trans X0.out); have B1 := Lib.hid (hp'.low B0.out (by omega)); clear hp'; have a0 : w1.cell? ⟨w.heap.size + 1, 0, none⟩ = some (.int .i64 p) := (cell_of_row w1 _ 0 _ _ _ X1.out).trans rfl; have a1 : w1.cell? ⟨w.heap.size + 1, 1, none⟩ = some (.int .i64 0) := (cell_of_row w1 _ 1 _ _ _ X1.out).trans rfl; have a2 : w1.cell? ⟨w.heap.size + 1, 2, none⟩ = some (.string ⟨#[]⟩) := (cell_of_row w1 _ 2 _ _ _ X1.out).trans rfl)
      refine (CK.out _).mono ?_
      rintro e wx ⟨rfl, hwx⟩
      rw [← hwx]
      clear hwx wx
      go_wp2_with (refine store23 rfl (.tmp 2) (.tmp 17) rfl w.heap.size nullT rfl rfl nullT R1.out ?_; intro wz hq; have HP := Lib.hid hq; clear hq)
      exact bodyPost_ret (ret23_two (x := nullT) rfl rfl HP.out.at' rfl rfl) rfl ⟨by rw [HE.out]; rfl, HP.out.low B1.out (Nat.le_refl _)⟩
    · rw [if_neg (by omega)] at hF2
      have hK : numK (bytesOf (s.extract 1 9)) = numK (((bytesOf s).drop 1).take 8) := by rw [bytes_ext, List.drop_take]
      have CN := Lib.hid (fun w => numKey_t (s.extract 1 9) (by rw [ByteArray.size_extract]; omega) w)
      rw [hK] at CN
      clear hK
      generalize numK (((bytesOf s).drop 1).take 8) = NN at *
      have CC := Lib.hid (fun w => clean_t (p, NN, ByteArray.empty) (Nat.zero_le _) w)
      have HF := Lib.hid hF2
      clear hF2
      go_enter Tryz.func101, Tryz.ntmps101
      go_wp2_with (refine store23 rfl (.tmp 5) (.tmp 11) rfl (w.heap.size + 1) (p, 0, ByteArray.empty) rfl rfl nullT (new_at _ _ _ (by simp)) ?_; intro w1 hp'; have X1 := Lib.hid hp'.at'; have R1 : Hid (w1.heap[w.heap.size]? = some (.cells (cells nullT) 23 (0, 0))) := Lib.hid ((hp'.keeps.block _ (by simp only [World.size_alloc]; omega) (by omega)).trans X0.out); have B1 := Lib.hid (hp'.low B0.out (by omega)); clear hp'; have a0 : w1.cell? ⟨w.heap.size + 1, 0, none⟩ = some (.int .i64 p) := (cell_of_row w1 _ 0 _ _ _ X1.out).trans rfl; have a1 : w1.cell? ⟨w.heap.size + 1, 1, none⟩ = some (.int .i64 0) := (cell_of_row w1 _ 1 _ _ _ X1.out).trans rfl; have a2 : w1.cell? ⟨w.heap.size + 1, 2, none⟩ = some (.string ⟨#[]⟩) := (cell_of_row w1 _ 2 _ _ _ X1.out).trans rfl)
      refine (CK.out _).mono ?_
      rintro e wx ⟨rfl, hwx⟩
      rw [← hwx]
      clear hwx wx
      go_wp2_with fail
      refine (CN.out _).mono ?_
      rintro e wx ⟨rfl, hwx⟩
      rw [hwx]
      clear hwx wx
      go_wp2_with (refine store_int rfl (.tmp 24) (.tmp 23) rfl (w.heap.size + 1) 1 NN rfl rfl _ 23 X1.out (by show 1 < 3; decide) ?_; intro w2 hq; have X2 : Hid (w2.heap[w.heap.size + 1]? = some (.cells (cells (p, NN, ByteArray.empty)) 23 (0, 0))) := Lib.hid hq.at'; have R2 := Lib.hid ((hq.keeps.block _ (lt_of_block R1.out) (by omega)).trans R1.out); have B2 := Lib.hid (hq.below B1.out (by omega)); clear hq a0 a1 a2)
      refine region_all (Cq (p, NN, ByteArray.empty) w) (by kernel_rfl) (by kernel_rfl) ⟨X2.out, R2.out, B2.out.drew⟩ ?_
      refine s_val (toV (p, NN, ByteArray.empty)) (by rfl) (run_load23 (C := Cq (p, NN, ByteArray.empty) w) (.tmp 5) rfl (w.heap.size + 1) _ rfl rfl (fun w h => h.1)) ?_
      simp only [Act.put, List.setIfInBounds_toArray, List.set_cons_zero, List.set_cons_succ]
      refine s_call (toV (clT (p, NN, ByteArray.empty))) 94 #[toV (p, NN, ByteArray.empty)] (by rfl) (fun w => by go_simp) (fun w' h => (CC.out w').mono fun e x hx => ⟨hx.1, h.below hx.2⟩) ?_
      simp only [Act.put, List.setIfInBounds_toArray, List.set_cons_zero, List.set_cons_succ]
      refine s_val (toV (p, NN, ByteArray.empty)) (by rfl) (run_load23 (C := Cq (p, NN, ByteArray.empty) w) (.tmp 5) rfl (w.heap.size + 1) _ rfl rfl (fun w h => h.1)) ?_
      simp only [Act.put, List.setIfInBounds_toArray, List.set_cons_zero, List.set_cons_succ]
      refine s_val (.bool (!decide (clT (p, NN, ByteArray.empty) = (p, NN, ByteArray.empty)))) (by rfl) (fun w' _ => opne2 (clT (p, NN, ByteArray.empty)) (p, NN, ByteArray.empty) rfl rfl rfl w') ?_
      simp only [Act.put, List.setIfInBounds_toArray, List.set_cons_zero, List.set_cons_succ]
      refine s_done ?_
      intro w4 h4
      have F4 := Lib.hid h4
      clear h4
      cases hd : decide (clT (p, NN, ByteArray.empty) = (p, NN, ByteArray.empty)) with
      | true =>
        have HE := Lib.hid (show F = ((p, NN, ByteArray.empty), 9, 0) by rw [HF.out]; unfold finT; rw [if_pos (of_decide_eq_true hd)])
        have b0 : w4.cell? ⟨w.heap.size + 1, 0, none⟩ = some (.int .i64 p) := (cell_of_row w4 _ 0 _ _ _ F4.out.1).trans rfl
        have b1 : w4.cell? ⟨w.heap.size + 1, 1, none⟩ = some (.int .i64 NN) := (cell_of_row w4 _ 1 _ _ _ F4.out.1).trans rfl
        have b2 : w4.cell? ⟨w.heap.size + 1, 2, none⟩ = some (.string ByteArray.empty) := (cell_of_row w4 _ 2 _ _ _ F4.out.1).trans rfl
        go_wp2_with (refine store23 rfl (.tmp 2) (.tmp 66) rfl w.heap.size (p, NN, ByteArray.empty) rfl rfl nullT F4.out.2.1 ?_; intro wz hq; have HP := Lib.hid hq; clear hq)
        exact bodyPost_ret (ret23_two (x := (p, NN, ByteArray.empty)) rfl rfl HP.out.at' rfl rfl) rfl ⟨by rw [HE.out]; rfl, HP.out.low F4.out.2.2 (Nat.le_refl _)⟩
      | false =>
        have HE := Lib.hid (show F = (nullT, 0, 1) by rw [HF.out]; unfold finT; rw [if_neg (of_decide_eq_false hd)])
        go_wp2_with (refine store23 rfl (.tmp 2) (.tmp 65) rfl w.heap.size nullT rfl rfl nullT F4.out.2.1 ?_; intro wz hq; have HP := Lib.hid hq; clear hq)
        exact bodyPost_ret (ret23_two (x := nullT) rfl rfl HP.out.at' rfl rfl) rfl ⟨by rw [HE.out]; rfl, HP.out.low F4.out.2.2 (Nat.le_refl _)⟩
end YtabojeleomfgnaaGreatDoor
end Go.Proofs
namespace Go.Proofs
open Go.RowKit
namespace YtabojeleomfgnaaGreatDoor
set_option maxRecDepth 100000
theorem conv_bytes (w : World) (a : Option Addr) (c : Nat) (S : List Int) (h : Lsb w a S) : (convert 32 9 (.slice a S.length c)).run Tryz.prog w = .ok (.string (strB S)) w := by
  cases S with
  | nil =>
    cases a with
    | none => exact run_convert_bytes_nil (P := Tryz.prog) w 32 5 Tryz.underlying32 Tryz.underlying5 0 c 9 Tryz.underlying9
    | some ad =>
      obtain ⟨b, o, fz⟩ := ad
      show (convert 32 9 (.slice (some ⟨b, o, fz⟩) 0 c)).run Tryz.prog w = _
      rw [run_convert_bytes_string w 32 9 5 _ 0 c Tryz.underlying32 Tryz.underlying5 Tryz.underlying9]
      exact run_bytesToString w _ 0 c [] (by rfl)
  | cons p r =>
    obtain ⟨b, o, rfl, _⟩ := h 0 p rfl
    refine run_convert_bytes_arg w 32 5 Tryz.underlying32 Tryz.underlying5 b o _ c (p :: r) rfl (fun i hi => ?_) 9 Tryz.underlying9
    obtain ⟨q, hq⟩ := lt_some hi
    obtain ⟨b', o', e, hc⟩ := h i q hq
    simp only [Option.some.injEq, Addr.mk.injEq] at e
    obtain ⟨rfl, rfl, -⟩ := e
    rw [hc]
    simp [List.getD, hq]
theorem bytes_strB {S : List Int} (h : bytesOk S) : bytesOf (strB S) = S := by
  unfold bytesOf strB
  show (List.map (fun p : Int => UInt8.ofNat p.toNat) S).map (fun b => (b.toNat : Int)) = S
  rw [List.map_map]
  conv => rhs; rw [← List.map_id S]
  apply List.map_congr_left
  intro p hp
  obtain ⟨p0, p1⟩ := h p hp
  show ((UInt8.ofNat p.toNat).toNat : Int) = p
  rw [UInt8.toNat_ofNat']
  omega
theorem wpList_pushV' {ops : Array Oper} {rest : List Oper} {o : Oper} {a : Act} {w : World} {Q : Exit → Act → World → Prop} (hgd : o.guard = none) (s x : Operand) (ho : o.op = .call { callee := .builtin .append, args := #[s, x], argTypes := #[28, 28] })
    (w0 wr : World) (L : List V3) (v : Value) (p : V3) (hs : a.eval s = v) (hA : Av L v w0 wr) (hw : w = wr.alloc (.cells (cells p) 23)) (hx : a.eval x = .slice (some ⟨wr.heap.size, 0, none⟩) 1 1) (hlen : L.length ≤ 1000000000)
    (h : ∀ v' w', Av (L ++ [p]) v' w0 w' → wpList Tryz.prog ops Q rest (a.put o.dst v') w') : wpList Tryz.prog ops Q (o :: rest) a w := by
  subst hw
  obtain ⟨i3, hi, hz0, hz1, hz2⟩ := info_parts info23i
  have hA1 := hA.alloc (.cells (cells p) 23)
  refine wpList_append_own _ hgd s x 28 ho w0.heap.size 23 i3 (.agg #[.int .i64 0, .int .i64 0, .string ⟨#[]⟩]) 3 32 Tryz.underlying28 hi hz0 hz1 hz2 rfl (by decide) v L.length _ hs hA1.1 ⟨wr.heap.size, 0, none⟩ 1 1 (flatV [p]) hx (by rw [flatV_length]; rfl) (news23 wr p) (flatV_one p) (by unfold maxLen; omega) (by omega) hA1.2.size ?_
  intro v' w' h1 h2 _
  refine h v' w' ⟨?_, hA1.2.grown h2 hA1.2.size (fun k hk => (hA1.1.lt k hk).1)⟩
  rw [flatV_append]
  simpa using h1
def parseL : Nat → List Int → List V3 → List V3 × Int
  | 0, _, acc => (acc, 0)
  | f + 1, S, acc => if S = [] then (acc, 0) else if (firstT S).2.2 = 0 then parseL f (S.drop (firstT S).2.1.toNat) (acc ++ [(firstT S).1]) else ([], (firstT S).2.2)
theorem finT_or (v : V3) (n : Int) : (finT v n).2.2 ≠ 0 ∨ ((finT v n).2.1 = n ∧ (finT v n).1 = v ∧ Right v) := by
  unfold finT
  by_cases h : clT v = v
  · rw [if_pos h]
    exact Or.inr ⟨rfl, rfl, by rw [← h]; exact clT_right v⟩
  · rw [if_neg h]
    exact Or.inl (by show (1 : Int) ≠ 0; decide)
theorem firstT_cons (p : Int) (r : List Int) : firstT (p :: r) = if p = 0 then (nullT, 1, 0) else if kindB p = false then (nullT, 0, 4) else if p = 3 then (if zeroAt r < 0 then (nullT, 0, 15) else finT (3, 0, strB (r.take (zeroAt r).toNat)) (zeroAt r + 2)) else if r.length < 8 then (nullT, 0, 15) else finT (p, numK (r.take 8), ByteArray.empty) 9 := rfl
theorem firstT_ok {S : List Int} (h : S ≠ []) (h0 : (firstT S).2.2 = 0) : 1 ≤ (firstT S).2.1 ∧ (firstT S).2.1 ≤ S.length ∧ Right (firstT S).1 := by
  cases S with
  | nil => exact absurd rfl h
  | cons p r =>
    rw [firstT_cons] at h0 ⊢
    rw [List.length_cons]
    split at h0
    · rename_i hc; rw [if_pos hc]; exact ⟨by show (1 : Int) ≤ 1; omega, by show (1 : Int) ≤ _; omega, nullT_right⟩
    · rename_i hc
      rw [if_neg hc]
      split at h0
      · exact absurd h0 (by show (4 : Int) ≠ 0; decide)
      · rename_i hk
        rw [if_neg hk]
        split at h0
        · rename_i h3
          rw [if_pos h3]
          split at h0
          · exact absurd h0 (by show (15 : Int) ≠ 0; decide)
          · rename_i hz
            rw [if_neg hz]
            rcases finT_or (3, 0, strB (r.take (zeroAt r).toNat)) (zeroAt r + 2) with hf | ⟨e1, e2, e3⟩
            · exact absurd h0 hf
            · rw [e1, e2]
              have := zeroAt_lt r
              exact ⟨by omega, by omega, e3⟩
        · rename_i h3
          rw [if_neg h3]
          split at h0
          · exact absurd h0 (by show (15 : Int) ≠ 0; decide)
          · rename_i hz
            rw [if_neg hz]
            rcases finT_or (p, numK (r.take 8), ByteArray.empty) 9 with hf | ⟨e1, e2, e3⟩
            · exact absurd h0 hf
            · rw [e1, e2]
              exact ⟨by omega, by omega, e3⟩
def ParP (R : List V3 × Int) (w0 : World) (e : Ending) (w : World) : Prop := ∃ v, e = .returned (.tuple #[v, .int .i64 R.2]) ∧ Av R.1 v w0 w
theorem ParP.mk {R : List V3 × Int} {L : List V3} {v : Value} {n : Int} {w0 w : World} (h : Av L v w0 w) (e : R = (L, n)) : ParP R w0 (.returned (.tuple #[v, .int .i64 n])) w := by
  subst e
  exact ⟨v, rfl, h⟩
theorem parse_len (S : List Int) (f : Nat) (h : S ≠ []) (hf : S.length ≤ f + 1) (h0 : (firstT S).2.2 = 0) : (S.drop (firstT S).2.1.toNat).length ≤ f := by
  obtain ⟨a, b, _⟩ := firstT_ok h h0
  rw [List.length_drop]
  omega
set_option maxHeartbeats 4000000 in
theorem fromKey_t (a : Option Addr) (c : Nat) (S : List Int) (w : World) (hl : S.length ≤ 200000000) (h : Lsb w a S) (hS : bytesOk S) : Calls Tryz.prog 25 #[.slice a S.length c] w fun e w' => ParP (parseL S.length S []) w e w' := by
  have hcv := conv_bytes w a c S h
  have A0 : Hid (Av [] (.slice none 0 0) w w) := Lib.hid ⟨World.ownsRow_nil _ _ _ _, Below.refl _ _⟩
  have hP : Hid (parseL S.length S [] = parseL S.length (bytesOf (strB S)) []) := Lib.hid (by rw [bytes_strB hS])
  have hz : (strB S).size ≤ S.length := by rw [← bytesOf_length, bytes_strB hS]; exact Nat.le_refl _
  generalize parseL S.length S [] = R at *
  clear h hS
  go_enter Tryz.func25, Tryz.ntmps25
  go_wp2_with fail
  go_loopw [4, 5] (fun y z wr => ∃ (u : ByteArray) (acc : List V3) (f : Nat) (v : Value), v = y ∧ z = .string u ∧ u.size ≤ f ∧ f ≤ 200000000 ∧ acc.length + f ≤ 200000000 ∧ Hid (Av acc v w wr) ∧ Hid (R = parseL f (bytesOf u) acc)) (fun _ z _ => match z with | .string u => u.size | _ => 0)
  case atStart => exact ⟨strB S, [], S.length, _, rfl, rfl, hz, hl, by simp; omega, A0, hP⟩
  case round =>
    obtain ⟨u, acc, f, v, rfl, rfl, hu, hf, hacc, hA, hR⟩ := hrel
    have hbl := bytesOf_length u
    by_cases h0 : u.size = 0
    · have hb0 : bytesOf u = [] := List.eq_nil_of_length_eq_zero (by omega)
      have HE : Hid (R = (acc, 0)) := Lib.hid (by
        rw [hR.out, hb0]
        cases f with
        | zero => rfl
        | succ f => rfl)
      have he : u.toList.isEmpty = true := by rw [ByteArray.toList_eq]; have : u.data.toList = [] := List.eq_nil_of_length_eq_zero (by rw [← Lib.size_eq]; exact h0); rw [this]; rfl
      clear hb0
      go_wp2_with fail
      go_ret2
      exact ParP.mk hA.out HE.out
    · have hne : bytesOf u ≠ [] := fun e => h0 (by rw [← hbl, e]; rfl)
      have he : u.toList.isEmpty = false := by
        rw [ByteArray.toList_eq]
        cases hd : u.data.toList with
        | nil => exact absurd (by rw [Lib.size_eq, hd]; rfl) h0
        | cons => rfl
      obtain ⟨f', rfl⟩ : ∃ f', f = f' + 1 := ⟨f - 1, by omega⟩
      have CF := Lib.hid (fun w => firstKey_t u (by omega) (by omega) w)
      have hstep : R = if (firstT (bytesOf u)).2.2 = 0 then parseL f' ((bytesOf u).drop (firstT (bytesOf u)).2.1.toNat) (acc ++ [(firstT (bytesOf u)).1]) else ([], (firstT (bytesOf u)).2.2) := by rw [hR.out, parseL, if_neg hne]
      have hok := fun h => firstT_ok hne h
      generalize firstT (bytesOf u) = F at *
      obtain ⟨⟨fk, fn, ft⟩, sz, er⟩ := F
      dsimp only at hstep hok
      cases her : (er == 0) with
      | false =>
        have HE := Lib.hid (show R = ([], er) by rw [hstep, if_neg (by simpa using her)])
        have A9 : Hid (∀ wq, Below w.heap.size w wq → Av [] (.slice none 0 0) w wq) := Lib.hid (fun wq hb => ⟨World.ownsRow_nil _ _ _ _, hb⟩)
        clear hstep hok hne
        go_wp2_with fail
        refine (CF.out _).mono ?_
        rintro e w1 ⟨rfl, hb1⟩
        have B1 := Lib.hid (below_call hA.out.2 hb1)
        clear hb1
        go_wp2_with (refine store23 rfl (.tmp 6) (.tmp 16) rfl w1.heap.size (fk, fn, ft) rfl rfl nullT (new_at _ _ _ rfl) ?_; intro w2 hp; have B2 := Lib.hid (below_call B1.out (hp.below (w0 := w1) ((Below.refl _ w1).alloc (Nat.le_refl _) _) (Nat.le_refl _))); clear hp)
        go_ret2
        exact ParP.mk (A9.out _ B2.out) HE.out
      | true =>
        obtain rfl : er = 0 := by simpa using her
        obtain ⟨s1, s2, _⟩ := hok rfl
        obtain ⟨n, rfl⟩ : ∃ n : Nat, sz = n := ⟨sz.toNat, by omega⟩
        have hdrop : bytesOf (u.extract n u.size) = (bytesOf u).drop n := by rw [bytes_ext, ← hbl, List.take_length]
        have HN : Hid (R = parseL f' (bytesOf (u.extract n u.size)) (acc ++ [(fk, fn, ft)])) := Lib.hid (by rw [hstep, if_pos rfl, hdrop]; rfl)
        have hn1 : n ≤ u.size := by omega
        have hn2 : 1 ≤ n := by omega
        have hlen : acc.length ≤ 1000000000 := by omega
        clear hstep hok hne hdrop s1 s2 her
        go_wp2_with fail
        refine (CF.out _).mono ?_
        rintro e w1 ⟨rfl, hb1⟩
        have A1 := Lib.hid (hA.out.below hb1)
        clear hb1
        go_wp2_with (first | (refine store23 rfl (.tmp 6) (.tmp 16) rfl w1.heap.size (fk, fn, ft) rfl rfl nullT (new_at _ _ _ rfl) ?_; intro w2 hp; have A2 := Lib.hid (A1.out.below (hp.below (w0 := w1) ((Below.refl _ w1).alloc (Nat.le_refl _) _) (Nat.le_refl _))); have a0 : w2.cell? ⟨w1.heap.size, 0, none⟩ = some (.int .i64 fk) := (cell_of_row w2 _ 0 _ _ _ hp.at').trans rfl; have a1 : w2.cell? ⟨w1.heap.size, 1, none⟩ = some (.int .i64 fn) := (cell_of_row w2 _ 1 _ _ _ hp.at').trans rfl; have a2 : w2.cell? ⟨w1.heap.size, 2, none⟩ = some (.string ft) := (cell_of_row w2 _ 2 _ _ _ hp.at').trans rfl; clear hp) | (at_builtin; go_must (refine wpList_pushV' rfl (.tmp 22) (.tmp 24) rfl w w2 _ _ (fk, fn, ft) rfl A2.out rfl rfl hlen ?_); intro v3 w3 hA'; have A3 := Lib.hid hA'; clear hA' a0 a1 a2))
        go_roundw
        case rel => exact ⟨u.extract n u.size, acc ++ [(fk, fn, ft)], f', v3, rfl, by go_num, by rw [ByteArray.size_extract]; omega, by omega, by rw [List.length_append]; simp; omega, A3, HN⟩
        case measure => simp only [ByteArray.size_extract]; omega
end YtabojeleomfgnaaGreatDoor
end Go.Proofs
namespace Go.Proofs
open Go.RowKit
namespace YtabojeleomfgnaaGreatDoor
set_option maxRecDepth 100000
def cutA (a : Option Addr) (l c : Nat) : Option Addr := if c = l then a else a.map (·.add (l * 1))
theorem Lsb.cut {w : World} {a : Option Addr} {T : List Int} (h : Lsb w a T) (l k c : Nat) (hc : T.length ≤ c) : Lsb w (cutA a l c) ((T.take k).drop l) := by
  intro j p hj
  rw [List.getElem?_drop] at hj
  have h1 := some_lt hj
  rw [List.length_take] at h1
  rw [List.getElem?_take, if_pos (by omega)] at hj
  obtain ⟨b, o, rfl, hcell⟩ := h _ p hj
  refine ⟨b, o + l, ?_, ?_⟩
  · unfold cutA
    rw [if_neg (by omega)]
    show some ((⟨b, o, none⟩ : Addr).add (l * 1)) = _
    rw [Nat.mul_one]
    unfold Addr.add
    by_cases h0 : l = 0 <;> simp [h0]
  · rw [Nat.add_assoc]; exact hcell
theorem elem32 : Tryz.prog.elem 32 = 5 := by kernel_rfl
theorem under32 : Tryz.prog.underlying 32 = some (.slice (Tryz.prog.elem 32)) := by rw [elem32]; exact Tryz.underlying32
theorem run_size5 (w : World) : (sizeOf (Tryz.prog.elem 32)).run Tryz.prog w = .ok 1 w := by
  rw [elem32]
  obtain ⟨i3, hi, hz0, hz1, hz2⟩ := info_parts info5i
  simp [sizeOf, typeInfo, hi, hz1]
theorem run_cut (w : World) (a : Option Addr) (n c l k : Nat) (hl : l ≤ k) (hk : k ≤ c) : (Instr.sliceAt 32 (.slice a n c) (some (.int .i64 (l : Int))) (some (.int .i64 (k : Int))) none).run Tryz.prog w = .ok (.slice (cutA a l c) (k - l) (c - l)) w := by
  rw [run_sliceAt_slice w 32 _ _ _ _ under32, run_slice_lh w 32 a n c under32 .i64 .i64 l k (by omega) (by omega) (by omega), run_size5]
  rfl
theorem run_cut_l (w : World) (a : Option Addr) (n c l : Nat) (hl : l ≤ n) : (Instr.sliceAt 32 (.slice a n c) (some (.int .i64 (l : Int))) none none).run Tryz.prog w = .ok (.slice (cutA a l c) (n - l) (c - l)) w := by
  rw [run_sliceAt_slice w 32 _ _ _ _ under32, run_slice_l w 32 a n c under32 .i64 l (by omega) (by omega), run_size5]
  rfl
section
variable {ops : Array Oper} {rest : List Oper} {o : Oper} {a : Act} {w : World} {Q : Exit → Act → World → Prop}
theorem exec_cut_l (u lo : Operand) (ho : o.op = .slice 32 u (some lo) none none) (A : Option Addr) (n c l : Nat) (li : Int) (hx : a.eval u = .slice A n c) (hlo : a.eval lo = .int .i64 li) (hli : li = l) (hl : l ≤ n) (w : World) :
    (execOp a.eval o).run Tryz.prog w = .ok (.value (.slice (cutA A l c) (n - l) (c - l))) w := by
  subst hli
  unfold execOp
  simp only [ho, hx, Option.map, hlo, Sem.run_bind, run_cut_l w A n c l hl, Sem.run_pure, Result.andThen_ok]
theorem wp_cut_l (hgd : o.guard = none) (u lo : Operand) (ho : o.op = .slice 32 u (some lo) none none) (A : Option Addr) (T S' : List Int) (n c l n' c' : Nat) (li : Int) (hx : a.eval u = .slice A n c) (hlo : a.eval lo = .int .i64 li) (hli : li = l)
    (hn : T.length = n) (hl : l ≤ n) (hc : n ≤ c) (hL : Lsb w A T) (hS : S' = T.drop l) (hn' : n' = n - l) (hc' : c' = c - l)
    (h : ∀ A', Lsb w A' S' → S'.length = n' → wpList Tryz.prog ops Q rest (a.put o.dst (.slice A' n' c')) w) : wpList Tryz.prog ops Q (o :: rest) a w := by
  subst hn' hc' hS hn
  refine wpList_plain hgd fun _ hK => ?_
  unfold Oper.wp
  rw [exec_cut_l u lo ho A T.length c l li hx hlo hli hl w]
  have h1 := hL.cut l T.length c hc
  rw [List.take_length] at h1
  exact hK _ _ (h _ h1 (List.length_drop ..))
theorem wp_cut (hgd : o.guard = none) (u lo hi : Operand) (ho : o.op = .slice 32 u (some lo) (some hi) none) (A : Option Addr) (T S' : List Int) (n c l k n' c' : Nat) (li ki : Int) (hx : a.eval u = .slice A n c) (hlo : a.eval lo = .int .i64 li) (hhi : a.eval hi = .int .i64 ki) (hli : li = l) (hki : ki = k)
    (hn : T.length = n) (hl : l ≤ k) (hk : k ≤ n) (hc : n ≤ c) (hL : Lsb w A T) (hS : S' = (T.take k).drop l) (hn' : n' = k - l) (hc' : c' = c - l)
    (h : ∀ A', Lsb w A' S' → S'.length = n' → wpList Tryz.prog ops Q rest (a.put o.dst (.slice A' n' c')) w) : wpList Tryz.prog ops Q (o :: rest) a w := by
  subst hn' hc' hS hn hli hki
  refine wpList_plain hgd fun _ hK => ?_
  unfold Oper.wp execOp
  simp only [ho, hx, Option.map, hlo, hhi, Sem.run_bind, run_cut w A T.length c l k hl (by omega), Sem.run_pure, Result.andThen_ok]
  exact hK _ _ (h _ (hL.cut l k c hc) (by rw [List.length_drop, List.length_take]; omega))
theorem wp_conv (hgd : o.guard = none) (u : Operand) (ho : o.op = .convert 32 9 u) (A : Option Addr) (S : List Int) (n c : Nat) (hx : a.eval u = .slice A n c) (hn : S.length = n) (hL : Lsb w A S)
    (h : wpList Tryz.prog ops Q rest (a.put o.dst (.string (strB S))) w) : wpList Tryz.prog ops Q (o :: rest) a w := by
  subst hn
  refine wpList_plain hgd fun _ hK => ?_
  unfold Oper.wp execOp
  simp only [ho, hx, Sem.run_bind, conv_bytes w A c S hL, Sem.run_pure, Result.andThen_ok]
  exact hK _ _ h
end
theorem index0_n (a : Option Addr) (c n : Nat) (S : List Int) (Z : Int) (w : World) (hn : S.length = n) (hl : n ≤ 100000000000000) (h : Lsb w a S) (hS : bytesOk S) (hZ : zeroAt S = Z) : Calls Tryz.prog 102 #[.slice a n c, .int .u8 0] w fun e w' => e = .returned (.int .i64 Z) ∧ w' = w := by
  subst hn hZ
  exact index0_t a c S w hl h hS
theorem finT_fault (v : V3) (n : Int) : finT v n = if faultN 0 v.1 v.2.1 v.2.2 = 0 then (v, n, 0) else (nullT, 0, 1) := by
  unfold finT
  have hf := fault_right v.1 v.2.1 v.2.2
  by_cases h : rightB v.1 v.2.1 v.2.2 = true
  · rw [if_pos (hf.2 h), if_pos (by unfold clT; rw [if_pos h])]
  · rw [if_neg (fun e => h (hf.1 e))]
    rw [if_neg]
    intro e
    apply h
    have := clT_right v
    rw [e] at this
    exact this
theorem anyFault_v (x : V3) (F : Int) (hF : faultN 0 x.1 x.2.1 x.2.2 = F) (hs : x.2.2.size ≤ maxLen) (w : World) : Calls Tryz.prog 103 #[toV x] w fun e w' => e = .returned (.int .i64 F) ∧ Below w.heap.size w w' := by
  subst hF
  exact anyFault_any x.1 x.2.1 x.2.2 hs w
theorem strB_size (S : List Int) : (strB S).size = S.length := by unfold strB; simp [ByteArray.size]
theorem Av.far {L : List V3} {v : Value} {w0 w : World} (h : Av L v w0 w) : ∀ k, v.ownBlock = some k → k < w.heap.size := fun k hk => (h.1.lt k hk).2
def Bk9 (g : Nat) (x : V3) (w : World) : Prop := w.heap[g]? = some (.cells (cells x) 23 (0, 0))
theorem Bk9.alloc {g : Nat} {x : V3} {w : World} (h : Bk9 g x w) (o : Obj) : Bk9 g x (w.alloc o) := (heap_alloc_old w o (lt_of_block h)).trans h
theorem Bk9.grow {g B : Nat} {x : V3} {w w' : World} {v : Value} (h : Bk9 g x w) (hg : w.grownBy w' v.ownBlock) (hb : ∀ k, v.ownBlock = some k → k < B) (hB : B ≤ g := by exact Nat.le_refl _) : Bk9 g x w' :=
  (hg.block g (lt_of_block h) (fun e => by have := hb g e.symm; omega)).trans h
theorem Av.grown9 {L : List V3} {v : Value} {x : V3} {w0 w w' : World} {g c : Nat} (h : Av L v w0 w) (ho : w'.ownsRow w0.heap.size 23 3 (.slice (some ⟨g, 0, none⟩) (L.length + 1) c) (L.length + 1) (flatV L ++ flatV [x])) (hg : w.grownBy w' v.ownBlock) : Av (L ++ [x]) (.slice (some ⟨g, 0, none⟩) (L.length + 1) c) w0 w' := by
  refine ⟨?_, h.2.grown hg h.2.size (fun k hk => (h.1.lt k hk).1)⟩
  rw [flatV_append, List.length_append]
  exact ho
set_option maxHeartbeats 8000000 in
theorem unkeyed_t (a : Option Addr) (c0 : Nat) (S : List Int) (w : World) (hl : S.length ≤ 200000000) (hcap : S.length ≤ c0) (h : Lsb w a S) (hS : bytesOk S) : Calls Tryz.prog 26 #[.slice a S.length c0] w fun e w' => ParP (parseL S.length S []) w e w' := by
  have A0 : Hid (Av [] (.slice none 0 0) w w) := Lib.hid ⟨World.ownsRow_nil _ _ _ _, Below.refl _ _⟩
  have AE : Hid (∀ wq, Below w.heap.size w wq → Av [] (.slice none 0 0) w wq) := Lib.hid (fun wq hb => ⟨World.ownsRow_nil _ _ _ _, hb⟩)
  have H0 := Lib.hid h
  have HS0 := Lib.hid hS
  obtain ⟨R, hR⟩ : ∃ R, R = parseL S.length S [] := ⟨_, rfl⟩
  rw [← hR]
  obtain ⟨m, hm⟩ : ∃ m, S.length = m := ⟨_, rfl⟩
  rw [hm] at hl hcap hR
  rw [hm]
  have HR := Lib.hid hR
  have HM := Lib.hid hm
  clear h hS hR hm
  go_enter Tryz.func26, Tryz.ntmps26
  go_wp2_with fail
  go_loopw [0, 4] (fun z y wr => ∃ (T : List Int) (A : Option Addr) (n c f : Nat) (acc : List V3) (v : Value), z = .slice A n c ∧ v = y ∧ n ≤ f ∧ f ≤ 200000000 ∧ acc.length + f ≤ 200000000 ∧ n ≤ c ∧ Hid (T.length = n) ∧ Hid (bytesOk T) ∧ Hid (Lsb w A T) ∧ Hid (Av acc v w wr) ∧ Hid (R = parseL f T acc)) (fun z _ _ => match z with | .slice _ n _ => n | _ => 0)
  case atStart => exact ⟨S, a, m, c0, m, [], _, rfl, rfl, Nat.le_refl _, hl, by simpa using hl, hcap, HM, HS0, H0, A0, HR⟩
  case round =>
    obtain ⟨T, A, n, c, f, acc, v, rfl, rfl, hnf, hf, hacc, hnc, hn, hT8, hT, hA, hR⟩ := hrel
    obtain ⟨wo, hwo⟩ : ∃ wo, wo = wr := ⟨wr, rfl⟩
    subst hwo
    by_cases h0 : n = 0
    · subst h0
      have HE : Hid (R = (acc, 0)) := Lib.hid (by rw [hR.out, List.eq_nil_of_length_eq_zero hn.out]; cases f <;> rfl)
      go_wp2_with fail
      go_ret2
      exact ParP.mk hA.out HE.out
    · have hn0 : 0 < n := by omega
      clear h0
      obtain ⟨f', rfl⟩ : ∃ f', f = f' + 1 := ⟨f - 1, by omega⟩
      obtain ⟨p, r, rfl⟩ : ∃ p r, T = p :: r := by
        cases T with
        | nil => have := hn.out; simp at this; omega
        | cons p r => exact ⟨p, r, rfl⟩
      obtain ⟨b, o, rfl, cc⟩ := (hT.out.below hA.out.2) 0 p rfl
      rw [Nat.add_zero] at cc
      have hr1 : r.length + 1 ≤ n := Nat.le_of_eq hn.out
      have hr2 : n ≤ r.length + 1 := Nat.le_of_eq hn.out.symm
      have HR8 : Hid (bytesOk r) := Lib.hid (fun q hq => hT8.out q (List.mem_cons_of_mem _ hq))
      obtain ⟨p0, p1⟩ := hT8.out p List.mem_cons_self
      have HF1 := Lib.hid (firstT_cons p r)
      have hlen : acc.length ≤ 1000000000 := by omega
      have HPR : Hid (∀ F : V3 × Int × Int, firstT (p :: r) = F → R = if F.2.2 = 0 then parseL f' ((p :: r).drop F.2.1.toNat) (acc ++ [F.1]) else ([], F.2.2)) := Lib.hid (fun F e => by subst e; rw [hR.out, parseL, if_neg (List.cons_ne_nil _ _)])
      clear hR
      rcases (by omega : p = 0 ∨ p = 3 ∨ p = 1 ∨ p = 2 ∨ p = 4 ∨ 5 ≤ p) with rfl | rfl | rfl | rfl | rfl | h5
      · have HN : Hid (R = parseL f' ((0 :: r).drop 1) (acc ++ [(0, 0, ByteArray.empty)])) := Lib.hid (by have h9 := HPR.out (nullT, 1, 0) (by rw [HF1.out, if_pos rfl]); rw [if_pos rfl] at h9; exact h9)
        have CF := Lib.hid (fun w => anyFault_v (0, 0, ByteArray.empty) 0 ((fault_right _ _ _).2 right0) (by decide) w)
        go_wp2_with (refine store23 rfl (.tmp 5) (.tmp 17) rfl wo.heap.size (0, 0, ByteArray.empty) rfl rfl nullT (new_at _ _ _ rfl) ?_; intro w1 hp'; have X1 := Lib.hid hp'.at'; have K1 := Lib.hid (hp'.below (w0 := wo) ((Below.refl _ wo).alloc (Nat.le_refl _) _) (Nat.le_refl _)); clear hp'; have a0 : w1.cell? ⟨wo.heap.size, 0, none⟩ = some (.int .i64 0) := (cell_of_row w1 _ 0 _ _ _ X1.out).trans rfl; have a1 : w1.cell? ⟨wo.heap.size, 1, none⟩ = some (.int .i64 0) := (cell_of_row w1 _ 1 _ _ _ X1.out).trans rfl; have a2 : w1.cell? ⟨wo.heap.size, 2, none⟩ = some (.string ⟨#[]⟩) := (cell_of_row w1 _ 2 _ _ _ X1.out).trans rfl)
        refine (CF.out _).mono ?_
        rintro e w5 ⟨rfl, hb5⟩
        have X5 : Hid (w5.heap[wo.heap.size]? = some (.cells (cells (0, 0, ByteArray.empty)) 23 (0, 0))) := Lib.hid ((hb5.block _ (lt_of_block X1.out)).trans X1.out)
        have K5 := Lib.hid (below_call K1.out hb5)
        clear hb5 a0 a1 a2
        go_wp2_with fail
        refine wp_region_held_drew (S := Bk9 wo.heap.size (0, 0, ByteArray.empty)) (by kernel_rfl) X5.out ?_
        intro hS
        have A6 : Hid (Av acc v w w5.drew) := Lib.hid ⟨(hA.out.below K5.out).1, (hA.out.below K5.out).2.drew⟩
        clear X5 K5
        generalize w5.drew = wd at hS A6 ⊢
        refine wpAnyH_take (i := 0) (oi := ⟨some 64, _, _, _, _, _⟩) (v := v) rfl (by kernel_rfl) (by kernel_rfl) (by kernel_rfl) (fun _ _ _ h => h) (Or.inl ⟨rfl, fun w' _ => by rfl⟩) hS ?_
        try simp only [Act.put, List.setIfInBounds_toArray, List.set_cons_zero, List.set_cons_succ]
        refine wpAnyH_take (i := 1) (oi := ⟨some 65, _, _, _, _, _⟩) (v := toV (0, 0, ByteArray.empty)) rfl (by kernel_rfl) (by kernel_rfl) (by kernel_rfl) (fun _ _ _ h => h) (Or.inl ⟨rfl, run_load23 (C := Bk9 wo.heap.size (0, 0, ByteArray.empty)) (.tmp 5) rfl wo.heap.size _ rfl rfl (fun w h => h)⟩) hS ?_
        try simp only [Act.put, List.setIfInBounds_toArray, List.set_cons_zero, List.set_cons_succ]
        refine wpAnyH_take (i := 4) (oi := ⟨some 68, _, _, _, _, _⟩) (v := .slice (some ⟨b, o, none⟩) n c) rfl (by kernel_rfl) (by kernel_rfl) (by kernel_rfl) (fun _ _ _ h => h) (Or.inl ⟨rfl, fun w' _ => by rfl⟩) hS ?_
        try simp only [Act.put, List.setIfInBounds_toArray, List.set_cons_zero, List.set_cons_succ]
        refine wpAnyH_take (i := 5) (oi := ⟨some 69, _, _, _, _, _⟩) (v := .int .i64 (1)) rfl (by kernel_rfl) (by kernel_rfl) (by kernel_rfl) (fun _ _ _ h => h) (Or.inl ⟨rfl, fun w' _ => by rfl⟩) hS ?_
        try simp only [Act.put, List.setIfInBounds_toArray, List.set_cons_zero, List.set_cons_succ]
        refine wpAnyH_take (i := 6) (oi := ⟨some 70, _, _, _, _, _⟩) (v := .slice (cutA (some ⟨b, o, none⟩) (1) c) (n - (1)) (c - (1))) rfl (by kernel_rfl) (by kernel_rfl) (by kernel_rfl) (fun _ _ _ h => h) (Or.inl ⟨rfl, fun w' _ => exec_cut_l (.tmp 68) _ rfl _ n c (1) _ rfl rfl (by omega) (by omega) w'⟩) hS ?_
        try simp only [Act.put, List.setIfInBounds_toArray, List.set_cons_zero, List.set_cons_succ]
        have AL : Hid (Av acc v w (wd.alloc (.cells (cells (0, 0, ByteArray.empty)) 23))) := Lib.hid (A6.out.alloc _)
        have LL : Hid (Lsb w (cutA (some ⟨b, o, none⟩) (1) c) ((0 :: r).drop (1))) := Lib.hid (by have h9 := hT.out.cut (1) n c (by rw [hn.out]; exact hnc); rw [← hn.out, List.take_length] at h9; exact h9)
        have HB : Hid (∀ k, v.ownBlock = some k → k < wo.heap.size) := Lib.hid hA.out.far
        clear A6
        generalize cutA (some ⟨b, o, none⟩) (1) c = A9 at LL ⊢
        refine wpAnyH_ready (rs := [2]) (by kernel_rfl) (by simp) ?_
        refine AllReadyH.cons (o := ⟨some 66, _, _, _, _, _⟩) rfl (fun K0 hK => ?_) AllReadyH.nil
        go_simp
        refine hK.out _ _ (Bk9.alloc hS _) ?_
        clear hK K0 hS
        intro hS
        try simp only [Act.put, List.setIfInBounds_toArray, List.set_cons_zero, List.set_cons_succ]
        refine wpAnyH_ready (rs := [3]) (by kernel_rfl) (by simp) ?_
        refine AllReadyH.cons (o := ⟨some 67, _, _, _, _, _⟩) rfl (fun K0 hK => ?_) AllReadyH.nil
        obtain ⟨i3, hi, hz0, hz1, hz2⟩ := info_parts info23i
        refine step_append_lies _ rfl (.tmp 64) (.tmp 66) 28 rfl w.heap.size 23 i3 (.agg #[.int .i64 0, .int .i64 0, .string ⟨#[]⟩]) 3 32 Tryz.underlying28 hi hz0 hz1 hz2 rfl (by decide) v acc.length _ rfl AL.out.1 ⟨wd.heap.size, 0, none⟩ 1 1 (flatV [(0, 0, ByteArray.empty)]) rfl (by rw [flatV_length]; rfl) (news23 wd (0, 0, ByteArray.empty)) (flatV_one (0, 0, ByteArray.empty)) (by decide) (by unfold maxLen; omega) (by omega) AL.out.2.size (wd.heap.size + 1) (by simp) ?_
        intro g9 cap9 w9 hown hgrow hne hlt9
        have A9' : Hid (Av (acc ++ [(0, 0, ByteArray.empty)]) (.slice (some ⟨g9, 0, none⟩) (acc.length + 1) cap9) w w9) := Lib.hid (Av.grown9 AL.out hown hgrow)
        refine hK.out _ _ (Bk9.grow hS hgrow HB.out) ?_
        clear hK K0 hS hown hgrow hne hlt9 hi hz0 hz1 hz2 AL HB
        intro hS
        try simp only [Act.put, List.setIfInBounds_toArray, List.set_cons_zero, List.set_cons_succ]
        refine wpAnyH_take (i := 7) (oi := ⟨some 4, _, _, _, _, _⟩) (v := .slice (some ⟨g9, 0, none⟩) (acc.length + 1) cap9) rfl (by kernel_rfl) (by kernel_rfl) (by kernel_rfl) (fun _ _ _ h => h) (Or.inl ⟨rfl, fun w' _ => by rfl⟩) hS ?_
        try simp only [Act.put, List.setIfInBounds_toArray, List.set_cons_zero, List.set_cons_succ]
        refine wpAnyH_take (i := 8) (oi := ⟨some 0, _, _, _, _, _⟩) (v := .slice A9 (n - (1)) (c - (1))) rfl (by kernel_rfl) (by kernel_rfl) (by kernel_rfl) (fun _ _ _ h => h) (Or.inl ⟨rfl, fun w' _ => by rfl⟩) hS ?_
        try simp only [Act.put, List.setIfInBounds_toArray, List.set_cons_zero]
        refine wpAnyH_done (by kernel_rfl) ?_ _
        go_wp2_with fail
        go_roundw
        case rel => exact ⟨(0 :: r).drop (1), A9, n - (1), c - (1), f', acc ++ [(0, 0, ByteArray.empty)], _, rfl, rfl, by omega, by omega, by rw [List.length_append]; simp; omega, by omega, Lib.hid (by rw [List.length_drop, hn.out]), Lib.hid (fun q hq => hT8.out q (List.mem_of_mem_drop hq)), LL, A9', HN⟩
        case measure => dsimp only; omega
      · have hzl := zeroAt_lt r
        have hzg := zeroAt_ge r
        by_cases hz : zeroAt r < 0
        · have HZ : Hid (zeroAt r = -1) := Lib.hid (by omega)
          have HE : Hid (R = ([], 15)) := Lib.hid (by have h9 := HPR.out (nullT, 0, 15) (by rw [HF1.out, if_neg (by decide), if_neg (by decide), if_pos rfl, if_pos hz]); rw [if_neg (by decide)] at h9; exact h9)
          clear hz hzl hzg
          go_wp2_with (first | (refine store23 rfl (.tmp 5) (.tmp 17) rfl wo.heap.size (3, 0, ByteArray.empty) rfl rfl nullT (new_at _ _ _ rfl) ?_; intro w1 hp'; have X1 := Lib.hid hp'.at'; have K1 := Lib.hid (hp'.below (w0 := wo) ((Below.refl _ wo).alloc (Nat.le_refl _) _) (Nat.le_refl _)); clear hp'; have a0 : w1.cell? ⟨wo.heap.size, 0, none⟩ = some (.int .i64 3) := (cell_of_row w1 _ 0 _ _ _ X1.out).trans rfl; have a1 : w1.cell? ⟨wo.heap.size, 1, none⟩ = some (.int .i64 0) := (cell_of_row w1 _ 1 _ _ _ X1.out).trans rfl; have a2 : w1.cell? ⟨wo.heap.size, 2, none⟩ = some (.string ⟨#[]⟩) := (cell_of_row w1 _ 2 _ _ _ X1.out).trans rfl) | (refine wp_cut_l rfl (.tmp 24) _ rfl (some ⟨b, o, none⟩) (3 :: r) r n c 1 (n - 1) (c - 1) _ rfl rfl rfl hn.out hn0 hnc (hT.out.below (below_call hA.out.2 K1.out)) rfl rfl rfl ?_; intro A2 hL2 hn2; have CI := Lib.hid (index0_n A2 (c - 1) (n - 1) r (-1) w1 hn2 (by omega) hL2 HR8.out HZ.out); clear hL2 hn2))
          refine CI.out.mono ?_
          rintro e wx ⟨rfl, hwx⟩
          rw [hwx]
          clear hwx wx
          go_wp2_with fail
          go_ret2
          exact ParP.mk (AE.out _ (below_call hA.out.2 K1.out)) HE.out
        · obtain ⟨z, hz1⟩ : ∃ z : Nat, zeroAt r = z := ⟨(zeroAt r).toNat, by omega⟩
          have hz2 : z < r.length := by omega
          have HZ := Lib.hid hz1
          have HX : Hid (firstT (3 :: r) = finT (3, 0, strB (r.take z)) (z + 2)) := Lib.hid (by rw [HF1.out, if_neg (by decide), if_neg (by decide), if_pos rfl, if_neg hz, hz1]; rfl)
          clear hz hzl hzg hz1
          have hzs : (strB (r.take z)).size ≤ maxLen := by rw [strB_size, List.length_take]; unfold maxLen; omega
          have HTK : Hid (r.take z = ((3 :: r).take (z + 1)).drop 1) := Lib.hid rfl
          have HTL : Hid ((r.take z).length = z) := Lib.hid (by rw [List.length_take]; omega)
          have hq1 : (((z : Int) + 2) == 1) = false := by rw [beq_eq_false_iff_ne]; omega
          have HFT : Hid (finT (3, 0, strB (r.take z)) (z + 2) = if faultN 0 3 0 (strB (r.take z)) = 0 then ((3, 0, strB (r.take z)), (z : Int) + 2, 0) else (nullT, 0, 1)) := Lib.hid (finT_fault (3, 0, strB (r.take z)) (z + 2))
          have hCF : ∀ w, Calls Tryz.prog 103 #[toV (3, 0, strB (r.take z))] w fun e w' => e = .returned (.int .i64 (faultN 0 3 0 (strB (r.take z)))) ∧ Below w.heap.size w w' := fun w => anyFault_v (3, 0, strB (r.take z)) _ rfl hzs w
          generalize faultN 0 3 0 (strB (r.take z)) = F at hCF HFT
          obtain ⟨Z9, hZ9⟩ : ∃ Z9, strB (r.take z) = Z9 := ⟨_, rfl⟩
          have HZ9 := Lib.hid hZ9
          rw [hZ9] at hCF HFT HX
          have CF := Lib.hid hCF
          clear hCF hzs hZ9
          cases hf : (F == 0) with
          | false =>
            have HE : Hid (R = ([], 1)) := Lib.hid (by have h9 := HPR.out (nullT, 0, 1) (by rw [HX.out, HFT.out, if_neg (by simpa using hf)]); rw [if_neg (by decide)] at h9; exact h9)
            go_wp2_with (first | (refine store23 rfl (.tmp 5) (.tmp 17) rfl wo.heap.size (3, 0, ByteArray.empty) rfl rfl nullT (new_at _ _ _ rfl) ?_; intro w1 hp'; have X1 := Lib.hid hp'.at'; have K1 := Lib.hid (hp'.below (w0 := wo) ((Below.refl _ wo).alloc (Nat.le_refl _) _) (Nat.le_refl _)); clear hp'; have a0 : w1.cell? ⟨wo.heap.size, 0, none⟩ = some (.int .i64 3) := (cell_of_row w1 _ 0 _ _ _ X1.out).trans rfl; have a1 : w1.cell? ⟨wo.heap.size, 1, none⟩ = some (.int .i64 0) := (cell_of_row w1 _ 1 _ _ _ X1.out).trans rfl; have a2 : w1.cell? ⟨wo.heap.size, 2, none⟩ = some (.string ⟨#[]⟩) := (cell_of_row w1 _ 2 _ _ _ X1.out).trans rfl) | (refine wp_cut_l rfl (.tmp 24) _ rfl (some ⟨b, o, none⟩) (3 :: r) r n c 1 (n - 1) (c - 1) _ rfl rfl rfl hn.out hn0 hnc (hT.out.below (below_call hA.out.2 K1.out)) rfl rfl rfl ?_; intro A2 hL2 hn2; have CI := Lib.hid (index0_n A2 (c - 1) (n - 1) r z w1 hn2 (by omega) hL2 HR8.out HZ.out); clear hL2 hn2))
            refine CI.out.mono ?_
            rintro e wx ⟨rfl, hwx⟩
            rw [hwx]
            clear hwx wx
            go_wp2_with (first | (refine wp_cut rfl (.tmp 30) _ (.tmp 32) rfl (some ⟨b, o, none⟩) (3 :: r) (r.take z) n c 1 (z + 1) z (c - 1) _ _ rfl rfl rfl rfl (by omega) hn.out (by omega) (by omega) hnc (hT.out.below (below_call hA.out.2 K1.out)) HTK.out (by omega) rfl ?_; intro A3' hL3 hn3; have L3' := Lib.hid hL3; clear hL3 hn3) | (refine wp_conv rfl (.tmp 33) rfl A3' (r.take z) z (c - 1) rfl HTL.out L3'.out ?_; rw [HZ9.out]) | (refine store_str rfl (.tmp 35) (.tmp 34) rfl wo.heap.size 2 Z9 rfl rfl _ 23 X1.out (by show 2 < 3; decide) ?_; intro w3 hq; have X3 : Hid (w3.heap[wo.heap.size]? = some (.cells (cells (3, 0, Z9)) 23 (0, 0))) := Lib.hid hq.at'; have K3 := Lib.hid (hq.below K1.out (Nat.le_refl _)); clear hq a0 a1 a2; have a0 : w3.cell? ⟨wo.heap.size, 0, none⟩ = some (.int .i64 3) := (cell_of_row w3 _ 0 _ _ _ X3.out).trans rfl; have a1 : w3.cell? ⟨wo.heap.size, 1, none⟩ = some (.int .i64 0) := (cell_of_row w3 _ 1 _ _ _ X3.out).trans rfl; have a2 : w3.cell? ⟨wo.heap.size, 2, none⟩ = some (.string Z9) := (cell_of_row w3 _ 2 _ _ _ X3.out).trans rfl))
            refine (CF.out _).mono ?_
            rintro e w5 ⟨rfl, hb5⟩
            have K5 := Lib.hid (below_call K3.out hb5)
            clear hb5 a0 a1 a2
            go_wp2_with fail
            go_ret2
            exact ParP.mk (AE.out _ (below_call hA.out.2 K5.out)) HE.out
          | true =>
            obtain rfl : F = 0 := by simpa using hf
            have HN : Hid (R = parseL f' ((3 :: r).drop (z + 2)) (acc ++ [(3, 0, Z9)])) := Lib.hid (by have h9 := HPR.out ((3, 0, Z9), (z : Int) + 2, 0) (by rw [HX.out, HFT.out, if_pos rfl]); rw [if_pos rfl] at h9; exact h9)
            go_wp2_with (first | (refine store23 rfl (.tmp 5) (.tmp 17) rfl wo.heap.size (3, 0, ByteArray.empty) rfl rfl nullT (new_at _ _ _ rfl) ?_; intro w1 hp'; have X1 := Lib.hid hp'.at'; have K1 := Lib.hid (hp'.below (w0 := wo) ((Below.refl _ wo).alloc (Nat.le_refl _) _) (Nat.le_refl _)); clear hp'; have a0 : w1.cell? ⟨wo.heap.size, 0, none⟩ = some (.int .i64 3) := (cell_of_row w1 _ 0 _ _ _ X1.out).trans rfl; have a1 : w1.cell? ⟨wo.heap.size, 1, none⟩ = some (.int .i64 0) := (cell_of_row w1 _ 1 _ _ _ X1.out).trans rfl; have a2 : w1.cell? ⟨wo.heap.size, 2, none⟩ = some (.string ⟨#[]⟩) := (cell_of_row w1 _ 2 _ _ _ X1.out).trans rfl) | (refine wp_cut_l rfl (.tmp 24) _ rfl (some ⟨b, o, none⟩) (3 :: r) r n c 1 (n - 1) (c - 1) _ rfl rfl rfl hn.out hn0 hnc (hT.out.below (below_call hA.out.2 K1.out)) rfl rfl rfl ?_; intro A2 hL2 hn2; have CI := Lib.hid (index0_n A2 (c - 1) (n - 1) r z w1 hn2 (by omega) hL2 HR8.out HZ.out); clear hL2 hn2))
            refine CI.out.mono ?_
            rintro e wx ⟨rfl, hwx⟩
            rw [hwx]
            clear hwx wx
            go_wp2_with (first | (refine wp_cut rfl (.tmp 30) _ (.tmp 32) rfl (some ⟨b, o, none⟩) (3 :: r) (r.take z) n c 1 (z + 1) z (c - 1) _ _ rfl rfl rfl rfl (by omega) hn.out (by omega) (by omega) hnc (hT.out.below (below_call hA.out.2 K1.out)) HTK.out (by omega) rfl ?_; intro A3' hL3 hn3; have L3' := Lib.hid hL3; clear hL3 hn3) | (refine wp_conv rfl (.tmp 33) rfl A3' (r.take z) z (c - 1) rfl HTL.out L3'.out ?_; rw [HZ9.out]) | (refine store_str rfl (.tmp 35) (.tmp 34) rfl wo.heap.size 2 Z9 rfl rfl _ 23 X1.out (by show 2 < 3; decide) ?_; intro w3 hq; have X3 : Hid (w3.heap[wo.heap.size]? = some (.cells (cells (3, 0, Z9)) 23 (0, 0))) := Lib.hid hq.at'; have K3 := Lib.hid (hq.below K1.out (Nat.le_refl _)); clear hq a0 a1 a2; have a0 : w3.cell? ⟨wo.heap.size, 0, none⟩ = some (.int .i64 3) := (cell_of_row w3 _ 0 _ _ _ X3.out).trans rfl; have a1 : w3.cell? ⟨wo.heap.size, 1, none⟩ = some (.int .i64 0) := (cell_of_row w3 _ 1 _ _ _ X3.out).trans rfl; have a2 : w3.cell? ⟨wo.heap.size, 2, none⟩ = some (.string Z9) := (cell_of_row w3 _ 2 _ _ _ X3.out).trans rfl))
            refine (CF.out _).mono ?_
            rintro e w5 ⟨rfl, hb5⟩
            have X5 : Hid (w5.heap[wo.heap.size]? = some (.cells (cells (3, 0, Z9)) 23 (0, 0))) := Lib.hid ((hb5.block _ (lt_of_block X3.out)).trans X3.out)
            have K5 := Lib.hid (below_call K3.out hb5)
            clear hb5 a0 a1 a2
            go_wp2_with fail
            refine wp_region_held_drew (S := Bk9 wo.heap.size (3, 0, Z9)) (by kernel_rfl) X5.out ?_
            intro hS
            have A6 : Hid (Av acc v w w5.drew) := Lib.hid ⟨(hA.out.below K5.out).1, (hA.out.below K5.out).2.drew⟩
            clear X5 K5
            generalize w5.drew = wd at hS A6 ⊢
            refine wpAnyH_take (i := 0) (oi := ⟨some 64, _, _, _, _, _⟩) (v := v) rfl (by kernel_rfl) (by kernel_rfl) (by kernel_rfl) (fun _ _ _ h => h) (Or.inl ⟨rfl, fun w' _ => by rfl⟩) hS ?_
            try simp only [Act.put, List.setIfInBounds_toArray, List.set_cons_zero, List.set_cons_succ]
            refine wpAnyH_take (i := 1) (oi := ⟨some 65, _, _, _, _, _⟩) (v := toV (3, 0, Z9)) rfl (by kernel_rfl) (by kernel_rfl) (by kernel_rfl) (fun _ _ _ h => h) (Or.inl ⟨rfl, run_load23 (C := Bk9 wo.heap.size (3, 0, Z9)) (.tmp 5) rfl wo.heap.size _ rfl rfl (fun w h => h)⟩) hS ?_
            try simp only [Act.put, List.setIfInBounds_toArray, List.set_cons_zero, List.set_cons_succ]
            refine wpAnyH_take (i := 4) (oi := ⟨some 68, _, _, _, _, _⟩) (v := .slice (some ⟨b, o, none⟩) n c) rfl (by kernel_rfl) (by kernel_rfl) (by kernel_rfl) (fun _ _ _ h => h) (Or.inl ⟨rfl, fun w' _ => by rfl⟩) hS ?_
            try simp only [Act.put, List.setIfInBounds_toArray, List.set_cons_zero, List.set_cons_succ]
            refine wpAnyH_take (i := 5) (oi := ⟨some 69, _, _, _, _, _⟩) (v := .int .i64 ((z : Int) + 2)) rfl (by kernel_rfl) (by kernel_rfl) (by kernel_rfl) (fun _ _ _ h => h) (Or.inl ⟨rfl, fun w' _ => by rfl⟩) hS ?_
            try simp only [Act.put, List.setIfInBounds_toArray, List.set_cons_zero, List.set_cons_succ]
            refine wpAnyH_take (i := 6) (oi := ⟨some 70, _, _, _, _, _⟩) (v := .slice (cutA (some ⟨b, o, none⟩) (z + 2) c) (n - (z + 2)) (c - (z + 2))) rfl (by kernel_rfl) (by kernel_rfl) (by kernel_rfl) (fun _ _ _ h => h) (Or.inl ⟨rfl, fun w' _ => exec_cut_l (.tmp 68) _ rfl _ n c (z + 2) _ rfl rfl (by omega) (by omega) w'⟩) hS ?_
            try simp only [Act.put, List.setIfInBounds_toArray, List.set_cons_zero, List.set_cons_succ]
            have AL : Hid (Av acc v w (wd.alloc (.cells (cells (3, 0, Z9)) 23))) := Lib.hid (A6.out.alloc _)
            have LL : Hid (Lsb w (cutA (some ⟨b, o, none⟩) (z + 2) c) ((3 :: r).drop (z + 2))) := Lib.hid (by have h9 := hT.out.cut (z + 2) n c (by rw [hn.out]; exact hnc); rw [← hn.out, List.take_length] at h9; exact h9)
            have HB : Hid (∀ k, v.ownBlock = some k → k < wo.heap.size) := Lib.hid hA.out.far
            clear A6
            generalize cutA (some ⟨b, o, none⟩) (z + 2) c = A9 at LL ⊢
            refine wpAnyH_ready (rs := [2]) (by kernel_rfl) (by simp) ?_
            refine AllReadyH.cons (o := ⟨some 66, _, _, _, _, _⟩) rfl (fun K0 hK => ?_) AllReadyH.nil
            go_simp
            refine hK.out _ _ (Bk9.alloc hS _) ?_
            clear hK K0 hS
            intro hS
            try simp only [Act.put, List.setIfInBounds_toArray, List.set_cons_zero, List.set_cons_succ]
            refine wpAnyH_ready (rs := [3]) (by kernel_rfl) (by simp) ?_
            refine AllReadyH.cons (o := ⟨some 67, _, _, _, _, _⟩) rfl (fun K0 hK => ?_) AllReadyH.nil
            obtain ⟨i3, hi, hz0, hz1, hz2⟩ := info_parts info23i
            refine step_append_lies _ rfl (.tmp 64) (.tmp 66) 28 rfl w.heap.size 23 i3 (.agg #[.int .i64 0, .int .i64 0, .string ⟨#[]⟩]) 3 32 Tryz.underlying28 hi hz0 hz1 hz2 rfl (by decide) v acc.length _ rfl AL.out.1 ⟨wd.heap.size, 0, none⟩ 1 1 (flatV [(3, 0, Z9)]) rfl (by rw [flatV_length]; rfl) (news23 wd (3, 0, Z9)) (flatV_one (3, 0, Z9)) (by decide) (by unfold maxLen; omega) (by omega) AL.out.2.size (wd.heap.size + 1) (by simp) ?_
            intro g9 cap9 w9 hown hgrow hne hlt9
            have A9' : Hid (Av (acc ++ [(3, 0, Z9)]) (.slice (some ⟨g9, 0, none⟩) (acc.length + 1) cap9) w w9) := Lib.hid (Av.grown9 AL.out hown hgrow)
            refine hK.out _ _ (Bk9.grow hS hgrow HB.out) ?_
            clear hK K0 hS hown hgrow hne hlt9 hi hz0 hz1 hz2 AL HB
            intro hS
            try simp only [Act.put, List.setIfInBounds_toArray, List.set_cons_zero, List.set_cons_succ]
            refine wpAnyH_take (i := 7) (oi := ⟨some 4, _, _, _, _, _⟩) (v := .slice (some ⟨g9, 0, none⟩) (acc.length + 1) cap9) rfl (by kernel_rfl) (by kernel_rfl) (by kernel_rfl) (fun _ _ _ h => h) (Or.inl ⟨rfl, fun w' _ => by rfl⟩) hS ?_
            try simp only [Act.put, List.setIfInBounds_toArray, List.set_cons_zero, List.set_cons_succ]
            refine wpAnyH_take (i := 8) (oi := ⟨some 0, _, _, _, _, _⟩) (v := .slice A9 (n - (z + 2)) (c - (z + 2))) rfl (by kernel_rfl) (by kernel_rfl) (by kernel_rfl) (fun _ _ _ h => h) (Or.inl ⟨rfl, fun w' _ => by rfl⟩) hS ?_
            try simp only [Act.put, List.setIfInBounds_toArray, List.set_cons_zero]
            refine wpAnyH_done (by kernel_rfl) ?_ _
            go_wp2_with fail
            go_roundw
            case rel => exact ⟨(3 :: r).drop (z + 2), A9, n - (z + 2), c - (z + 2), f', acc ++ [(3, 0, Z9)], _, rfl, rfl, by omega, by omega, by rw [List.length_append]; simp; omega, by omega, Lib.hid (by rw [List.length_drop, hn.out]), Lib.hid (fun q hq => hT8.out q (List.mem_of_mem_drop hq)), LL, A9', HN⟩
            case measure => dsimp only; omega
      · by_cases h9 : n < 9
        · have HE : Hid (R = ([], 15)) := Lib.hid (by have h8 := HPR.out (nullT, 0, 15) (by rw [HF1.out, if_neg (by decide), if_neg (by decide), if_neg (by decide), if_pos (by omega)]); rw [if_neg (by decide)] at h8; exact h8)
          go_wp2_with (refine store23 rfl (.tmp 5) (.tmp 17) rfl wo.heap.size (1, 0, ByteArray.empty) rfl rfl nullT (new_at _ _ _ rfl) ?_; intro w1 hp'; have X1 := Lib.hid hp'.at'; have K1 := Lib.hid (hp'.below (w0 := wo) ((Below.refl _ wo).alloc (Nat.le_refl _) _) (Nat.le_refl _)); clear hp'; have a0 : w1.cell? ⟨wo.heap.size, 0, none⟩ = some (.int .i64 1) := (cell_of_row w1 _ 0 _ _ _ X1.out).trans rfl; have a1 : w1.cell? ⟨wo.heap.size, 1, none⟩ = some (.int .i64 0) := (cell_of_row w1 _ 1 _ _ _ X1.out).trans rfl; have a2 : w1.cell? ⟨wo.heap.size, 2, none⟩ = some (.string ⟨#[]⟩) := (cell_of_row w1 _ 2 _ _ _ X1.out).trans rfl)
          go_ret2
          exact ParP.mk (AE.out _ (below_call hA.out.2 K1.out)) HE.out
        · have HX : Hid (firstT (1 :: r) = finT (1, numK (r.take 8), ByteArray.empty) 9) := Lib.hid (by rw [HF1.out, if_neg (by decide), if_neg (by decide), if_neg (by decide), if_neg (by omega)])
          have HTK : Hid (r.take 8 = ((1 :: r).take 9).drop 1) := Lib.hid rfl
          have HTL : Hid ((r.take 8).length = 8) := Lib.hid (by rw [List.length_take]; omega)
          obtain ⟨NN, hNN⟩ : ∃ NN, numK (r.take 8) = NN := ⟨_, rfl⟩
          have HNN := Lib.hid hNN
          rw [hNN] at HX
          clear hNN
          have HFT : Hid (finT (1, NN, ByteArray.empty) 9 = if faultN 0 1 NN ByteArray.empty = 0 then ((1, NN, ByteArray.empty), 9, 0) else (nullT, 0, 1)) := Lib.hid (finT_fault (1, NN, ByteArray.empty) 9)
          have hCF : ∀ w, Calls Tryz.prog 103 #[toV (1, NN, ByteArray.empty)] w fun e w' => e = .returned (.int .i64 (faultN 0 1 NN ByteArray.empty)) ∧ Below w.heap.size w w' := fun w => anyFault_v (1, NN, ByteArray.empty) _ rfl (by show ByteArray.empty.size ≤ maxLen; decide) w
          generalize faultN 0 1 NN ByteArray.empty = F at hCF HFT
          have CF := Lib.hid hCF
          clear hCF
          cases hf : (F == 0) with
          | false =>
            have HE : Hid (R = ([], 1)) := Lib.hid (by have h8 := HPR.out (nullT, 0, 1) (by rw [HX.out, HFT.out, if_neg (by simpa using hf)]); rw [if_neg (by decide)] at h8; exact h8)
            go_wp2_with (first | (refine store23 rfl (.tmp 5) (.tmp 17) rfl wo.heap.size (1, 0, ByteArray.empty) rfl rfl nullT (new_at _ _ _ rfl) ?_; intro w1 hp'; have X1 := Lib.hid hp'.at'; have K1 := Lib.hid (hp'.below (w0 := wo) ((Below.refl _ wo).alloc (Nat.le_refl _) _) (Nat.le_refl _)); clear hp'; have a0 : w1.cell? ⟨wo.heap.size, 0, none⟩ = some (.int .i64 1) := (cell_of_row w1 _ 0 _ _ _ X1.out).trans rfl; have a1 : w1.cell? ⟨wo.heap.size, 1, none⟩ = some (.int .i64 0) := (cell_of_row w1 _ 1 _ _ _ X1.out).trans rfl; have a2 : w1.cell? ⟨wo.heap.size, 2, none⟩ = some (.string ⟨#[]⟩) := (cell_of_row w1 _ 2 _ _ _ X1.out).trans rfl) | (refine wp_cut rfl (.tmp 44) _ _ rfl (some ⟨b, o, none⟩) (1 :: r) (r.take 8) n c 1 9 8 (c - 1) _ _ rfl rfl rfl rfl rfl hn.out (by omega) (by omega) hnc (hT.out.below (below_call hA.out.2 K1.out)) HTK.out rfl rfl ?_; intro A3' hL3 hn3; have L3' := Lib.hid hL3; clear hL3 hn3))
            go_loopw [7, 47] (fun y z wi => ∃ (k : Nat) (u : Int), k ≤ 8 ∧ y = .int .u64 u ∧ Hid (u = nfold ((r.take 8).take k)) ∧ z = .int .i64 k ∧ Hid (wi = w1)) (fun _ z _ => 8 - (intOf z).toNat)
            case atStart => exact ⟨0, 0, Nat.zero_le _, rfl, Lib.hid rfl, rfl, Lib.hid rfl⟩
            case round =>
              obtain ⟨k, u, hk, rfl, hu, rfl, hw⟩ := hrel
              obtain rfl := hw.out
              by_cases hlt : k < 8
              · obtain ⟨q, hq⟩ := lt_some (S := r.take 8) (j := k) (by rw [HTL.out]; exact hlt)
                obtain ⟨b', o', rfl, c9⟩ := L3'.out k q hq
                obtain ⟨q0, q1⟩ := HR8.out q (List.mem_of_mem_take (List.mem_of_getElem? hq))
                have HNF := Lib.hid (nfold_take hq)
                clear hq
                go_wp2_with fail
                go_roundw
                case rel => exact ⟨k + 1, _, by omega, rfl, Lib.hid (by rw [HNF.out, ← hu.out]; rfl), by go_num, Lib.hid trivial⟩
                case measure => simp [intOf]; omega
              · have hk2 : k = 8 := by omega
                subst hk2
                have HNN2 : Hid (wrap64 (IntKind.u64.wrap (u - 4611686018427387904)) = NN) := Lib.hid (by rw [← HNN.out, hu.out]; unfold numK; rw [List.take_take]; rfl)
                go_wp2_with (refine store_int rfl (.tmp 60) (.tmp 59) rfl wo.heap.size 1 (wrap64 (IntKind.u64.wrap (u - 4611686018427387904))) rfl rfl _ 23 X1.out (by show 1 < 3; decide) ?_; intro w3 hq; have X3 : Hid (w3.heap[wo.heap.size]? = some (.cells (cells (1, NN, ByteArray.empty)) 23 (0, 0))) := Lib.hid (by rw [← HNN2.out]; exact hq.at'); have K3 := Lib.hid (hq.below K1.out (Nat.le_refl _)); clear hq a0 a1 a2; have a0 : w3.cell? ⟨wo.heap.size, 0, none⟩ = some (.int .i64 1) := (cell_of_row w3 _ 0 _ _ _ X3.out).trans rfl; have a1 : w3.cell? ⟨wo.heap.size, 1, none⟩ = some (.int .i64 NN) := (cell_of_row w3 _ 1 _ _ _ X3.out).trans rfl; have a2 : w3.cell? ⟨wo.heap.size, 2, none⟩ = some (.string ⟨#[]⟩) := (cell_of_row w3 _ 2 _ _ _ X3.out).trans rfl)
                refine (CF.out _).mono ?_
                rintro e w5 ⟨rfl, hb5⟩
                have K5 := Lib.hid (below_call K3.out hb5)
                clear hb5 a0 a1 a2
                go_wp2_with fail
                go_ret2
                exact ParP.mk (AE.out _ (below_call hA.out.2 K5.out)) HE.out
          | true =>
            obtain rfl : F = 0 := by simpa using hf
            have HN : Hid (R = parseL f' ((1 :: r).drop 9) (acc ++ [(1, NN, ByteArray.empty)])) := Lib.hid (by have h8 := HPR.out ((1, NN, ByteArray.empty), 9, 0) (by rw [HX.out, HFT.out, if_pos rfl]); rw [if_pos rfl] at h8; exact h8)
            go_wp2_with (first | (refine store23 rfl (.tmp 5) (.tmp 17) rfl wo.heap.size (1, 0, ByteArray.empty) rfl rfl nullT (new_at _ _ _ rfl) ?_; intro w1 hp'; have X1 := Lib.hid hp'.at'; have K1 := Lib.hid (hp'.below (w0 := wo) ((Below.refl _ wo).alloc (Nat.le_refl _) _) (Nat.le_refl _)); clear hp'; have a0 : w1.cell? ⟨wo.heap.size, 0, none⟩ = some (.int .i64 1) := (cell_of_row w1 _ 0 _ _ _ X1.out).trans rfl; have a1 : w1.cell? ⟨wo.heap.size, 1, none⟩ = some (.int .i64 0) := (cell_of_row w1 _ 1 _ _ _ X1.out).trans rfl; have a2 : w1.cell? ⟨wo.heap.size, 2, none⟩ = some (.string ⟨#[]⟩) := (cell_of_row w1 _ 2 _ _ _ X1.out).trans rfl) | (refine wp_cut rfl (.tmp 44) _ _ rfl (some ⟨b, o, none⟩) (1 :: r) (r.take 8) n c 1 9 8 (c - 1) _ _ rfl rfl rfl rfl rfl hn.out (by omega) (by omega) hnc (hT.out.below (below_call hA.out.2 K1.out)) HTK.out rfl rfl ?_; intro A3' hL3 hn3; have L3' := Lib.hid hL3; clear hL3 hn3))
            go_loopw [7, 47] (fun y z wi => ∃ (k : Nat) (u : Int), k ≤ 8 ∧ y = .int .u64 u ∧ Hid (u = nfold ((r.take 8).take k)) ∧ z = .int .i64 k ∧ Hid (wi = w1)) (fun _ z _ => 8 - (intOf z).toNat)
            case atStart => exact ⟨0, 0, Nat.zero_le _, rfl, Lib.hid rfl, rfl, Lib.hid rfl⟩
            case round =>
              obtain ⟨k, u, hk, rfl, hu, rfl, hw⟩ := hrel
              obtain rfl := hw.out
              by_cases hlt : k < 8
              · obtain ⟨q, hq⟩ := lt_some (S := r.take 8) (j := k) (by rw [HTL.out]; exact hlt)
                obtain ⟨b', o', rfl, c9⟩ := L3'.out k q hq
                obtain ⟨q0, q1⟩ := HR8.out q (List.mem_of_mem_take (List.mem_of_getElem? hq))
                have HNF := Lib.hid (nfold_take hq)
                clear hq
                go_wp2_with fail
                go_roundw
                case rel => exact ⟨k + 1, _, by omega, rfl, Lib.hid (by rw [HNF.out, ← hu.out]; rfl), by go_num, Lib.hid trivial⟩
                case measure => simp [intOf]; omega
              · have hk2 : k = 8 := by omega
                subst hk2
                have HNN2 : Hid (wrap64 (IntKind.u64.wrap (u - 4611686018427387904)) = NN) := Lib.hid (by rw [← HNN.out, hu.out]; unfold numK; rw [List.take_take]; rfl)
                go_wp2_with (refine store_int rfl (.tmp 60) (.tmp 59) rfl wo.heap.size 1 (wrap64 (IntKind.u64.wrap (u - 4611686018427387904))) rfl rfl _ 23 X1.out (by show 1 < 3; decide) ?_; intro w3 hq; have X3 : Hid (w3.heap[wo.heap.size]? = some (.cells (cells (1, NN, ByteArray.empty)) 23 (0, 0))) := Lib.hid (by rw [← HNN2.out]; exact hq.at'); have K3 := Lib.hid (hq.below K1.out (Nat.le_refl _)); clear hq a0 a1 a2; have a0 : w3.cell? ⟨wo.heap.size, 0, none⟩ = some (.int .i64 1) := (cell_of_row w3 _ 0 _ _ _ X3.out).trans rfl; have a1 : w3.cell? ⟨wo.heap.size, 1, none⟩ = some (.int .i64 NN) := (cell_of_row w3 _ 1 _ _ _ X3.out).trans rfl; have a2 : w3.cell? ⟨wo.heap.size, 2, none⟩ = some (.string ⟨#[]⟩) := (cell_of_row w3 _ 2 _ _ _ X3.out).trans rfl)
                refine (CF.out _).mono ?_
                rintro e w5 ⟨rfl, hb5⟩
                have X5 : Hid (w5.heap[wo.heap.size]? = some (.cells (cells (1, NN, ByteArray.empty)) 23 (0, 0))) := Lib.hid ((hb5.block _ (lt_of_block X3.out)).trans X3.out)
                have K5 := Lib.hid (below_call K3.out hb5)
                clear hb5 a0 a1 a2
                go_wp2_with fail
                refine wp_region_held_drew (S := Bk9 wo.heap.size (1, NN, ByteArray.empty)) (by kernel_rfl) X5.out ?_
                intro hS
                have A6 : Hid (Av acc v w w5.drew) := Lib.hid ⟨(hA.out.below K5.out).1, (hA.out.below K5.out).2.drew⟩
                clear X5 K5
                generalize w5.drew = wd at hS A6 ⊢
                refine wpAnyH_take (i := 0) (oi := ⟨some 64, _, _, _, _, _⟩) (v := v) rfl (by kernel_rfl) (by kernel_rfl) (by kernel_rfl) (fun _ _ _ h => h) (Or.inl ⟨rfl, fun w' _ => by rfl⟩) hS ?_
                try simp only [Act.put, List.setIfInBounds_toArray, List.set_cons_zero, List.set_cons_succ]
                refine wpAnyH_take (i := 1) (oi := ⟨some 65, _, _, _, _, _⟩) (v := toV (1, NN, ByteArray.empty)) rfl (by kernel_rfl) (by kernel_rfl) (by kernel_rfl) (fun _ _ _ h => h) (Or.inl ⟨rfl, run_load23 (C := Bk9 wo.heap.size (1, NN, ByteArray.empty)) (.tmp 5) rfl wo.heap.size _ rfl rfl (fun w h => h)⟩) hS ?_
                try simp only [Act.put, List.setIfInBounds_toArray, List.set_cons_zero, List.set_cons_succ]
                refine wpAnyH_take (i := 4) (oi := ⟨some 68, _, _, _, _, _⟩) (v := .slice (some ⟨b, o, none⟩) n c) rfl (by kernel_rfl) (by kernel_rfl) (by kernel_rfl) (fun _ _ _ h => h) (Or.inl ⟨rfl, fun w' _ => by rfl⟩) hS ?_
                try simp only [Act.put, List.setIfInBounds_toArray, List.set_cons_zero, List.set_cons_succ]
                refine wpAnyH_take (i := 5) (oi := ⟨some 69, _, _, _, _, _⟩) (v := .int .i64 (9)) rfl (by kernel_rfl) (by kernel_rfl) (by kernel_rfl) (fun _ _ _ h => h) (Or.inl ⟨rfl, fun w' _ => by rfl⟩) hS ?_
                try simp only [Act.put, List.setIfInBounds_toArray, List.set_cons_zero, List.set_cons_succ]
                refine wpAnyH_take (i := 6) (oi := ⟨some 70, _, _, _, _, _⟩) (v := .slice (cutA (some ⟨b, o, none⟩) (9) c) (n - (9)) (c - (9))) rfl (by kernel_rfl) (by kernel_rfl) (by kernel_rfl) (fun _ _ _ h => h) (Or.inl ⟨rfl, fun w' _ => exec_cut_l (.tmp 68) _ rfl _ n c (9) _ rfl rfl (by omega) (by omega) w'⟩) hS ?_
                try simp only [Act.put, List.setIfInBounds_toArray, List.set_cons_zero, List.set_cons_succ]
                have AL : Hid (Av acc v w (wd.alloc (.cells (cells (1, NN, ByteArray.empty)) 23))) := Lib.hid (A6.out.alloc _)
                have LL : Hid (Lsb w (cutA (some ⟨b, o, none⟩) (9) c) ((1 :: r).drop (9))) := Lib.hid (by have h9 := hT.out.cut (9) n c (by rw [hn.out]; exact hnc); rw [← hn.out, List.take_length] at h9; exact h9)
                have HB : Hid (∀ k, v.ownBlock = some k → k < wo.heap.size) := Lib.hid hA.out.far
                clear A6
                generalize cutA (some ⟨b, o, none⟩) (9) c = A9 at LL ⊢
                refine wpAnyH_ready (rs := [2]) (by kernel_rfl) (by simp) ?_
                refine AllReadyH.cons (o := ⟨some 66, _, _, _, _, _⟩) rfl (fun K0 hK => ?_) AllReadyH.nil
                go_simp
                refine hK.out _ _ (Bk9.alloc hS _) ?_
                clear hK K0 hS
                intro hS
                try simp only [Act.put, List.setIfInBounds_toArray, List.set_cons_zero, List.set_cons_succ]
                refine wpAnyH_ready (rs := [3]) (by kernel_rfl) (by simp) ?_
                refine AllReadyH.cons (o := ⟨some 67, _, _, _, _, _⟩) rfl (fun K0 hK => ?_) AllReadyH.nil
                obtain ⟨i3, hi, hz0, hz1, hz2⟩ := info_parts info23i
                refine step_append_lies _ rfl (.tmp 64) (.tmp 66) 28 rfl w.heap.size 23 i3 (.agg #[.int .i64 0, .int .i64 0, .string ⟨#[]⟩]) 3 32 Tryz.underlying28 hi hz0 hz1 hz2 rfl (by decide) v acc.length _ rfl AL.out.1 ⟨wd.heap.size, 0, none⟩ 1 1 (flatV [(1, NN, ByteArray.empty)]) rfl (by rw [flatV_length]; rfl) (news23 wd (1, NN, ByteArray.empty)) (flatV_one (1, NN, ByteArray.empty)) (by decide) (by unfold maxLen; omega) (by omega) AL.out.2.size (wd.heap.size + 1) (by simp) ?_
                intro g9 cap9 w9 hown hgrow hne hlt9
                have A9' : Hid (Av (acc ++ [(1, NN, ByteArray.empty)]) (.slice (some ⟨g9, 0, none⟩) (acc.length + 1) cap9) w w9) := Lib.hid (Av.grown9 AL.out hown hgrow)
                refine hK.out _ _ (Bk9.grow hS hgrow HB.out) ?_
                clear hK K0 hS hown hgrow hne hlt9 hi hz0 hz1 hz2 AL HB
                intro hS
                try simp only [Act.put, List.setIfInBounds_toArray, List.set_cons_zero, List.set_cons_succ]
                refine wpAnyH_take (i := 7) (oi := ⟨some 4, _, _, _, _, _⟩) (v := .slice (some ⟨g9, 0, none⟩) (acc.length + 1) cap9) rfl (by kernel_rfl) (by kernel_rfl) (by kernel_rfl) (fun _ _ _ h => h) (Or.inl ⟨rfl, fun w' _ => by rfl⟩) hS ?_
                try simp only [Act.put, List.setIfInBounds_toArray, List.set_cons_zero, List.set_cons_succ]
                refine wpAnyH_take (i := 8) (oi := ⟨some 0, _, _, _, _, _⟩) (v := .slice A9 (n - (9)) (c - (9))) rfl (by kernel_rfl) (by kernel_rfl) (by kernel_rfl) (fun _ _ _ h => h) (Or.inl ⟨rfl, fun w' _ => by rfl⟩) hS ?_
                try simp only [Act.put, List.setIfInBounds_toArray, List.set_cons_zero]
                refine wpAnyH_done (by kernel_rfl) ?_ _
                go_wp2_with fail
                go_roundw
                case rel => exact ⟨(1 :: r).drop (9), A9, n - (9), c - (9), f', acc ++ [(1, NN, ByteArray.empty)], _, rfl, rfl, by omega, by omega, by rw [List.length_append]; simp; omega, by omega, Lib.hid (by rw [List.length_drop, hn.out]), Lib.hid (fun q hq => hT8.out q (List.mem_of_mem_drop hq)), LL, A9', HN⟩
                case measure => dsimp only; omega
      · by_cases h9 : n < 9
        · have HE : Hid (R = ([], 15)) := Lib.hid (by have h8 := HPR.out (nullT, 0, 15) (by rw [HF1.out, if_neg (by decide), if_neg (by decide), if_neg (by decide), if_pos (by omega)]); rw [if_neg (by decide)] at h8; exact h8)
          go_wp2_with (refine store23 rfl (.tmp 5) (.tmp 17) rfl wo.heap.size (2, 0, ByteArray.empty) rfl rfl nullT (new_at _ _ _ rfl) ?_; intro w1 hp'; have X1 := Lib.hid hp'.at'; have K1 := Lib.hid (hp'.below (w0 := wo) ((Below.refl _ wo).alloc (Nat.le_refl _) _) (Nat.le_refl _)); clear hp'; have a0 : w1.cell? ⟨wo.heap.size, 0, none⟩ = some (.int .i64 2) := (cell_of_row w1 _ 0 _ _ _ X1.out).trans rfl; have a1 : w1.cell? ⟨wo.heap.size, 1, none⟩ = some (.int .i64 0) := (cell_of_row w1 _ 1 _ _ _ X1.out).trans rfl; have a2 : w1.cell? ⟨wo.heap.size, 2, none⟩ = some (.string ⟨#[]⟩) := (cell_of_row w1 _ 2 _ _ _ X1.out).trans rfl)
          go_ret2
          exact ParP.mk (AE.out _ (below_call hA.out.2 K1.out)) HE.out
        · have HX : Hid (firstT (2 :: r) = finT (2, numK (r.take 8), ByteArray.empty) 9) := Lib.hid (by rw [HF1.out, if_neg (by decide), if_neg (by decide), if_neg (by decide), if_neg (by omega)])
          have HTK : Hid (r.take 8 = ((2 :: r).take 9).drop 1) := Lib.hid rfl
          have HTL : Hid ((r.take 8).length = 8) := Lib.hid (by rw [List.length_take]; omega)
          obtain ⟨NN, hNN⟩ : ∃ NN, numK (r.take 8) = NN := ⟨_, rfl⟩
          have HNN := Lib.hid hNN
          rw [hNN] at HX
          clear hNN
          have HFT : Hid (finT (2, NN, ByteArray.empty) 9 = if faultN 0 2 NN ByteArray.empty = 0 then ((2, NN, ByteArray.empty), 9, 0) else (nullT, 0, 1)) := Lib.hid (finT_fault (2, NN, ByteArray.empty) 9)
          have hCF : ∀ w, Calls Tryz.prog 103 #[toV (2, NN, ByteArray.empty)] w fun e w' => e = .returned (.int .i64 (faultN 0 2 NN ByteArray.empty)) ∧ Below w.heap.size w w' := fun w => anyFault_v (2, NN, ByteArray.empty) _ rfl (by show ByteArray.empty.size ≤ maxLen; decide) w
          generalize faultN 0 2 NN ByteArray.empty = F at hCF HFT
          have CF := Lib.hid hCF
          clear hCF
          cases hf : (F == 0) with
          | false =>
            have HE : Hid (R = ([], 1)) := Lib.hid (by have h8 := HPR.out (nullT, 0, 1) (by rw [HX.out, HFT.out, if_neg (by simpa using hf)]); rw [if_neg (by decide)] at h8; exact h8)
            go_wp2_with (first | (refine store23 rfl (.tmp 5) (.tmp 17) rfl wo.heap.size (2, 0, ByteArray.empty) rfl rfl nullT (new_at _ _ _ rfl) ?_; intro w1 hp'; have X1 := Lib.hid hp'.at'; have K1 := Lib.hid (hp'.below (w0 := wo) ((Below.refl _ wo).alloc (Nat.le_refl _) _) (Nat.le_refl _)); clear hp'; have a0 : w1.cell? ⟨wo.heap.size, 0, none⟩ = some (.int .i64 2) := (cell_of_row w1 _ 0 _ _ _ X1.out).trans rfl; have a1 : w1.cell? ⟨wo.heap.size, 1, none⟩ = some (.int .i64 0) := (cell_of_row w1 _ 1 _ _ _ X1.out).trans rfl; have a2 : w1.cell? ⟨wo.heap.size, 2, none⟩ = some (.string ⟨#[]⟩) := (cell_of_row w1 _ 2 _ _ _ X1.out).trans rfl) | (refine wp_cut rfl (.tmp 44) _ _ rfl (some ⟨b, o, none⟩) (2 :: r) (r.take 8) n c 1 9 8 (c - 1) _ _ rfl rfl rfl rfl rfl hn.out (by omega) (by omega) hnc (hT.out.below (below_call hA.out.2 K1.out)) HTK.out rfl rfl ?_; intro A3' hL3 hn3; have L3' := Lib.hid hL3; clear hL3 hn3))
            go_loopw [7, 47] (fun y z wi => ∃ (k : Nat) (u : Int), k ≤ 8 ∧ y = .int .u64 u ∧ Hid (u = nfold ((r.take 8).take k)) ∧ z = .int .i64 k ∧ Hid (wi = w1)) (fun _ z _ => 8 - (intOf z).toNat)
            case atStart => exact ⟨0, 0, Nat.zero_le _, rfl, Lib.hid rfl, rfl, Lib.hid rfl⟩
            case round =>
              obtain ⟨k, u, hk, rfl, hu, rfl, hw⟩ := hrel
              obtain rfl := hw.out
              by_cases hlt : k < 8
              · obtain ⟨q, hq⟩ := lt_some (S := r.take 8) (j := k) (by rw [HTL.out]; exact hlt)
                obtain ⟨b', o', rfl, c9⟩ := L3'.out k q hq
                obtain ⟨q0, q1⟩ := HR8.out q (List.mem_of_mem_take (List.mem_of_getElem? hq))
                have HNF := Lib.hid (nfold_take hq)
                clear hq
                go_wp2_with fail
                go_roundw
                case rel => exact ⟨k + 1, _, by omega, rfl, Lib.hid (by rw [HNF.out, ← hu.out]; rfl), by go_num, Lib.hid trivial⟩
                case measure => simp [intOf]; omega
              · have hk2 : k = 8 := by omega
                subst hk2
                have HNN2 : Hid (wrap64 (IntKind.u64.wrap (u - 4611686018427387904)) = NN) := Lib.hid (by rw [← HNN.out, hu.out]; unfold numK; rw [List.take_take]; rfl)
                go_wp2_with (refine store_int rfl (.tmp 60) (.tmp 59) rfl wo.heap.size 1 (wrap64 (IntKind.u64.wrap (u - 4611686018427387904))) rfl rfl _ 23 X1.out (by show 1 < 3; decide) ?_; intro w3 hq; have X3 : Hid (w3.heap[wo.heap.size]? = some (.cells (cells (2, NN, ByteArray.empty)) 23 (0, 0))) := Lib.hid (by rw [← HNN2.out]; exact hq.at'); have K3 := Lib.hid (hq.below K1.out (Nat.le_refl _)); clear hq a0 a1 a2; have a0 : w3.cell? ⟨wo.heap.size, 0, none⟩ = some (.int .i64 2) := (cell_of_row w3 _ 0 _ _ _ X3.out).trans rfl; have a1 : w3.cell? ⟨wo.heap.size, 1, none⟩ = some (.int .i64 NN) := (cell_of_row w3 _ 1 _ _ _ X3.out).trans rfl; have a2 : w3.cell? ⟨wo.heap.size, 2, none⟩ = some (.string ⟨#[]⟩) := (cell_of_row w3 _ 2 _ _ _ X3.out).trans rfl)
                refine (CF.out _).mono ?_
                rintro e w5 ⟨rfl, hb5⟩
                have K5 := Lib.hid (below_call K3.out hb5)
                clear hb5 a0 a1 a2
                go_wp2_with fail
                go_ret2
                exact ParP.mk (AE.out _ (below_call hA.out.2 K5.out)) HE.out
          | true =>
            obtain rfl : F = 0 := by simpa using hf
            have HN : Hid (R = parseL f' ((2 :: r).drop 9) (acc ++ [(2, NN, ByteArray.empty)])) := Lib.hid (by have h8 := HPR.out ((2, NN, ByteArray.empty), 9, 0) (by rw [HX.out, HFT.out, if_pos rfl]); rw [if_pos rfl] at h8; exact h8)
            go_wp2_with (first | (refine store23 rfl (.tmp 5) (.tmp 17) rfl wo.heap.size (2, 0, ByteArray.empty) rfl rfl nullT (new_at _ _ _ rfl) ?_; intro w1 hp'; have X1 := Lib.hid hp'.at'; have K1 := Lib.hid (hp'.below (w0 := wo) ((Below.refl _ wo).alloc (Nat.le_refl _) _) (Nat.le_refl _)); clear hp'; have a0 : w1.cell? ⟨wo.heap.size, 0, none⟩ = some (.int .i64 2) := (cell_of_row w1 _ 0 _ _ _ X1.out).trans rfl; have a1 : w1.cell? ⟨wo.heap.size, 1, none⟩ = some (.int .i64 0) := (cell_of_row w1 _ 1 _ _ _ X1.out).trans rfl; have a2 : w1.cell? ⟨wo.heap.size, 2, none⟩ = some (.string ⟨#[]⟩) := (cell_of_row w1 _ 2 _ _ _ X1.out).trans rfl) | (refine wp_cut rfl (.tmp 44) _ _ rfl (some ⟨b, o, none⟩) (2 :: r) (r.take 8) n c 1 9 8 (c - 1) _ _ rfl rfl rfl rfl rfl hn.out (by omega) (by omega) hnc (hT.out.below (below_call hA.out.2 K1.out)) HTK.out rfl rfl ?_; intro A3' hL3 hn3; have L3' := Lib.hid hL3; clear hL3 hn3))
            go_loopw [7, 47] (fun y z wi => ∃ (k : Nat) (u : Int), k ≤ 8 ∧ y = .int .u64 u ∧ Hid (u = nfold ((r.take 8).take k)) ∧ z = .int .i64 k ∧ Hid (wi = w1)) (fun _ z _ => 8 - (intOf z).toNat)
            case atStart => exact ⟨0, 0, Nat.zero_le _, rfl, Lib.hid rfl, rfl, Lib.hid rfl⟩
            case round =>
              obtain ⟨k, u, hk, rfl, hu, rfl, hw⟩ := hrel
              obtain rfl := hw.out
              by_cases hlt : k < 8
              · obtain ⟨q, hq⟩ := lt_some (S := r.take 8) (j := k) (by rw [HTL.out]; exact hlt)
                obtain ⟨b', o', rfl, c9⟩ := L3'.out k q hq
                obtain ⟨q0, q1⟩ := HR8.out q (List.mem_of_mem_take (List.mem_of_getElem? hq))
                have HNF := Lib.hid (nfold_take hq)
                clear hq
                go_wp2_with fail
                go_roundw
                case rel => exact ⟨k + 1, _, by omega, rfl, Lib.hid (by rw [HNF.out, ← hu.out]; rfl), by go_num, Lib.hid trivial⟩
                case measure => simp [intOf]; omega
              · have hk2 : k = 8 := by omega
                subst hk2
                have HNN2 : Hid (wrap64 (IntKind.u64.wrap (u - 4611686018427387904)) = NN) := Lib.hid (by rw [← HNN.out, hu.out]; unfold numK; rw [List.take_take]; rfl)
                go_wp2_with (refine store_int rfl (.tmp 60) (.tmp 59) rfl wo.heap.size 1 (wrap64 (IntKind.u64.wrap (u - 4611686018427387904))) rfl rfl _ 23 X1.out (by show 1 < 3; decide) ?_; intro w3 hq; have X3 : Hid (w3.heap[wo.heap.size]? = some (.cells (cells (2, NN, ByteArray.empty)) 23 (0, 0))) := Lib.hid (by rw [← HNN2.out]; exact hq.at'); have K3 := Lib.hid (hq.below K1.out (Nat.le_refl _)); clear hq a0 a1 a2; have a0 : w3.cell? ⟨wo.heap.size, 0, none⟩ = some (.int .i64 2) := (cell_of_row w3 _ 0 _ _ _ X3.out).trans rfl; have a1 : w3.cell? ⟨wo.heap.size, 1, none⟩ = some (.int .i64 NN) := (cell_of_row w3 _ 1 _ _ _ X3.out).trans rfl; have a2 : w3.cell? ⟨wo.heap.size, 2, none⟩ = some (.string ⟨#[]⟩) := (cell_of_row w3 _ 2 _ _ _ X3.out).trans rfl)
                refine (CF.out _).mono ?_
                rintro e w5 ⟨rfl, hb5⟩
                have X5 : Hid (w5.heap[wo.heap.size]? = some (.cells (cells (2, NN, ByteArray.empty)) 23 (0, 0))) := Lib.hid ((hb5.block _ (lt_of_block X3.out)).trans X3.out)
                have K5 := Lib.hid (below_call K3.out hb5)
                clear hb5 a0 a1 a2
                go_wp2_with fail
                refine wp_region_held_drew (S := Bk9 wo.heap.size (2, NN, ByteArray.empty)) (by kernel_rfl) X5.out ?_
                intro hS
                have A6 : Hid (Av acc v w w5.drew) := Lib.hid ⟨(hA.out.below K5.out).1, (hA.out.below K5.out).2.drew⟩
                clear X5 K5
                generalize w5.drew = wd at hS A6 ⊢
                refine wpAnyH_take (i := 0) (oi := ⟨some 64, _, _, _, _, _⟩) (v := v) rfl (by kernel_rfl) (by kernel_rfl) (by kernel_rfl) (fun _ _ _ h => h) (Or.inl ⟨rfl, fun w' _ => by rfl⟩) hS ?_
                try simp only [Act.put, List.setIfInBounds_toArray, List.set_cons_zero, List.set_cons_succ]
                refine wpAnyH_take (i := 1) (oi := ⟨some 65, _, _, _, _, _⟩) (v := toV (2, NN, ByteArray.empty)) rfl (by kernel_rfl) (by kernel_rfl) (by kernel_rfl) (fun _ _ _ h => h) (Or.inl ⟨rfl, run_load23 (C := Bk9 wo.heap.size (2, NN, ByteArray.empty)) (.tmp 5) rfl wo.heap.size _ rfl rfl (fun w h => h)⟩) hS ?_
                try simp only [Act.put, List.setIfInBounds_toArray, List.set_cons_zero, List.set_cons_succ]
                refine wpAnyH_take (i := 4) (oi := ⟨some 68, _, _, _, _, _⟩) (v := .slice (some ⟨b, o, none⟩) n c) rfl (by kernel_rfl) (by kernel_rfl) (by kernel_rfl) (fun _ _ _ h => h) (Or.inl ⟨rfl, fun w' _ => by rfl⟩) hS ?_
                try simp only [Act.put, List.setIfInBounds_toArray, List.set_cons_zero, List.set_cons_succ]
                refine wpAnyH_take (i := 5) (oi := ⟨some 69, _, _, _, _, _⟩) (v := .int .i64 (9)) rfl (by kernel_rfl) (by kernel_rfl) (by kernel_rfl) (fun _ _ _ h => h) (Or.inl ⟨rfl, fun w' _ => by rfl⟩) hS ?_
                try simp only [Act.put, List.setIfInBounds_toArray, List.set_cons_zero, List.set_cons_succ]
                refine wpAnyH_take (i := 6) (oi := ⟨some 70, _, _, _, _, _⟩) (v := .slice (cutA (some ⟨b, o, none⟩) (9) c) (n - (9)) (c - (9))) rfl (by kernel_rfl) (by kernel_rfl) (by kernel_rfl) (fun _ _ _ h => h) (Or.inl ⟨rfl, fun w' _ => exec_cut_l (.tmp 68) _ rfl _ n c (9) _ rfl rfl (by omega) (by omega) w'⟩) hS ?_
                try simp only [Act.put, List.setIfInBounds_toArray, List.set_cons_zero, List.set_cons_succ]
                have AL : Hid (Av acc v w (wd.alloc (.cells (cells (2, NN, ByteArray.empty)) 23))) := Lib.hid (A6.out.alloc _)
                have LL : Hid (Lsb w (cutA (some ⟨b, o, none⟩) (9) c) ((2 :: r).drop (9))) := Lib.hid (by have h9 := hT.out.cut (9) n c (by rw [hn.out]; exact hnc); rw [← hn.out, List.take_length] at h9; exact h9)
                have HB : Hid (∀ k, v.ownBlock = some k → k < wo.heap.size) := Lib.hid hA.out.far
                clear A6
                generalize cutA (some ⟨b, o, none⟩) (9) c = A9 at LL ⊢
                refine wpAnyH_ready (rs := [2]) (by kernel_rfl) (by simp) ?_
                refine AllReadyH.cons (o := ⟨some 66, _, _, _, _, _⟩) rfl (fun K0 hK => ?_) AllReadyH.nil
                go_simp
                refine hK.out _ _ (Bk9.alloc hS _) ?_
                clear hK K0 hS
                intro hS
                try simp only [Act.put, List.setIfInBounds_toArray, List.set_cons_zero, List.set_cons_succ]
                refine wpAnyH_ready (rs := [3]) (by kernel_rfl) (by simp) ?_
                refine AllReadyH.cons (o := ⟨some 67, _, _, _, _, _⟩) rfl (fun K0 hK => ?_) AllReadyH.nil
                obtain ⟨i3, hi, hz0, hz1, hz2⟩ := info_parts info23i
                refine step_append_lies _ rfl (.tmp 64) (.tmp 66) 28 rfl w.heap.size 23 i3 (.agg #[.int .i64 0, .int .i64 0, .string ⟨#[]⟩]) 3 32 Tryz.underlying28 hi hz0 hz1 hz2 rfl (by decide) v acc.length _ rfl AL.out.1 ⟨wd.heap.size, 0, none⟩ 1 1 (flatV [(2, NN, ByteArray.empty)]) rfl (by rw [flatV_length]; rfl) (news23 wd (2, NN, ByteArray.empty)) (flatV_one (2, NN, ByteArray.empty)) (by decide) (by unfold maxLen; omega) (by omega) AL.out.2.size (wd.heap.size + 1) (by simp) ?_
                intro g9 cap9 w9 hown hgrow hne hlt9
                have A9' : Hid (Av (acc ++ [(2, NN, ByteArray.empty)]) (.slice (some ⟨g9, 0, none⟩) (acc.length + 1) cap9) w w9) := Lib.hid (Av.grown9 AL.out hown hgrow)
                refine hK.out _ _ (Bk9.grow hS hgrow HB.out) ?_
                clear hK K0 hS hown hgrow hne hlt9 hi hz0 hz1 hz2 AL HB
                intro hS
                try simp only [Act.put, List.setIfInBounds_toArray, List.set_cons_zero, List.set_cons_succ]
                refine wpAnyH_take (i := 7) (oi := ⟨some 4, _, _, _, _, _⟩) (v := .slice (some ⟨g9, 0, none⟩) (acc.length + 1) cap9) rfl (by kernel_rfl) (by kernel_rfl) (by kernel_rfl) (fun _ _ _ h => h) (Or.inl ⟨rfl, fun w' _ => by rfl⟩) hS ?_
                try simp only [Act.put, List.setIfInBounds_toArray, List.set_cons_zero, List.set_cons_succ]
                refine wpAnyH_take (i := 8) (oi := ⟨some 0, _, _, _, _, _⟩) (v := .slice A9 (n - (9)) (c - (9))) rfl (by kernel_rfl) (by kernel_rfl) (by kernel_rfl) (fun _ _ _ h => h) (Or.inl ⟨rfl, fun w' _ => by rfl⟩) hS ?_
                try simp only [Act.put, List.setIfInBounds_toArray, List.set_cons_zero]
                refine wpAnyH_done (by kernel_rfl) ?_ _
                go_wp2_with fail
                go_roundw
                case rel => exact ⟨(2 :: r).drop (9), A9, n - (9), c - (9), f', acc ++ [(2, NN, ByteArray.empty)], _, rfl, rfl, by omega, by omega, by rw [List.length_append]; simp; omega, by omega, Lib.hid (by rw [List.length_drop, hn.out]), Lib.hid (fun q hq => hT8.out q (List.mem_of_mem_drop hq)), LL, A9', HN⟩
                case measure => dsimp only; omega
      · by_cases h9 : n < 9
        · have HE : Hid (R = ([], 15)) := Lib.hid (by have h8 := HPR.out (nullT, 0, 15) (by rw [HF1.out, if_neg (by decide), if_neg (by decide), if_neg (by decide), if_pos (by omega)]); rw [if_neg (by decide)] at h8; exact h8)
          go_wp2_with (refine store23 rfl (.tmp 5) (.tmp 17) rfl wo.heap.size (4, 0, ByteArray.empty) rfl rfl nullT (new_at _ _ _ rfl) ?_; intro w1 hp'; have X1 := Lib.hid hp'.at'; have K1 := Lib.hid (hp'.below (w0 := wo) ((Below.refl _ wo).alloc (Nat.le_refl _) _) (Nat.le_refl _)); clear hp'; have a0 : w1.cell? ⟨wo.heap.size, 0, none⟩ = some (.int .i64 4) := (cell_of_row w1 _ 0 _ _ _ X1.out).trans rfl; have a1 : w1.cell? ⟨wo.heap.size, 1, none⟩ = some (.int .i64 0) := (cell_of_row w1 _ 1 _ _ _ X1.out).trans rfl; have a2 : w1.cell? ⟨wo.heap.size, 2, none⟩ = some (.string ⟨#[]⟩) := (cell_of_row w1 _ 2 _ _ _ X1.out).trans rfl)
          go_ret2
          exact ParP.mk (AE.out _ (below_call hA.out.2 K1.out)) HE.out
        · have HX : Hid (firstT (4 :: r) = finT (4, numK (r.take 8), ByteArray.empty) 9) := Lib.hid (by rw [HF1.out, if_neg (by decide), if_neg (by decide), if_neg (by decide), if_neg (by omega)])
          have HTK : Hid (r.take 8 = ((4 :: r).take 9).drop 1) := Lib.hid rfl
          have HTL : Hid ((r.take 8).length = 8) := Lib.hid (by rw [List.length_take]; omega)
          obtain ⟨NN, hNN⟩ : ∃ NN, numK (r.take 8) = NN := ⟨_, rfl⟩
          have HNN := Lib.hid hNN
          rw [hNN] at HX
          clear hNN
          have HFT : Hid (finT (4, NN, ByteArray.empty) 9 = if faultN 0 4 NN ByteArray.empty = 0 then ((4, NN, ByteArray.empty), 9, 0) else (nullT, 0, 1)) := Lib.hid (finT_fault (4, NN, ByteArray.empty) 9)
          have hCF : ∀ w, Calls Tryz.prog 103 #[toV (4, NN, ByteArray.empty)] w fun e w' => e = .returned (.int .i64 (faultN 0 4 NN ByteArray.empty)) ∧ Below w.heap.size w w' := fun w => anyFault_v (4, NN, ByteArray.empty) _ rfl (by show ByteArray.empty.size ≤ maxLen; decide) w
          generalize faultN 0 4 NN ByteArray.empty = F at hCF HFT
          have CF := Lib.hid hCF
          clear hCF
          cases hf : (F == 0) with
          | false =>
            have HE : Hid (R = ([], 1)) := Lib.hid (by have h8 := HPR.out (nullT, 0, 1) (by rw [HX.out, HFT.out, if_neg (by simpa using hf)]); rw [if_neg (by decide)] at h8; exact h8)
            go_wp2_with (first | (refine store23 rfl (.tmp 5) (.tmp 17) rfl wo.heap.size (4, 0, ByteArray.empty) rfl rfl nullT (new_at _ _ _ rfl) ?_; intro w1 hp'; have X1 := Lib.hid hp'.at'; have K1 := Lib.hid (hp'.below (w0 := wo) ((Below.refl _ wo).alloc (Nat.le_refl _) _) (Nat.le_refl _)); clear hp'; have a0 : w1.cell? ⟨wo.heap.size, 0, none⟩ = some (.int .i64 4) := (cell_of_row w1 _ 0 _ _ _ X1.out).trans rfl; have a1 : w1.cell? ⟨wo.heap.size, 1, none⟩ = some (.int .i64 0) := (cell_of_row w1 _ 1 _ _ _ X1.out).trans rfl; have a2 : w1.cell? ⟨wo.heap.size, 2, none⟩ = some (.string ⟨#[]⟩) := (cell_of_row w1 _ 2 _ _ _ X1.out).trans rfl) | (refine wp_cut rfl (.tmp 44) _ _ rfl (some ⟨b, o, none⟩) (4 :: r) (r.take 8) n c 1 9 8 (c - 1) _ _ rfl rfl rfl rfl rfl hn.out (by omega) (by omega) hnc (hT.out.below (below_call hA.out.2 K1.out)) HTK.out rfl rfl ?_; intro A3' hL3 hn3; have L3' := Lib.hid hL3; clear hL3 hn3))
            go_loopw [7, 47] (fun y z wi => ∃ (k : Nat) (u : Int), k ≤ 8 ∧ y = .int .u64 u ∧ Hid (u = nfold ((r.take 8).take k)) ∧ z = .int .i64 k ∧ Hid (wi = w1)) (fun _ z _ => 8 - (intOf z).toNat)
            case atStart => exact ⟨0, 0, Nat.zero_le _, rfl, Lib.hid rfl, rfl, Lib.hid rfl⟩
            case round =>
              obtain ⟨k, u, hk, rfl, hu, rfl, hw⟩ := hrel
              obtain rfl := hw.out
              by_cases hlt : k < 8
              · obtain ⟨q, hq⟩ := lt_some (S := r.take 8) (j := k) (by rw [HTL.out]; exact hlt)
                obtain ⟨b', o', rfl, c9⟩ := L3'.out k q hq
                obtain ⟨q0, q1⟩ := HR8.out q (List.mem_of_mem_take (List.mem_of_getElem? hq))
                have HNF := Lib.hid (nfold_take hq)
                clear hq
                go_wp2_with fail
                go_roundw
                case rel => exact ⟨k + 1, _, by omega, rfl, Lib.hid (by rw [HNF.out, ← hu.out]; rfl), by go_num, Lib.hid trivial⟩
                case measure => simp [intOf]; omega
              · have hk2 : k = 8 := by omega
                subst hk2
                have HNN2 : Hid (wrap64 (IntKind.u64.wrap (u - 4611686018427387904)) = NN) := Lib.hid (by rw [← HNN.out, hu.out]; unfold numK; rw [List.take_take]; rfl)
                go_wp2_with (refine store_int rfl (.tmp 60) (.tmp 59) rfl wo.heap.size 1 (wrap64 (IntKind.u64.wrap (u - 4611686018427387904))) rfl rfl _ 23 X1.out (by show 1 < 3; decide) ?_; intro w3 hq; have X3 : Hid (w3.heap[wo.heap.size]? = some (.cells (cells (4, NN, ByteArray.empty)) 23 (0, 0))) := Lib.hid (by rw [← HNN2.out]; exact hq.at'); have K3 := Lib.hid (hq.below K1.out (Nat.le_refl _)); clear hq a0 a1 a2; have a0 : w3.cell? ⟨wo.heap.size, 0, none⟩ = some (.int .i64 4) := (cell_of_row w3 _ 0 _ _ _ X3.out).trans rfl; have a1 : w3.cell? ⟨wo.heap.size, 1, none⟩ = some (.int .i64 NN) := (cell_of_row w3 _ 1 _ _ _ X3.out).trans rfl; have a2 : w3.cell? ⟨wo.heap.size, 2, none⟩ = some (.string ⟨#[]⟩) := (cell_of_row w3 _ 2 _ _ _ X3.out).trans rfl)
                refine (CF.out _).mono ?_
                rintro e w5 ⟨rfl, hb5⟩
                have K5 := Lib.hid (below_call K3.out hb5)
                clear hb5 a0 a1 a2
                go_wp2_with fail
                go_ret2
                exact ParP.mk (AE.out _ (below_call hA.out.2 K5.out)) HE.out
          | true =>
            obtain rfl : F = 0 := by simpa using hf
            have HN : Hid (R = parseL f' ((4 :: r).drop 9) (acc ++ [(4, NN, ByteArray.empty)])) := Lib.hid (by have h8 := HPR.out ((4, NN, ByteArray.empty), 9, 0) (by rw [HX.out, HFT.out, if_pos rfl]); rw [if_pos rfl] at h8; exact h8)
            go_wp2_with (first | (refine store23 rfl (.tmp 5) (.tmp 17) rfl wo.heap.size (4, 0, ByteArray.empty) rfl rfl nullT (new_at _ _ _ rfl) ?_; intro w1 hp'; have X1 := Lib.hid hp'.at'; have K1 := Lib.hid (hp'.below (w0 := wo) ((Below.refl _ wo).alloc (Nat.le_refl _) _) (Nat.le_refl _)); clear hp'; have a0 : w1.cell? ⟨wo.heap.size, 0, none⟩ = some (.int .i64 4) := (cell_of_row w1 _ 0 _ _ _ X1.out).trans rfl; have a1 : w1.cell? ⟨wo.heap.size, 1, none⟩ = some (.int .i64 0) := (cell_of_row w1 _ 1 _ _ _ X1.out).trans rfl; have a2 : w1.cell? ⟨wo.heap.size, 2, none⟩ = some (.string ⟨#[]⟩) := (cell_of_row w1 _ 2 _ _ _ X1.out).trans rfl) | (refine wp_cut rfl (.tmp 44) _ _ rfl (some ⟨b, o, none⟩) (4 :: r) (r.take 8) n c 1 9 8 (c - 1) _ _ rfl rfl rfl rfl rfl hn.out (by omega) (by omega) hnc (hT.out.below (below_call hA.out.2 K1.out)) HTK.out rfl rfl ?_; intro A3' hL3 hn3; have L3' := Lib.hid hL3; clear hL3 hn3))
            go_loopw [7, 47] (fun y z wi => ∃ (k : Nat) (u : Int), k ≤ 8 ∧ y = .int .u64 u ∧ Hid (u = nfold ((r.take 8).take k)) ∧ z = .int .i64 k ∧ Hid (wi = w1)) (fun _ z _ => 8 - (intOf z).toNat)
            case atStart => exact ⟨0, 0, Nat.zero_le _, rfl, Lib.hid rfl, rfl, Lib.hid rfl⟩
            case round =>
              obtain ⟨k, u, hk, rfl, hu, rfl, hw⟩ := hrel
              obtain rfl := hw.out
              by_cases hlt : k < 8
              · obtain ⟨q, hq⟩ := lt_some (S := r.take 8) (j := k) (by rw [HTL.out]; exact hlt)
                obtain ⟨b', o', rfl, c9⟩ := L3'.out k q hq
                obtain ⟨q0, q1⟩ := HR8.out q (List.mem_of_mem_take (List.mem_of_getElem? hq))
                have HNF := Lib.hid (nfold_take hq)
                clear hq
                go_wp2_with fail
                go_roundw
                case rel => exact ⟨k + 1, _, by omega, rfl, Lib.hid (by rw [HNF.out, ← hu.out]; rfl), by go_num, Lib.hid trivial⟩
                case measure => simp [intOf]; omega
              · have hk2 : k = 8 := by omega
                subst hk2
                have HNN2 : Hid (wrap64 (IntKind.u64.wrap (u - 4611686018427387904)) = NN) := Lib.hid (by rw [← HNN.out, hu.out]; unfold numK; rw [List.take_take]; rfl)
                go_wp2_with (refine store_int rfl (.tmp 60) (.tmp 59) rfl wo.heap.size 1 (wrap64 (IntKind.u64.wrap (u - 4611686018427387904))) rfl rfl _ 23 X1.out (by show 1 < 3; decide) ?_; intro w3 hq; have X3 : Hid (w3.heap[wo.heap.size]? = some (.cells (cells (4, NN, ByteArray.empty)) 23 (0, 0))) := Lib.hid (by rw [← HNN2.out]; exact hq.at'); have K3 := Lib.hid (hq.below K1.out (Nat.le_refl _)); clear hq a0 a1 a2; have a0 : w3.cell? ⟨wo.heap.size, 0, none⟩ = some (.int .i64 4) := (cell_of_row w3 _ 0 _ _ _ X3.out).trans rfl; have a1 : w3.cell? ⟨wo.heap.size, 1, none⟩ = some (.int .i64 NN) := (cell_of_row w3 _ 1 _ _ _ X3.out).trans rfl; have a2 : w3.cell? ⟨wo.heap.size, 2, none⟩ = some (.string ⟨#[]⟩) := (cell_of_row w3 _ 2 _ _ _ X3.out).trans rfl)
                refine (CF.out _).mono ?_
                rintro e w5 ⟨rfl, hb5⟩
                have X5 : Hid (w5.heap[wo.heap.size]? = some (.cells (cells (4, NN, ByteArray.empty)) 23 (0, 0))) := Lib.hid ((hb5.block _ (lt_of_block X3.out)).trans X3.out)
                have K5 := Lib.hid (below_call K3.out hb5)
                clear hb5 a0 a1 a2
                go_wp2_with fail
                refine wp_region_held_drew (S := Bk9 wo.heap.size (4, NN, ByteArray.empty)) (by kernel_rfl) X5.out ?_
                intro hS
                have A6 : Hid (Av acc v w w5.drew) := Lib.hid ⟨(hA.out.below K5.out).1, (hA.out.below K5.out).2.drew⟩
                clear X5 K5
                generalize w5.drew = wd at hS A6 ⊢
                refine wpAnyH_take (i := 0) (oi := ⟨some 64, _, _, _, _, _⟩) (v := v) rfl (by kernel_rfl) (by kernel_rfl) (by kernel_rfl) (fun _ _ _ h => h) (Or.inl ⟨rfl, fun w' _ => by rfl⟩) hS ?_
                try simp only [Act.put, List.setIfInBounds_toArray, List.set_cons_zero, List.set_cons_succ]
                refine wpAnyH_take (i := 1) (oi := ⟨some 65, _, _, _, _, _⟩) (v := toV (4, NN, ByteArray.empty)) rfl (by kernel_rfl) (by kernel_rfl) (by kernel_rfl) (fun _ _ _ h => h) (Or.inl ⟨rfl, run_load23 (C := Bk9 wo.heap.size (4, NN, ByteArray.empty)) (.tmp 5) rfl wo.heap.size _ rfl rfl (fun w h => h)⟩) hS ?_
                try simp only [Act.put, List.setIfInBounds_toArray, List.set_cons_zero, List.set_cons_succ]
                refine wpAnyH_take (i := 4) (oi := ⟨some 68, _, _, _, _, _⟩) (v := .slice (some ⟨b, o, none⟩) n c) rfl (by kernel_rfl) (by kernel_rfl) (by kernel_rfl) (fun _ _ _ h => h) (Or.inl ⟨rfl, fun w' _ => by rfl⟩) hS ?_
                try simp only [Act.put, List.setIfInBounds_toArray, List.set_cons_zero, List.set_cons_succ]
                refine wpAnyH_take (i := 5) (oi := ⟨some 69, _, _, _, _, _⟩) (v := .int .i64 (9)) rfl (by kernel_rfl) (by kernel_rfl) (by kernel_rfl) (fun _ _ _ h => h) (Or.inl ⟨rfl, fun w' _ => by rfl⟩) hS ?_
                try simp only [Act.put, List.setIfInBounds_toArray, List.set_cons_zero, List.set_cons_succ]
                refine wpAnyH_take (i := 6) (oi := ⟨some 70, _, _, _, _, _⟩) (v := .slice (cutA (some ⟨b, o, none⟩) (9) c) (n - (9)) (c - (9))) rfl (by kernel_rfl) (by kernel_rfl) (by kernel_rfl) (fun _ _ _ h => h) (Or.inl ⟨rfl, fun w' _ => exec_cut_l (.tmp 68) _ rfl _ n c (9) _ rfl rfl (by omega) (by omega) w'⟩) hS ?_
                try simp only [Act.put, List.setIfInBounds_toArray, List.set_cons_zero, List.set_cons_succ]
                have AL : Hid (Av acc v w (wd.alloc (.cells (cells (4, NN, ByteArray.empty)) 23))) := Lib.hid (A6.out.alloc _)
                have LL : Hid (Lsb w (cutA (some ⟨b, o, none⟩) (9) c) ((4 :: r).drop (9))) := Lib.hid (by have h9 := hT.out.cut (9) n c (by rw [hn.out]; exact hnc); rw [← hn.out, List.take_length] at h9; exact h9)
                have HB : Hid (∀ k, v.ownBlock = some k → k < wo.heap.size) := Lib.hid hA.out.far
                clear A6
                generalize cutA (some ⟨b, o, none⟩) (9) c = A9 at LL ⊢
                refine wpAnyH_ready (rs := [2]) (by kernel_rfl) (by simp) ?_
                refine AllReadyH.cons (o := ⟨some 66, _, _, _, _, _⟩) rfl (fun K0 hK => ?_) AllReadyH.nil
                go_simp
                refine hK.out _ _ (Bk9.alloc hS _) ?_
                clear hK K0 hS
                intro hS
                try simp only [Act.put, List.setIfInBounds_toArray, List.set_cons_zero, List.set_cons_succ]
                refine wpAnyH_ready (rs := [3]) (by kernel_rfl) (by simp) ?_
                refine AllReadyH.cons (o := ⟨some 67, _, _, _, _, _⟩) rfl (fun K0 hK => ?_) AllReadyH.nil
                obtain ⟨i3, hi, hz0, hz1, hz2⟩ := info_parts info23i
                refine step_append_lies _ rfl (.tmp 64) (.tmp 66) 28 rfl w.heap.size 23 i3 (.agg #[.int .i64 0, .int .i64 0, .string ⟨#[]⟩]) 3 32 Tryz.underlying28 hi hz0 hz1 hz2 rfl (by decide) v acc.length _ rfl AL.out.1 ⟨wd.heap.size, 0, none⟩ 1 1 (flatV [(4, NN, ByteArray.empty)]) rfl (by rw [flatV_length]; rfl) (news23 wd (4, NN, ByteArray.empty)) (flatV_one (4, NN, ByteArray.empty)) (by decide) (by unfold maxLen; omega) (by omega) AL.out.2.size (wd.heap.size + 1) (by simp) ?_
                intro g9 cap9 w9 hown hgrow hne hlt9
                have A9' : Hid (Av (acc ++ [(4, NN, ByteArray.empty)]) (.slice (some ⟨g9, 0, none⟩) (acc.length + 1) cap9) w w9) := Lib.hid (Av.grown9 AL.out hown hgrow)
                refine hK.out _ _ (Bk9.grow hS hgrow HB.out) ?_
                clear hK K0 hS hown hgrow hne hlt9 hi hz0 hz1 hz2 AL HB
                intro hS
                try simp only [Act.put, List.setIfInBounds_toArray, List.set_cons_zero, List.set_cons_succ]
                refine wpAnyH_take (i := 7) (oi := ⟨some 4, _, _, _, _, _⟩) (v := .slice (some ⟨g9, 0, none⟩) (acc.length + 1) cap9) rfl (by kernel_rfl) (by kernel_rfl) (by kernel_rfl) (fun _ _ _ h => h) (Or.inl ⟨rfl, fun w' _ => by rfl⟩) hS ?_
                try simp only [Act.put, List.setIfInBounds_toArray, List.set_cons_zero, List.set_cons_succ]
                refine wpAnyH_take (i := 8) (oi := ⟨some 0, _, _, _, _, _⟩) (v := .slice A9 (n - (9)) (c - (9))) rfl (by kernel_rfl) (by kernel_rfl) (by kernel_rfl) (fun _ _ _ h => h) (Or.inl ⟨rfl, fun w' _ => by rfl⟩) hS ?_
                try simp only [Act.put, List.setIfInBounds_toArray, List.set_cons_zero]
                refine wpAnyH_done (by kernel_rfl) ?_ _
                go_wp2_with fail
                go_roundw
                case rel => exact ⟨(4 :: r).drop (9), A9, n - (9), c - (9), f', acc ++ [(4, NN, ByteArray.empty)], _, rfl, rfl, by omega, by omega, by rw [List.length_append]; simp; omega, by omega, Lib.hid (by rw [List.length_drop, hn.out]), Lib.hid (fun q hq => hT8.out q (List.mem_of_mem_drop hq)), LL, A9', HN⟩
                case measure => dsimp only; omega
      · have q0 : (p == 0) = false := by rw [beq_eq_false_iff_ne]; omega
        have q1 : (p == 1) = false := by rw [beq_eq_false_iff_ne]; omega
        have q2 : (p == 2) = false := by rw [beq_eq_false_iff_ne]; omega
        have q3 : (p == 3) = false := by rw [beq_eq_false_iff_ne]; omega
        have q4 : (p == 4) = false := by rw [beq_eq_false_iff_ne]; omega
        have HE : Hid (R = ([], 4)) := Lib.hid (by have h8 := HPR.out (nullT, 0, 4) (by rw [HF1.out, if_neg (by omega), if_pos (Bool.eq_false_iff.2 (fun e => by have := (kindB_bounds p).1 e; omega))]); rw [if_neg (by decide)] at h8; exact h8)
        go_wp2_with (refine store23 rfl (.tmp 5) (.tmp 17) rfl wo.heap.size (p, 0, ByteArray.empty) rfl rfl nullT (new_at _ _ _ rfl) ?_; intro w1 hp'; have X1 := Lib.hid hp'.at'; have K1 := Lib.hid (hp'.below (w0 := wo) ((Below.refl _ wo).alloc (Nat.le_refl _) _) (Nat.le_refl _)); clear hp'; have a0 : w1.cell? ⟨wo.heap.size, 0, none⟩ = some (.int .i64 p) := (cell_of_row w1 _ 0 _ _ _ X1.out).trans rfl; have a1 : w1.cell? ⟨wo.heap.size, 1, none⟩ = some (.int .i64 0) := (cell_of_row w1 _ 1 _ _ _ X1.out).trans rfl; have a2 : w1.cell? ⟨wo.heap.size, 2, none⟩ = some (.string ⟨#[]⟩) := (cell_of_row w1 _ 2 _ _ _ X1.out).trans rfl)
        go_ret2
        exact ParP.mk (AE.out _ (below_call hA.out.2 K1.out)) HE.out
end YtabojeleomfgnaaGreatDoor
end Go.Proofs
namespace Go.Proofs
open Go.RowKit
namespace YtabojeleomfgnaaGreatDoor
set_option maxRecDepth 100000
set_option maxHeartbeats 2000000 in
theorem bytesEq_t (a a' : Option Addr) (c c' : Nat) (S : List Int) (w : World) (h : Lsb w a S) (h' : Lsb w a' S) : Calls Tryz.prog 27 #[.slice a S.length c, .slice a' S.length c'] w fun e w' => e = .returned (.bool true) ∧ w' = w := by
  have h1 := conv_bytes w a c S h
  have h2 := conv_bytes w a' c' S h'
  clear h h'
  go_enter Tryz.func27, Tryz.ntmps27
  go_wp2_with fail
  go_ret
  exact ⟨rfl, rfl⟩
set_option maxHeartbeats 2000000 in
theorem slicesEq_t (a a' : Option Addr) (c c' : Nat) (L : List V3) (w : World) (hl : L.length ≤ 1000000000) (h : Lst w a L) (h' : Lst w a' L) : Calls Tryz.prog 29 #[.slice a L.length c, .slice a' L.length c'] w fun e w' => e = .returned (.bool true) ∧ Below w.heap.size w w' := by
  have H := Lib.hid h
  have H' := Lib.hid h'
  clear h h'
  go_enter Tryz.func29, Tryz.ntmps29
  go_wp2_with fail
  go_loopw [13] (fun z wr => ∃ k : Nat, k ≤ L.length ∧ z = .int .i64 k ∧ Hid (Below w.heap.size w wr)) (fun z _ => L.length - (intOf z).toNat)
  case atStart => exact ⟨0, Nat.zero_le _, rfl, Lib.hid (Below.refl _ _)⟩
  case round =>
    obtain ⟨k, hk, rfl, hb⟩ := hrel
    by_cases hlt : k < L.length
    · obtain ⟨b, o, rfl, x0, x1, x2, _⟩ := (H.out.below hb.out) k hlt
      obtain ⟨b', o', rfl, y0, y1, y2, _⟩ := (H'.out.below hb.out) k hlt
      generalize L[k] = x at x0 x1 x2 y0 y1 y2
      obtain ⟨xk, xn, xt⟩ := x
      dsimp only at x0 x1 x2 y0 y1 y2
      go_wp2_with fail
      go_quiet (fail)
      go_wp2_with fail
      go_roundw
      case rel => exact ⟨k + 1, by omega, by go_num, Lib.hid (drew_below hb.out _)⟩
      case measure => simp [intOf]; omega
    · have hk2 : k = L.length := by omega
      subst hk2
      go_wp2_with fail
      go_ret
      exact ⟨rfl, hb.out⟩
theorem Av.lst {L : List V3} {v : Value} {w0 w : World} (h : Av L v w0 w) (hr : ∀ x ∈ L, Right x) : ∃ a cap, v = .slice a L.length cap ∧ Lst w a L := by
  by_cases h0 : L = []
  · subst h0
    obtain ⟨⟨_, h2⟩, _⟩ := h
    rcases h2 with ⟨rfl, _⟩ | ⟨g, cap, cur, rfl, _⟩
    · exact ⟨none, 0, rfl, fun k hk => absurd hk (Nat.not_lt_zero k)⟩
    · exact ⟨_, cap, rfl, fun k hk => absurd hk (Nat.not_lt_zero k)⟩
  · obtain ⟨b, cap, rfl, _, hc⟩ := h.cells h0
    refine ⟨_, cap, rfl, fun k hk => ⟨b, 0, rfl, ?_⟩⟩
    obtain ⟨c0, c1, c2⟩ := hc k L[k] (List.getElem?_eq_getElem hk)
    obtain ⟨_, _, _, _, b5⟩ := (hr L[k] (List.getElem_mem hk)).bounds
    rw [Nat.zero_add]
    exact ⟨c0, c1, c2, by unfold maxLen; omega⟩
theorem parse_right : ∀ (f : Nat) (S : List Int) (acc : List V3), (∀ x ∈ acc, Right x) → ∀ x ∈ (parseL f S acc).1, Right x
  | 0, _, _, h => h
  | f + 1, S, acc, h => by
    unfold parseL
    by_cases h0 : S = []
    · rw [if_pos h0]; exact h
    · rw [if_neg h0]
      by_cases h1 : (firstT S).2.2 = 0
      · rw [if_pos h1]
        refine parse_right f _ _ (fun x hx => ?_)
        rcases List.mem_append.1 hx with hx | hx
        · exact h x hx
        · rw [List.mem_singleton] at hx
          subst hx
          exact (firstT_ok h0 h1).2.2
      · rw [if_neg h1]
        intro x hx
        cases hx
theorem parse_count : ∀ (f : Nat) (S : List Int) (acc : List V3), (parseL f S acc).1.length ≤ acc.length + f
  | 0, _, _ => Nat.le_refl _
  | f + 1, S, acc => by
    unfold parseL
    split
    · exact Nat.le_add_right _ _
    · split
      · have := parse_count f (S.drop (firstT S).2.1.toNat) (acc ++ [(firstT S).1])
        rw [List.length_append] at this
        simp only [List.length_cons, List.length_nil] at this
        omega
      · exact Nat.zero_le _
theorem Ab.bytes' {acc : List Int} {v : Value} {w0 w : World} (h : Ab acc v w0 w) : ∃ a cap, v = .slice a acc.length cap ∧ acc.length ≤ cap ∧ Lsb w a acc := by
  obtain ⟨a, cap, e, hl⟩ := h.bytes
  subst e
  refine ⟨a, cap, rfl, ?_, hl⟩
  obtain ⟨⟨h1, h2⟩, _⟩ := h
  rcases h2 with ⟨e, h0⟩ | ⟨g, cap', cur, e, h3, h4, h5, h6, h7, h8⟩
  · rw [h0]; exact Nat.zero_le _
  · cases e; first | exact h5 | exact h6 | exact h7 | omega
end YtabojeleomfgnaaGreatDoor
end Go.Proofs
