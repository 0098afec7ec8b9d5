/- The shelf's contracts at this dump, in plain words (the command of the kit that lays the shelf printed them): that of strings.Contains. Trees of expressions in memory; how large they are, by the program and by the reference. No expression but the too large ones is too large, by the program and by the reference. The table of operations; parts that are right; the kinds of lists of kinds, by the program. The kind of a part whose Args have kinds, by the program. The kind of a part whose Args have kinds, by the reference. Has a part a field, by the reference; its leaves; the common kind. Parts that have no other fields, by the reference. Parts that are right, by the reference. -/
import Derived.Shelf.Strings.Search3
import Derived.Ground.Names2Prog
import Derived.Test.YtabojeleomfgnaaGreatDoorProg
import Derived.Test.YtabojeleomfgnaaGreatDoorI1
import Derived.Test.YtabojeleomfgnaaGreatDoorK2
namespace Go.Proofs
open Go.Shelf
def Tryz.lays144_ren : Go.Shelf.Ren := ⟨fun | 144 => 301 | 143 => 238 | 219 => 287 | 217 => 231 | 225 => 313 | 224 => 314 | 267 => 315 | 266 => 275 | 314 => 335 | n => n, fun | 9 => 9 | 4 => 4 | 3 => 3 | 5 => 5 | 46 => 100 | 146 => 196 | 51 => 195 | n => n, fun | 1 => 0 | n => n⟩
theorem Tryz.lays144 : Go.Proofs.Lays.n144 Tryz.prog Tryz.lays144_ren := {
  mixed := by kernel_rfl
  f143 := Tryz.func238.trans (congrArg some (by kernel_rfl))
  f144 := Tryz.func301.trans (congrArg some (by kernel_rfl))
  f217 := Tryz.func231.trans (congrArg some (by kernel_rfl))
  f219 := Tryz.func287.trans (congrArg some (by kernel_rfl))
  f224 := Tryz.func314.trans (congrArg some (by kernel_rfl))
  f225 := Tryz.func313.trans (congrArg some (by kernel_rfl))
  f266 := Tryz.func275.trans (congrArg some (by kernel_rfl))
  f267 := Tryz.func315.trans (congrArg some (by kernel_rfl))
  f314 := Tryz.func335.trans (congrArg some (by kernel_rfl))
  t3 := Tryz.underlying3
  a3 := Tryz.isAgg3
  z3 := Tryz.sizeOf3
  v3 := Tryz.zeroValue3
  t4 := Tryz.underlying4
  a4 := Tryz.isAgg4
  z4 := Tryz.sizeOf4
  v4 := Tryz.zeroValue4
  t5 := Tryz.underlying5
  a5 := Tryz.isAgg5
  z5 := Tryz.sizeOf5
  v5 := Tryz.zeroValue5
  t9 := Tryz.underlying9
  a9 := Tryz.isAgg9
  z9 := Tryz.sizeOf9
  v9 := Tryz.zeroValue9
  t46 := Tryz.underlying100
  a46 := Tryz.isAgg100
  z46 := Tryz.sizeOf100
  v46 := Tryz.zeroValue100
  t51 := Tryz.underlying195
  a51 := Tryz.isAgg195
  z51 := Tryz.sizeOf195
  v51 := Tryz.zeroValue195
  t146 := Tryz.underlying196
  a146 := Tryz.isAgg196
  z146 := Tryz.sizeOf196
  v146 := Tryz.zeroValue196
  g1 := by kernel_rfl }
open Go.RowKit Go.Lib in
/-- strings.Contains: "Contains reports whether substr is within s.": AT A substr OF ONE BYTE c: IT RETURNS 'decide (0 ≤ Lib.indexByte s c)'; the world is as it was. (LAID: no walk: one application.) -/
theorem Tryz.strings_Contains_one (s : ByteArray) (c : UInt8) (w : World) :
    Calls Tryz.prog 301 #[.string s, .string ⟨#[c]⟩] w fun e w' => e = .returned (.bool (decide (0 ≤ Lib.indexByte s.data.toList c))) ∧ w' = w := Any.strings_Contains_one Tryz.lays144 s c w
open Go.RowKit Go.Lib in
/-- strings.Contains: "Contains reports whether substr is within s.": IT RETURNS 'Lib.contains s substr'; the world is as it was. (LAID: no walk: one application.) -/
theorem Tryz.strings_Contains (s sub : ByteArray) (m : Int) (w : World) (hs : s.size < 4294967281) (hm : w.cell? ⟨0, 0, none⟩ = some (.int .i64 m)) :
    Calls Tryz.prog 301 #[.string s, .string sub] w fun e w' => e = .returned (.bool (Lib.contains s.data.toList sub.data.toList)) ∧ w' = w := Any.strings_Contains Tryz.lays144 s sub m w hs hm
end Go.Proofs
namespace Go.Proofs
open Go.RowKit
namespace YtabojeleomfgnaaGreatDoor
set_option maxRecDepth 100000
/-- what a part says of itself -/
structure Nd where
  k : Int
  op : Int
  n : Int
  vk : Int
  vn : Int
  vs : ByteArray
  src : ByteArray
  name : ByteArray
  dis : Bool
/-- an expression -/
inductive Tr where
  | node (d : Nd) (kids : List Tr) : Tr
abbrev ndC (k op n vk vn : Int) (vs src name : ByteArray) (dis : Bool) (av : Value) : Array Value :=
  #[.int .i64 k, .int .i64 op, .int .i64 n, .int .i64 vk, .int .i64 vn, .string vs, .string src, .string name, .bool dis, av, nilS, nilS, nilS]
def Nd.c (d : Nd) (av : Value) : Array Value := ndC d.k d.op d.n d.vk d.vn d.vs d.src d.name d.dis av
def SlAt (av : Value) (n b o : Nat) : Prop := ∃ pa cap, av = .slice pa n cap ∧ n ≤ cap ∧ n ≤ 1000000000 ∧ (0 < n → pa = some ⟨b, o, none⟩)
/-- the value v is the expression t, whose Args lie in the memory w, at blocks from B on -/
inductive AtB (B : Nat) (w : World) : Tr → Value → Prop
  | node (d : Nd) (kids : List Tr) (av : Value) (b o : Nat) (f : Nat → List Value) (hs : SlAt av kids.length b o)
      (hb : 0 < kids.length → B ≤ b ∧ b < w.heap.size) (hf : ∀ i, i < kids.length → w.rangeAt b (o + i * 13) (f i) ∧ (f i).length = 13)
      (hc : ∀ (i : Nat) (t : Tr), kids[i]? = some t → AtB B w t (.agg (f i).toArray)) : AtB B w (.node d kids) (.agg (d.c av))
abbrev At (w : World) (t : Tr) (v : Value) : Prop := AtB 0 w t v
theorem AtB.inv {B : Nat} {w : World} {t : Tr} {v : Value} (h : AtB B w t v) : ∃ d kids pa cap, t = .node d kids ∧ v = .agg (d.c (.slice pa kids.length cap)) := by
  cases h with
  | node d kids av b o f hs hb hf hc =>
    obtain ⟨pa, cap, rfl, _⟩ := hs
    exact ⟨d, kids, pa, cap, rfl, rfl⟩
/-- all that was there at w0 is there as it was -/
structure Low (w0 W : World) : Prop where
  size : w0.heap.size ≤ W.heap.size
  block : ∀ k, k < w0.heap.size → W.heap[k]? = w0.heap[k]?
theorem Low.refl (w : World) : Low w w := ⟨Nat.le_refl _, fun _ _ => rfl⟩
theorem Low.below {w0 W W' : World} (h : Low w0 W) (hb : Below W.heap.size W W') : Low w0 W' :=
  ⟨Nat.le_trans h.size hb.size, fun k hk => (hb.block k (Nat.lt_of_lt_of_le hk h.size)).trans (h.block k hk)⟩
theorem Low.keeps {w0 W W' : World} {q : Nat} (h : Low w0 W) (hk : Keeps q W W') (hq : w0.heap.size ≤ q) : Low w0 W' :=
  ⟨Nat.le_trans h.size hk.size, fun k hlt => (hk.block k (Nat.lt_of_lt_of_le hlt h.size) (by omega)).trans (h.block k hlt)⟩
theorem Low.trans {a b c : World} (h : Low a b) (k : Low b c) : Low a c :=
  ⟨Nat.le_trans h.size k.size, fun i hi => (k.block i (Nat.lt_of_lt_of_le hi h.size)).trans (h.block i hi)⟩
theorem Low.of_below {w W : World} (h : Below w.heap.size w W) : Low w W := ⟨h.size, h.block⟩
theorem Low.range {w0 W : World} {b o : Nat} {cs : List Value} (h : Low w0 W) (hr : w0.rangeAt b o cs) (hb : b < w0.heap.size) : W.rangeAt b o cs := range_keeps hr (h.block b hb)
theorem AtB.kept {B : Nat} {w W : World} {t : Tr} {v : Value} (h : AtB B w t v) (hz : w.heap.size ≤ W.heap.size) (hk : ∀ k, B ≤ k → k < w.heap.size → W.heap[k]? = w.heap[k]?) : AtB B W t v := by
  induction h with
  | node d kids av b o f hs hb hf hc ih =>
    exact .node d kids av b o f hs (fun h => ⟨(hb h).1, Nat.lt_of_lt_of_le (hb h).2 hz⟩) (fun i hi => ⟨range_keeps (hf i hi).1 (hk b (hb (by omega)).1 (hb (by omega)).2), (hf i hi).2⟩) ih
theorem AtB.low {B : Nat} {w W : World} {t : Tr} {v : Value} (h : AtB B w t v) (hL : Low w W) : AtB B W t v := h.kept hL.size (fun k _ hk => hL.block k hk)
theorem AtB.base {B B' : Nat} {w : World} {t : Tr} {v : Value} (h : AtB B w t v) (hB : B' ≤ B) : AtB B' w t v := by
  induction h with
  | node d kids av b o f hs hb hf hc ih => exact .node d kids av b o f hs (fun h => ⟨Nat.le_trans hB (hb h).1, (hb h).2⟩) hf ih
mutual
def exT : Tr → Nat → Nat → Bool × Nat
  | .node _ kids, m, l => if m = 0 ∨ l = 0 then (true, l) else exL kids (m - 1) (l - 1)
def exL : List Tr → Nat → Nat → Bool × Nat
  | [], _, l => (false, l)
  | t :: ts, m, l => match exT t m l with
    | (true, l') => (true, l')
    | (false, l') => exL ts m l'
end
mutual
def cntT : Tr → Nat
  | .node _ kids => 1 + cntL kids
def cntL : List Tr → Nat
  | [] => 0
  | t :: ts => cntT t + cntL ts
end
mutual
def depT : Tr → Nat
  | .node _ kids => depL kids + 1
def depL : List Tr → Nat
  | [] => 0
  | t :: ts => max (depT t) (depL ts)
end
mutual
theorem exT_eq : ∀ (t : Tr) (m l : Nat), exT t m l = (decide (m < depT t ∨ l < cntT t), if m < depT t ∨ l < cntT t then (exT t m l).2 else l - cntT t)
  | .node d kids, m, l => by
    rw [exT]
    by_cases h : m = 0 ∨ l = 0
    · rw [if_pos h]
      have : m < depT (.node d kids) ∨ l < cntT (.node d kids) := by rw [depT, cntT]; omega
      simp [this]
    · rw [if_neg h, exL_eq kids]
      rw [depT, cntT]
      have e : (m - 1 < depL kids ∨ l - 1 < cntL kids) ↔ (m < depL kids + 1 ∨ l < 1 + cntL kids) := by omega
      simp only [e]
      split
      · rfl
      · simp; omega
theorem exL_eq : ∀ (kids : List Tr) (m l : Nat), exL kids m l = (decide (m < depL kids ∨ l < cntL kids), if m < depL kids ∨ l < cntL kids then (exL kids m l).2 else l - cntL kids)
  | [], m, l => by simp [exL, depL, cntL]
  | t :: ts, m, l => by
    rw [exL, depL, cntL]
    have h1 := exT_eq t m l
    have h2 := exL_eq ts m (l - cntT t)
    by_cases h : m < depT t ∨ l < cntT t
    · have : m < max (depT t) (depL ts) ∨ l < cntT t + cntL ts := by omega
      rw [h1]; simp [h, this]
    · have e : (m < depL ts ∨ l - cntT t < cntL ts) ↔ (m < max (depT t) (depL ts) ∨ l < cntT t + cntL ts) := by omega
      rw [h1]; simp only [h, decide_false, if_false]
      rw [h2]; simp only [e]
      split
      · rfl
      · simp; omega
end
mutual
theorem exT_le : ∀ (t : Tr) (m l : Nat), (exT t m l).2 ≤ l
  | .node d kids, m, l => by
    rw [exT]
    split
    · exact Nat.le_refl _
    · exact Nat.le_trans (exL_le kids _ _) (Nat.sub_le _ _)
theorem exL_le : ∀ (kids : List Tr) (m l : Nat), (exL kids m l).2 ≤ l
  | [], m, l => by rw [exL]; exact Nat.le_refl _
  | t :: ts, m, l => by
    rw [exL]
    have h1 := exT_le t m l
    rcases hr : exT t m l with ⟨b, l'⟩
    rw [hr] at h1
    cases b with
    | true => exact h1
    | false => exact Nat.le_trans (exL_le ts m l') h1
end
mutual
theorem dep_le : ∀ t : Tr, depT t ≤ cntT t
  | .node d kids => by rw [depT, cntT]; have := depL_le kids; omega
theorem depL_le : ∀ kids : List Tr, depL kids ≤ cntL kids
  | [] => by rw [depL, cntL]; exact Nat.le_refl _
  | t :: ts => by rw [depL, cntL]; have := dep_le t; have := depL_le ts; omega
end
theorem cntL_drop (kids : List Tr) (j : Nat) (h : j < kids.length) : cntL (kids.drop j) = cntT kids[j] + cntL (kids.drop (j + 1)) := by
  rw [List.drop_eq_getElem_cons h, cntL]
theorem depL_drop (kids : List Tr) (j : Nat) (h : j < kids.length) : depL (kids.drop j) = max (depT kids[j]) (depL (kids.drop (j + 1))) := by
  rw [List.drop_eq_getElem_cons h, depL]
theorem exL_drop (kids : List Tr) (j m l : Nat) (h : j < kids.length) : exL (kids.drop j) m l = match exT kids[j] m l with
    | (true, l') => (true, l')
    | (false, l') => exL (kids.drop (j + 1)) m l' := by
  rw [List.drop_eq_getElem_cons h, exL]
end YtabojeleomfgnaaGreatDoor
end Go.Proofs
namespace Go.Proofs
open Go.RowKit
namespace YtabojeleomfgnaaGreatDoor
set_option maxRecDepth 100000
theorem one_old {w : World} {q : Nat} {n : Int} (h : One q n w) (o : Obj) : One q n (w.alloc o) := (heap_alloc_old _ _ (lt_of_block h)).trans h
set_option maxHeartbeats 4000000 in
theorem exceeds_t (w0 : World) (t : Tr) (v : Value) (h : At w0 t v) : ∀ (W : World) (m l q : Nat), Low w0 W → w0.heap.size ≤ q → One q l W → m ≤ 1000 → l ≤ 1000 →
    Calls Tryz.prog 212 #[v, .int .i64 m, .pointer (some ⟨q, 0, none⟩)] W fun e w' => e = .returned (.bool (exT t m l).1) ∧ One q (exT t m l).2 w' ∧ Keeps q W w' := by
  induction h with
  | node d kids av b o f hs hb hf hc ih =>
    intro W m l q hL hq hO hm hl
    obtain ⟨pa, cap, rfl, hcap, hmax, hpa⟩ := hs
    have HF := Lib.hid hf
    have HB := Lib.hid (fun h => (hb h).2)
    have HC := Lib.hid hc
    have IH := Lib.hid ih
    have HL := Lib.hid hL
    have HE : Hid (∀ m l, exT (.node d kids) m l = if m = 0 ∨ l = 0 then (true, l) else exL kids (m - 1) (l - 1)) := Lib.hid (fun m l => by rw [exT])
    generalize exT (.node d kids) = ET at HE ⊢
    obtain ⟨k, op, n, vk, vn, vs, src, name, dis⟩ := d
    simp only [Nd.c]
    clear hf hb hc ih hL
    have hql : q < W.heap.size := lt_of_block hO
    have c0 := cell_of_one hO
    have f0 := free_of_one hO
    have HQ := Lib.hid hO
    clear hO
    rcases m with _ | m
    · have HR := Lib.hid (HE.out 0 l)
      go_enter Tryz.func212, Tryz.ntmps212
      go_wp2_with fail
      go_ret
      exact ⟨by rw [HR.out]; simp, by rw [HR.out]; exact one_old HQ.out _, (Keeps.refl q W).alloc _⟩
    · have mb : (((m : Int) + 1) == 0) = false := by rw [beq_eq_false_iff_ne]; omega
      rcases l with _ | l
      · have HR := Lib.hid (HE.out (m + 1) 0)
        have c1 : W.cell? ⟨q, 0, none⟩ = some (.int .i64 0) := c0
        clear c0
        go_enter Tryz.func212, Tryz.ntmps212
        go_wp2_with fail
        go_ret
        exact ⟨by rw [HR.out]; simp, by rw [HR.out]; exact one_old HQ.out _, (Keeps.refl q W).alloc _⟩
      · have lb : (((l : Int) + 1) == 0) = false := by rw [beq_eq_false_iff_ne]; omega
        have HR : Hid (ET (m + 1) (l + 1) = exL kids m l) := Lib.hid (by rw [HE.out, if_neg (by omega)]; rfl)
        have c1 : W.cell? ⟨q, 0, none⟩ = some (.int .i64 ((l : Int) + 1)) := by rw [c0]; simp
        clear c0
        have A1 : Hid (One q l ((W.setCell ⟨q, 0, none⟩ (.int .i64 l)).alloc (.cells #[.int .i64 k, .int .i64 op, .int .i64 n, .int .i64 vk, .int .i64 vn, .string vs, .string src, .string name, .bool dis, .slice pa kids.length cap, nilS, nilS, nilS] 70))) := Lib.hid (one_old (one_setCell HQ.out) _)
        have K1 : Hid (Keeps q W ((W.setCell ⟨q, 0, none⟩ (.int .i64 l)).alloc (.cells #[.int .i64 k, .int .i64 op, .int .i64 n, .int .i64 vk, .int .i64 vn, .string vs, .string src, .string name, .bool dis, .slice pa kids.length cap, nilS, nilS, nilS] 70))) := Lib.hid ((keeps_set q _ W).alloc _)
        have em : ((m + 1 : Nat) : Int) = (m : Int) + 1 := by omega
        rw [em]
        clear em
        go_enter Tryz.func212, Tryz.ntmps212
        go_wp2_with fail
        go_loopw [25] (fun y wr => ∃ (j lj : Nat), j ≤ kids.length ∧ y = .int .i64 j ∧ lj ≤ l ∧ Hid (exL kids m l = exL (kids.drop j) m lj) ∧ Hid (One q lj wr) ∧ Hid (Keeps q W wr)) (fun y _ => kids.length - (intOf y).toNat)
        case atStart => exact ⟨0, l, Nat.zero_le _, rfl, Nat.le_refl _, Lib.hid rfl, A1, K1⟩
        case round =>
          obtain ⟨j, lj, hj, rfl, hlj, hEj, hOj, hKj⟩ := hrel
          by_cases hlt : j < kids.length
          · obtain rfl := hpa (by omega)
            have ht : kids[j]? = some kids[j] := List.getElem?_eq_getElem hlt
            have hD := exL_drop kids j m lj hlt
            have CI := Lib.hid (IH.out j _ ht)
            obtain ⟨d', kids', pa', cap', ht', hv'⟩ := (HC.out j _ ht).inv
            have hLj : Hid (Low w0 wr) := Lib.hid (HL.out.keeps hKj.out hq)
            have hR := HF.out j hlt
            have hcs : f j = (d'.c (.slice pa' kids'.length cap')).toList := by
              have := congrArg (fun v => match v with | .agg a => a.toList | _ => []) hv'
              simpa using this
            rw [hcs] at hR
            rw [hv'] at CI
            have HRg := Lib.hid (hLj.out.range hR.1 (HB.out (by omega)))
            rcases hr : exT kids[j] m lj with ⟨bb, l2⟩
            have hle := exT_le kids[j] m lj
            rw [hr] at hle hD
            have CI2 := Lib.hid (fun W' q' h1 h2 h3 h4 h5 => CI.out W' m lj q' h1 h2 h3 h4 h5)
            rw [hr] at CI2
            generalize kids'.length = n' at *
            obtain ⟨k', op', n1', vk', vn', vs', src', name', dis'⟩ := d'
            simp only [Nd.c] at CI2 HRg
            clear hR hcs hv' ht' CI ht
            go_wp2_with (refine load_mid rfl (.tmp 27) rfl b (o + j * 13) _ rfl HRg.out rfl ?_)
            refine (CI2.out _ _ (hLj.out.below ((Below.refl _ _).alloc (Nat.le_refl _) _)) hq (one_old hOj.out _) (by omega) (by omega)).mono ?_
            rintro e w2 ⟨rfl, ho2, hk2⟩
            have O2 := Lib.hid ho2
            have K2 := Lib.hid ((hKj.out.alloc _).trans hk2)
            clear ho2 hk2
            cases bb with
            | true =>
              go_wp2_with fail
              go_ret
              exact ⟨ret_bool (a := true) (by rw [HR.out, hEj.out, hD]), by rw [HR.out, hEj.out, hD]; exact O2.out, K2.out⟩
            | false =>
              go_wp2_with fail
              go_roundw
              case rel => exact ⟨j + 1, l2, by omega, by go_num, by omega, Lib.hid (by rw [hEj.out, hD]), O2, K2⟩
              case measure => simp [intOf]; omega
          · have hj2 : j = kids.length := by omega
            subst hj2
            go_wp2_with fail
            go_ret
            have e : exL kids m l = (false, lj) := by rw [hEj.out, List.drop_length, exL]
            exact ⟨ret_bool (a := false) (by rw [HR.out, e]), by rw [HR.out, e]; exact hOj.out, hKj.out⟩
theorem low_alloc {w0 W : World} (h : Low w0 W) (o : Obj) : Low w0 (W.alloc o) := h.below ((Below.refl _ _).alloc (Nat.le_refl _) _)
/-- the expression is too large -/
def bigB (t : Tr) : Bool := decide (24 < depT t ∨ 400 < cntT t)
set_option maxHeartbeats 1000000 in
theorem tooLarge_t (t : Tr) (v : Value) (w : World) (h : At w t v) : Calls Tryz.prog 158 #[v] w fun e w' => e = .returned (.bool (bigB t)) ∧ Below w.heap.size w w' := by
  have HX := Lib.hid (exceeds_t w t v h)
  have HE : Hid ((exT t 24 400).1 = bigB t) := Lib.hid (by rw [exT_eq]; rfl)
  obtain ⟨d, kids, pa, cap, rfl, rfl⟩ := h.inv
  clear h
  generalize kids.length = n' at *
  generalize Tr.node d kids = t at *
  obtain ⟨k, op, n, vk, vn, vs, src, name, dis⟩ := d
  simp only [Nd.c] at HX ⊢
  go_enter Tryz.func158, Tryz.ntmps158
  go_wp2_with fail
  refine (HX.out _ 24 400 (w.heap.size + 1) (low_alloc (low_alloc (Low.refl w) _) _) (by omega) (new_at _ _ _ (by simp)) (by decide) (by decide)).mono ?_
  rintro e w1 ⟨rfl, _, hk1⟩
  have K1 := Lib.hid hk1
  clear hk1 HX
  go_wp2_with fail
  go_ret
  first | exact ⟨rfl, keeps_above (by go_grown) K1.out (by omega)⟩ | exact ⟨ret_bool HE.out, keeps_above (by go_grown) K1.out (by omega)⟩
set_option maxHeartbeats 4000000 in
theorem sizeOf_t (w0 : World) (t : Tr) (v : Value) (h : At w0 t v) : ∀ (W : World), Low w0 W → cntT t ≤ 1000000000 →
    Calls Tryz.prog 163 #[v] W fun e w' => e = .returned (.tuple #[.int .i64 (cntT t), .int .i64 (depT t)]) ∧ Below W.heap.size W w' := by
  induction h with
  | node d kids av b o f hs hb hf hc ih =>
    intro W hL hcn
    obtain ⟨pa, cap, rfl, hcap, hmax, hpa⟩ := hs
    have HF := Lib.hid hf
    have HB := Lib.hid (fun h => (hb h).2)
    have HC := Lib.hid hc
    have IH := Lib.hid ih
    have HL := Lib.hid hL
    have hc1 : cntT (.node d kids) = 1 + cntL kids := by rw [cntT]
    have hd1 : depT (.node d kids) = depL kids + 1 := by rw [depT]
    have hd2 := depL_le kids
    rw [hc1, hd1]
    rw [hc1] at hcn
    obtain ⟨k, op, n, vk, vn, vs, src, name, dis⟩ := d
    simp only [Nd.c]
    clear hf hb hc ih hL hc1 hd1
    go_enter Tryz.func163, Tryz.ntmps163
    go_wp2_with fail
    go_loopw [2, 3, 11] (fun c x y wr => ∃ (j cj dj : Nat), j ≤ kids.length ∧ c = .int .i64 cj ∧ x = .int .i64 dj ∧ y = .int .i64 j ∧ 1 + cntL kids = cj + cntL (kids.drop j) ∧ depL kids = max dj (depL (kids.drop j)) ∧ Hid (Below W.heap.size W wr)) (fun _ _ y _ => kids.length - (intOf y).toNat)
    case atStart => exact ⟨0, 1, 0, Nat.zero_le _, rfl, rfl, rfl, rfl, (Nat.zero_max _).symm, Lib.hid (by go_grown)⟩
    case round =>
      obtain ⟨j, cj, dj, hj, rfl, rfl, rfl, hcj, hdj, hBj⟩ := hrel
      by_cases hlt : j < kids.length
      · obtain rfl := hpa (by omega)
        have ht : kids[j]? = some kids[j] := List.getElem?_eq_getElem hlt
        have hc2 := cntL_drop kids j hlt
        have hd3 := depL_drop kids j hlt
        have hd4 := dep_le kids[j]
        have CI := Lib.hid (IH.out j _ ht)
        obtain ⟨d', kids', pa', cap', ht', hv'⟩ := (HC.out j _ ht).inv
        have hLj : Hid (Low w0 wr) := Lib.hid (HL.out.below hBj.out)
        have hR := HF.out j hlt
        have hcs : f j = (d'.c (.slice pa' kids'.length cap')).toList := by
          have := congrArg (fun v => match v with | .agg a => a.toList | _ => []) hv'
          simpa using this
        rw [hcs] at hR
        rw [hv'] at CI
        have HRg := Lib.hid (hLj.out.range hR.1 (HB.out (by omega)))
        generalize cntT kids[j] = c' at *
        generalize depT kids[j] = x' at *
        generalize kids'.length = n' at *
        obtain ⟨k', op', n1', vk', vn', vs', src', name', dis'⟩ := d'
        simp only [Nd.c] at CI HRg
        clear hR hcs hv' ht' ht
        go_wp2_with (refine load_mid rfl (.tmp 13) rfl b (o + j * 13) _ rfl HRg.out rfl ?_)
        refine (CI.out _ (low_alloc hLj.out _) (by omega)).mono ?_
        rintro e w2 ⟨rfl, hb2⟩
        have B2 := Lib.hid (below_call (hBj.out.alloc hBj.out.size _) hb2)
        clear hb2
        go_wp2_with fail
        go_roundw
        case rel => exact ⟨j + 1, cj + c', max dj x', by omega, by go_num, by go_num, by go_num, by omega, by omega, B2⟩
        case measure => simp [intOf]; omega
      · have hj2 : j = kids.length := by omega
        subst hj2
        rw [List.drop_length, cntL] at hcj
        rw [List.drop_length, depL] at hdj
        go_wp2_with fail
        go_ret2
        exact ⟨by rw [hcj, hdj]; simp, hBj.out⟩
def sizedN (t : Tr) : Int := if bigB t = true then 2 else 0
set_option maxHeartbeats 1000000 in
theorem sized_t (t : Tr) (v : Value) (w : World) (h : At w t v) (hcn : cntT t ≤ 1000000000) : Calls Tryz.prog 150 #[v] w fun e w' => e = .returned (.int .i64 (sizedN t)) ∧ Below w.heap.size w w' := by
  have HX := Lib.hid (sizeOf_t w t v h)
  have HE : Hid (sizedN t = if 400 < cntT t ∨ 24 < depT t then 2 else 0) := Lib.hid (by unfold sizedN bigB; simp only [decide_eq_true_eq]; congr 1; exact propext Or.comm)
  obtain ⟨d, kids, pa, cap, rfl, rfl⟩ := h.inv
  clear h
  have hdl := dep_le (.node d kids)
  generalize kids.length = n' at *
  generalize Tr.node d kids = t at *
  generalize sizedN t = S at *
  generalize hcc : cntT t = c at *
  generalize hdd : depT t = x at *
  obtain ⟨k, op, n, vk, vn, vs, src, name, dis⟩ := d
  simp only [Nd.c] at HX ⊢
  go_enter Tryz.func150, Tryz.ntmps150
  go_wp2_with fail
  refine (HX.out _ (low_alloc (Low.refl w) _) (by omega)).mono ?_
  rintro e w1 ⟨rfl, hb1⟩
  have B1 := Lib.hid (show Below w.heap.size w w1 from below_call (by go_grown) hb1)
  clear hb1 HX
  by_cases h1 : 400 < c
  · have HR := Lib.hid (HE.out.trans (if_pos (Or.inl h1)))
    go_wp2_with fail
    go_ret
    exact ⟨ret_int HR.out.symm, B1.out⟩
  · by_cases h2 : 24 < x
    · have HR := Lib.hid (HE.out.trans (if_pos (Or.inr h2)))
      go_wp2_with fail
      go_ret
      exact ⟨ret_int HR.out.symm, B1.out⟩
    · have HR := Lib.hid (HE.out.trans (if_neg (by omega)))
      go_wp2_with fail
      go_ret
      exact ⟨ret_int HR.out.symm, B1.out⟩
end YtabojeleomfgnaaGreatDoor
end Go.Proofs
namespace Go.Proofs
open Go.RowKit
namespace YtabojeleomfgnaaGreatDoor
set_option maxRecDepth 100000
/-- the table of operations: name, number of Args, kind of the first one, of the others, of the result -/
def opTab : List (List UInt8 × Int × Int × Int × Int) := [([], 0, 0, 0, 0), ([110, 111, 116], 1, 1, 0, 1), ([97, 110, 100], 2, 1, 1, 1), ([111, 114], 2, 1, 1, 1), ([101, 113, 117, 97, 108], 2, (-1), (-1), 1), ([117, 110, 101, 113, 117, 97, 108], 2, (-1), (-1), 1), ([108, 101, 115, 115], 2, (-1), (-1), 1), ([97, 116, 109, 111, 115, 116], 2, (-1), (-1), 1), ([103, 114, 101, 97, 116, 101, 114], 2, (-1), (-1), 1), ([97, 116, 108, 101, 97, 115, 116], 2, (-1), (-1), 1), ([115, 97, 109, 101], 2, (-1), (-1), 1), ([110, 117, 108, 108], 1, (-1), 0, 1), ([97, 100, 100], 2, (-1), (-1), (-1)), ([115, 117, 98], 2, (-1), (-1), (-1)), ([109, 117, 108], 2, 2, 2, 2), ([100, 105, 118], 2, 2, 2, 2), ([109, 111, 100], 2, 2, 2, 2), ([110, 101, 103], 1, 2, 0, 2), ([99, 111, 110, 99, 97, 116], 2, 3, 3, 3), ([108, 105, 107, 101], 2, 3, 3, 1), ([108, 111, 119, 101, 114], 1, 3, 0, 3), ([117, 112, 112, 101, 114], 1, 3, 0, 3), ([108, 101, 110, 103, 116, 104], 1, 3, 0, 2), ([112, 97, 114, 116], 3, 3, 2, 3), ([99, 111, 97, 108, 101, 115, 99, 101], 2, (-1), (-1), (-1)), ([116, 114, 117, 110, 99], 1, 4, 0, 4), ([117, 110, 105, 116], 1, 4, 0, 2), ([99, 97, 115, 116], 1, (-1), 0, (-1))]
structure Tb (w : World) : Prop where
  row : ∀ (i : Nat) (nm : List UInt8) (c f o r : Int), opTab[i]? = some (nm, c, f, o, r) → w.cell? ⟨1, i * 5, none⟩ = some (.string ⟨nm.toArray⟩) ∧ w.cell? ⟨1, i * 5 + 1, none⟩ = some (.int .i64 c) ∧ w.cell? ⟨1, i * 5 + 2, none⟩ = some (.int .i64 f) ∧ w.cell? ⟨1, i * 5 + 3, none⟩ = some (.int .i64 o) ∧ w.cell? ⟨1, i * 5 + 4, none⟩ = some (.int .i64 r)
  lt : 1 < w.heap.size
theorem Tb.below {w w' : World} (h : Tb w) (hb : Below w.heap.size w w') : Tb w' := by
  have c := fun o => hb.cell (p := ⟨1, o, none⟩) h.lt
  refine ⟨fun i nm c1 f o r hr => ?_, Nat.lt_of_lt_of_le h.lt hb.size⟩
  obtain ⟨h1, h2, h3, h4, h5⟩ := h.row i nm c1 f o r hr
  exact ⟨(c _).trans h1, (c _).trans h2, (c _).trans h3, (c _).trans h4, (c _).trans h5⟩
theorem Tb.low {w w' : World} (h : Tb w) (hb : Low w w') : Tb w' := by
  have c := fun o => World.cell?_of_block (w := w) (w' := w') (a := ⟨1, o, none⟩) (hb.block 1 h.lt)
  refine ⟨fun i nm c1 f o r hr => ?_, Nat.lt_of_lt_of_le h.lt hb.size⟩
  obtain ⟨h1, h2, h3, h4, h5⟩ := h.row i nm c1 f o r hr
  exact ⟨(c _).trans h1, (c _).trans h2, (c _).trans h3, (c _).trans h4, (c _).trans h5⟩
def oneN : Nd := ⟨1, 0, 0, 2, 1, ⟨#[]⟩, ⟨#[]⟩, ⟨#[]⟩, false⟩
def nullN : Nd := ⟨1, 0, 0, 0, 0, ⟨#[]⟩, ⟨#[]⟩, ⟨#[]⟩, false⟩
def negN : Nd := ⟨4, 17, 0, 0, 0, ⟨#[]⟩, ⟨#[]⟩, ⟨#[]⟩, false⟩
def inN : Nd := ⟨6, 0, 0, 0, 0, ⟨#[]⟩, ⟨#[]⟩, ⟨#[]⟩, false⟩
set_option maxHeartbeats 2000000 in
theorem cp_one (pa : Option Addr) (c : Nat) (w : World) : Calls Tryz.prog 249 #[.agg (oneN.c (.slice pa 0 c))] w fun e w' => e = .returned (.int .i64 0) ∧ Below w.heap.size w w' := by
  simp only [Nd.c, oneN]
  go_enter Tryz.func249, Tryz.ntmps249
  go_wp2
  go_ret
  exact ⟨rfl, by go_grown⟩
set_option maxHeartbeats 2000000 in
theorem cp_null (pa : Option Addr) (c : Nat) (w : World) : Calls Tryz.prog 249 #[.agg (nullN.c (.slice pa 0 c))] w fun e w' => e = .returned (.int .i64 0) ∧ Below w.heap.size w w' := by
  simp only [Nd.c, nullN]
  go_enter Tryz.func249, Tryz.ntmps249
  go_wp2
  go_ret
  exact ⟨rfl, by go_grown⟩
set_option maxHeartbeats 2000000 in
theorem cp_neg (pa : Option Addr) (c : Nat) (w : World) (h : Tb w) : Calls Tryz.prog 249 #[.agg (negN.c (.slice pa 1 c))] w fun e w' => e = .returned (.int .i64 0) ∧ Below w.heap.size w w' := by
  have h86 : w.cell? ⟨1, 86, none⟩ = some (.int .i64 1) := (h.row 17 _ _ _ _ _ rfl).2.1
  have hs := h.lt
  have hs0 : 0 < w.heap.size := by omega
  have hs1 : 1 < w.heap.size + 1 := by omega
  have hs2 : 1 < w.heap.size + 1 + 1 := by omega
  have hs3 : 1 < w.heap.size + 1 + 1 + 1 := by omega
  clear h
  simp only [Nd.c, negN]
  go_enter Tryz.func249, Tryz.ntmps249
  go_wp2
  go_ret
  exact ⟨rfl, by go_grown⟩
set_option maxHeartbeats 2000000 in
theorem cp_in (pa : Option Addr) (n c : Nat) (hn : 2 ≤ n) (w : World) : Calls Tryz.prog 249 #[.agg (inN.c (.slice pa n c))] w fun e w' => e = .returned (.int .i64 0) ∧ Below w.heap.size w w' := by
  have h2 : (2 : Int) ≤ (n : Int) := by omega
  simp only [Nd.c, inN]
  go_enter Tryz.func249, Tryz.ntmps249
  go_wp2
  go_ret
  exact ⟨rfl, by go_grown⟩
/-- a slice of kinds -/
def Kds (w : World) (v : Value) (ks : List Int) : Prop := ∃ (pa : Option Addr) (cap b o : Nat), v = .slice pa ks.length cap ∧ ks.length ≤ cap ∧ cap ≤ maxLen ∧ (0 < ks.length → pa = some ⟨b, o, none⟩) ∧ ∀ (j : Nat) (h : j < ks.length), w.cell? ⟨b, o + j, none⟩ = some (.int .i64 ks[j])
theorem Kds.below {w w' : World} {v : Value} {ks : List Int} (h : Kds w v ks) (hb : Below w.heap.size w w') : Kds w' v ks := by
  obtain ⟨pa, cap, b, o, h1, h2, hm, h3, h4⟩ := h
  exact ⟨pa, cap, b, o, h1, h2, hm, h3, fun j hj => (hb.cell (p := ⟨b, o + j, none⟩) (block_lt_of_cell (h4 j hj))).trans (h4 j hj)⟩
/-- the common kind of kinds, where one is known -/
def comN : List Int → Int → Option Int
  | [], c => some c
  | k :: ks, c => if k = 0 then comN ks c else if c ≠ 0 ∧ c ≠ k then none else comN ks k
theorem comN_drop (ks : List Int) (j : Nat) (c : Int) (h : j < ks.length) : comN (ks.drop j) c = if ks[j] = 0 then comN (ks.drop (j + 1)) c else if c ≠ 0 ∧ c ≠ ks[j] then none else comN (ks.drop (j + 1)) ks[j] := by
  rw [List.drop_eq_getElem_cons h, comN]
/-- a kind and whether there is one, as results -/
def okV : Option Int → Value
  | some k => .tuple #[.int .i64 k, .bool true]
  | none => .tuple #[.int .i64 0, .bool false]
set_option maxHeartbeats 2000000 in
theorem common_t (v : Value) (ks : List Int) (w : World) (h : Kds w v ks) : Calls Tryz.prog 299 #[v] w fun e w' => e = .returned (okV (comN ks 0)) ∧ w' = w := by
  obtain ⟨pa, cap, b, o, rfl, hcap, hmax, hpa, hc⟩ := h
  unfold maxLen at hmax
  have HC := Lib.hid hc
  clear hc
  go_enter Tryz.func299, Tryz.ntmps299
  go_wp2_with fail
  go_loop [4, 9] (fun c y => ∃ (j : Nat) (cc : Int), j ≤ ks.length ∧ c = .int .i64 cc ∧ y = .int .i64 j ∧ Hid (comN ks 0 = comN (ks.drop j) cc)) (fun _ y => ks.length - (intOf y).toNat)
  case atStart => exact ⟨0, 0, Nat.zero_le _, rfl, rfl, Lib.hid rfl⟩
  case round =>
    obtain ⟨j, cc, hj, rfl, rfl, hE⟩ := hrel
    by_cases hlt : j < ks.length
    · obtain rfl := hpa (by omega)
      have hD := comN_drop ks j cc hlt
      have hx := HC.out j hlt
      generalize ks[j] = k at hD hx
      by_cases hk0 : k = 0
      · subst hk0
        rw [if_pos rfl] at hD
        have HN := Lib.hid (hE.out.trans hD)
        clear hD
        go_wp2_with fail
        exact ⟨⟨j + 1, cc, by omega, rfl, by go_num, HN⟩, by simp [intOf]; omega⟩
      · rw [if_neg hk0] at hD
        have k0 : (k == 0) = false := by simp [hk0]
        by_cases hc0 : cc = 0
        · subst hc0
          rw [if_neg (by simp)] at hD
          have HN := Lib.hid (hE.out.trans hD)
          clear hD hk0
          go_wp2_with fail
          exact ⟨⟨j + 1, k, by omega, rfl, by go_num, HN⟩, by simp [intOf]; omega⟩
        · have c0 : (cc != 0) = true := by simp [hc0]
          by_cases hck : cc = k
          · subst hck
            rw [if_neg (by simp)] at hD
            have HN := Lib.hid (hE.out.trans hD)
            clear hD hk0 hc0
            go_wp2_with fail
            exact ⟨⟨j + 1, cc, by omega, rfl, by go_num, HN⟩, by simp [intOf]; omega⟩
          · have ck : (cc != k) = true := by simp [hck]
            rw [if_pos ⟨hc0, hck⟩] at hD
            have HN := Lib.hid (hE.out.trans hD)
            clear hD hk0 hc0 hck
            go_wp2_with fail
            go_ret2
            exact ⟨by rw [HN.out]; rfl, rfl⟩
    · have hj2 : j = ks.length := by omega
      subst hj2
      have HN : Hid (comN ks 0 = some cc) := Lib.hid (by rw [hE.out, List.drop_length, comN])
      go_wp2_with fail
      go_ret2
      exact ⟨by rw [HN.out]; rfl, rfl⟩
end YtabojeleomfgnaaGreatDoor
end Go.Proofs
namespace Go.Proofs
open Go.RowKit
namespace YtabojeleomfgnaaGreatDoor
set_option maxRecDepth 100000
theorem wpList_pushK {ops : Array Oper} {rest : List Oper} {o : Oper} {a : Act} {w : World} {Q : Exit → Act → World → Prop} (hgd : o.guard = none) (s x : Operand) (ho : o.op = .call { callee := .builtin .append, args := #[s, x], argTypes := #[51, 51] })
    (B : Nat) (wr : World) (ks : List Int) (v : Value) (k : Int) (hs : a.eval s = v) (hA : wr.ownsRow B 3 1 v ks.length (ks.map (.int .i64 ·))) (hB : B ≤ wr.heap.size) (hw : w = wr.alloc (.cells #[.int .i64 k] 3))
    (hx : a.eval x = .slice (some ⟨wr.heap.size, 0, none⟩) 1 1) (hlen : ks.length ≤ 1000000000)
    (h : ∀ v' w', w'.ownsRow B 3 1 v' (ks ++ [k]).length ((ks ++ [k]).map (.int .i64 ·)) → w.grownBy w' v.ownBlock → wpList Tryz.prog ops Q rest (a.put o.dst v') w') : wpList Tryz.prog ops Q (o :: rest) a w := by
  subst hw
  obtain ⟨i3, hi, hz0, hz1, hz2⟩ := info_parts info3
  have hA1 : (wr.alloc (.cells #[.int .i64 k] 3)).ownsRow B 3 1 v ks.length (ks.map (.int .i64 ·)) := by
    obtain ⟨h1, h2⟩ := hA
    refine ⟨h1, ?_⟩
    rcases h2 with h2 | ⟨g, cap, cur, hv, h3, h4, h5⟩
    · exact Or.inl h2
    · exact Or.inr ⟨g, cap, cur, hv, h3, (heap_alloc_old _ _ (lt_of_block h4)).trans h4, h5⟩
  refine wpList_append_own _ hgd s x 51 ho B 3 i3 (.int .i64 0) 1 8 Tryz.underlying51 hi hz0 hz1 hz2 rfl (by decide) v ks.length _ hs hA1 ⟨wr.heap.size, 0, none⟩ 1 1 [.int .i64 k] hx rfl (news1 _ _) (by simp [Value.oneCell']) (by unfold maxLen; omega) (by omega) (Nat.le_trans hB (by simp)) ?_
  intro v' w' h1 h2 _
  refine h v' w' ?_ h2
  rw [List.map_append, List.length_append]
  exact h1
theorem kds_of {w : World} {B : Nat} {v : Value} {ks : List Int} (h : w.ownsRow B 3 1 v ks.length (ks.map (.int .i64 ·))) : Kds w v ks := by
  have hcell := fun g hg => h.cells (g := g) hg
  obtain ⟨h1, h2⟩ := h
  rcases h2 with h2 | ⟨g, cap, cur, hv, h3, h4, h5, h6, _⟩
  · obtain ⟨h2, h3⟩ := h2
    rw [h2]
    exact ⟨none, 0, 0, 0, by rw [h3], by omega, Nat.zero_le _, fun h => absurd h (by omega), fun j hj => absurd hj (by omega)⟩
  · refine ⟨some ⟨g, 0, none⟩, cap, g, 0, hv, h5, h6, fun _ => rfl, fun j hj => ?_⟩
    have h7 := hcell g (by rw [hv]; rfl) j (.int .i64 ks[j]) (by simp [hj])
    have hadd : ∀ j, (⟨g, 0, none⟩ : Addr).add j = ⟨g, j, none⟩ := fun j => by unfold Addr.add; split <;> simp_all
    rw [hadd] at h7
    simpa using h7
theorem take_next (ks : List Int) (j : Nat) (h : j < ks.length) : ks.take (j + 1) = ks.take j ++ [ks[j]] := List.take_succ_eq_append_getElem h
theorem KS.low' {sc ec : Array Value} {n : Nat} {V : Value} {xs : List Value} {w0 w W : World} (h : KS sc ec n V xs w w0) (hL : Low W w) : Low W w0 := hL.below h.low
set_option maxHeartbeats 8000000 in
theorem kindOf_node (c0 p0 : Value) (d : Nd) (kids : List Tr) (av : Value) (w0 : World) (b o : Nat) (f : Nat → List Value) (hs : SlAt av kids.length b o)
    (hb : 0 < kids.length → b < w0.heap.size) (hf : ∀ i, i < kids.length → w0.rangeAt b (o + i * 13) (f i) ∧ (f i).length = 13) (hc : ∀ (i : Nat) (t : Tr), kids[i]? = some t → At w0 t (.agg (f i).toArray))
    (ks : List Int) (hk : ks.length = kids.length) (hlen : ks.length ≤ 1000000)
    (hch : ∀ (j : Nat) (h : j < ks.length) (W : World), Low w0 W → Calls Tryz.prog 200 #[.agg #[c0, p0], .agg (f j).toArray] W fun e w' => e = .returned (.tuple #[.int .i64 ks[j], .int .i64 0]) ∧ Below W.heap.size W w')
    (hcp : ∀ (W : World), Low w0 W → Calls Tryz.prog 249 #[.agg (d.c av)] W fun e w' => e = .returned (.int .i64 0) ∧ Below W.heap.size W w')
    (hd : d.k = 4 ∨ d.k = 5 ∨ d.k = 6) (kk : Int)
    (hka : ∀ (W : World) (V : Value), Low w0 W → Kds W V ks → Calls Tryz.prog 250 #[.agg (d.c av), V] W fun e w' => e = .returned (.tuple #[.int .i64 kk, .bool true]) ∧ Below W.heap.size W w') :
    ∀ (W : World), Low w0 W → Calls Tryz.prog 200 #[.agg #[c0, p0], .agg (d.c av)] W fun e w' => e = .returned (.tuple #[.int .i64 kk, .int .i64 0]) ∧ Below W.heap.size W w' := by
  intro W hL
  obtain ⟨pa, cap, rfl, hcap, hmax, hpa⟩ := hs
  have HF := Lib.hid hf
  have HB := Lib.hid hb
  have HC := Lib.hid hc
  have CH := Lib.hid hch
  have CP := Lib.hid hcp
  have KA := Lib.hid hka
  have HL := Lib.hid hL
  obtain ⟨k, op, n, vk, vn, vs, src, name, dis⟩ := d
  simp only [Nd.c] at CP KA ⊢
  simp only at hd
  have k1 : (k == 1) = false := by rw [beq_eq_false_iff_ne]; omega
  have k2 : (k == 2) = false := by rw [beq_eq_false_iff_ne]; omega
  have k3 : (k == 3) = false := by rw [beq_eq_false_iff_ne]; omega
  clear hf hb hc hch hcp hka hL hd
  rw [← hk] at hcap hmax hpa ⊢
  have HK := Lib.hid hk
  have K0 : Hid (KS #[c0, p0] (ndC k op n vk vn vs src name dis (.slice pa ks.length cap)) 0 (.slice none 0 0) ((ks.take 0).map (.int .i64 ·)) W ((W.alloc (.cells #[c0, p0] 131)).alloc (.cells (ndC k op n vk vn vs src name dis (.slice pa ks.length cap)) 70))) :=
    Lib.hid ⟨by go_grown, (heap_alloc_old _ _ (by simp)).trans (heap_alloc_new W _), new_at _ _ _ (by simp), World.ownsRow_nil _ _ _ _⟩
  rw [← hk] at CP KA
  clear hk
  go_enter Tryz.func200, Tryz.ntmps200
  go_wp2_with fail
  go_loopw [6, 18] (fun u y wr => ∃ (j : Nat) (V : Value), j ≤ ks.length ∧ V = u ∧ y = .int .i64 j ∧ Hid (KS #[c0, p0] (ndC k op n vk vn vs src name dis (.slice pa ks.length cap)) j V ((ks.take j).map (.int .i64 ·)) W wr)) (fun _ y _ => ks.length - (intOf y).toNat)
  case atStart => exact ⟨0, _, Nat.zero_le _, rfl, rfl, K0⟩
  case round =>
    obtain ⟨j, V, hj, rfl, rfl, hS⟩ := hrel
    have s0 : wr.cell? ⟨W.heap.size, 0, none⟩ = some c0 := (cell_of_row wr _ 0 _ _ _ hS.out.scb).trans rfl
    have s1 : wr.cell? ⟨W.heap.size, 1, none⟩ = some p0 := (cell_of_row wr _ 1 _ _ _ hS.out.scb).trans rfl
    have r0 : W.heap.size < wr.heap.size := lt_of_block hS.out.scb
    have hLj := Lib.hid (hS.out.low' HL.out)
    by_cases hlt : j < ks.length
    · obtain rfl := hpa (by omega)
      have ht : kids[j]? = some (kids[j]'(by have := HK.out; omega)) := List.getElem?_eq_getElem (by have := HK.out; omega)
      have CI := Lib.hid (CH.out j hlt)
      have HT := Lib.hid (take_next ks j hlt)
      obtain ⟨d', kids', pa', cap', ht', hv'⟩ := (HC.out j _ ht).inv
      have hR := HF.out j (by have := HK.out; omega)
      have hcs : f j = (d'.c (.slice pa' kids'.length cap')).toList := by
        have := congrArg (fun v => match v with | .agg a => a.toList | _ => []) hv'
        simpa using this
      rw [hcs] at hR
      rw [hv'] at CI
      have HRg := Lib.hid (hLj.out.range hR.1 (HB.out (by have := HK.out; omega)))
      have hl1 : (ks.take j).length = j := by rw [List.length_take]; omega
      generalize ks[j] = kj at *
      generalize kids'.length = n' at *
      obtain ⟨k', op', n1', vk', vn', vs', src', name', dis'⟩ := d'
      simp only [Nd.c] at CI HRg
      clear hR hcs hv' ht' ht
      go_wp2_with (refine load_mid rfl (.tmp 20) rfl b (o + j * 13) _ rfl HRg.out rfl ?_)
      refine (CI.out _ (low_alloc hLj.out _)).mono ?_
      rintro e w2 ⟨rfl, hb2⟩
      have S2 := Lib.hid ((hS.out.alloc _).below hb2)
      clear hb2 s0 s1
      go_wp2_with (at_builtin; go_must (refine wpList_pushK rfl (.tmp 31) (.tmp 33) rfl (W.heap.size + 2) w2 (ks.take j) V kj rfl (by rw [hl1]; exact S2.out.own) S2.out.room rfl rfl (by rw [hl1]; omega) ?_); intro v3 w3 ho3 hg3; have S3 := Lib.hid ((S2.out.alloc _).grows hg3 ho3); clear ho3 hg3)
      have e1 : (List.take j ks ++ [kj]).length = j + 1 := by rw [List.length_append, hl1]; rfl
      have SR : Hid (KS #[c0, p0] (ndC k op n vk vn vs src name dis (.slice (some ⟨b, o, none⟩) ks.length cap)) (j + 1) v3 ((ks.take (j + 1)).map (.int .i64 ·)) W w3) := Lib.hid (by rw [HT.out, ← e1]; exact S3.out)
      clear e1 hl1
      go_roundw
      case rel => exact ⟨j + 1, v3, by omega, rfl, by go_num, SR⟩
      case measure => simp [intOf]; omega
    · have hj2 : j = ks.length := by omega
      subst hj2
      have HT : Hid (ks.take ks.length = ks) := Lib.hid List.take_length
      rw [HT.out] at hS
      clear s0 s1
      go_wp2_with (refine load_expr rfl (.tmp 3) rfl (W.heap.size + 1) _ rfl hS.out.exb rfl ?_)
      refine (CP.out _ hLj.out).mono ?_
      rintro e w3 ⟨rfl, hb3⟩
      have S3 := Lib.hid (hS.out.below hb3)
      have L3 := Lib.hid (hLj.out.below hb3)
      have r3 : W.heap.size < w3.heap.size := lt_of_block S3.out.scb
      clear hb3
      have x0 : w3.cell? ⟨W.heap.size + 1, 0, none⟩ = some (.int .i64 k) := (cell_of_row w3 _ 0 _ _ _ S3.out.exb).trans rfl
      go_wp2_with (refine load_expr rfl (.tmp 3) rfl (W.heap.size + 1) _ rfl S3.out.exb rfl ?_)
      refine (KA.out _ _ L3.out (kds_of S3.out.own)).mono ?_
      rintro e w4 ⟨rfl, hb4⟩
      have K4 := Lib.hid (below_call S3.out.low hb4)
      clear hb4 x0
      go_wp2_with fail
      go_ret2
      exact ⟨rfl, K4.out⟩
end YtabojeleomfgnaaGreatDoor
end Go.Proofs
namespace Go.Proofs
open Go.RowKit
namespace YtabojeleomfgnaaGreatDoor
set_option maxRecDepth 100000
/-- while the kinds of the Args are gathered, by the reference -/
structure KR (ec : Array Value) (n : Nat) (V : Value) (xs : List Value) (w0 w : World) : Prop where
  low : Below w0.heap.size w0 w
  exb : w.heap[w0.heap.size]? = some (.cells ec 70 (0, 0))
  own : w.ownsRow (w0.heap.size + 1) 3 1 V n xs
theorem KR.room {ec : Array Value} {n : Nat} {V : Value} {xs : List Value} {w0 w : World} (h : KR ec n V xs w0 w) : w0.heap.size + 1 ≤ w.heap.size := lt_of_block h.exb
theorem KR.below {ec : Array Value} {n : Nat} {V : Value} {xs : List Value} {w0 w w' : World} (h : KR ec n V xs w0 w) (hb : Below w.heap.size w w') : KR ec n V xs w0 w' :=
  ⟨below_call h.low hb, (hb.block _ (lt_of_block h.exb)).trans h.exb, h.own.kept (row := none) ⟨hb.os, hb.tape, hb.output, hb.size, fun k hk1 _ => hb.block k hk1⟩ (by
    cases hv : V.ownBlock with
    | none => exact .inl rfl
    | some k => exact .inr (fun e => by cases e))⟩
theorem KR.alloc {ec : Array Value} {n : Nat} {V : Value} {xs : List Value} {w0 w : World} (h : KR ec n V xs w0 w) (o : Obj) : KR ec n V xs w0 (w.alloc o) := h.below ((Below.refl _ _).alloc (Nat.le_refl _) o)
theorem KR.grows {ec : Array Value} {n m : Nat} {V V' : Value} {xs ys : List Value} {w0 w w' : World} (h : KR ec n V xs w0 w) (hg : w.grownBy w' V.ownBlock) (ho : w'.ownsRow (w0.heap.size + 1) 3 1 V' m ys) : KR ec m V' ys w0 w' := by
  have hne : ∀ k, k < w0.heap.size + 1 → some k ≠ V.ownBlock := fun k hk e => by have := (h.own.lt k e.symm).1; omega
  refine ⟨⟨hg.os.trans h.low.os, hg.tape.trans h.low.tape, hg.output.trans h.low.output, Nat.le_trans h.low.size hg.size, fun k hk => (hg.block k (Nat.lt_of_lt_of_le hk h.low.size) (hne k (by omega))).trans (h.low.block k hk)⟩, ?_, ho⟩
  exact (hg.block _ (lt_of_block h.exb) (hne _ (by omega))).trans h.exb
theorem KR.low' {ec : Array Value} {n : Nat} {V : Value} {xs : List Value} {w0 w W : World} (h : KR ec n V xs w w0) (hL : Low W w) : Low W w0 := hL.below h.low
set_option maxHeartbeats 8000000 in
theorem scalar_node (c0 p0 : Value) (uu : Bool) (d : Nd) (kids : List Tr) (av : Value) (w0 : World) (b o : Nat) (f : Nat → List Value) (hs : SlAt av kids.length b o)
    (hb : 0 < kids.length → b < w0.heap.size) (hf : ∀ i, i < kids.length → w0.rangeAt b (o + i * 13) (f i) ∧ (f i).length = 13) (hc : ∀ (i : Nat) (t : Tr), kids[i]? = some t → At w0 t (.agg (f i).toArray))
    (ks : List Int) (hk : ks.length = kids.length) (hlen : ks.length ≤ 1000000)
    (hch : ∀ (j : Nat) (h : j < ks.length) (W : World), Low w0 W → Calls Tryz.prog 151 #[.agg (f j).toArray, c0, p0, .bool uu] W fun e w' => e = .returned (.tuple #[.int .i64 ks[j], .int .i64 0]) ∧ Below W.heap.size W w')
    (hcf : ∀ (W : World), Low w0 W → Calls Tryz.prog 202 #[.agg (d.c av)] W fun e w' => e = .returned (.int .i64 0) ∧ Below W.heap.size W w') (kl : Int)
    (hcl : ∀ (W : World), Low w0 W → Calls Tryz.prog 203 #[.agg (d.c av), c0, p0, .bool uu] W fun e w' => e = .returned (.tuple #[.int .i64 kl, .int .i64 0]) ∧ Below W.heap.size W w') (kk : Int)
    (hk4 : uu = true → d.k = 4 → ∀ (W : World) (V : Value), Low w0 W → Kds W V ks → Calls Tryz.prog 204 #[.agg (d.c av), V] W fun e w' => e = .returned (.tuple #[.int .i64 kk, .bool true]) ∧ Below W.heap.size W w')
    (hk5 : uu = true → 4 < d.k → ∀ (W : World) (V : Value), Low w0 W → Kds W V ks → Calls Tryz.prog 205 #[.agg (d.c av), V] W fun e w' => e = .returned (.tuple #[.int .i64 kk, .bool true]) ∧ Below W.heap.size W w') :
    ∀ (W : World), Low w0 W → Calls Tryz.prog 151 #[.agg (d.c av), c0, p0, .bool uu] W fun e w' => e = .returned (.tuple #[.int .i64 (if uu = true ∧ 3 < d.k then kk else kl), .int .i64 0]) ∧ Below W.heap.size W w' := by
  intro W hL
  obtain ⟨pa, cap, rfl, hcap, hmax, hpa⟩ := hs
  have HF := Lib.hid hf
  have HB := Lib.hid hb
  have HC := Lib.hid hc
  have CH := Lib.hid hch
  have CF := Lib.hid hcf
  have CL := Lib.hid hcl
  have K4 := Lib.hid hk4
  have K5 := Lib.hid hk5
  have HL := Lib.hid hL
  obtain ⟨k, op, n, vk, vn, vs, src, name, dis⟩ := d
  simp only [Nd.c] at CF CL K4 K5 ⊢
  clear hf hb hc hch hcf hcl hk4 hk5 hL
  rw [← hk] at hcap hmax hpa CF CL K4 K5 ⊢
  have HK := Lib.hid hk
  generalize hR : (if uu = true ∧ 3 < k then kk else kl) = R
  have HR := Lib.hid hR
  clear hR
  have K0 : Hid (KR (ndC k op n vk vn vs src name dis (.slice pa ks.length cap)) 0 (.slice none 0 0) ((ks.take 0).map (.int .i64 ·)) W (W.alloc (.cells (ndC k op n vk vn vs src name dis (.slice pa ks.length cap)) 70))) :=
    Lib.hid ⟨by go_grown, heap_alloc_new W _, World.ownsRow_nil _ _ _ _⟩
  clear hk
  go_enter Tryz.func151, Tryz.ntmps151
  go_wp2_with fail
  go_loopw [10, 22] (fun u y wr => ∃ (j : Nat) (V : Value), j ≤ ks.length ∧ V = u ∧ y = .int .i64 j ∧ Hid (KR (ndC k op n vk vn vs src name dis (.slice pa ks.length cap)) j V ((ks.take j).map (.int .i64 ·)) W wr)) (fun _ y _ => ks.length - (intOf y).toNat)
  case atStart => exact ⟨0, _, Nat.zero_le _, rfl, rfl, K0⟩
  case round =>
    obtain ⟨j, V, hj, rfl, rfl, hS⟩ := hrel
    have hLj := Lib.hid (hS.out.low' HL.out)
    by_cases hlt : j < ks.length
    · obtain rfl := hpa (by omega)
      have ht : kids[j]? = some (kids[j]'(by have := HK.out; omega)) := List.getElem?_eq_getElem (by have := HK.out; omega)
      have CI := Lib.hid (CH.out j hlt)
      have HT := Lib.hid (take_next ks j hlt)
      obtain ⟨d', kids', pa', cap', ht', hv'⟩ := (HC.out j _ ht).inv
      have hR := HF.out j (by have := HK.out; omega)
      have hcs : f j = (d'.c (.slice pa' kids'.length cap')).toList := by
        have := congrArg (fun v => match v with | .agg a => a.toList | _ => []) hv'
        simpa using this
      rw [hcs] at hR
      rw [hv'] at CI
      have HRg := Lib.hid (hLj.out.range hR.1 (HB.out (by have := HK.out; omega)))
      have hl1 : (ks.take j).length = j := by rw [List.length_take]; omega
      generalize ks[j] = kj at *
      generalize kids'.length = n' at *
      obtain ⟨k', op', n1', vk', vn', vs', src', name', dis'⟩ := d'
      simp only [Nd.c] at CI HRg
      clear hR hcs hv' ht' ht
      go_wp2_with (refine load_mid rfl (.tmp 24) rfl b (o + j * 13) _ rfl HRg.out rfl ?_)
      refine (CI.out _ (low_alloc hLj.out _)).mono ?_
      rintro e w2 ⟨rfl, hb2⟩
      have S2 := Lib.hid ((hS.out.alloc _).below hb2)
      clear hb2
      go_wp2_with (at_builtin; go_must (refine wpList_pushK rfl (.tmp 37) (.tmp 39) rfl (W.heap.size + 1) w2 (ks.take j) V kj rfl (by rw [hl1]; exact S2.out.own) S2.out.room rfl rfl (by rw [hl1]; omega) ?_); intro v3 w3 ho3 hg3; have S3 := Lib.hid ((S2.out.alloc _).grows hg3 ho3); clear ho3 hg3)
      have e1 : (List.take j ks ++ [kj]).length = j + 1 := by rw [List.length_append, hl1]; rfl
      have SR : Hid (KR (ndC k op n vk vn vs src name dis (.slice (some ⟨b, o, none⟩) ks.length cap)) (j + 1) v3 ((ks.take (j + 1)).map (.int .i64 ·)) W w3) := Lib.hid (by rw [HT.out, ← e1]; exact S3.out)
      clear e1 hl1
      go_roundw
      case rel => exact ⟨j + 1, v3, by omega, rfl, by go_num, SR⟩
      case measure => simp [intOf]; omega
    · have hj2 : j = ks.length := by omega
      subst hj2
      have HT : Hid (ks.take ks.length = ks) := Lib.hid List.take_length
      rw [HT.out] at hS
      go_wp2_with (refine load_expr rfl (.tmp 4) rfl W.heap.size _ rfl hS.out.exb rfl ?_)
      refine (CF.out _ hLj.out).mono ?_
      rintro e w3 ⟨rfl, hb3⟩
      have S3 := Lib.hid (hS.out.below hb3)
      have L3 := Lib.hid (hLj.out.below hb3)
      clear hb3
      go_wp2_with (refine load_expr rfl (.tmp 4) rfl W.heap.size _ rfl S3.out.exb rfl ?_)
      refine (CL.out _ L3.out).mono ?_
      rintro e w4 ⟨rfl, hb4⟩
      have S4 := Lib.hid (S3.out.below hb4)
      have L4 := Lib.hid (L3.out.below hb4)
      clear hb4
      have r4 : W.heap.size < w4.heap.size := lt_of_block S4.out.exb
      have x0 : w4.cell? ⟨W.heap.size, 0, none⟩ = some (.int .i64 k) := (cell_of_row w4 _ 0 _ _ _ S4.out.exb).trans rfl
      cases uu with
      | false =>
        have HR2 : Hid (R = kl) := Lib.hid (by rw [← HR.out]; simp)
        clear HR
        go_wp2_with fail
        go_ret2
        rw [HR2.out]; exact ⟨rfl, S4.out.low⟩
      | true =>
        by_cases h3 : k ≤ 3
        · have HR2 : Hid (R = kl) := Lib.hid (by rw [← HR.out, if_neg (by omega)])
          clear HR
          go_wp2_with fail
          go_ret2
          rw [HR2.out]; exact ⟨rfl, S4.out.low⟩
        · have HR2 : Hid (R = kk) := Lib.hid (by rw [← HR.out, if_pos (by simp; omega)])
          clear HR
          by_cases h4 : k = 4
          · have KA := Lib.hid (K4.out rfl h4 w4 V L4.out (kds_of S4.out.own))
            have k4 : (k == 4) = true := by simp [h4]
            clear h4
            go_wp2_with (refine load_expr rfl (.tmp 4) rfl W.heap.size _ rfl S4.out.exb rfl ?_)
            refine KA.out.mono ?_
            rintro e w5 ⟨rfl, hb5⟩
            have B5 := Lib.hid (below_call S4.out.low hb5)
            clear hb5
            go_wp2_with fail
            go_ret2
            rw [HR2.out]; exact ⟨rfl, B5.out⟩
          · have KA := Lib.hid (K5.out rfl (by omega) w4 V L4.out (kds_of S4.out.own))
            have k4 : (k == 4) = false := by simp [h4]
            clear h4
            go_wp2_with (refine load_expr rfl (.tmp 4) rfl W.heap.size _ rfl S4.out.exb rfl ?_)
            refine KA.out.mono ?_
            rintro e w5 ⟨rfl, hb5⟩
            have B5 := Lib.hid (below_call S4.out.low hb5)
            clear hb5
            go_wp2_with fail
            go_ret2
            rw [HR2.out]; exact ⟨rfl, B5.out⟩
end YtabojeleomfgnaaGreatDoor
end Go.Proofs
namespace Go.Proofs
open Go.RowKit
namespace YtabojeleomfgnaaGreatDoor
set_option maxRecDepth 100000
def hasB (F : ByteArray) (c : UInt8) : Bool := decide (0 ≤ Lib.indexByte F.data.toList c)
theorem has_t (p : Nat) (F : ByteArray) (c : UInt8) (w : World) (h : w.heap[p]? = some (.cells #[.string F] 9 (0, 0))) : Calls Tryz.prog 300 #[.string ⟨#[c]⟩, .pointer (some ⟨p, 0, none⟩)] w fun e w' => e = .returned (.bool (hasB F c)) ∧ w' = w := by
  have c0 : w.cell? ⟨p, 0, none⟩ = some (.string F) := (cell_of_row w _ 0 _ _ _ h).trans rfl
  go_enter Tryz.func300, Tryz.ntmps300
  go_wp2_with (go_at_call 301; refine (Tryz.strings_Contains_one _ _ _).mono ?_; rintro e w' ⟨rfl, rfl⟩)
  go_ret
  exact ⟨rfl, rfl⟩
def valN (vk vn : Int) (vs : ByteArray) : Nd := ⟨1, 0, 0, vk, vn, vs, ⟨#[]⟩, ⟨#[]⟩, false⟩
set_option maxHeartbeats 4000000 in
theorem leaf_val (vk vn : Int) (vs : ByteArray) (hs : vs.size ≤ maxLen) (hf : faultN 0 vk vn vs = 0) (c0 p0 : Value) (u : Bool) (pa : Option Addr) (c : Nat) (w : World) : Calls Tryz.prog 203 #[.agg ((valN vk vn vs).c (.slice pa 0 c)), c0, p0, .bool u] w fun e w' => e = .returned (.tuple #[.int .i64 vk, .int .i64 0]) ∧ Below w.heap.size w w' := by
  have HA := Lib.hid (fun w => anyFault_any vk vn vs hs w)
  rw [hf] at HA
  clear hf hs
  simp only [Nd.c, valN]
  go_enter Tryz.func203, Tryz.ntmps203
  go_wp2_with fail
  refine (HA.out _).mono ?_
  rintro e w1 ⟨rfl, hb1⟩
  obtain ⟨hc1, hf1⟩ := bcell hb1
  have hz1_0 : w.heap.size < w1.heap.size := lt_after hb1 (by (try simp only [World.size_alloc]); repeat (first | (with_reducible assumption) | exact Nat.lt_add_one _ | apply Nat.lt_add_one_of_lt))
  go_wp2
  go_ret2
  exact ⟨rfl, below_call (by go_grown) hb1⟩
set_option maxHeartbeats 4000000 in
theorem leaf_neg (c0 p0 : Value) (u : Bool) (pa : Option Addr) (c : Nat) (w : World) : Calls Tryz.prog 203 #[.agg ((negN).c (.slice pa 1 c)), c0, p0, .bool u] w fun e w' => e = .returned (.tuple #[.int .i64 0, .int .i64 0]) ∧ Below w.heap.size w w' := by
  simp only [Nd.c, negN]
  go_enter Tryz.func203, Tryz.ntmps203
  go_wp2
  go_ret2
  exact ⟨rfl, by go_grown⟩
set_option maxHeartbeats 4000000 in
theorem leaf_in (c0 p0 : Value) (u : Bool) (n : Nat) (pa : Option Addr) (c : Nat) (w : World) : Calls Tryz.prog 203 #[.agg ((inN).c (.slice pa n c)), c0, p0, .bool u] w fun e w' => e = .returned (.tuple #[.int .i64 0, .int .i64 0]) ∧ Below w.heap.size w w' := by
  simp only [Nd.c, inN]
  go_enter Tryz.func203, Tryz.ntmps203
  go_wp2
  go_ret2
  exact ⟨rfl, by go_grown⟩
set_option maxHeartbeats 2000000 in
theorem fits_t (v : Value) (ks : List Int) (w : World) (h : Kds w v ks) : Calls Tryz.prog 255 #[v] w fun e w' => e = .returned (okV (comN ks 0)) ∧ w' = w := by
  obtain ⟨pa, cap, b, o, rfl, hcap, hmax, hpa, hc⟩ := h
  unfold maxLen at hmax
  have HC := Lib.hid hc
  clear hc
  go_enter Tryz.func255, Tryz.ntmps255
  go_wp2_with fail
  go_loop [4, 9] (fun c y => ∃ (j : Nat) (cc : Int), j ≤ ks.length ∧ c = .int .i64 cc ∧ y = .int .i64 j ∧ Hid (comN ks 0 = comN (ks.drop j) cc)) (fun _ y => ks.length - (intOf y).toNat)
  case atStart => exact ⟨0, 0, Nat.zero_le _, rfl, rfl, Lib.hid rfl⟩
  case round =>
    obtain ⟨j, cc, hj, rfl, rfl, hE⟩ := hrel
    by_cases hlt : j < ks.length
    · obtain rfl := hpa (by omega)
      have hD := comN_drop ks j cc hlt
      have hx := HC.out j hlt
      generalize ks[j] = k at hD hx
      by_cases hk0 : k = 0
      · subst hk0
        rw [if_pos rfl] at hD
        have HN := Lib.hid (hE.out.trans hD)
        clear hD
        go_wp2_with fail
        exact ⟨⟨j + 1, cc, by omega, rfl, by go_num, HN⟩, by simp [intOf]; omega⟩
      · rw [if_neg hk0] at hD
        have k0 : (k == 0) = false := by simp [hk0]
        by_cases hck : k = cc
        · subst hck
          rw [if_neg (by simp)] at hD
          have HN := Lib.hid (hE.out.trans hD)
          clear hD hk0
          go_wp2_with fail
          exact ⟨⟨j + 1, k, by omega, rfl, by go_num, HN⟩, by simp [intOf]; omega⟩
        · have ck : (k == cc) = false := by simp [hck]
          by_cases hc0 : cc = 0
          · subst hc0
            rw [if_neg (by simp)] at hD
            have HN := Lib.hid (hE.out.trans hD)
            clear hD hk0 hck
            go_wp2_with fail
            exact ⟨⟨j + 1, k, by omega, rfl, by go_num, HN⟩, by simp [intOf]; omega⟩
          · have c0 : (cc == 0) = false := by simp [hc0]
            rw [if_pos ⟨hc0, fun h => hck h.symm⟩] at hD
            have HN := Lib.hid (hE.out.trans hD)
            clear hD hk0 hc0 hck
            go_wp2_with fail
            go_ret2
            exact ⟨by rw [HN.out]; rfl, rfl⟩
    · have hj2 : j = ks.length := by omega
      subst hj2
      have HN : Hid (comN ks 0 = some cc) := Lib.hid (by rw [hE.out, List.drop_length, comN])
      go_wp2_with fail
      go_ret2
      exact ⟨by rw [HN.out]; rfl, rfl⟩
end YtabojeleomfgnaaGreatDoor
end Go.Proofs
namespace Go.Proofs
open Go.RowKit
namespace YtabojeleomfgnaaGreatDoor
set_option maxRecDepth 100000
set_option maxHeartbeats 8000000 in
theorem only_val (vk vn : Int) (vs : ByteArray) (pa : Option Addr) (c : Nat) (w : World) : Calls Tryz.prog 251 #[.agg ((valN vk vn vs).c (.slice pa 0 c)), .string ⟨#[118]⟩] w fun e w' => e = .returned (.bool true) ∧ Below w.heap.size w w' := by
  have ho : Hid (hasB ⟨#[118]⟩ 111 = false) := Lib.hid (by decide)
  have hn : Hid (hasB ⟨#[118]⟩ 110 = false) := Lib.hid (by decide)
  have hv : Hid (hasB ⟨#[118]⟩ 118 = true) := Lib.hid (by decide)
  have hc : Hid (hasB ⟨#[118]⟩ 99 = false) := Lib.hid (by decide)
  have hd : Hid (hasB ⟨#[118]⟩ 100 = false) := Lib.hid (by decide)
  have ha : Hid (hasB ⟨#[118]⟩ 97 = false) := Lib.hid (by decide)
  have hs : Hid (hasB ⟨#[118]⟩ 115 = false) := Lib.hid (by decide)
  have hg : Hid (hasB ⟨#[118]⟩ 103 = false) := Lib.hid (by decide)
  have hr : Hid (hasB ⟨#[118]⟩ 114 = false) := Lib.hid (by decide)
  have HB : Hid (((w.alloc (.cells ((valN vk vn vs).c (.slice pa 0 c)) 70)).alloc (.cells #[.string ⟨#[118]⟩] 9)).heap[w.heap.size + 1]? = some (.cells #[.string ⟨#[118]⟩] 9 (0, 0))) := Lib.hid (new_at _ _ _ (by simp))
  simp only [Nd.c, valN] at HB ⊢
  go_enter Tryz.func251, Tryz.ntmps251
  go_wp2_with (go_at_call 300; refine (has_t (w.heap.size + 1) ⟨#[118]⟩ _ _ HB.out).mono ?_; rintro e w' ⟨rfl, rfl⟩; simp only [ho.out, hn.out, hv.out, hc.out, hd.out, ha.out, hs.out, hg.out, hr.out])
  go_ret
  exact ⟨rfl, by go_grown⟩
end YtabojeleomfgnaaGreatDoor
end Go.Proofs
namespace Go.Proofs
open Go.RowKit
namespace YtabojeleomfgnaaGreatDoor
set_option maxRecDepth 100000
set_option maxHeartbeats 8000000 in
theorem form_val (vk vn : Int) (vs : ByteArray) (pa : Option Addr) (c : Nat) (w : World) : Calls Tryz.prog 202 #[.agg ((valN vk vn vs).c (.slice pa 0 c))] w fun e w' => e = .returned (.int .i64 0) ∧ Below w.heap.size w w' := by
  have CO := Lib.hid (fun w => only_val vk vn vs pa c w)
  simp only [Nd.c, valN] at CO ⊢
  go_enter Tryz.func202, Tryz.ntmps202
  go_wp2_with (first | (go_at_call 132; refine (rwithin_any _ _ _ _).mono ?_; rintro e w9 ⟨rfl, rfl⟩) | (go_at_call 252; go_in))
  refine (CO.out _).mono ?_
  rintro e w1 ⟨rfl, hb1⟩
  have B1 := Lib.hid (show Below w.heap.size w w1 from below_call (by go_grown) hb1)
  clear hb1
  go_wp2_with (first | (go_at_call 132; refine (rwithin_any _ _ _ _).mono ?_; rintro e w9 ⟨rfl, rfl⟩))
  go_ret
  exact ⟨rfl, B1.out⟩
end YtabojeleomfgnaaGreatDoor
end Go.Proofs
