/- ScalarLimits: its makers of expressions, its draws. ScalarLimits: what its four calls give at chains of neg and at in. ScalarLimits: the expression as it is made: its block, the stream, the table. The table of operations out of the start's list of variables. ScalarLimits: the law. ScalarLimits: for every input the law returns true, and every argument reads afterwards as it read before. Conditions: the row's own: the listed package-level variables start as the program's text lays them (the card ties them). -/
import Derived.Test.YtabojeleomfgnaaGreatDoorTw4
import Derived.Test.YtabojeleomfgnaaGreatDoorMp4
import Derived.Test.YtabojeleomfgnaaGreatDoorTw3
import Derived.Test.YtabojeleomfgnaaGreatDoorU1
import Derived.Test.YtabojeleomfgnaaGreatDoorTw1
import Derived.Test.YtabojeleomfgnaaGreatDoorCt1
import Derived.Test.YtabojeleomfgnaaGreatDoorR1
import Derived.Test.YtabojeleomfgnaaGreatDoorS1
import Derived.Test.YtabojeleomfgnaaGreatDoorU3
import Derived.Test.YtabojeleomfgnaaGreatDoorK16
import Derived.SevenTiedAt
import Derived.ChangeMaps5
namespace Go.Proofs
open Go.RowKit
namespace YtabojeleomfgnaaGreatDoor
set_option maxRecDepth 100000
theorem results_expr1 {fn : Func} {p : Tmp} (h : fn.results = #[.cell p 70]) (tmps : Array Value) (w : World) (g : Nat) (cs : Array Value)
    (hp : tmps.getD p undef = .pointer (some ⟨g, 0, none⟩)) (hg : w.heap[g]? = some (.cells cs 70 (0, 0))) (hc : cs.size = 13) :
    (results fn tmps).run Tryz.prog w = .ok (.agg cs) w := by
  have hp' : tmps[p]?.getD undef = .pointer (some ⟨g, 0, none⟩) := by simpa using hp
  have hl := run_loadVar_row (P := Tryz.prog) w g 70 70 cs (0, 0) _ hg Tryz.underlying70 rfl (by rw [hc]; exact size70)
  simp [results, h, hp', asAddr, hl]
set_option maxHeartbeats 1000000 in
theorem const_t (k n : Int) (s : ByteArray) (w : World) : Calls Tryz.prog 86 #[.agg #[.int .i64 k, .int .i64 n, .string s]] w fun e w' => e = .returned (.agg (ndC 1 0 0 k n s ⟨#[]⟩ ⟨#[]⟩ false nilS)) ∧ Below w.heap.size w w' := by
  have HB : Hid (((w.alloc (.cells #[.int .i64 k, .int .i64 n, .string s] 23)).alloc (.cells Z13 70)).heap[w.heap.size + 1]? = some (.cells Z13 70 (0, 0))) := Lib.hid (new_at _ _ _ (by simp))
  have HL : Hid (Below w.heap.size w ((w.alloc (.cells #[.int .i64 k, .int .i64 n, .string s] 23)).alloc (.cells Z13 70))) := Lib.hid (by go_grown)
  go_enter Tryz.func86, Tryz.ntmps86
  go_wp2_with (refine store_expr rfl (.tmp 2) (.tmp 4) rfl (w.heap.size + 1) (ndC 1 0 0 k n s ⟨#[]⟩ ⟨#[]⟩ false nilS) rfl rfl Z13 HB.out rfl rfl (by simp [Value.oneCell']) ?_; intro w3 hp3; have HP3 := Lib.hid hp3; clear hp3)
  refine bodyPost_ret (results_expr1 rfl _ _ (w.heap.size + 1) (ndC 1 0 0 k n s ⟨#[]⟩ ⟨#[]⟩ false nilS) ?_ HP3.out.at' rfl) rfl ?_
  · rfl
  · exact ⟨rfl, HP3.out.below HL.out (Nat.le_succ _)⟩
set_option maxHeartbeats 1000000 in
theorem oper_t (o : Int) (pa : Option Addr) (l c : Nat) (w : World) : Calls Tryz.prog 87 #[.int .i64 o, .slice pa l c] w fun e w' => e = .returned (.agg (ndC 4 o 0 0 0 ⟨#[]⟩ ⟨#[]⟩ ⟨#[]⟩ false (.slice pa l c))) ∧ Below w.heap.size w w' := by
  have HB : Hid ((w.alloc (.cells Z13 70)).heap[w.heap.size]? = some (.cells Z13 70 (0, 0))) := Lib.hid (new_at _ _ _ rfl)
  have HL : Hid (Below w.heap.size w (w.alloc (.cells Z13 70))) := Lib.hid (by go_grown)
  go_enter Tryz.func87, Tryz.ntmps87
  go_wp2_with (refine store_expr rfl (.tmp 4) (.tmp 7) rfl w.heap.size (ndC 4 o 0 0 0 ⟨#[]⟩ ⟨#[]⟩ ⟨#[]⟩ false (.slice pa l c)) rfl rfl Z13 HB.out rfl rfl (by simp [Value.oneCell']) ?_; intro w3 hp3; have HP3 := Lib.hid hp3; clear hp3)
  refine bodyPost_ret (results_expr1 rfl _ _ w.heap.size (ndC 4 o 0 0 0 ⟨#[]⟩ ⟨#[]⟩ ⟨#[]⟩ false (.slice pa l c)) ?_ HP3.out.at' rfl) rfl ?_
  · rfl
  · exact ⟨rfl, HP3.out.below HL.out (Nat.le_refl _)⟩
set_option maxHeartbeats 1000000 in
theorem pick_of (p g : Nat) (a : Option Addr) (len cap t k c : Nat) (hk : 1 ≤ k) (hk2 : k ≤ 1000) (ht : t ≤ 1000) (hl : len ≤ maxLen) (hg : g ≠ p) (f : Nat → Int) (w : World) (hf : ∀ i, i < k → w.cell? ⟨g, i, none⟩ = some (.int .i64 (f i))) (hS : Sm p a len cap t w) :
    Calls Tryz.prog 56 #[.pointer (some ⟨p, 0, none⟩), .slice (some ⟨g, 0, none⟩) k c] w fun e w' => (∃ j, j < k ∧ e = .returned (.int .i64 (f j))) ∧ Sm p a len cap (t + 1) w' ∧ Keeps p w w' := by
  have HF := Lib.hid hf
  have CN := Lib.hid (next_t p a len cap t k (by omega) (by omega) ht hl w hS)
  clear hf hS ht hl
  go_enter Tryz.func56, Tryz.ntmps56
  go_wp2_with fail
  refine CN.out.mono ?_
  rintro e w1 ⟨r, rfl, r0, r1, hS1, hK1⟩
  obtain ⟨j, rfl⟩ : ∃ j : Nat, r = j := ⟨r.toNat, by omega⟩
  have hj : j < k := by omega
  have S1 := Lib.hid hS1
  have K1 := Lib.hid hK1
  have c0 : w1.cell? ⟨g, j, none⟩ = some (.int .i64 (f j)) := by
    have h := HF.out j hj
    exact (cell_kept hK1 hg (block_lt_of_cell h)).trans h
  have HJ : Hid (∃ i, i < k ∧ f j = f i) := Lib.hid ⟨j, hj, rfl⟩
  clear hS1 hK1 r0 r1 HF CN
  generalize f j = r at c0 HJ
  go_wp2_with fail
  go_ret
  obtain ⟨i, hi, he⟩ := HJ.out
  exact ⟨⟨i, hi, by rw [he]; rfl⟩, S1.out, K1.out⟩
theorem pick_four (p : Nat) (a : Option Addr) (len cap t : Nat) (x : Nat) (ht : t ≤ 1000) (hl : len ≤ maxLen) (w : World) (hS : Sm p a len cap t w) :
    Calls Tryz.prog 56 #[.pointer (some ⟨p, 0, none⟩), .slice (some ⟨w.heap.size, 0, none⟩) 4 4] (w.alloc (.cells #[.int .i64 (x : Int), .int .i64 ((x + 1 : Nat) : Int), .int .i64 ((x + 2 : Nat) : Int), .int .i64 ((x + 3 : Nat) : Int)] 3)) fun e w' => (∃ n : Nat, x ≤ n ∧ n ≤ x + 3 ∧ e = .returned (.int .i64 (n : Int))) ∧ Sm p a len cap (t + 1) w' ∧ Keeps p w w' := by
  have hz := lt_of_block hS.1
  have hb : Below w.heap.size w (w.alloc (.cells #[.int .i64 (x : Int), .int .i64 ((x + 1 : Nat) : Int), .int .i64 ((x + 2 : Nat) : Int), .int .i64 ((x + 3 : Nat) : Int)] 3)) := (Below.refl _ _).alloc (Nat.le_refl _) _
  have hr := heap_alloc_new w (.cells #[.int .i64 (x : Int), .int .i64 ((x + 1 : Nat) : Int), .int .i64 ((x + 2 : Nat) : Int), .int .i64 ((x + 3 : Nat) : Int)] 3)
  refine (pick_of p w.heap.size a len cap t 4 4 (by omega) (by omega) ht hl (by omega) (fun i => ((x + i : Nat) : Int)) _ (fun i hi => ?_) (hS.below hb)).mono ?_
  · refine (cell_of_row _ _ i _ _ _ hr).trans ?_
    match i, hi with
    | 0, _ => rfl
    | 1, _ => rfl
    | 2, _ => rfl
    | 3, _ => rfl
  · rintro e w' ⟨⟨j, hj, rfl⟩, hS', hK⟩
    exact ⟨⟨x + j, by omega, by omega, rfl⟩, hS', (Keeps.of_below hb).trans hK⟩
set_option maxHeartbeats 1000000 in
theorem flip_t (p : Nat) (a : Option Addr) (len cap t : Nat) (ht : t ≤ 1000) (hl : len ≤ maxLen) (w : World) (hS : Sm p a len cap t w) :
    Calls Tryz.prog 76 #[.pointer (some ⟨p, 0, none⟩), .int .i64 2] w fun e w' => (∃ b : Bool, e = .returned (.bool b)) ∧ Sm p a len cap (t + 1) w' ∧ Keeps p w w' := by
  have CN := Lib.hid (next_t p a len cap t 2 (by omega) (by omega) ht hl w hS)
  clear hS ht hl
  go_enter Tryz.func76, Tryz.ntmps76
  go_wp2_with fail
  refine CN.out.mono ?_
  rintro e w1 ⟨r, rfl, r0, r1, hS1, hK1⟩
  have S1 := Lib.hid hS1
  have K1 := Lib.hid hK1
  clear hS1 hK1 r0 r1 CN
  go_wp2_with fail
  go_ret
  exact ⟨⟨_, rfl⟩, S1.out, K1.out⟩
end YtabojeleomfgnaaGreatDoor
end Go.Proofs
namespace Go.Proofs
open Go.RowKit
namespace YtabojeleomfgnaaGreatDoor
set_option maxRecDepth 100000
/-- the four calls agree at t -/
def Good (t : Tr) : Prop := ∃ (T : ByteArray) (S : Int), T.size ≤ 65536 ∧ ∀ (w : World) (v : Value), Tb w → At w t v →
  Calls Tryz.prog 72 #[v, nilS, nilS] w (fun e w' => (∃ k : Int, e = .returned (.tuple #[.int .i64 k, .int .i64 S])) ∧ Below w.heap.size w w') ∧
  Calls Tryz.prog 73 #[v, nilS, nilS] w (fun e w' => (∃ k : Int, e = .returned (.tuple #[.int .i64 k, .int .i64 S])) ∧ Below w.heap.size w w') ∧
  Calls Tryz.prog 80 #[v] w (fun e w' => e = .returned (.tuple #[.string T, .int .i64 S]) ∧ Below w.heap.size w w') ∧
  Calls Tryz.prog 81 #[v] w (fun e w' => e = .returned (.tuple #[.string T, .int .i64 S]) ∧ Below w.heap.size w w')
theorem txB_size (t : Tr) (l : List UInt8) (h : l.length ≤ 65536) : (txB t l).size ≤ 65536 := by
  unfold txB
  split
  · exact Nat.zero_le _
  · exact h
theorem cnt_chain : ∀ n, cntT (chainT n) = n + 1
  | 0 => by rw [chainT, cntT, cntL]
  | n + 1 => by rw [chainT, cntT, cntL, cntL, cnt_chain n]; omega
theorem cntL_rep (t : Tr) : ∀ n, cntL (List.replicate n t) = n * cntT t
  | 0 => by rw [List.replicate_zero, cntL, Nat.zero_mul]
  | n + 1 => by rw [List.replicate_succ, cntL, cntL_rep t n, Nat.succ_mul, Nat.add_comm]
theorem cnt_inT (n : Nat) : cntT (inT n) = n + 1 := by
  rw [inT, cntT, cntL_rep, cntT, cntL]
  omega
theorem good_chain (n : Nat) (hn : n ≤ 1000) : Good (chainT n) := by
  have hl := nt_len n
  have hc : cntT (chainT n) ≤ 1000000000 := by rw [cnt_chain]; omega
  refine ⟨txB (chainT n) (nt n), sizedN (chainT n), txB_size _ _ (by omega), fun w v hT h => ⟨?_, ?_, ?_, ?_⟩⟩
  · exact KindOf_t (chainT n) v 2 w h (kindOf_chain nilS nilS w hT n v h)
  · exact ScalarKind_t (chainT n) v (chK true n) w h hc (scalar_chain nilS nilS true w hT n v h)
  · exact ExprText_t (chainT n) v (nt n) w h (by omega) (cw_chain w hT n v h) (fun B q W hB hL hBW hbi => write_chain w hT B q hB n v h W [] hL hBW hbi (by rw [List.length_nil]; omega))
  · exact ScalarText_t (chainT n) v (nt n) (chK false n) w h hc (by omega) (scalar_chain nilS nilS false w hT n v h) (rt_chain w n hn v h)
theorem good_inT (n : Nat) (h2 : 2 ≤ n) (hn : n ≤ 1000) : Good (inT n) := by
  have hl := it_len n
  have hc : cntT (inT n) ≤ 1000000000 := by rw [cnt_inT]; omega
  refine ⟨txB (inT n) (it n), sizedN (inT n), txB_size _ _ (by omega), fun w v hT h => ⟨?_, ?_, ?_, ?_⟩⟩
  · exact KindOf_t (inT n) v 1 w h (kindOf_inT nilS nilS w n h2 hn v h)
  · exact ScalarKind_t (inT n) v _ w h hc (scalar_inT nilS nilS true w n h2 hn v h)
  · exact ExprText_t (inT n) v (it n) w h (by omega) (cw_inT w n h2 v h) (fun B q W hB hL hBW hbi => write_inT w B q hB n hn v h W [] hL hBW hbi (Nat.zero_le _))
  · exact ScalarText_t (inT n) v (it n) _ w h hc (by omega) (scalar_inT nilS nilS false w n h2 hn v h) (rt_inT w n h2 hn v h)
end YtabojeleomfgnaaGreatDoor
end Go.Proofs
namespace Go.Proofs
open Go.RowKit
namespace YtabojeleomfgnaaGreatDoor
set_option maxRecDepth 100000
/-- block q holds the expression t; its parts lie above -/
def Bx (q : Nat) (t : Tr) (w : World) : Prop := ∃ (k op n vk vn : Int) (vs src name : ByteArray) (dis : Bool) (pa : Option Addr) (l c : Nat),
  w.heap[q]? = some (.cells (ndC k op n vk vn vs src name dis (.slice pa l c)) 70 (0, 0)) ∧ AtB (q + 1) w t (.agg (ndC k op n vk vn vs src name dis (.slice pa l c)))
theorem Bx.kept {q : Nat} {t : Tr} {w W : World} (h : Bx q t w) (hz : w.heap.size ≤ W.heap.size) (hk : ∀ k, q ≤ k → k < w.heap.size → W.heap[k]? = w.heap[k]?) : Bx q t W := by
  obtain ⟨k, op, n, vk, vn, vs, src, name, dis, pa, l, c, h1, h2⟩ := h
  exact ⟨k, op, n, vk, vn, vs, src, name, dis, pa, l, c, (hk q (Nat.le_refl _) (lt_of_block h1)).trans h1, h2.kept hz (fun k hk1 hk2 => hk k (by omega) hk2)⟩
structure Lmt (w0 : World) (p q : Nat) (a : Option Addr) (len cap tt : Nat) (t : Tr) (w : World) : Prop where
  bx : Bx q t w
  sm : Sm p a len cap tt w
  tm : Tm w
  lo : Below w0.heap.size w0 w
  p0 : w0.heap.size ≤ p
  p1 : 1 < p
  pq : p < q
  ip : Ip p w0 a len
theorem Lmt.below {w0 : World} {p q : Nat} {a : Option Addr} {len cap tt : Nat} {t : Tr} {w w' : World} (h : Lmt w0 p q a len cap tt t w) (hb : Below w.heap.size w w') : Lmt w0 p q a len cap tt t w' :=
  ⟨h.bx.kept hb.size (fun k _ hk => hb.block k hk), h.sm.below hb, h.tm.below hb, below_call h.lo hb, h.p0, h.p1, h.pq, h.ip⟩
theorem Lmt.draw {w0 : World} {p q : Nat} {a : Option Addr} {len cap tt u : Nat} {t : Tr} {w w' : World} (h : Lmt w0 p q a len cap tt t w) (hS : Sm p a len cap u w') (hK : Keeps p w w') : Lmt w0 p q a len cap u t w' := by
  have hpq := h.pq
  exact ⟨h.bx.kept hK.size (fun k hk1 hk2 => hK.block k hk2 (by omega)), hS, h.tm.keeps hK h.p1, keeps_above h.lo hK h.p0, h.p0, h.p1, h.pq, h.ip⟩
/-- e's block is written -/
theorem Lmt.put {w0 : World} {p q : Nat} {a : Option Addr} {len cap tt : Nat} {t t' : Tr} {w w' : World} (h : Lmt w0 p q a len cap tt t w) (k op n vk vn : Int) (vs src name : ByteArray) (dis : Bool) (pa : Option Addr) (l c : Nat)
    (hp : Puts q (ndC k op n vk vn vs src name dis (.slice pa l c)) 70 w w') (ht : AtB (q + 1) w t' (.agg (ndC k op n vk vn vs src name dis (.slice pa l c)))) : Lmt w0 p q a len cap tt t' w' := by
  have hpq := h.pq
  have hp0 := h.p0
  have hp1 := h.p1
  have hL : Below w0.heap.size w0 w' := keeps_above h.lo hp.keeps (by omega)
  exact ⟨⟨k, op, n, vk, vn, vs, src, name, dis, pa, l, c, hp.at', ht.kept (by rw [hp.size]; exact Nat.le_refl _) (fun k hk1 hk2 => hp.keeps.block k hk2 (by omega))⟩, ⟨(hp.keeps.block _ (lt_of_block h.sm.1) (by omega)).trans h.sm.1, h.ip.keeps (Keeps.of_below hL)⟩, h.tm.keeps hp.keeps (by omega), hL, h.p0, h.p1, h.pq, h.ip⟩
theorem at_leaf (B : Nat) (w : World) (d : Nd) : AtB B w (.node d []) (.agg (d.c nilS)) :=
  .node d [] nilS 0 0 (fun _ => []) ⟨none, 0, rfl, Nat.le_refl _, Nat.zero_le _, fun h => absurd h (Nat.lt_irrefl _)⟩ (fun h => absurd h (Nat.lt_irrefl _)) (fun i h => absurd h (Nat.not_lt_zero _)) (fun i t h => by simp at h)
theorem at_neg (q g : Nat) (w : World) (t : Tr) (cs : Array Value) (hcs : cs.size = 13) (hg : w.heap[g]? = some (.cells cs 70 (0, 0))) (hq : q < g) (ht : AtB (q + 1) w t (.agg cs)) : AtB (q + 1) w (.node negN [t]) (.agg (negN.c (.slice (some ⟨g, 0, none⟩) 1 1))) :=
  .node negN [t] _ g 0 (fun _ => cs.toList) ⟨_, 1, rfl, Nat.le_refl _, (by show (1 : Nat) ≤ 1000000000; decide), fun _ => rfl⟩ (fun _ => ⟨hq, lt_of_block hg⟩) (fun i h => by
    obtain rfl : i = 0 := by simpa using h
    exact ⟨fun j v hv => (cell_of_row _ _ _ _ _ _ hg).trans (by simpa using hv), by simpa using hcs⟩) (fun i t' h => by
    have hi : i < 1 := (List.getElem?_eq_some_iff.1 h).1
    obtain rfl : i = 0 := by omega
    obtain rfl : t = t' := by simpa using h
    simpa using ht)
theorem rep_at (cs : List Value) (hcs : cs.length = 13) (n i j : Nat) (hi : i < n) (hj : j < 13) : (rep n cs)[i * 13 + j]? = cs[j]? := by
  have hs : rep n cs = rep i cs ++ rep (n - i) cs := by rw [← rep_add, Nat.add_sub_cancel' (Nat.le_of_lt hi)]
  have h1 : rep (n - i) cs = cs ++ rep (n - i - 1) cs := by
    obtain ⟨m, hm⟩ : ∃ m, n - i = m + 1 := ⟨n - i - 1, by omega⟩
    rw [hm, Nat.add_sub_cancel, rep, rep, List.replicate_succ, List.flatten_cons]
  rw [hs, List.getElem?_append_right (by rw [rep_len i cs hcs]; omega), rep_len i cs hcs, Nat.add_sub_cancel_left, h1, List.getElem?_append_left (by omega)]
theorem at_in (q g n : Nat) (w0 w : World) (h2 : 1 ≤ n) (hn : n ≤ 2000) (hg : Rp g n n (nullN.c nilS).toList w0 w) (hq : q < g) : AtB (q + 1) w (inT n) (.agg (inN.c (.slice (some ⟨g, 0, none⟩) n n))) := by
  obtain ⟨cur, h, hl, ht, _⟩ := hg
  have hcl : (nullN.c nilS).toList.length = 13 := rfl
  rw [List.take_of_length_le (by omega)] at ht
  rw [inT]
  have hrl : (List.replicate n (Tr.node nullN [])).length = n := by simp
  refine .node inN _ _ g 0 (fun _ => (nullN.c nilS).toList) ⟨_, n, by rw [hrl], by rw [hrl]; exact Nat.le_refl _, by rw [hrl]; omega, fun _ => rfl⟩ (fun _ => ⟨hq, lt_of_block h⟩) (fun i hi => ⟨fun j v hv => ?_, hcl⟩) (fun i t' h => ?_)
  · rw [hrl] at hi
    have hj : j < 13 := (List.getElem?_eq_some_iff.1 hv).1
    refine (cell_of_row _ _ _ _ _ _ h).trans ?_
    rw [Nat.zero_add, List.getElem?_toArray, ht, rep_at _ hcl n i j hi hj, hv]
  · obtain rfl : t' = .node nullN [] := List.eq_of_mem_replicate (List.mem_of_getElem? h)
    exact at_leaf _ _ _
end YtabojeleomfgnaaGreatDoor
end Go.Proofs
namespace Go.Proofs
open Go.RowKit
namespace YtabojeleomfgnaaGreatDoor
set_option maxRecDepth 100000
def rowD (x : List UInt8 × Int × Int × Int × Int) : DataW Unit := .agg [.lit (.string x.1), .lit (.int .i64 x.2.1), .lit (.int .i64 x.2.2.1), .lit (.int .i64 x.2.2.2.1), .lit (.int .i64 x.2.2.2.2)]
theorem opsRows_tab : opsRows = opTab.map rowD := rfl
theorem row_int {w : World} {fuel : Nat} {l : List Value} {n : Int} {q : List MemPlace} {x : DataW Unit} (h : DataW.trod (fun _ => ()) Tryz.prog w 0 (fun _ => true) false fuel 3 l = some (x, q)) (hx : x = .lit (.int .i64 n)) : l[0]? = some (.int .i64 n) := by
  obtain ⟨k, hk, ek, _⟩ := DataW.trod_int Tryz.underlying3 h
  have e := hx.symm.trans (Prod.mk.inj ek).1
  injection e with e
  injection e with _ e
  rw [hk, e]; rfl
theorem tab_row {w : World} {fuel : Nat} {cs : List Value} {p : List MemPlace} (h : DataW.trod (fun _ => ()) Tryz.prog w 0 (fun _ => true) false fuel 226 cs = some (Rows.laid_dumbwaiter_value_operations, p))
    (i : Nat) (hi : i < 28) (b : List UInt8) (c f o r : Int) (hr : opTab[i]? = some (b, c, f, o, r)) :
    cs[i * 5]? = some (.string ⟨b.toArray⟩) ∧ cs[i * 5 + 1]? = some (.int .i64 c) ∧ cs[i * 5 + 2]? = some (.int .i64 f) ∧ cs[i * 5 + 3]? = some (.int .i64 o) ∧ cs[i * 5 + 4]? = some (.int .i64 r) := by
  rw [ops_rows] at h
  obtain ⟨fu, d, q, hd, he⟩ := Lib.array_elem Tryz.underlying226 h i hi
  rw [opsRows_tab, List.getElem?_map, hr] at hd
  obtain rfl := Option.some.inj hd
  rw [cOp] at he
  obtain ⟨xs, m, _, hx, hl, hxl, hf⟩ := DataW.trod_struct Tryz.underlying225 he
  have f0 := hf 0 _ rfl
  have f1 := hf 1 _ rfl
  have f2 := hf 2 _ rfl
  have f3 := hf 3 _ rfl
  have f4 := hf 4 _ rfl
  match xs, hxl with
  | x0 :: x1 :: x2 :: x3 :: x4 :: xr, hxl =>
    simp only [rowD, Prod.mk.injEq, DataW.agg.injEq, List.map_cons, List.cons.injEq] at hx
    obtain ⟨⟨e0, e1, e2, e3, e4, _⟩, _⟩ := hx
    obtain ⟨s, hs, es, _⟩ := DataW.trod_string Tryz.underlying9 f0
    rw [es] at e0
    simp only [DataW.lit.injEq, Lit.string.injEq] at e0
    have g0 := congrArg (·[0]?) hs
    have g1 := row_int f1 e1.symm
    have g2 := row_int f2 e2.symm
    have g3 := row_int f3 e3.symm
    have g4 := row_int f4 e4.symm
    simp [List.getElem?_drop, cStr, cInt] at g0 g1 g2 g3 g4
    have hb : s = ⟨b.toArray⟩ := by rw [e0]
    rw [← hb]
    exact ⟨g0, g1, g2, g3, g4⟩
theorem tb_of_laid {w : World} (hL : laidMet Tryz.prog laidL w) : Tb w := by
  have hv : Lib.VarReads Tryz.prog w "dumbwaiter/value.operations" Rows.laid_dumbwaiter_value_operations := Lib.laidMet.reads hL (.tail _ (.tail _ (.tail _ (.tail _ (.tail _ (.tail _ (.head _)))))))
  obtain ⟨g, t, cs, fuel, p, hg, ht, hvar, hd⟩ := hv
  obtain rfl := Option.some.inj (gOps.symm.trans hg)
  obtain rfl := Option.some.inj (tOps.symm.trans ht)
  have c : ∀ j v, cs.toList[j]? = some v → w.cell? ⟨1, j, none⟩ = some v := fun j v hj => (World.var?_cell hg hvar j).trans (by rw [← Array.getElem?_toList]; exact hj)
  have row : ∀ (i : Nat) (nm : List UInt8) (c f o r : Int), opTab[i]? = some (nm, c, f, o, r) → _ := fun i nm c f o r hr => tab_row hd i (List.getElem?_eq_some_iff.1 hr).1 nm c f o r hr
  refine ⟨fun i nm c1 f o r hr => ?_, block_lt_of_cell (a := ⟨1, 5, none⟩) (c _ _ (row 1 _ _ _ _ _ rfl).1)⟩
  obtain ⟨h1, h2, h3, h4, h5⟩ := row i nm c1 f o r hr
  exact ⟨c _ _ h1, c _ _ h2, c _ _ h3, c _ _ h4, c _ _ h5⟩
end YtabojeleomfgnaaGreatDoor
end Go.Proofs
namespace Go.Proofs
open Go.RowKit
namespace YtabojeleomfgnaaGreatDoor
set_option maxRecDepth 100000
theorem start_lm {w w1 w2 : World} {a : Option Addr} {len cap : Nat} (hI : IntsAt w a len) (hT : Tm w) (h1 : Below (w.heap.size + 1) (w.alloc (.cells #[.slice a len cap, .int .i64 0] 54)) w1)
    (h2 : Puts w1.heap.size (ndC 1 0 0 2 1 ⟨#[]⟩ ⟨#[]⟩ ⟨#[]⟩ false nilS) 70 (w1.alloc (.cells Z13 70)) w2) : Lmt w w.heap.size w1.heap.size a len cap 0 (chainT 0) w2 := by
  have hb0 : Below w.heap.size w (w.alloc (.cells #[.slice a len cap, .int .i64 0] 54)) := (Below.refl _ _).alloc (Nat.le_refl _) _
  have h1' : Below (w.alloc (.cells #[.slice a len cap, .int .i64 0] 54)).heap.size (w.alloc (.cells #[.slice a len cap, .int .i64 0] 54)) w1 := by rw [World.size_alloc]; exact h1
  have hb1 : Below w.heap.size w w1 := below_call hb0 h1'
  have hz : w.heap.size + 1 ≤ w1.heap.size := by have := h1.size; rwa [World.size_alloc] at this
  have hb2 : Below w.heap.size w (w1.alloc (.cells Z13 70)) := hb1.alloc (by omega) _
  have hip : Ip w.heap.size w a len := hI.ip
  have hs : (w1.alloc (.cells Z13 70)).heap[w.heap.size]? = some (.cells #[.slice a len cap, .int .i64 0] 54 (0, 0)) := (heap_alloc_old _ _ (by omega)).trans ((h1.block _ (by omega)).trans (heap_alloc_new w _))
  have L0 : Lmt w w.heap.size w1.heap.size a len cap 0 (.node ⟨0, 0, 0, 0, 0, ⟨#[]⟩, ⟨#[]⟩, ⟨#[]⟩, false⟩ []) (w1.alloc (.cells Z13 70)) :=
    ⟨⟨0, 0, 0, 0, 0, ⟨#[]⟩, ⟨#[]⟩, ⟨#[]⟩, false, none, 0, 0, new_at _ _ _ rfl, at_leaf _ _ ⟨0, 0, 0, 0, 0, ⟨#[]⟩, ⟨#[]⟩, ⟨#[]⟩, false⟩⟩, ⟨hs, hip.keeps (Keeps.of_below hb2)⟩, hT.below hb2, hb2, Nat.le_refl _, hT.tb.lt, by omega, hip⟩
  exact L0.put _ _ _ _ _ _ _ _ _ _ _ _ h2 (at_leaf _ _ oneN)
theorem pick_22 {w0 w : World} {p q : Nat} {a : Option Addr} {len cap tt : Nat} {t : Tr} (h : Lmt w0 p q a len cap tt t w) (ht : tt ≤ 1000) (hl : len ≤ maxLen) :
    Calls Tryz.prog 56 #[.pointer (some ⟨p, 0, none⟩), .slice (some ⟨w.heap.size, 0, none⟩) 4 4] (w.alloc (.cells #[.int .i64 22, .int .i64 23, .int .i64 24, .int .i64 25] 3)) fun e w' => ∃ n : Nat, n ≤ 25 ∧ e = .returned (.int .i64 (n : Int)) ∧ Lmt w0 p q a len cap (tt + 1) t w' := by
  refine (pick_four p a len cap tt 22 ht hl w h.sm).mono ?_
  rintro e w' ⟨⟨n, h1, h2, rfl⟩, hS, hK⟩
  exact ⟨n, h2, rfl, h.draw hS hK⟩
theorem pick_398 {w0 w : World} {p q : Nat} {a : Option Addr} {len cap tt : Nat} {t : Tr} (h : Lmt w0 p q a len cap tt t w) (ht : tt ≤ 1000) (hl : len ≤ maxLen) (cs : Array Value) :
    Calls Tryz.prog 56 #[.pointer (some ⟨p, 0, none⟩), .slice (some ⟨w.heap.size + 1, 0, none⟩) 4 4] ((w.alloc (.cells cs 70)).alloc (.cells #[.int .i64 398, .int .i64 399, .int .i64 400, .int .i64 401] 3)) fun e w' => ∃ n : Nat, 398 ≤ n ∧ n ≤ 401 ∧ e = .returned (.int .i64 (n : Int)) ∧ w'.heap[w.heap.size]? = some (.cells cs 70 (0, 0)) ∧ Lmt w0 p q a len cap (tt + 1) t w' := by
  have hp : p < w.heap.size := lt_of_block h.sm.1
  have h1 : Lmt w0 p q a len cap tt t (w.alloc (.cells cs 70)) := h.below ((Below.refl _ _).alloc (Nat.le_refl _) _)
  have e : (w.alloc (.cells cs 70)).heap.size = w.heap.size + 1 := World.size_alloc _ _
  rw [← e]
  refine (pick_four p a len cap tt 398 ht hl _ h1.sm).mono ?_
  rintro e w' ⟨⟨n, h2, h3, rfl⟩, hS, hK⟩
  exact ⟨n, h2, h3, rfl, (hK.block _ (by rw [World.size_alloc]; omega) (by omega)).trans (heap_alloc_new w _), h1.draw hS hK⟩
/-- in of nulls -/
theorem Lmt.inn {w0 : World} {p q : Nat} {a : Option Addr} {len cap tt g n : Nat} {t : Tr} {w w1 w2 : World} (h : Lmt w0 p q a len cap tt t w) (h1 : 1 ≤ n) (hn : n ≤ 2000) (hr : Rp g n n (nullN.c nilS).toList w w1)
    (hp : Puts q (ndC 6 0 0 0 0 ⟨#[]⟩ ⟨#[]⟩ ⟨#[]⟩ false (.slice (some ⟨g, 0, none⟩) n n)) 70 w1 w2) : Lmt w0 p q a len cap tt (inT n) w2 := by
  obtain ⟨cur, e1, e2, e3, hb, hg⟩ := id hr
  have hq : q < w.heap.size := by obtain ⟨_, _, _, _, _, _, _, _, _, _, _, _, hx, _⟩ := h.bx; exact lt_of_block hx
  exact (h.below hb).put _ _ _ _ _ _ _ _ _ _ _ _ hp (at_in q g n w w1 h1 hn hr (by omega))
theorem flip_lm {w0 w : World} {p q : Nat} {a : Option Addr} {len cap tt : Nat} {t : Tr} (h : Lmt w0 p q a len cap tt t w) (ht : tt ≤ 1000) (hl : len ≤ maxLen) :
    Calls Tryz.prog 76 #[.pointer (some ⟨p, 0, none⟩), .int .i64 2] w fun e w' => ∃ b : Bool, e = .returned (.bool b) ∧ Lmt w0 p q a len cap (tt + 1) t w' := by
  refine (flip_t p a len cap tt ht hl w h.sm).mono ?_
  rintro e w' ⟨⟨b, rfl⟩, hS, hK⟩
  exact ⟨b, rfl, h.draw hS hK⟩
structure Fx (w0 : World) (q : Nat) (cs : Array Value) (t : Tr) (w : World) : Prop where
  bx : w.heap[q]? = some (.cells cs 70 (0, 0))
  at' : At w t (.agg cs)
  tm : Tm w
  lo : Below w0.heap.size w0 w
theorem Fx.below {w0 : World} {q : Nat} {cs : Array Value} {t : Tr} {w w' : World} (h : Fx w0 q cs t w) (hb : Below w.heap.size w w') : Fx w0 q cs t w' :=
  ⟨(hb.block _ (lt_of_block h.bx)).trans h.bx, h.at'.low (Low.of_below hb), h.tm.below hb, below_call h.lo hb⟩
theorem Lmt.fx {w0 : World} {p q : Nat} {a : Option Addr} {len cap tt : Nat} {t : Tr} {w : World} (h : Lmt w0 p q a len cap tt t w) : ∃ (k op n vk vn : Int) (vs src name : ByteArray) (dis : Bool) (pa : Option Addr) (l c : Nat), Fx w0 q (ndC k op n vk vn vs src name dis (.slice pa l c)) t w := by
  obtain ⟨k, op, n, vk, vn, vs, src, name, dis, pa, l, c, h1, h2⟩ := h.bx
  exact ⟨k, op, n, vk, vn, vs, src, name, dis, pa, l, c, h1, h2.base (Nat.zero_le _), h.tm, h.lo⟩
theorem deep_ex : ∃ r1 r2 : ByteArray, (∀ w, Calls Tryz.prog 89 #[.string ⟨#[110, 101, 103, 40]⟩, .int .i64 30] w fun e w' => e = .returned (.string r1) ∧ Below w.heap.size w w') ∧
    (∀ w, Calls Tryz.prog 89 #[.string ⟨#[41]⟩, .int .i64 30] w fun e w' => e = .returned (.string r2) ∧ Below w.heap.size w w') ∧ r1 ++ ⟨#[49]⟩ ++ r2 = B (nt 30) ∧ r1.size = 120 ∧ r2.size = 30 :=
  ⟨_, _, fun w => Tryz.strings_Repeat ⟨#[110, 101, 103, 40]⟩ 30 w (by decide) (by decide), fun w => Tryz.strings_Repeat ⟨#[41]⟩ 30 w (by decide) (by decide), by kernel_rfl, by kernel_rfl, by kernel_rfl⟩
/-- the next level -/
theorem Lmt.neg {w0 : World} {p q : Nat} {a : Option Addr} {len cap tt m : Nat} {w w1 w2 : World} (h : Lmt w0 p q a len cap tt (chainT m) w) {k op n vk vn : Int} {vs src name : ByteArray} {dis : Bool} {pa : Option Addr} {l c : Nat}
    (hx : w.heap[q]? = some (.cells (ndC k op n vk vn vs src name dis (.slice pa l c)) 70 (0, 0))) (ha : AtB (q + 1) w (chainT m) (.agg (ndC k op n vk vn vs src name dis (.slice pa l c))))
    (hb : Below (w.alloc (.cells (ndC k op n vk vn vs src name dis (.slice pa l c)) 70)).heap.size (w.alloc (.cells (ndC k op n vk vn vs src name dis (.slice pa l c)) 70)) w1)
    (hp : Puts q (ndC 4 17 0 0 0 ⟨#[]⟩ ⟨#[]⟩ ⟨#[]⟩ false (.slice (some ⟨w.heap.size, 0, none⟩) 1 1)) 70 w1 w2) : Lmt w0 p q a len cap tt (chainT (m + 1)) w2 := by
  have h0 : Below w.heap.size w (w.alloc (.cells (ndC k op n vk vn vs src name dis (.slice pa l c)) 70)) := (Below.refl _ _).alloc (Nat.le_refl _) _
  have h1 : Below w.heap.size w w1 := below_call h0 hb
  have hg : w1.heap[w.heap.size]? = some (.cells (ndC k op n vk vn vs src name dis (.slice pa l c)) 70 (0, 0)) := (hb.block _ (by simp)).trans (heap_alloc_new w _)
  have ha1 : AtB (q + 1) w1 (chainT m) (.agg (ndC k op n vk vn vs src name dis (.slice pa l c))) := ha.low (Low.of_below h1)
  exact (h.below h1).put _ _ _ _ _ _ _ _ _ _ _ _ hp (at_neg q _ w1 (chainT m) _ rfl hg (lt_of_block hx) ha1)
set_option maxHeartbeats 8000000 in
theorem law_limits (a : Option Addr) (len cap : Nat) (hl : len ≤ maxLen) (w : World) (hI : IntsAt w a len) (ho : Ops w) (hT : Tm w) :
    Calls Tryz.prog 16 #[.slice a len cap] w fun e w' => e = .returned (.bool true) ∧ Below w.heap.size w w' := by
  have HI := Lib.hid hI
  have HO := Lib.hid ho
  have HL := Lib.hid hl
  have HT := Lib.hid hT
  clear hI ho hl hT
  obtain ⟨r1, r2, hra, hrb, hrT, hz1, hz2⟩ := deep_ex
  have RA := Lib.hid hra
  have RB := Lib.hid hrb
  have RT := Lib.hid hrT
  clear hra hrb hrT
  go_enter Tryz.func16, Tryz.ntmps16
  go_wp2_with fail
  refine (const_t 2 1 ⟨#[]⟩ _).mono ?_
  rintro e w1 ⟨rfl, hb1⟩
  have LB : Hid (Below (w.heap.size + 1) (w.alloc (.cells #[.slice a len cap, .int .i64 0] 54)) w1) := Lib.hid (by simpa using hb1)
  have HB : Hid ((w1.alloc (.cells Z13 70)).heap[w1.heap.size]? = some (.cells Z13 70 (0, 0))) := Lib.hid (new_at _ _ _ rfl)
  clear hb1
  go_wp2_with (refine store_expr rfl (.tmp 4) (.tmp 20) rfl w1.heap.size (ndC 1 0 0 2 1 ⟨#[]⟩ ⟨#[]⟩ ⟨#[]⟩ false nilS) rfl rfl Z13 HB.out rfl rfl (by simp [Value.oneCell']) ?_; intro w2 hp2; have L2 := Lib.hid (start_lm HI.out HT.out LB.out hp2); clear hp2)
  refine (pick_22 L2.out (by omega) HL.out).mono ?_
  rintro e w3 ⟨n, hn, rfl, h3⟩
  have L3 := Lib.hid h3
  clear h3 L2 HB LB HI HT
  generalize w1.heap.size = q at *
  go_wp2_with fail
  go_loopw [24] (fun i wr => ∃ u : Nat, u ≤ n ∧ i = .int .i64 (u : Int) ∧ Hid (Lmt w w.heap.size q a len cap 1 (chainT u) wr)) (fun i _ => n - (intOf i).toNat)
  case atStart => exact ⟨0, Nat.zero_le _, rfl, L3⟩
  case round =>
    obtain ⟨u, hu, rfl, hM⟩ := hrel
    by_cases hlt : u < n
    · have hlt' : (u : Int) < n := by omega
      obtain ⟨k, op, n', vk, vn, vs, src, name, dis, pa, l, c, hx, ha⟩ := hM.out.bx
      have HX := Lib.hid hx
      have HA := Lib.hid ha
      clear hx ha
      go_wp2_with (refine load_expr rfl (.tmp 4) rfl q _ rfl HX.out rfl ?_)
      refine (oper_t 17 _ 1 1 _).mono ?_
      rintro e w4 ⟨rfl, hb4⟩
      have HB4 := Lib.hid hb4
      have HX4 : Hid (w4.heap[q]? = some (.cells (ndC k op n' vk vn vs src name dis (.slice pa l c)) 70 (0, 0))) := Lib.hid ((hb4.block _ (Nat.lt_of_lt_of_le (lt_of_block HX.out) (by simp))).trans ((heap_alloc_old _ _ (lt_of_block HX.out)).trans HX.out))
      clear hb4
      go_wp2_with (refine store_expr rfl (.tmp 4) (.tmp 28) rfl q _ rfl rfl _ HX4.out rfl rfl (by simp [Value.oneCell']) ?_; intro w5 hp5; have L5 := Lib.hid (hM.out.neg HX.out HA.out HB4.out hp5); clear hp5)
      go_roundw
      case rel => exact ⟨u + 1, by omega, by go_num, L5⟩
      case measure => simp [intOf]; omega
    · obtain rfl : u = n := by omega
      clear hlt L3
      go_wp2_with fail
      refine (flip_lm hM.out (by omega) HL.out).mono ?_
      rintro e w4 ⟨b, rfl, h4⟩
      have L4 := Lib.hid h4
      clear h4 hM
      cases b with
      | false =>
        obtain ⟨k, op, n', vk, vn, vs, src, name, dis, pa, l, c, hF⟩ := L4.out.fx; have F := Lib.hid hF; clear hF
        have GD : Hid (Good (chainT u)) := Lib.hid good_chain u (by omega)
        obtain ⟨T, S, _, HC⟩ := GD.out
        have HC := Lib.hid HC
        clear GD
        go_wp2_with (refine load_expr rfl (.tmp 4) rfl q _ rfl F.out.bx rfl ?_)
        refine ((HC.out _ _ F.out.tm.tb F.out.at').1).mono ?_
        rintro e wa ⟨⟨ka, rfl⟩, hb⟩
        have F1 := Lib.hid (F.out.below hb)
        clear hb F
        go_wp2_with (refine load_expr rfl (.tmp 4) rfl q _ rfl F1.out.bx rfl ?_)
        refine ((HC.out _ _ F1.out.tm.tb F1.out.at').2.1).mono ?_
        rintro e wb ⟨⟨kb, rfl⟩, hb⟩
        have F2 := Lib.hid (F1.out.below hb)
        clear hb F1
        go_wp2_with (refine load_expr rfl (.tmp 4) rfl q _ rfl F2.out.bx rfl ?_)
        refine ((HC.out _ _ F2.out.tm.tb F2.out.at').2.2.1).mono ?_
        rintro e wc ⟨rfl, hb⟩
        have F3 := Lib.hid (F2.out.below hb)
        clear hb F2
        go_wp2_with (refine load_expr rfl (.tmp 4) rfl q _ rfl F3.out.bx rfl ?_)
        refine ((HC.out _ _ F3.out.tm.tb F3.out.at').2.2.2).mono ?_
        rintro e wd ⟨rfl, hb⟩
        have F4 := Lib.hid (F3.out.below hb)
        clear hb F3 HC
        go_wp2_with fail
        refine (RA.out _).mono ?_
        rintro e we ⟨rfl, hb⟩
        have F5 := Lib.hid (F4.out.below hb)
        clear hb F4
        go_wp2_with fail
        refine (RB.out _).mono ?_
        rintro e wf ⟨rfl, hb⟩
        have F6 := Lib.hid (F5.out.below hb)
        clear hb F5
        go_wp2_with fail
        rw [RT.out]
        refine (exprRead_big 30 (by omega) (by omega) _ F6.out.tm).mono ?_
        rintro e wg ⟨rfl, hb⟩
        have F7 := Lib.hid (F6.out.below hb)
        clear hb F6
        have HZ : Hid ((wg.alloc (.cells Z13 70)).heap[wg.heap.size]? = some (.cells Z13 70 (0, 0))) := Lib.hid (new_at _ _ _ rfl)
        have LZ : Hid (Below w.heap.size w (wg.alloc (.cells Z13 70))) := Lib.hid (F7.out.lo.alloc F7.out.lo.size _)
        go_wp2_with (refine store_expr rfl (.tmp 14) (.tmp 67) rfl wg.heap.size Z13 rfl rfl Z13 HZ.out rfl rfl (by simp [Value.oneCell']) ?_; intro wh hph; have F8 := Lib.hid (hph.below LZ.out F7.out.lo.size); clear hph)
        clear HZ LZ F7
        refine (values_true wh (HO.out.below F8.out)).mono ?_
        rintro e wi ⟨rfl, hb⟩
        have F9 := Lib.hid (below_call F8.out hb)
        clear hb F8
        go_wp2_with fail
        go_ret
        exact ⟨by simp, F9.out⟩
      | true =>
        go_wp2_with fail
        refine (const_t 0 0 ⟨#[]⟩ _).mono ?_
        rintro e w5 ⟨rfl, hb5⟩
        have L5 := Lib.hid (L4.out.below hb5)
        clear hb5 L4
        go_wp2_with fail
        refine (pick_398 L5.out (by omega) HL.out _).mono ?_
        rintro e w6 ⟨m, hm1, hm2, rfl, hg6, h6⟩
        have L6 := Lib.hid h6
        have G6 : Hid (w5.heap.size < w6.heap.size) := Lib.hid (lt_of_block hg6)
        have R6 : Hid (w6.rangeAt w5.heap.size 0 (nullN.c nilS).toList) := Lib.hid (fun j v hv => (cell_of_row _ _ _ _ _ _ hg6).trans (by simpa [Nd.c, nullN] using hv))
        clear hg6 h6 L5
        go_wp2_with fail
        refine (repeat_t w5.heap.size (nullN.c nilS).toList rfl (by simp [Nd.c, nullN, Value.oneCell']) m (by omega) (by omega) w6 G6.out R6.out).mono ?_
        rintro e w7 ⟨g, rfl, h7⟩
        have R7 := Lib.hid h7
        have X7 : Hid (∃ old : Array Value, w7.heap[q]? = some (.cells old 70 (0, 0)) ∧ old.size = 13) := Lib.hid (by
          obtain ⟨cur, _, _, _, hb, _⟩ := h7
          obtain ⟨_, _, _, _, _, _, _, _, _, _, _, _, hx, _⟩ := (L6.out.below hb).bx
          exact ⟨_, hx, rfl⟩)
        clear h7 G6 R6
        obtain ⟨old, ho1, ho2⟩ := X7.out
        have HO1 := Lib.hid ho1
        have HO2 := Lib.hid ho2
        clear ho1 ho2 X7
        have GD : Hid (Good (inT m)) := Lib.hid good_inT m (by omega) (by omega)
        obtain ⟨T, S, _, HC⟩ := GD.out
        have HC := Lib.hid HC
        clear GD
        go_wp2_with (first | (refine store_expr rfl (.tmp 4) (.tmp 39) rfl q _ rfl rfl old HO1.out rfl HO2.out (by simp [Value.oneCell']) ?_; intro w8 hp8; have L8 := Lib.hid (L6.out.inn (by omega) (by omega) R7.out hp8); clear hp8; obtain ⟨k, op, n', vk, vn, vs, src, name, dis, pa, l, c, hF⟩ := L8.out.fx; have F := Lib.hid hF; clear hF) | (refine load_expr rfl (.tmp 4) rfl q _ rfl F.out.bx rfl ?_))
        refine ((HC.out _ _ F.out.tm.tb F.out.at').1).mono ?_
        rintro e wa ⟨⟨ka, rfl⟩, hb⟩
        have F1 := Lib.hid (F.out.below hb)
        clear hb F
        go_wp2_with (refine load_expr rfl (.tmp 4) rfl q _ rfl F1.out.bx rfl ?_)
        refine ((HC.out _ _ F1.out.tm.tb F1.out.at').2.1).mono ?_
        rintro e wb ⟨⟨kb, rfl⟩, hb⟩
        have F2 := Lib.hid (F1.out.below hb)
        clear hb F1
        go_wp2_with (refine load_expr rfl (.tmp 4) rfl q _ rfl F2.out.bx rfl ?_)
        refine ((HC.out _ _ F2.out.tm.tb F2.out.at').2.2.1).mono ?_
        rintro e wc ⟨rfl, hb⟩
        have F3 := Lib.hid (F2.out.below hb)
        clear hb F2
        go_wp2_with (refine load_expr rfl (.tmp 4) rfl q _ rfl F3.out.bx rfl ?_)
        refine ((HC.out _ _ F3.out.tm.tb F3.out.at').2.2.2).mono ?_
        rintro e wd ⟨rfl, hb⟩
        have F4 := Lib.hid (F3.out.below hb)
        clear hb F3 HC
        go_wp2_with fail
        refine (RA.out _).mono ?_
        rintro e we ⟨rfl, hb⟩
        have F5 := Lib.hid (F4.out.below hb)
        clear hb F4
        go_wp2_with fail
        refine (RB.out _).mono ?_
        rintro e wf ⟨rfl, hb⟩
        have F6 := Lib.hid (F5.out.below hb)
        clear hb F5
        go_wp2_with fail
        rw [RT.out]
        refine (exprRead_big 30 (by omega) (by omega) _ F6.out.tm).mono ?_
        rintro e wg ⟨rfl, hb⟩
        have F7 := Lib.hid (F6.out.below hb)
        clear hb F6
        have HZ : Hid ((wg.alloc (.cells Z13 70)).heap[wg.heap.size]? = some (.cells Z13 70 (0, 0))) := Lib.hid (new_at _ _ _ rfl)
        have LZ : Hid (Below w.heap.size w (wg.alloc (.cells Z13 70))) := Lib.hid (F7.out.lo.alloc F7.out.lo.size _)
        go_wp2_with (refine store_expr rfl (.tmp 14) (.tmp 67) rfl wg.heap.size Z13 rfl rfl Z13 HZ.out rfl rfl (by simp [Value.oneCell']) ?_; intro wh hph; have F8 := Lib.hid (hph.below LZ.out F7.out.lo.size); clear hph)
        clear HZ LZ F7
        refine (values_true wh (HO.out.below F8.out)).mono ?_
        rintro e wi ⟨rfl, hb⟩
        have F9 := Lib.hid (below_call F8.out hb)
        clear hb F8
        go_wp2_with fail
        go_ret
        exact ⟨by simp, F9.out⟩
end YtabojeleomfgnaaGreatDoor
end Go.Proofs
namespace Go.Proofs
open Go.RowKit
namespace YtabojeleomfgnaaGreatDoor
open Go.ChangeShapes Go.WideShapes Go.ChangeAt
set_option maxRecDepth 100000 in
theorem scalarLimits_lifted (os : Os) (started : os.Started) (H : Type) (enc : TypeId × Value → H) :
    ReturnsInHanded {} Tryz.checked os 16 .any (fun w args => (Rows.scalarLimitsSpec.pre enc Tryz.prog Tryz.f16 [] false w args ∧ laidMetH Tryz.prog laidL w) ∧ sizedMet enc Tryz.prog Tryz.f16 (OpenSpec.ofChange Rows.scalarLimitsSpec) false w args)
      (Rows.scalarLimitsSpec.post enc Tryz.prog Tryz.f16 false true false false) := by
  refine change_and_shaped (C := Tryz.checked) (X := fun w _ => laidMetH Tryz.prog laidL w) (fun _ _ _ hh h => h.of_heap hh) own started (by kernel_rfl) Tryz.func16
    (ChangeSpec.witness_shaped (enc := enc) (C := Tryz.checked) (os := os) (X := fun w _ => laidMetH Tryz.prog laidL w) false (World.laidAll Tryz.prog os laidL) #[.slice none 0 0] 8 (World.laidAll_os _ _ _)
      (start_shaped os _) (by kernel_rfl) (by kernel_rfl) (by kernel_rfl) (start_met os _)) ?_
  intro W base args ds gs before hval0 hW hsz hL hsh
  have hval : ∀ (j : Nat) t v, Tryz.f16.params[j]? = some t → args[j]? = some v → Value.okWide Tryz.prog W .any base t v := hval0
  have hW' := hW
  obtain ⟨p, q, hA0, hV, rfl, _, _⟩ := hW
  have hA : DataW.TrodAll enc Tryz.prog W 0 (fun _ => true) true Tryz.f16.params.toList args.toList ds p := hA0
  rw [Tryz.params16] at hA hval
  obtain ⟨v0, d0, rfl, rfl, h0⟩ := trodAll_one hA
  obtain ⟨rfl, rfl⟩ := trodVars_none hV
  obtain ⟨a0, l0, c0, rfl, hl0, hI0⟩ := open_intlist (hval 0 51 v0 rfl rfl) h0
  simp only [List.append_nil] at hW'
  have hops : Ops W := ops_of_laid ((laid_plain W).mp hL) hsh
  refine (law_limits a0 l0 c0 hl0 W hI0 hops ⟨tb_of_laid ((laid_plain W).mp hL), hops.maxlen⟩).mono fun e W' ⟨he, hb⟩ => ?_
  subst he
  exact ⟨_, rfl, _, _, _, [], _, [], hW', trodAll_mk1 (shut_bool Tryz.underlying4 _), trodAll_mk1 (hb.trod KP.laidOut readable51 row51 h0 (fun x hx => hA.lt x (by simp [hx]))), rfl, hb.frame _, fun h => by cases h⟩
set_option maxRecDepth 100000 in
theorem closed016 : joinedFacts Tryz.prog 16 Tryz.f16 Rows.scalarLimitsSpec Rows.scalarLimitsRow = true := by
  unfold joinedFacts
  exact (KP.and_t (KP.and_t (KP.and_t (KP.and_t (KP.and_t (KP.and_t (KP.and_t (KP.and_t (KP.and_t (KP.and_t (KP.and_t (KP.and_t (KP.and_t (KP.and_t (KP.and_t (KP.and_t (KP.and_t (KP.and_t (KP.and_t (KP.and_t (KP.and_t (KP.and_t (KP.and_t (KP.and_t (KP.and_t (KP.and_t (KP.and_t (KP.and_t (KP.and_t (KP.and_t (KP.and_t KscalarLimits.x0 KP.laidOut) KP.mapsRowed) KscalarLimits.x1) KscalarLimits.x2) KscalarLimits.x3) KP.noStops) KscalarLimits.x4) KP.noKnobs) KscalarLimits.x5) KscalarLimits.x6) KscalarLimits.x7) KscalarLimits.x8) KscalarLimits.x9) KscalarLimits.x10) KscalarLimits.x11) KscalarLimits.x12) KscalarLimits.x13) KscalarLimits.x14) KscalarLimits.x15) KscalarLimits.x16) KscalarLimits.x17) KscalarLimits.x18) KscalarLimits.x19) KP.heard) KP.enters) KscalarLimits.x20) KscalarLimits.x21) KscalarLimits.x22) KscalarLimits.x23) KscalarLimits.x24) KscalarLimits.x25)
theorem scalarLimits_closed : joinedFacts Tryz.pinned.checked.prog 16 Tryz.f16 Rows.scalarLimitsSpec Rows.scalarLimitsRow = true := closed016
theorem scalarLimits_said : Rows.ScalarLimitsSaid :=
  OpenClaim.holds_of_wide 16 Tryz.f16 rfl rfl rfl rfl rfl rfl rfl ⟨rfl, rfl, rfl, rfl, rfl⟩ rfl rfl rfl rfl rfl KscalarLimits.named Tryz.func16 scalarLimits_closed KscalarLimits.inst KscalarLimits.wrap
    (fun os started H enc _ => scalarLimits_lifted os started H enc)
theorem scalarLimits_card : Rows.ScalarLimitsCardSaid :=
  Claim7.holds_tied_plain_at .later [] [.data, .data, .data, .data, .sentinel, .sentinel, .data, .pinned, .pinned] true (true, "638d87437fe1456012d0652be4c865f3dad8114ca81620598ab648150333acef") true
    scalarLimits_said (fun _ h => by cases h) KscalarLimits.byText (fun _ h => by cases h) scalarLimits_row_tie rfl ⟨rfl, rfl⟩ KP.mains rfl
    (fun f fn hf hfn => by
      obtain rfl : f = 16 := (Option.some.inj (KscalarLimits.named.symm.trans hf)).symm
      obtain rfl : fn = Tryz.f16 := (Option.some.inj (Tryz.func16.symm.trans hfn)).symm
      exact ⟨KP.looksAt, KscalarLimits.alone⟩)
    KscalarLimits.goes
#print axioms scalarLimits_card
end YtabojeleomfgnaaGreatDoor
end Go.Proofs
