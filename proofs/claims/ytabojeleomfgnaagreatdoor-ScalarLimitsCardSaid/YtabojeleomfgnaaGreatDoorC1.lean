/- The text of 5 is read. -/
import Derived.Test.YtabojeleomfgnaaGreatDoorB1
import Derived.Laws.Tables
import Derived.Laws.Rows
namespace Go.Proofs
open Go.RowKit
namespace YtabojeleomfgnaaGreatDoor
theorem lt_after {W w1 : World} {b : Nat} (hb : Below W.heap.size W w1) (h : b < W.heap.size) : b < w1.heap.size := Nat.lt_of_lt_of_le h hb.size
abbrev S5 : ByteArray := ⟨#[53]⟩
set_option maxRecDepth 100000 in
theorem atoi5 (w : World) : Calls Tryz.prog 178 #[.string S5] w fun e w' => e = .returned (.tuple #[.int .i64 5, .nilIface]) ∧ Below w.heap.size w w' := by
  have e0 : ((S5[0]).toNat : Int) = 53 := rfl
  have hcv := Lib.run_convert_string_bytes (P := Tryz.prog) w 9 32 5 S5 Tryz.underlying9 Tryz.underlying32 Tryz.underlying5
  have hB : (Lib.bytesWorld w 5 S5).cell? ⟨w.heap.size, 0, none⟩ = some (.int .u8 53) := Lib.bytesWorld_cell w 5 S5 0 (by decide)
  have hb : Below w.heap.size w (Lib.bytesWorld w 5 S5) := below_bytes w 5 S5
  obtain ⟨W1, hW1⟩ : ∃ W1, W1 = Lib.bytesWorld w 5 S5 := ⟨_, rfl⟩
  rw [← hW1] at hcv hB hb
  clear hW1
  go_enter Tryz.func178, Tryz.ntmps178
  go_wp2
  go_rounds 3
  go_ret2
  exact ⟨rfl, hb⟩
theorem itoa5 (w : World) : Calls Tryz.prog 107 #[.int .i64 5] w fun e w' => e = .returned (.string S5) ∧ Below w.heap.size w w' := by
  go_enter Tryz.func107, Tryz.ntmps107
  go_wp2
  go_ret
  exact ⟨rfl, by go_grown⟩
abbrev nullV : Value := val 0 0 ⟨#[]⟩
abbrev nilS : Value := .slice none 0 0
/-- an expression, its thirteen cells: Kind, Op, N, the Value's three, Source, Name, Distinct, Args, Sub, Group, Order -/
abbrev exprV (k op n vk vn : Int) (vs src name : ByteArray) (args : Value) : Value :=
  .agg #[.int .i64 k, .int .i64 op, .int .i64 n, .int .i64 vk, .int .i64 vn, .string vs, .string src, .string name, .bool false, args, nilS, nilS, nilS]
theorem show5 (w : World) : Calls Tryz.prog 34 #[val 2 5 ⟨#[]⟩] w fun e w' => e = .returned (.string S5) ∧ Below w.heap.size w w' := by
  go_enter Tryz.func34, Tryz.ntmps34
  go_wp2
  go_ret
  exact ⟨rfl, by go_grown⟩
def hpB (s t : ByteArray) : Bool := t.data.toList.isPrefixOf s.data.toList
theorem hp_short (s t : ByteArray) (h : s.size < t.size) : hpB s t = false := by
  unfold hpB
  rw [Bool.eq_false_iff]
  intro hh
  have := List.IsPrefix.length_le (List.isPrefixOf_iff_prefix.1 hh)
  simp at this; omega
theorem hp_long (s t : ByteArray) : ((s.extract 0 t.size).toList == t.toList) = hpB s t := by
  unfold hpB
  rw [ByteArray.toList_eq, ByteArray.toList_eq, Bool.eq_iff_iff, beq_iff_eq, List.isPrefixOf_iff_prefix, List.prefix_iff_eq_take]
  have e : (s.extract 0 t.size).data.toList = s.data.toList.take t.data.toList.length := by simp [ByteArray.data_extract]
  rw [e]
  exact eq_comm
theorem hasPrefix_any (s t : ByteArray) (w : World) : Calls Tryz.prog 168 #[.string s, .string t] w fun e w' => e = .returned (.bool (hpB s t)) ∧ w = w' := by
  by_cases h : s.size < t.size
  · have h2 := Lib.hid (hp_short s t h)
    go_enter Tryz.func168, Tryz.ntmps168
    go_wp2
    go_ret
    exact ⟨ret_bool h2.out.symm, rfl⟩
  · have h2 := Lib.hid (hp_long s t)
    have h3 : t.size ≤ s.size := by omega
    go_enter Tryz.func168, Tryz.ntmps168
    go_wp2
    go_ret
    exact ⟨ret_bool h2.out, rfl⟩
theorem number_any (k n : Int) (w : World) : Calls Tryz.prog 123 #[.int .i64 k, .int .i64 n] w fun e w' => e = .returned (cl k n ⟨#[]⟩) ∧ Below w.heap.size w w' := by
  go_enter Tryz.func123, Tryz.ntmps123
  go_wp2_with fail
  refine (clean_any _ _ _ (Nat.zero_le _) _).mono ?_
  rintro e w1 ⟨rfl, hb1⟩
  obtain ⟨hc1, hf1⟩ := bcell hb1
  have hz1_0 : w.heap.size < w1.heap.size := by have := hb1.size; (try simp at this); omega
  cases hr : rightB k n ⟨#[]⟩ with
  | true =>
    have hv := Lib.hid (cl_val _ _ _ hr)
    rw [cl_val _ _ _ hr]
    go_wp2
    exact bodyPost_ret (v := val k n ⟨#[]⟩) (by simp [results, Tryz.results123, go_sem, hc1]; try rfl) rfl ⟨by rw [hv.out], by go_grown; exact (below_call (by go_grown) hb1)⟩
  | false =>
    have hv := Lib.hid (cl_no _ _ _ hr)
    rw [cl_no _ _ _ hr]
    go_wp2
    exact bodyPost_ret (v := val 0 0 ⟨#[]⟩) (by simp [results, Tryz.results123, go_sem, hc1]; try rfl) rfl ⟨by rw [hv.out]; rfl, by go_grown; exact (below_call (by go_grown) hb1)⟩
theorem r25 : cl 2 5 ⟨#[]⟩ = val 2 5 ⟨#[]⟩ := cl_val _ _ _ (by simp [rightB, formedB, inRangeB, inB, ByteArray.toList_eq]; exact Nat.zero_le _)
theorem guess5 (w : World) : Calls Tryz.prog 104 #[.string S5] w fun e w' => e = .returned (val 2 5 ⟨#[]⟩) ∧ Below w.heap.size w w' := by
  have n1 : (S5.toList == [110, 117, 108, 108]) = false := by simp [ByteArray.toList_eq]
  have n2 : (S5.toList == [116, 114, 117, 101]) = false := by simp [ByteArray.toList_eq]
  have n3 : (S5.toList == [102, 97, 108, 115, 101]) = false := by simp [ByteArray.toList_eq]
  have p1 : Hid (hpB S5 ⟨#[39]⟩ = false) := Lib.hid (by decide)
  have p2 : Hid (hpB S5 ⟨#[64]⟩ = false) := Lib.hid (by decide)
  go_enter Tryz.func104, Tryz.ntmps104
  go_wp2_with (first | (go_at_call 168; refine (hasPrefix_any _ _ _).mono ?_; rintro e w8 ⟨rfl, rfl⟩; simp only [p1.out, p2.out]) | (go_at_call 178; refine (atoi5 _).mono ?_; rintro e w1 ⟨rfl, hb1⟩; obtain ⟨hc1, hf1⟩ := bcell hb1; have hz1 : w.heap.size < w1.heap.size := by { have := hb1.size; (try simp at this); omega }) | (go_at_call 123; refine (number_any _ _ _).mono ?_; rw [r25]; rintro e w2 ⟨rfl, hb2⟩; obtain ⟨hc2, hf2⟩ := bcell hb2; have hz2 : w.heap.size < w2.heap.size := by { have := hb2.size; (try simp at this); omega }))
  exact bodyPost_ret (v := val 2 5 ⟨#[]⟩) (by simp [results, Tryz.results104, go_sem, hc1, hz1, hc2]; try rfl) rfl ⟨rfl, by go_grown; exact (below_call (below_call (by go_grown) hb1) hb2)⟩
theorem read5 (w : World) : Calls Tryz.prog 32 #[.string S5] w fun e w' => e = .returned (.tuple #[val 2 5 ⟨#[]⟩, .int .i64 0]) ∧ Below w.heap.size w w' := by
  go_enter Tryz.func32, Tryz.ntmps32
  go_wp2_with fail
  refine (guess5 _).mono ?_
  rintro e w1 ⟨rfl, hb1⟩
  obtain ⟨hc1, hf1⟩ := bcell hb1
  have hz1_0 : w.heap.size < w1.heap.size := lt_after hb1 (by (try simp only [World.size_alloc]); repeat (first | (with_reducible assumption) | exact Nat.lt_add_one _ | apply Nat.lt_add_one_of_lt))
  go_wp2_with fail
  refine (show5 _).mono ?_
  rintro e w2 ⟨rfl, hb2⟩
  obtain ⟨hc2, hf2⟩ := bcell hb2
  have hz2_0 : w.heap.size < w2.heap.size := lt_after hb2 (by (try simp only [World.size_alloc]); repeat (first | (with_reducible assumption) | exact Nat.lt_add_one _ | apply Nat.lt_add_one_of_lt))
  have hz2_1 : w1.heap.size < w2.heap.size := lt_after hb2 (by (try simp only [World.size_alloc]); repeat (first | (with_reducible assumption) | exact Nat.lt_add_one _ | apply Nat.lt_add_one_of_lt))
  have hy2_0 : w.heap.size < w1.heap.size + 1 := by (try simp only [World.size_alloc, World.size_setCell, World.size_drew]); repeat (first | (with_reducible assumption) | exact Nat.lt_add_one _ | apply Nat.lt_add_one_of_lt)
  go_wp2
  exact bodyPost_ret (v := .tuple #[val 2 5 ⟨#[]⟩, .int .i64 0]) (by simp [results, Tryz.results32, go_sem, hc1, hz1_0, hc2, hy2_0]; try rfl) rfl ⟨rfl, (by go_grown; refine below_call ?_ hb2; go_grown; refine below_call ?_ hb1; go_grown)⟩
/-- the thirteen cells of an expression -/
abbrev exprC (k op n vk vn : Int) (vs src name : ByteArray) (args : Value) : Array Value :=
  #[.int .i64 k, .int .i64 op, .int .i64 n, .int .i64 vk, .int .i64 vn, .string vs, .string src, .string name, .bool false, args, nilS, nilS, nilS]
theorem size70 : (Tryz.prog.info? 70).map (·.size) = some 13 := by kernel_rfl
/-- one block written, all else kept -/
structure Puts (g : Nat) (cells : Array Value) (t : TypeId) (w w' : World) : Prop where
  at' : w'.heap[g]? = some (.cells cells t (0, 0))
  keeps : Keeps g w w'
  size : w'.heap.size = w.heap.size
theorem puts_setRow {w : World} {g : Nat} {old cells : Array Value} {t : TypeId} (hg : w.heap[g]? = some (.cells old t (0, 0))) : Puts g cells t w (w.setRow g cells) :=
  ⟨setRow_heap w g old cells t (0, 0) hg, ⟨rfl, rfl, rfl, by simp, fun k _ hk => setRow_other w g k cells hk⟩, by simp⟩
theorem store_expr {ops : Array Oper} {rest : List Oper} {o : Oper} {a : Act} {w : World} {Q : Exit → Act → World → Prop} (hgd : o.guard = none) (x y : Operand) (ho : o.op = .store 70 x y)
    (g : Nat) (cells : Array Value) (hx : a.eval x = .pointer (some ⟨g, 0, none⟩)) (hy : a.eval y = .agg cells) (old : Array Value) (hg : w.heap[g]? = some (.cells old 70 (0, 0))) (hc : cells.size = 13)
    (hold : old.size = 13) (h1 : cells.all (·.oneCell') = true)
    (h : ∀ w', Puts g cells 70 w w' → wpList Tryz.prog ops Q rest (a.put o.dst undef) w') : wpList Tryz.prog ops Q (o :: rest) a w :=
  wpList_store_row hgd 70 x y ho g cells hx hy 70 old hg (by rw [hc]; exact size70) (by rw [hc]; exact hold) h1 (h _ (puts_setRow hg))
theorem Puts.below {g : Nat} {cells : Array Value} {t : TypeId} {w0 w w' : World} (h : Puts g cells t w w') (hb : Below w0.heap.size w0 w) (hg : w0.heap.size ≤ g) : Below w0.heap.size w0 w' :=
  ⟨h.keeps.os.trans hb.os, h.keeps.tape.trans hb.tape, h.keeps.output.trans hb.output, by rw [h.size]; exact hb.size, fun k hk => (h.keeps.block k (Nat.lt_of_lt_of_le hk hb.size) (by omega)).trans (hb.block k hk)⟩
theorem results_expr_bool {fn : Func} {p q : Tmp} (h : fn.results = #[.cell p 70, .tmp q]) (tmps : Array Value) (w : World) (g : Nat) (cs : Array Value)
    (hp : tmps.getD p undef = .pointer (some ⟨g, 0, none⟩)) (hg : w.heap[g]? = some (.cells cs 70 (0, 0))) (hc : cs.size = 13) :
    (results fn tmps).run Tryz.prog w = .ok (.tuple #[.agg cs, tmps.getD q undef]) w := by
  have hp' : tmps[p]?.getD undef = .pointer (some ⟨g, 0, none⟩) := by simpa using hp
  have hl := run_loadVar_row (P := Tryz.prog) w g 70 70 cs (0, 0) _ hg Tryz.underlying70 rfl (by rw [hc]; exact size70)
  simp [results, h, hp', asAddr, hl]
set_option maxHeartbeats 400000 in
theorem literal5 (w : World) : Calls Tryz.prog 267 #[.string S5] w fun e w' => e = .returned (.tuple #[exprV 1 0 0 2 5 ⟨#[]⟩ ⟨#[]⟩ ⟨#[]⟩ nilS, .bool true]) ∧ Below w.heap.size w w' := by
  go_enter Tryz.func267, Tryz.ntmps267
  go_wp2_with fail
  refine (read5 _).mono ?_
  rintro e w1 ⟨rfl, hb1⟩
  have hB : w1.heap[w.heap.size]? = some (.cells #[.int .i64 0, .int .i64 0, .int .i64 0, .int .i64 0, .int .i64 0, .string ⟨#[]⟩, .string ⟨#[]⟩, .string ⟨#[]⟩, .bool false, nilS, nilS, nilS, nilS] 70 (0, 0)) := by rw [hb1.block _ (by simp)]; exact heap_alloc_new w _
  have HB := Lib.hid hB
  have HZ := Lib.hid (lt_of_block hB)
  have hB2 := Lib.hid hb1
  clear hB hb1
  trace "x"
  go_wp2_with (refine store_expr ?_ (.tmp 2) (.tmp 12) ?_ w.heap.size (exprC 1 0 0 2 5 ⟨#[]⟩ ⟨#[]⟩ ⟨#[]⟩ nilS) ?_ ?_ #[.int .i64 0, .int .i64 0, .int .i64 0, .int .i64 0, .int .i64 0, .string ⟨#[]⟩, .string ⟨#[]⟩, .string ⟨#[]⟩, .bool false, nilS, nilS, nilS, nilS] ?_ ?_ ?_ ?_ ?_; exact rfl; exact rfl; exact rfl; exact rfl; exact (heap_alloc_old _ _ HZ.out).trans HB.out; exact rfl; exact rfl; simp [Value.oneCell']; intro w2 hp2; have HP2 := Lib.hid hp2; clear hp2)
  refine bodyPost_ret (results_expr_bool rfl _ _ w.heap.size (exprC 1 0 0 2 5 ⟨#[]⟩ ⟨#[]⟩ ⟨#[]⟩ nilS) ?_ HP2.out.at' rfl) rfl ?_
  · rfl
  · exact ⟨rfl, HP2.out.below (by refine Below.alloc (below_call (by go_grown) hB2.out) ?_ _; exact Nat.le_of_lt HZ.out) (Nat.le_refl _)⟩
end YtabojeleomfgnaaGreatDoor
end Go.Proofs
