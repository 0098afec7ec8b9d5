/- Texts of values, heads, parts that have a text. The shelf's contracts at this dump: those of strings.Builder with the frame above it. The text of a part whose Args have texts, by the program. Texts of values are written. Chains of neg and in are written, by the program. ExprText at expressions whose text is known. The shelf's contracts at this dump (laid by hand): that of strings.Join. The texts of parts whose Args have texts, by the reference. Texts of parts, by the reference. ScalarText at chains of neg and at in, by the reference. -/
import Derived.Test.YtabojeleomfgnaaGreatDoorTw2
import Derived.Shelf.Strings.BuilderK
import Derived.Test.YtabojeleomfgnaaGreatDoorSh3
import Derived.Lib.Join
import Derived.Shelf.Strings.OnBuilder
import Derived.Ground.Names2Prog
import Derived.Test.YtabojeleomfgnaaGreatDoorProg
import Derived.Test.YtabojeleomfgnaaGreatDoorTw1
namespace Go.Proofs
open Go.RowKit
namespace YtabojeleomfgnaaGreatDoor
set_option maxRecDepth 100000
theorem show1 (w : World) : Calls Tryz.prog 34 #[val 2 1 ⟨#[]⟩] w fun e w' => e = .returned (.string ⟨#[49]⟩) ∧ Below w.heap.size w w' := by
  go_enter Tryz.func34, Tryz.ntmps34
  go_wp2
  go_ret
  exact ⟨rfl, by go_grown⟩
theorem clean0 (w : World) : Calls Tryz.prog 94 #[val 0 0 ⟨#[]⟩] w fun e w' => e = .returned (val 0 0 ⟨#[]⟩) ∧ Below w.heap.size w w' := by
  have h := clean_any 0 0 ⟨#[]⟩ (Nat.zero_le _) w
  rw [cl_val _ _ _ (by simp [rightB, formedB, inRangeB, ByteArray.toList_eq]; exact ⟨Nat.zero_le _, rfl⟩)] at h
  exact h
theorem show0 (w : World) : Calls Tryz.prog 34 #[val 0 0 ⟨#[]⟩] w fun e w' => e = .returned (.string ⟨#[110, 117, 108, 108]⟩) ∧ Below w.heap.size w w' := by
  go_enter Tryz.func34, Tryz.ntmps34
  go_wp2_with fail
  refine (clean0 _).mono ?_
  rintro e w1 ⟨rfl, hb1⟩
  obtain ⟨hc1, hf1⟩ := bcell hb1
  have hz1_0 : w.heap.size < w1.heap.size := lt_after hb1 (by (try simp only [World.size_alloc]); repeat (first | (with_reducible assumption) | exact Nat.lt_add_one _ | apply Nat.lt_add_one_of_lt))
  have B1 := Lib.hid (show Below w.heap.size w w1 from below_call (by go_grown) hb1)
  go_wp2
  go_ret
  exact ⟨rfl, by go_grown; exact B1.out⟩
theorem right1 (w : World) : Calls Tryz.prog 97 #[val 2 1 ⟨#[]⟩] w fun e w' => e = .returned (val 2 1 ⟨#[]⟩) ∧ Below w.heap.size w w' := by
  have h := right_any 2 1 ⟨#[]⟩ (Nat.zero_le _) w
  rw [cl_val _ _ _ (by simp [rightB, formedB, inRangeB, inB, ByteArray.toList_eq]; exact Nat.zero_le _)] at h
  exact h
theorem rightN0 (w : World) : Calls Tryz.prog 97 #[val 0 0 ⟨#[]⟩] w fun e w' => e = .returned (val 0 0 ⟨#[]⟩) ∧ Below w.heap.size w w' := by
  have h := right_any 0 0 ⟨#[]⟩ (Nat.zero_le _) w
  rw [cl_val _ _ _ (by simp [rightB, formedB, inRangeB, ByteArray.toList_eq]; exact ⟨Nat.zero_le _, rfl⟩)] at h
  exact h
theorem itoa1 (w : World) : Calls Tryz.prog 107 #[.int .i64 1] w fun e w' => e = .returned (.string ⟨#[49]⟩) ∧ Below w.heap.size w w' := by
  go_enter Tryz.func107, Tryz.ntmps107
  go_wp2
  go_ret
  exact ⟨rfl, by go_grown⟩
theorem shown1 (w : World) : Calls Tryz.prog 35 #[val 2 1 ⟨#[]⟩] w fun e w' => e = .returned (.string ⟨#[49]⟩) ∧ Below w.heap.size w w' := by
  go_enter Tryz.func35, Tryz.ntmps35
  go_wp2_with fail
  refine (right1 _).mono ?_
  rintro e w1 ⟨rfl, hb1⟩
  obtain ⟨hc1, hf1⟩ := bcell hb1
  have hz1_0 : w.heap.size < w1.heap.size := lt_after hb1 (by (try simp only [World.size_alloc]); repeat (first | (with_reducible assumption) | exact Nat.lt_add_one _ | apply Nat.lt_add_one_of_lt))
  have B1 := Lib.hid (show Below w.heap.size w w1 from below_call (by go_grown) hb1)
  go_wp2
  go_ret
  exact ⟨rfl, by go_grown; exact B1.out⟩
theorem shown0 (w : World) : Calls Tryz.prog 35 #[val 0 0 ⟨#[]⟩] w fun e w' => e = .returned (.string ⟨#[110, 117, 108, 108]⟩) ∧ Below w.heap.size w w' := by
  go_enter Tryz.func35, Tryz.ntmps35
  go_wp2_with fail
  refine (rightN0 _).mono ?_
  rintro e w1 ⟨rfl, hb1⟩
  obtain ⟨hc1, hf1⟩ := bcell hb1
  have hz1_0 : w.heap.size < w1.heap.size := lt_after hb1 (by (try simp only [World.size_alloc]); repeat (first | (with_reducible assumption) | exact Nat.lt_add_one _ | apply Nat.lt_add_one_of_lt))
  have B1 := Lib.hid (show Below w.heap.size w w1 from below_call (by go_grown) hb1)
  go_wp2
  go_ret
  exact ⟨rfl, by go_grown; exact B1.out⟩
theorem hd_neg (pa : Option Addr) (n c : Nat) (w : World) (h : Tb w) : Calls Tryz.prog 214 #[.agg (negN.c (.slice pa n c))] w fun e w' => e = .returned (.string ⟨#[110, 101, 103]⟩) ∧ Below w.heap.size w w' := by
  have h85 : w.cell? ⟨1, 85, none⟩ = some (.string ⟨#[110, 101, 103]⟩) := (h.row 17 _ _ _ _ _ rfl).1
  have hs := h.lt
  have hs1 : 1 < w.heap.size + 1 := by omega
  clear h
  simp only [Nd.c, negN]
  go_enter Tryz.func214, Tryz.ntmps214
  go_wp2
  go_ret
  exact ⟨rfl, by go_grown⟩
theorem hd_in (pa : Option Addr) (n c : Nat) (w : World) : Calls Tryz.prog 214 #[.agg (inN.c (.slice pa n c))] w fun e w' => e = .returned (.string ⟨#[105, 110]⟩) ∧ Below w.heap.size w w' := by
  simp only [Nd.c, inN]
  go_enter Tryz.func214, Tryz.ntmps214
  go_wp2
  go_ret
  exact ⟨rfl, by go_grown⟩
set_option maxHeartbeats 1000000 in
theorem cwp_one (pa : Option Addr) (c : Nat) (w : World) : Calls Tryz.prog 213 #[.agg (oneN.c (.slice pa 0 c))] w fun e w' => e = .returned (.int .i64 0) ∧ Below w.heap.size w w' := by
  have CP := Lib.hid (fun w => cp_one pa c w)
  skip
  skip
  simp only [Nd.c, oneN] at CP ⊢
  go_enter Tryz.func213, Tryz.ntmps213
  go_wp2_with fail
  refine (CP.out _).mono ?_
  rintro e w1 ⟨rfl, hb1⟩
  obtain ⟨hc1, hf1⟩ := bcell hb1
  have hz1_0 : w.heap.size < w1.heap.size := lt_after hb1 (by (try simp only [World.size_alloc]); repeat (first | (with_reducible assumption) | exact Nat.lt_add_one _ | apply Nat.lt_add_one_of_lt))
  go_wp2
  go_quiet (fail)
  go_wp2
  go_ret
  exact ⟨rfl, below_drewN (below_call (by go_grown) hb1) _⟩
set_option maxHeartbeats 1000000 in
theorem cwp_null (pa : Option Addr) (c : Nat) (w : World) : Calls Tryz.prog 213 #[.agg (nullN.c (.slice pa 0 c))] w fun e w' => e = .returned (.int .i64 0) ∧ Below w.heap.size w w' := by
  have CP := Lib.hid (fun w => cp_null pa c w)
  skip
  skip
  simp only [Nd.c, nullN] at CP ⊢
  go_enter Tryz.func213, Tryz.ntmps213
  go_wp2_with fail
  refine (CP.out _).mono ?_
  rintro e w1 ⟨rfl, hb1⟩
  obtain ⟨hc1, hf1⟩ := bcell hb1
  have hz1_0 : w.heap.size < w1.heap.size := lt_after hb1 (by (try simp only [World.size_alloc]); repeat (first | (with_reducible assumption) | exact Nat.lt_add_one _ | apply Nat.lt_add_one_of_lt))
  go_wp2
  go_quiet (fail)
  go_wp2
  go_ret
  exact ⟨rfl, below_drewN (below_call (by go_grown) hb1) _⟩
set_option maxHeartbeats 1000000 in
theorem cwp_neg (pa : Option Addr) (c : Nat) (w : World) (h : Tb w) : Calls Tryz.prog 213 #[.agg (negN.c (.slice pa 1 c))] w fun e w' => e = .returned (.int .i64 0) ∧ Below w.heap.size w w' := by
  have CP := Lib.hid (fun w h => cp_neg pa c w h)
  have HT := Lib.hid (fun w2 hb => h.below (w' := w2) hb)
  clear h
  simp only [Nd.c, negN] at CP ⊢
  go_enter Tryz.func213, Tryz.ntmps213
  go_wp2_with fail
  refine (CP.out _ (HT.out _ (by go_grown))).mono ?_
  rintro e w1 ⟨rfl, hb1⟩
  obtain ⟨hc1, hf1⟩ := bcell hb1
  have hz1_0 : w.heap.size < w1.heap.size := lt_after hb1 (by (try simp only [World.size_alloc]); repeat (first | (with_reducible assumption) | exact Nat.lt_add_one _ | apply Nat.lt_add_one_of_lt))
  go_wp2
  go_quiet (fail)
  go_wp2
  go_ret
  exact ⟨rfl, below_drewN (below_call (by go_grown) hb1) _⟩
set_option maxHeartbeats 1000000 in
theorem cwp_in (pa : Option Addr) (n : Nat) (c : Nat) (hn : 2 ≤ n) (w : World) : Calls Tryz.prog 213 #[.agg (inN.c (.slice pa n c))] w fun e w' => e = .returned (.int .i64 0) ∧ Below w.heap.size w w' := by
  have CP := Lib.hid (fun w => cp_in pa n c hn w)
  skip
  skip
  simp only [Nd.c, inN] at CP ⊢
  go_enter Tryz.func213, Tryz.ntmps213
  go_wp2_with fail
  refine (CP.out _).mono ?_
  rintro e w1 ⟨rfl, hb1⟩
  obtain ⟨hc1, hf1⟩ := bcell hb1
  have hz1_0 : w.heap.size < w1.heap.size := lt_after hb1 (by (try simp only [World.size_alloc]); repeat (first | (with_reducible assumption) | exact Nat.lt_add_one _ | apply Nat.lt_add_one_of_lt))
  go_wp2
  go_quiet (fail)
  go_wp2
  go_ret
  exact ⟨rfl, below_drewN (below_call (by go_grown) hb1) _⟩
end YtabojeleomfgnaaGreatDoor
end Go.Proofs
namespace Go.Proofs
open Go.Shelf
def Tryz.lays170_ren : Go.Shelf.Ren := ⟨fun | 170 => 161 | n => n, fun | 70 => 143 | 3 => 3 | 0 => 0 | 72 => 145 | 37 => 32 | 5 => 5 | n => n, fun | n => n⟩
theorem Tryz.lays170 : Go.Proofs.Lays.n170 Tryz.prog Tryz.lays170_ren := {
  mixed := by kernel_rfl
  f170 := Tryz.func161.trans (congrArg some (by kernel_rfl))
  t0 := Tryz.underlying0
  a0 := Tryz.isAgg0
  z0 := Tryz.sizeOf0
  v0 := Tryz.zeroValue0
  t3 := Tryz.underlying3
  a3 := Tryz.isAgg3
  z3 := Tryz.sizeOf3
  v3 := Tryz.zeroValue3
  t37 := Tryz.underlying32
  a37 := Tryz.isAgg32
  z37 := Tryz.sizeOf32
  v37 := Tryz.zeroValue32
  t70 := Tryz.underlying143
  a70 := Tryz.isAgg143
  z70 := Tryz.sizeOf143
  v70 := Tryz.zeroValue143
  t72 := Tryz.underlying145
  a72 := Tryz.isAgg145
  z72 := Tryz.sizeOf145
  v72 := Tryz.zeroValue145 }
open Go.RowKit in
/-- (*strings.Builder).Len: "Len returns the number of accumulated bytes; b.Len() == len(b.String()).": the world is as it was. (LAID: no walk: one application.) -/
theorem Tryz.Builder_Len (B b : Nat) (bs : List Value) (w : World) (h : Lib.IsBuilder 145 5 B b bs w) :
    Calls Tryz.prog 161 #[.pointer (some ⟨b, 0, none⟩)] w fun e w' => e = .returned (.int .i64 bs.length) ∧ w' = w := Any.Builder_Len Tryz.lays170 B b bs w h
open Go.RowKit in
/-- (*strings.Builder).WriteString, with the frame above the builder. -/
theorem Tryz.Builder_WriteString_k (B b : Nat) (bs : List Value) (s : ByteArray) (w : World) (h : Lib.IsBuilderF 145 5 B b bs w) (hlen : bs.length + s.size ≤ 140737488355328) (hBw : B ≤ w.heap.size) :
    Calls Tryz.prog 170 #[.pointer (some ⟨b, 0, none⟩), .string s] w fun e w' => e = .returned (.tuple #[.int .i64 s.size, .nilIface]) ∧ (Lib.BuilderAtF 145 5 B b (.pointer (some ⟨b, 0, none⟩)) (bs ++ Lib.strCells s) w' ∧ Below B w w' ∧ Lib.OthersKept 5 (some b) w w') := Any.Builder_WriteString_k Tryz.lays166 Tryz.Builder_Extra_166 B b bs s w h hlen hBw
open Go.RowKit in
theorem Tryz.Builder_String_k (B b : Nat) (l : List UInt8) (w : World) (h : Lib.IsBuilderF 145 5 B b (Lib.byteCells l) w) (hBw : B ≤ w.heap.size) :
    Calls Tryz.prog 162 #[.pointer (some ⟨b, 0, none⟩)] w fun e w' => e = .returned (.string ⟨l.toArray⟩) ∧ Below B w w' := (Any.Builder_String_any_k Tryz.lays169 Tryz.Builder_Extra_169 B b l w h hBw).mono fun _ _ h => ⟨h.1, h.2.2.1⟩
end Go.Proofs
namespace Go.Proofs
open Go.RowKit
namespace YtabojeleomfgnaaGreatDoor
set_option maxRecDepth 100000
theorem join_snoc (l : List (List UInt8)) (x : List UInt8) : Lib.join (l ++ [x]) [44] = if l = [] then x else Lib.join l [44] ++ 44 :: x := by
  cases l with
  | nil => rw [if_pos rfl, List.nil_append, Lib.join_one]
  | cons y r =>
    rw [if_neg (by simp), List.cons_append, Lib.join_cons, Lib.join_cons]
    simp [Lib.joinTail]
theorem join_take (ts : List (List UInt8)) (j : Nat) (h : j < ts.length) : Lib.join (ts.take (j + 1)) [44] = if j = 0 then ts[j] else Lib.join (ts.take j) [44] ++ 44 :: ts[j] := by
  rw [List.take_succ_eq_append_getElem h, join_snoc]
  by_cases hj : j = 0
  · subst hj; simp
  · rw [if_neg hj, if_neg]
    intro e
    have := congrArg List.length e
    rw [List.length_take, List.length_nil] at this
    omega
theorem join_le (ts : List (List UInt8)) (j : Nat) (h : j < ts.length) : (Lib.join (ts.take (j + 1)) [44]).length ≤ (Lib.join ts [44]).length := by
  induction hn : ts.length - j generalizing j with
  | zero => omega
  | succ n ih =>
    by_cases hj : j + 1 < ts.length
    · refine Nat.le_trans ?_ (ih (j + 1) hj (by omega))
      rw [join_take ts (j + 1) hj, if_neg (by omega), List.length_append]
      omega
    · rw [List.take_of_length_le (by omega)]
      exact Nat.le_refl _
/-- the builder at block b holds these bytes -/
abbrev Bi (B b : Nat) (l : List UInt8) (w : World) : Prop := Lib.IsBuilderF 145 5 B b (Lib.byteCells l) w
/-- a piece of text was written -/
def Wr (B b : Nat) (l : List UInt8) (W w : World) : Prop := Bi B b l w ∧ Below B W w ∧ Lib.OthersKept 5 (some b) W w
theorem wstr_t (B b : Nat) (l : List UInt8) (s : ByteArray) (w : World) (h : Bi B b l w) (hl : l.length + s.size ≤ 1000000000) (hB : B ≤ w.heap.size) :
    Calls Tryz.prog 170 #[.pointer (some ⟨b, 0, none⟩), .string s] w fun e w' => e = .returned (.tuple #[.int .i64 s.size, .nilIface]) ∧ Wr B b (l ++ s.data.toList) w w' := by
  refine (Tryz.Builder_WriteString_k B b _ s w h (by rw [Lib.byteCells_length]; omega) hB).mono fun e w' ⟨h1, h2, h3, h4⟩ => ⟨h1, ?_, h3, h4⟩
  rw [Bi, Lib.byteCells_append, ← Lib.strCells_eq]
  exact Or.inr h2
theorem wbyte_t (B b : Nat) (l : List UInt8) (c : UInt8) (w : World) (h : Bi B b l w) (hl : l.length + 1 ≤ 1000000000) (hB : B ≤ w.heap.size) :
    Calls Tryz.prog 170 #[.pointer (some ⟨b, 0, none⟩), .string ⟨#[c]⟩] w fun e w' => e = .returned (.tuple #[.int .i64 1, .nilIface]) ∧ Wr B b (l ++ [c]) w w' := by
  have e1 : (⟨#[c]⟩ : ByteArray).size = 1 := rfl
  have h1 := wstr_t B b l ⟨#[c]⟩ w h (by rw [e1]; exact hl) hB
  rw [e1] at h1
  exact h1
theorem Bi.below {B b : Nat} {l : List UInt8} {w w' : World} (h : Bi B b l w) (hb : Below w.heap.size w w') : Bi B b l w' := by
  have f : ∀ p, Lib.BuilderAtF 145 5 B b p (Lib.byteCells l) w → Lib.BuilderAtF 145 5 B b p (Lib.byteCells l) w' := by
    rintro p ⟨h1, v, h2, h3, h4⟩
    exact ⟨h1, v, (hb.block _ (lt_of_block h2)).trans h2, World.ownsRowF.kept (row := none) h3 ⟨hb.os, hb.tape, hb.output, hb.size, fun k hk1 _ => hb.block k hk1⟩ (by
      cases hv : v.ownBlock with
      | none => exact .inl rfl
      | some k => exact .inr (fun e => by cases e)), h4⟩
  exact h.elim (fun h => Or.inl (f _ h)) (fun h => Or.inr (f _ h))
theorem others_below {b : Nat} {w w' : World} (h : Below w.heap.size w w') : Lib.OthersKept 5 (some b) w w' := fun k _ hk _ _ => (h.block k (lt_of_block hk)).trans hk
/-- while a part is being written -/
structure WS (B q : Nat) (ec : Array Value) (g : Nat) (l : List UInt8) (W w : World) : Prop where
  bi : Bi B q l w
  bel : Below B W w
  oth : Lib.OthersKept 5 (some q) W w
  box : w.heap[g]? = some (.cells ec 70 (0, 0))
  ne : g ≠ q
theorem box_wr {B q g : Nat} {ec : Array Value} {l : List UInt8} {w w' : World} (h : w.heap[g]? = some (.cells ec 70 (0, 0))) (hw : Wr B q l w w') (hne : g ≠ q) : w'.heap[g]? = some (.cells ec 70 (0, 0)) :=
  hw.2.2 g _ h (by simpa using hne) (fun c fz e => by cases e)
theorem WS.wr {B q g : Nat} {ec : Array Value} {l l' : List UInt8} {W w w' : World} (h : WS B q ec g l W w) (hw : Wr B q l' w w') : WS B q ec g l' W w' :=
  ⟨hw.1, h.bel.trans hw.2.1, h.oth.trans hw.2.2, box_wr h.box hw h.ne, h.ne⟩
theorem WS.below {B q g : Nat} {ec : Array Value} {l : List UInt8} {W w w' : World} (h : WS B q ec g l W w) (hb : Below w.heap.size w w') (hB : B ≤ w.heap.size) : WS B q ec g l W w' :=
  ⟨h.bi.below hb, h.bel.trans (hb.mono hB), h.oth.trans (others_below hb), (hb.block _ (lt_of_block h.box)).trans h.box, h.ne⟩
theorem WS.alloc {B q g : Nat} {ec : Array Value} {l : List UInt8} {W w : World} (h : WS B q ec g l W w) (o : Obj) (hB : B ≤ w.heap.size) : WS B q ec g l W (w.alloc o) := h.below ((Below.refl _ _).alloc (Nat.le_refl _) o) hB
theorem Low.belowB {w0 W w : World} {B : Nat} (h : Low w0 W) (hb : Below B W w) (hB : w0.heap.size ≤ B) : Low w0 w :=
  ⟨Nat.le_trans h.size hb.size, fun k hk => (hb.block k (by omega)).trans (h.block k hk)⟩
set_option maxHeartbeats 8000000 in
theorem write_node (d : Nd) (kids : List Tr) (av : Value) (w0 : World) (b o : Nat) (f : Nat → List Value) (hs : SlAt av kids.length b o)
    (hb : 0 < kids.length → b < w0.heap.size) (hf : ∀ i, i < kids.length → w0.rangeAt b (o + i * 13) (f i) ∧ (f i).length = 13) (hc : ∀ (i : Nat) (t : Tr), kids[i]? = some t → At w0 t (.agg (f i).toArray))
    (B q : Nat) (hB : w0.heap.size ≤ B) (ts : List (List UInt8)) (hts : ts.length = kids.length) (hd : ByteArray) (hk : 4 ≤ d.k)
    (hhd : ∀ (W : World), Low w0 W → Calls Tryz.prog 214 #[.agg (d.c av)] W fun e w' => e = .returned (.string hd) ∧ Below W.heap.size W w')
    (hch : ∀ (j : Nat) (h : j < ts.length) (W : World) (l : List UInt8), Low w0 W → B ≤ W.heap.size → Bi B q l W → l.length + ts[j].length ≤ 100000000 → Calls Tryz.prog 160 #[.pointer (some ⟨q, 0, none⟩), .agg (f j).toArray] W fun e w' => e = .returned (.tuple #[]) ∧ Wr B q (l ++ ts[j]) W w')
    (W : World) (l : List UInt8) (hL : Low w0 W) (hBW : B ≤ W.heap.size) (hq : q < W.heap.size) (hbi : Bi B q l W) (hlen : l.length + hd.size + 2 + (Lib.join ts [44]).length ≤ 100000000) :
    Calls Tryz.prog 160 #[.pointer (some ⟨q, 0, none⟩), .agg (d.c av)] W fun e w' => e = .returned (.tuple #[]) ∧ Wr B q (l ++ hd.data.toList ++ 40 :: Lib.join ts [44] ++ [41]) W w' := by
  obtain ⟨pa, cap, rfl, hcap, hmax, hpa⟩ := hs
  have HF := Lib.hid hf
  have HB := Lib.hid hb
  have HC := Lib.hid hc
  have CH := Lib.hid hch
  have CD := Lib.hid hhd
  have HL := Lib.hid hL
  obtain ⟨k, op, n, vk, vn, vs, src, name, dis⟩ := d
  simp only [Nd.c] at CD ⊢
  simp only at hk
  have k1 : (k == 1) = false := by rw [beq_eq_false_iff_ne]; omega
  have k2 : (k == 2) = false := by rw [beq_eq_false_iff_ne]; omega
  have k3 : (k == 3) = false := by rw [beq_eq_false_iff_ne]; omega
  clear hf hb hc hch hhd hL hk
  rw [← hts] at hcap hmax hpa CD ⊢
  have HT := Lib.hid hts
  clear hts
  have hgq : W.heap.size ≠ q := by omega
  have S0 : Hid (WS B q (ndC k op n vk vn vs src name dis (.slice pa ts.length cap)) W.heap.size l W (W.alloc (.cells (ndC k op n vk vn vs src name dis (.slice pa ts.length cap)) 70))) := Lib.hid ⟨hbi.below ((Below.refl _ _).alloc (Nat.le_refl _) _), (Below.refl B W).alloc hBW _, others_below ((Below.refl _ _).alloc (Nat.le_refl _) _), heap_alloc_new W _, hgq⟩
  have L1 : Hid (Low w0 (W.alloc (.cells (ndC k op n vk vn vs src name dis (.slice pa ts.length cap)) 70))) := Lib.hid (HL.out.belowB S0.out.bel hB)
  have z1 : B ≤ (W.alloc (.cells (ndC k op n vk vn vs src name dis (.slice pa ts.length cap)) 70)).heap.size := Nat.le_trans hBW S0.out.bel.size
  have Z1 := Lib.hid z1
  clear hbi z1
  go_enter Tryz.func160, Tryz.ntmps160
  go_wp2_with fail
  refine (CD.out _ L1.out).mono ?_
  rintro e w2 ⟨rfl, hb2⟩
  have S2 := Lib.hid (S0.out.below hb2 Z1.out)
  have z2 : B ≤ w2.heap.size := Nat.le_trans Z1.out hb2.size
  clear hb2
  have hjl : (Lib.join ts [44]).length + l.length + hd.size + 2 ≤ 100000000 := by omega
  have hbytes : hd.data.toList.length = hd.size := by simp
  have hz40 : l.length + (hd ++ (⟨#[40]⟩ : ByteArray)).size ≤ 1000000000 := by
    have e1 : (⟨#[40]⟩ : ByteArray).size = 1 := rfl
    rw [ByteArray.size_append, e1]
    omega
  have CW := Lib.hid (wstr_t B q l (hd ++ ⟨#[40]⟩) w2 S2.out.bi hz40 z2)
  clear hz40
  go_wp2_with fail
  refine CW.out.mono ?_
  rintro e w3 ⟨rfl, hw3⟩
  have S3 := Lib.hid (S2.out.wr hw3)
  have z3 : B ≤ w3.heap.size := Nat.le_trans z2 hw3.2.1.size
  have x9 : w3.cell? ⟨W.heap.size, 9, none⟩ = some (.slice pa ts.length cap) := (cell_of_row w3 _ 9 _ _ _ S3.out.box).trans rfl
  have r3 : W.heap.size < w3.heap.size := lt_of_block S3.out.box
  clear hw3
  have e0 : l ++ (hd ++ ⟨#[40]⟩).data.toList = l ++ hd.data.toList ++ 40 :: Lib.join (ts.take 0) [44] := by simp [Lib.join_nil]
  rw [e0] at S3
  clear e0
  go_wp2_with fail
  go_loopw [41] (fun y wr => ∃ (j : Nat), j ≤ ts.length ∧ y = .int .i64 j ∧ Hid (WS B q (ndC k op n vk vn vs src name dis (.slice pa ts.length cap)) W.heap.size (l ++ hd.data.toList ++ 40 :: Lib.join (ts.take j) [44]) W wr)) (fun y _ => ts.length - (intOf y).toNat)
  case atStart => exact ⟨0, Nat.zero_le _, rfl, S3⟩
  case round =>
    obtain ⟨j, hj, rfl, hS⟩ := hrel
    have zj : B ≤ wr.heap.size := Nat.le_trans hBW hS.out.bel.size
    have Lj : Hid (Low w0 wr) := Lib.hid (HL.out.belowB hS.out.bel hB)
    by_cases hlt : j < ts.length
    · obtain rfl := hpa (by omega)
      have ht : kids[j]? = some (kids[j]'(by have := HT.out; omega)) := List.getElem?_eq_getElem (by have := HT.out; omega)
      have hlj := join_le ts j hlt
      have hJ := join_take ts j hlt
      have CI := Lib.hid (CH.out j hlt)
      obtain ⟨d', kids', pa', cap', ht', hv'⟩ := (HC.out j _ ht).inv
      have hR := HF.out j (by have := HT.out; omega)
      have hcs : f j = (d'.c (.slice pa' kids'.length cap')).toList := by
        have := congrArg (fun v => match v with | .agg a => a.toList | _ => []) hv'
        simpa using this
      rw [hcs] at hR
      rw [hv'] at CI
      have HRg := Lib.hid (Lj.out.range hR.1 (HB.out (by have := HT.out; omega)))
      generalize ts[j] = tj at *
      generalize kids'.length = n' at *
      generalize hJ1 : Lib.join (ts.take (j + 1)) [44] = J1 at hJ hlj
      have HJ := Lib.hid hJ1
      clear hJ1
      obtain ⟨k', op', n1', vk', vn', vs', src', name', dis'⟩ := d'
      simp only [Nd.c] at CI HRg
      clear hR hcs hv' ht' ht
      by_cases hj0 : j = 0
      · subst hj0
        rw [if_pos rfl] at hJ
        subst hJ
        have e1 : l ++ hd.data.toList ++ 40 :: Lib.join (ts.take 0) [44] = l ++ hd.data.toList ++ [40] := by simp [Lib.join_nil]
        rw [e1] at hS
        have hl : (l ++ hd.data.toList ++ [40]).length + J1.length ≤ 100000000 := by simp only [List.length_append, List.length_cons, List.length_nil, hbytes]; omega
        have S4 := Lib.hid (hS.out.alloc (.cells (ndC k' op' n1' vk' vn' vs' src' name' dis' (.slice pa' n' cap')) 70) zj)
        go_wp2_with (refine load_mid rfl (.tmp 44) rfl b (o + 0 * 13) _ rfl HRg.out rfl ?_)
        refine (CI.out _ _ (low_alloc Lj.out _) (Nat.le_trans zj (by simp)) S4.out.bi hl).mono ?_
        rintro e w5 ⟨rfl, hw5⟩
        have S5 := Lib.hid (S4.out.wr hw5)
        clear hw5
        go_wp2_with fail
        go_roundw
        case rel => exact ⟨1, by omega, rfl, Lib.hid (by have h := S5.out; rw [List.append_assoc] at h; have e := HJ.out; simp only [Nat.zero_add] at e; rw [e]; exact h)⟩
        case measure => simp [intOf]; omega
      · rw [if_neg hj0] at hJ
        have j0 : (0 : Int) < j := by omega
        have hlj2 : (Lib.join (ts.take j) [44]).length + 1 + tj.length ≤ (Lib.join ts [44]).length := by rw [hJ] at hlj; simp only [List.length_append, List.length_cons] at hlj; omega
        have hl1 : (l ++ hd.data.toList ++ 40 :: Lib.join (ts.take j) [44]).length + 1 ≤ 1000000000 := by simp only [List.length_append, List.length_cons, hbytes]; omega
        have hl2 : (l ++ hd.data.toList ++ 40 :: Lib.join (ts.take j) [44] ++ [44]).length + tj.length ≤ 100000000 := by simp only [List.length_append, List.length_cons, List.length_nil, hbytes]; omega
        generalize hacc : l ++ hd.data.toList ++ 40 :: Lib.join (ts.take j) [44] = acc at *
        have S4 := Lib.hid (hS.out.alloc (.cells (ndC k' op' n1' vk' vn' vs' src' name' dis' (.slice pa' n' cap')) 70) zj)
        have X4 : Hid ((wr.alloc (.cells (ndC k' op' n1' vk' vn' vs' src' name' dis' (.slice pa' n' cap')) 70)).heap[wr.heap.size]? = some (.cells (ndC k' op' n1' vk' vn' vs' src' name' dis' (.slice pa' n' cap')) 70 (0, 0))) := Lib.hid (heap_alloc_new wr _)
        have hq2 : wr.heap.size ≠ q := by have := S3.out.bel.size; have := hS.out.bel.size; omega
        clear hj0
        go_wp2_with (refine load_mid rfl (.tmp 44) rfl b (o + j * 13) _ rfl HRg.out rfl ?_)
        refine (wbyte_t B q acc 44 _ S4.out.bi hl1 (Nat.le_trans zj (by simp))).mono ?_
        rintro e w5 ⟨rfl, hw5⟩
        have S5 := Lib.hid (S4.out.wr hw5)
        have X5 := Lib.hid (box_wr X4.out hw5 hq2)
        have z5 : B ≤ w5.heap.size := Nat.le_trans hBW S5.out.bel.size
        have L5 : Hid (Low w0 w5) := Lib.hid (HL.out.belowB S5.out.bel hB)
        clear hw5
        go_wp2_with (refine load_expr rfl (.tmp 5) rfl wr.heap.size _ rfl X5.out rfl ?_)
        refine (CI.out _ _ L5.out z5 S5.out.bi hl2).mono ?_
        rintro e w6 ⟨rfl, hw6⟩
        have S6 := Lib.hid (S5.out.wr hw6)
        clear hw6
        go_wp2_with fail
        go_roundw
        case rel => exact ⟨j + 1, by omega, by go_num, Lib.hid (by rw [HJ.out, hJ]; have h := S6.out; rw [← hacc] at h; simpa using h)⟩
        case measure => simp [intOf]; omega
    · have hj2 : j = ts.length := by omega
      subst hj2
      rw [List.take_length] at hS
      have hl1 : (l ++ hd.data.toList ++ 40 :: Lib.join ts [44]).length + 1 ≤ 1000000000 := by simp only [List.length_append, List.length_cons, hbytes]; omega
      go_wp2_with fail
      refine (wbyte_t B q _ 41 _ hS.out.bi hl1 zj).mono ?_
      rintro e w5 ⟨rfl, hw5⟩
      have S5 := Lib.hid (hS.out.wr hw5)
      clear hw5
      go_wp2_with fail
      exact bodyPost_end (results_none rfl _ _ _) rfl ⟨rfl, S5.out.bi, S5.out.bel, S5.out.oth⟩
end YtabojeleomfgnaaGreatDoor
end Go.Proofs
namespace Go.Proofs
open Go.RowKit
namespace YtabojeleomfgnaaGreatDoor
set_option maxRecDepth 100000
set_option maxHeartbeats 1000000 in
theorem write_one (pa : Option Addr) (c : Nat) (B q : Nat) (W : World) (l : List UInt8) (hB : B ≤ W.heap.size) (hbi : Bi B q l W) (hl : l.length + 1 ≤ 100000000) :
    Calls Tryz.prog 160 #[.pointer (some ⟨q, 0, none⟩), .agg (oneN.c (.slice pa 0 c))] W fun e w' => e = .returned (.tuple #[]) ∧ Wr B q (l ++ [49]) W w' := by
  simp only [Nd.c, oneN]
  have I0 := Lib.hid hbi
  clear hbi
  go_enter Tryz.func160, Tryz.ntmps160
  go_wp2_with fail
  refine (show1 _).mono ?_
  rintro e w1 ⟨rfl, hb1⟩
  have B1 := Lib.hid (show Below W.heap.size W w1 from below_call (by go_grown) hb1)
  have z1 : B ≤ w1.heap.size := Nat.le_trans hB B1.out.size
  have e1 : (⟨#[49]⟩ : ByteArray).size = 1 := rfl
  have CW := Lib.hid (wstr_t B q l ⟨#[49]⟩ w1 (I0.out.below B1.out) (by rw [e1]; omega) z1)
  clear hb1 e1
  go_wp2_with fail
  refine CW.out.mono ?_
  rintro e w2 ⟨rfl, hw2⟩
  have W2 : Hid (Wr B q (l ++ [49]) W w2) := Lib.hid ⟨hw2.1, (B1.out.mono hB).trans hw2.2.1, (others_below B1.out).trans hw2.2.2⟩
  clear hw2
  go_wp2_with fail
  exact bodyPost_ret (results_none rfl _ _ _) rfl ⟨rfl, W2.out⟩
set_option maxHeartbeats 1000000 in
theorem write_null (pa : Option Addr) (c : Nat) (B q : Nat) (W : World) (l : List UInt8) (hB : B ≤ W.heap.size) (hbi : Bi B q l W) (hl : l.length + 4 ≤ 100000000) :
    Calls Tryz.prog 160 #[.pointer (some ⟨q, 0, none⟩), .agg (nullN.c (.slice pa 0 c))] W fun e w' => e = .returned (.tuple #[]) ∧ Wr B q (l ++ [110, 117, 108, 108]) W w' := by
  simp only [Nd.c, nullN]
  have I0 := Lib.hid hbi
  clear hbi
  go_enter Tryz.func160, Tryz.ntmps160
  go_wp2_with fail
  refine (show0 _).mono ?_
  rintro e w1 ⟨rfl, hb1⟩
  have B1 := Lib.hid (show Below W.heap.size W w1 from below_call (by go_grown) hb1)
  have z1 : B ≤ w1.heap.size := Nat.le_trans hB B1.out.size
  have e1 : (⟨#[110, 117, 108, 108]⟩ : ByteArray).size = 4 := rfl
  have CW := Lib.hid (wstr_t B q l ⟨#[110, 117, 108, 108]⟩ w1 (I0.out.below B1.out) (by rw [e1]; omega) z1)
  clear hb1 e1
  go_wp2_with fail
  refine CW.out.mono ?_
  rintro e w2 ⟨rfl, hw2⟩
  have W2 : Hid (Wr B q (l ++ [110, 117, 108, 108]) W w2) := Lib.hid ⟨hw2.1, (B1.out.mono hB).trans hw2.2.1, (others_below B1.out).trans hw2.2.2⟩
  clear hw2
  go_wp2_with fail
  exact bodyPost_ret (results_none rfl _ _ _) rfl ⟨rfl, W2.out⟩
end YtabojeleomfgnaaGreatDoor
end Go.Proofs
namespace Go.Proofs
open Go.RowKit
namespace YtabojeleomfgnaaGreatDoor
set_option maxRecDepth 100000
theorem at_nil' {w : World} {d : Nd} {v : Value} (h : At w (.node d []) v) : ∃ pa cap, v = .agg (d.c (.slice pa 0 cap)) := by
  cases h with
  | node d kids av b o f hs hb hf hc =>
    obtain ⟨pa, cap, rfl, _⟩ := hs
    exact ⟨pa, cap, rfl⟩
def nt : Nat → List UInt8
  | 0 => [49]
  | n + 1 => [110, 101, 103, 40] ++ nt n ++ [41]
def it (n : Nat) : List UInt8 := [105, 110] ++ 40 :: Lib.join (List.replicate n [110, 117, 108, 108]) [44] ++ [41]
theorem nt_len : ∀ n, (nt n).length = 5 * n + 1
  | 0 => rfl
  | n + 1 => by
    have := nt_len n
    rw [nt, List.length_append, List.length_append, this]
    simp
    omega
theorem join_len (x : List UInt8) : ∀ n, (Lib.join (List.replicate n x) [44]).length ≤ n * (x.length + 1)
  | 0 => Nat.zero_le _
  | n + 1 => by
    have h := join_len x n
    rw [List.replicate_succ']
    rw [join_snoc]
    split
    · rw [Nat.succ_mul]; omega
    · rw [List.length_append, List.length_cons, Nat.succ_mul]; omega
theorem it_len (n : Nat) : (it n).length ≤ 5 * n + 4 := by
  have h := join_len [110, 117, 108, 108] n
  rw [it, List.length_append, List.length_append, List.length_cons]
  simp at h ⊢
  omega
theorem Bi.lt {B b : Nat} {l : List UInt8} {w : World} (h : Bi B b l w) : b < w.heap.size := by
  rcases h with ⟨_, v, h, _⟩ | ⟨_, v, h, _⟩ <;> exact lt_of_block h
theorem write_chain (w0 : World) (ht : Tb w0) (B q : Nat) (hB : w0.heap.size ≤ B) : ∀ (n : Nat) (v : Value), At w0 (chainT n) v → ∀ (W : World) (l : List UInt8), Low w0 W → B ≤ W.heap.size → Bi B q l W → l.length + (nt n).length ≤ 100000000 →
    Calls Tryz.prog 160 #[.pointer (some ⟨q, 0, none⟩), v] W fun e w' => e = .returned (.tuple #[]) ∧ Wr B q (l ++ nt n) W w'
  | 0, v, h, W, l, _, hBW, hbi, hl => by
    obtain ⟨pa, cap, rfl⟩ := at_nil' h
    exact write_one pa cap B q W l hBW hbi (by rw [nt_len] at hl; omega)
  | n + 1, v, h, W, l, hL, hBW, hbi, hl => by
    rw [chainT] at h
    rw [nt_len] at hl
    have hn := nt_len n
    have e3 : (⟨#[110, 101, 103]⟩ : ByteArray).size = 3 := rfl
    cases h with
    | node d kids av b o f hs hb hf hc =>
      have h1 := write_node negN [chainT n] av w0 b o f hs (fun h => (hb h).2) hf hc B q hB [nt n] rfl ⟨#[110, 101, 103]⟩ (by decide)
        (fun W' hL' => by obtain ⟨pa, cap, rfl, _⟩ := hs; exact hd_neg pa _ cap W' (ht.low hL'))
        (fun j hj W' l' hL' hBW' hbi' hl' => by
          have hj0 : j = 0 := by simpa using hj
          subst hj0
          exact write_chain w0 ht B q hB n _ (hc 0 _ rfl) W' l' hL' hBW' hbi' hl')
        W l hL hBW hbi.lt hbi (by rw [Lib.join_one, e3, hn]; omega)
      rw [Lib.join_one] at h1
      have e : l ++ (⟨#[110, 101, 103]⟩ : ByteArray).data.toList ++ 40 :: nt n ++ [41] = l ++ nt (n + 1) := by rw [nt]; simp
      rw [e] at h1
      exact h1
theorem write_inT (w0 : World) (B q : Nat) (hB : w0.heap.size ≤ B) (n : Nat) (hn2 : n ≤ 1000) (v : Value) (h : At w0 (inT n) v) (W : World) (l : List UInt8) (hL : Low w0 W) (hBW : B ≤ W.heap.size) (hbi : Bi B q l W) (hl : l.length ≤ 1000000) :
    Calls Tryz.prog 160 #[.pointer (some ⟨q, 0, none⟩), v] W fun e w' => e = .returned (.tuple #[]) ∧ Wr B q (l ++ it n) W w' := by
  rw [inT] at h
  have hjl := join_len [110, 117, 108, 108] n
  have e2 : (⟨#[105, 110]⟩ : ByteArray).size = 2 := rfl
  have e4 : ([110, 117, 108, 108] : List UInt8).length + 1 = 5 := rfl
  rw [e4] at hjl
  cases h with
  | node d kids av b o f hs hb hf hc =>
    have h1 := write_node inN _ av w0 b o f hs (fun h => (hb h).2) hf hc B q hB (List.replicate n [110, 117, 108, 108]) (by simp) ⟨#[105, 110]⟩ (by decide)
      (fun W' _ => by obtain ⟨pa, cap, rfl, _⟩ := hs; exact hd_in pa _ cap W')
      (fun j hj W' l' hL' hBW' hbi' hl' => by
        have hj' : j < n := by simpa using hj
        obtain ⟨pa, cap, e⟩ := at_nil' (hc j (.node nullN []) (by simp [hj']))
        rw [e]
        rw [List.getElem_replicate] at hl' ⊢
        exact write_null pa cap B q W' l' hBW' hbi' hl')
      W l hL hBW hbi.lt hbi (by rw [e2]; omega)
    have e : l ++ (⟨#[105, 110]⟩ : ByteArray).data.toList ++ 40 :: Lib.join (List.replicate n [110, 117, 108, 108]) [44] ++ [41] = l ++ it n := by rw [it]; simp
    rw [e] at h1
    exact h1
structure KC (ec : Array Value) (w0 w : World) : Prop where
  low : Below w0.heap.size w0 w
  exb : w.heap[w0.heap.size]? = some (.cells ec 70 (0, 0))
theorem KC.below {ec : Array Value} {w0 w w' : World} (h : KC ec w0 w) (hb : Below w.heap.size w w') : KC ec w0 w' := ⟨below_call h.low hb, (hb.block _ (lt_of_block h.exb)).trans h.exb⟩
theorem KC.alloc {ec : Array Value} {w0 w : World} (h : KC ec w0 w) (o : Obj) : KC ec w0 (w.alloc o) := h.below ((Below.refl _ _).alloc (Nat.le_refl _) o)
set_option maxHeartbeats 4000000 in
theorem cw_node (d : Nd) (kids : List Tr) (av : Value) (w0 : World) (b o : Nat) (f : Nat → List Value) (hs : SlAt av kids.length b o)
    (hb : 0 < kids.length → b < w0.heap.size) (hf : ∀ i, i < kids.length → w0.rangeAt b (o + i * 13) (f i) ∧ (f i).length = 13) (hc : ∀ (i : Nat) (t : Tr), kids[i]? = some t → At w0 t (.agg (f i).toArray))
    (hch : ∀ (j : Nat) (_ : j < kids.length) (W : World), Low w0 W → Calls Tryz.prog 159 #[.agg (f j).toArray] W fun e w' => e = .returned (.int .i64 0) ∧ Below W.heap.size W w')
    (hcp : ∀ (W : World), Low w0 W → Calls Tryz.prog 213 #[.agg (d.c av)] W fun e w' => e = .returned (.int .i64 0) ∧ Below W.heap.size W w') :
    ∀ (W : World), Low w0 W → Calls Tryz.prog 159 #[.agg (d.c av)] W fun e w' => e = .returned (.int .i64 0) ∧ Below W.heap.size W w' := by
  intro W hL
  obtain ⟨pa, cap, rfl, hcap, hmax, hpa⟩ := hs
  have HF := Lib.hid hf
  have HB := Lib.hid hb
  have HC := Lib.hid hc
  have CH := Lib.hid hch
  have CP := Lib.hid hcp
  have HL := Lib.hid hL
  obtain ⟨k, op, n, vk, vn, vs, src, name, dis⟩ := d
  simp only [Nd.c] at CP ⊢
  clear hf hb hc hch hcp hL
  have K0 : Hid (KC (ndC k op n vk vn vs src name dis (.slice pa kids.length cap)) W (W.alloc (.cells (ndC k op n vk vn vs src name dis (.slice pa kids.length cap)) 70))) := Lib.hid ⟨by go_grown, heap_alloc_new W _⟩
  go_enter Tryz.func159, Tryz.ntmps159
  go_wp2_with fail
  go_loopw [9] (fun y wr => ∃ (j : Nat), j ≤ kids.length ∧ y = .int .i64 j ∧ Hid (KC (ndC k op n vk vn vs src name dis (.slice pa kids.length cap)) W wr)) (fun y _ => kids.length - (intOf y).toNat)
  case atStart => exact ⟨0, Nat.zero_le _, rfl, K0⟩
  case round =>
    obtain ⟨j, hj, rfl, hS⟩ := hrel
    have hLj := Lib.hid (HL.out.below hS.out.low)
    by_cases hlt : j < kids.length
    · obtain rfl := hpa (by omega)
      have ht : kids[j]? = some kids[j] := List.getElem?_eq_getElem hlt
      have CI := Lib.hid (CH.out j hlt)
      obtain ⟨d', kids', pa', cap', ht', hv'⟩ := (HC.out j _ ht).inv
      have hR := HF.out j hlt
      have hcs : f j = (d'.c (.slice pa' kids'.length cap')).toList := by
        have := congrArg (fun v => match v with | .agg a => a.toList | _ => []) hv'
        simpa using this
      rw [hcs] at hR
      rw [hv'] at CI
      have HRg := Lib.hid (hLj.out.range hR.1 (HB.out (by omega)))
      generalize kids'.length = n' at *
      obtain ⟨k', op', n1', vk', vn', vs', src', name', dis'⟩ := d'
      simp only [Nd.c] at CI HRg
      clear hR hcs hv' ht' ht
      go_wp2_with (refine load_mid rfl (.tmp 11) rfl b (o + j * 13) _ rfl HRg.out rfl ?_)
      refine (CI.out _ (low_alloc hLj.out _)).mono ?_
      rintro e w2 ⟨rfl, hb2⟩
      have S2 := Lib.hid ((hS.out.alloc _).below hb2)
      clear hb2
      go_wp2_with fail
      go_roundw
      case rel => exact ⟨j + 1, by omega, by go_num, S2⟩
      case measure => simp [intOf]; omega
    · have hj2 : j = kids.length := by omega
      subst hj2
      go_wp2_with (refine load_expr rfl (.tmp 1) rfl W.heap.size _ rfl hS.out.exb rfl ?_)
      refine (CP.out _ hLj.out).mono ?_
      rintro e w3 ⟨rfl, hb3⟩
      have B3 := Lib.hid (show Below W.heap.size W w3 from below_call hS.out.low hb3)
      clear hb3
      go_wp2_with fail
      go_ret
      exact ⟨rfl, B3.out⟩
theorem cw_chain (w0 : World) (ht : Tb w0) : ∀ (n : Nat) (v : Value), At w0 (chainT n) v → ∀ (W : World), Low w0 W → Calls Tryz.prog 159 #[v] W fun e w' => e = .returned (.int .i64 0) ∧ Below W.heap.size W w'
  | 0, v, h, W, hL => by
    rw [chainT] at h
    cases h with
    | node d kids av b o f hs hb hf hc =>
      exact cw_node oneN [] av w0 b o f hs (fun h => (hb h).2) hf hc (fun j h => absurd h (by simp)) (fun W' _ => by obtain ⟨pa, cap, rfl, _⟩ := hs; exact cwp_one pa cap W') W hL
  | n + 1, v, h, W, hL => by
    rw [chainT] at h
    cases h with
    | node d kids av b o f hs hb hf hc =>
      exact cw_node negN [chainT n] av w0 b o f hs (fun h => (hb h).2) hf hc (fun j h W' hL' => by
        have hj : j = 0 := by simpa using h
        subst hj
        exact cw_chain w0 ht n _ (hc 0 _ rfl) W' hL') (fun W' hL' => by obtain ⟨pa, cap, rfl, _⟩ := hs; exact cwp_neg pa cap W' (ht.low hL')) W hL
theorem cw_null (w0 : World) (v : Value) (h : At w0 (.node nullN []) v) (W : World) (hL : Low w0 W) : Calls Tryz.prog 159 #[v] W fun e w' => e = .returned (.int .i64 0) ∧ Below W.heap.size W w' := by
  cases h with
  | node d kids av b o f hs hb hf hc =>
    exact cw_node nullN [] av w0 b o f hs (fun h => (hb h).2) hf hc (fun j h => absurd h (by simp)) (fun W' _ => by obtain ⟨pa, cap, rfl, _⟩ := hs; exact cwp_null pa cap W') W hL
theorem cw_inT (w0 : World) (n : Nat) (hn : 2 ≤ n) (v : Value) (h : At w0 (inT n) v) (W : World) (hL : Low w0 W) : Calls Tryz.prog 159 #[v] W fun e w' => e = .returned (.int .i64 0) ∧ Below W.heap.size W w' := by
  rw [inT] at h
  cases h with
  | node d kids av b o f hs hb hf hc =>
    have hs' := hs
    rw [List.length_replicate] at hs'
    exact cw_node inN _ av w0 b o f hs (fun h => (hb h).2) hf hc (fun j h W' hL' => by
      have hj : j < n := by simpa using h
      exact cw_null w0 _ (hc j (.node nullN []) (by simp [hj])) W' hL') (fun W' _ => by obtain ⟨pa, cap, rfl, _⟩ := hs'; exact cwp_in pa n cap hn W') W hL
end YtabojeleomfgnaaGreatDoor
end Go.Proofs
namespace Go.Proofs
open Go.RowKit
namespace YtabojeleomfgnaaGreatDoor
set_option maxRecDepth 100000
theorem blen_t (B b : Nat) (l : List UInt8) (w : World) (h : Bi B b l w) : Calls Tryz.prog 161 #[.pointer (some ⟨b, 0, none⟩)] w fun e w' => e = .returned (.int .i64 l.length) ∧ w' = w := by
  have h1 := Any.Builder_Len_f Tryz.lays170 B b _ w h
  rw [Lib.byteCells_length] at h1
  exact h1
def txB (t : Tr) (tx : List UInt8) : ByteArray := if bigB t = true then ⟨#[]⟩ else ⟨tx.toArray⟩
set_option maxHeartbeats 4000000 in
theorem ExprText_t (t : Tr) (v : Value) (tx : List UInt8) (w : World) (h : At w t v) (htx : tx.length ≤ 65536)
    (hcw : ∀ (W : World), Low w W → Calls Tryz.prog 159 #[v] W fun e w' => e = .returned (.int .i64 0) ∧ Below W.heap.size W w')
    (hwr : ∀ (B q : Nat) (W : World), w.heap.size ≤ B → Low w W → B ≤ W.heap.size → Bi B q [] W → Calls Tryz.prog 160 #[.pointer (some ⟨q, 0, none⟩), v] W fun e w' => e = .returned (.tuple #[]) ∧ Wr B q tx W w') :
    Calls Tryz.prog 80 #[v] w fun e w' => e = .returned (.tuple #[.string (txB t tx), .int .i64 (sizedN t)]) ∧ Below w.heap.size w w' := by
  have HX := Lib.hid (fun W (hL : Low w W) => tooLarge_t t v W (h.low hL))
  have CW := Lib.hid hcw
  have WR := Lib.hid hwr
  have HT := Lib.hid htx
  have HB : Hid (bigB t = true ∧ sizedN t = 2 ∧ txB t tx = ⟨#[]⟩ ∨ bigB t = false ∧ sizedN t = 0 ∧ txB t tx = ⟨tx.toArray⟩) := Lib.hid (by unfold sizedN txB; cases bigB t <;> simp)
  generalize sizedN t = S at HB ⊢
  generalize txB t tx = TX at HB ⊢
  obtain ⟨d, kids, pa, cap, rfl, rfl⟩ := h.inv
  generalize kids.length = n' at *
  generalize bigB (Tr.node d kids) = B at *
  obtain ⟨k, op, n, vk, vn, vs, src, name, dis⟩ := d
  simp only [Nd.c] at HX CW WR ⊢
  clear h hcw hwr htx
  rcases HB.out with ⟨rfl, rfl, rfl⟩ | ⟨rfl, rfl, rfl⟩
  · clear HB
    go_enter Tryz.func80, Tryz.ntmps80
    go_wp2_with fail
    refine (HX.out _ (low_alloc (Low.refl w) _)).mono ?_
    rintro e w1 ⟨rfl, hb1⟩
    have B1 := Lib.hid (show Below w.heap.size w w1 from below_call (by go_grown) hb1)
    clear hb1
    go_wp2_with fail
    go_ret2
    exact ⟨rfl, B1.out⟩
  · clear HB
    go_enter Tryz.func80, Tryz.ntmps80
    go_wp2_with fail
    refine (HX.out _ (low_alloc (Low.refl w) _)).mono ?_
    rintro e w1 ⟨rfl, hb1⟩
    have K1 : Hid (KC (ndC k op n vk vn vs src name dis (.slice pa n' cap)) w w1) := Lib.hid ⟨below_call (by go_grown) hb1, (hb1.block _ (by simp)).trans (heap_alloc_new w _)⟩
    clear hb1
    go_wp2_with (refine load_expr rfl (.tmp 1) rfl w.heap.size _ rfl K1.out.exb rfl ?_)
    refine (CW.out _ (Low.of_below K1.out.low)).mono ?_
    rintro e w2 ⟨rfl, hb2⟩
    have K2 := Lib.hid (K1.out.below hb2)
    clear hb2
    have F2 : Hid (Bi w2.heap.size w2.heap.size [] (w2.alloc (.cells #[.pointer none, .slice none 0 0] 145))) := Lib.hid (Lib.IsBuilderF.of (Lib.fresh_isBuilder 145 5 w2))
    have K3 := Lib.hid (K2.out.alloc (.cells #[.pointer none, .slice none 0 0] 145))
    have z2 : w.heap.size ≤ w2.heap.size := K2.out.low.size
    have CR := Lib.hid (WR.out w2.heap.size w2.heap.size (w2.alloc (.cells #[.pointer none, .slice none 0 0] 145)) z2 (Low.of_below K3.out.low) (by simp) F2.out)
    have r2 : w.heap.size < w2.heap.size := lt_of_block K2.out.exb
    go_wp2_with (refine load_expr rfl (.tmp 1) rfl w.heap.size _ rfl K3.out.exb rfl ?_)
    refine CR.out.mono ?_
    rintro e w4 ⟨rfl, hw4⟩
    have I4 := Lib.hid hw4.1
    have B4 : Hid (Below w.heap.size w w4) := Lib.hid (K3.out.low.trans (hw4.2.1.mono z2))
    have z4 : w2.heap.size ≤ w4.heap.size := Nat.le_trans (by simp) hw4.2.1.size
    have CL := Lib.hid (blen_t w2.heap.size w2.heap.size tx w4 I4.out)
    have CS := Lib.hid (Tryz.Builder_String_k w2.heap.size w2.heap.size tx w4 I4.out z4)
    have hlen : (tx.length : Int) ≤ 65536 := by have := HT.out; omega
    clear hw4 CR z2
    go_wp2_with fail
    refine CL.out.mono ?_
    rintro e wx ⟨rfl, hwx⟩
    rw [hwx]
    clear hwx wx
    go_wp2_with fail
    refine CS.out.mono ?_
    rintro e w5 ⟨rfl, hb5⟩
    have B5 : Hid (Below w.heap.size w w5) := Lib.hid (B4.out.trans (hb5.mono K2.out.low.size))
    clear hb5
    go_wp2_with fail
    go_ret2
    exact ⟨rfl, B5.out⟩
end YtabojeleomfgnaaGreatDoor
end Go.Proofs
namespace Go.Proofs
open Go.Shelf
def Tryz.lays156_ren : Go.Shelf.Ren := ⟨fun | 156 => 215 | 165 => 169 | 166 => 170 | 169 => 162 | 240 => 227 | 241 => 228 | 276 => 273 | 277 => 274 | n => n, fun | 0 => 0 | 3 => 3 | 4 => 4 | 5 => 5 | 9 => 9 | 20 => 20 | 31 => 56 | 37 => 32 | 70 => 143 | 72 => 145 | 75 => 159 | 76 => 160 | 80 => 136 | 127 => 185 | 164 => 230 | n => n, fun | n => n⟩
theorem Tryz.lays156 : Go.Proofs.Lays.n156 Tryz.prog Tryz.lays156_ren := {
  mixed := by kernel_rfl
  f156 := Tryz.func215.trans (congrArg some (by kernel_rfl))
  f165 := Tryz.func169.trans (congrArg some (by kernel_rfl))
  f166 := Tryz.func170.trans (congrArg some (by kernel_rfl))
  f169 := Tryz.func162.trans (congrArg some (by kernel_rfl))
  f240 := Tryz.func227.trans (congrArg some (by kernel_rfl))
  f241 := Tryz.func228.trans (congrArg some (by kernel_rfl))
  f276 := Tryz.func273.trans (congrArg some (by kernel_rfl))
  f277 := Tryz.func274.trans (congrArg some (by kernel_rfl))
  t0 := Tryz.underlying0
  a0 := Tryz.isAgg0
  z0 := Tryz.sizeOf0
  v0 := Tryz.zeroValue0
  t3 := Tryz.underlying3
  a3 := Tryz.isAgg3
  z3 := Tryz.sizeOf3
  v3 := Tryz.zeroValue3
  t4 := Tryz.underlying4
  a4 := Tryz.isAgg4
  z4 := Tryz.sizeOf4
  v4 := Tryz.zeroValue4
  t9 := Tryz.underlying9
  a9 := Tryz.isAgg9
  z9 := Tryz.sizeOf9
  v9 := Tryz.zeroValue9
  t20 := Tryz.underlying20
  a20 := Tryz.isAgg20
  z20 := Tryz.sizeOf20
  v20 := Tryz.zeroValue20
  t31 := Tryz.underlying56
  a31 := Tryz.isAgg56
  z31 := Tryz.sizeOf56
  v31 := Tryz.zeroValue56
  t37 := Tryz.underlying32
  a37 := Tryz.isAgg32
  z37 := Tryz.sizeOf32
  v37 := Tryz.zeroValue32
  t70 := Tryz.underlying143
  a70 := Tryz.isAgg143
  z70 := Tryz.sizeOf143
  v70 := Tryz.zeroValue143
  t72 := Tryz.underlying145
  a72 := Tryz.isAgg145
  z72 := Tryz.sizeOf145
  v72 := Tryz.zeroValue145
  t75 := Tryz.underlying159
  a75 := Tryz.isAgg159
  z75 := Tryz.sizeOf159
  v75 := Tryz.zeroValue159
  t76 := Tryz.underlying160
  a76 := Tryz.isAgg160
  z76 := Tryz.sizeOf160
  v76 := Tryz.zeroValue160
  t127 := Tryz.underlying185
  a127 := Tryz.isAgg185
  z127 := Tryz.sizeOf185
  v127 := Tryz.zeroValue185
  t164 := Tryz.underlying230
  a164 := Tryz.isAgg230
  z164 := Tryz.sizeOf230
  v164 := Tryz.zeroValue230 }
theorem Tryz.Builder_Extra_156 : Builder.Extra Tryz.prog Tryz.lays156_ren := {
  sizeBuilder := by kernel_rfl
  liesBuilder := by kernel_rfl
  t5 := Tryz.underlying5
  a5 := Tryz.isAgg5
  z5 := Tryz.sizeOf5
  v5 := Tryz.zeroValue5
  infoByte := by kernel_rfl
  cellsByte := by kernel_rfl
  sizeByte := by kernel_rfl
  neB5 := by decide }
open Go.RowKit in
/-- strings.Join. -/
theorem Tryz.strings_Join (bk o c : Nat) (xs : List ByteArray) (sep : ByteArray) (w : World)
    (hcells : ∀ (j : Nat) x, xs[j]? = some x → w.cell? ⟨bk, o + j, none⟩ = some (.string x)) (hbk : bk < w.heap.size) (hN : xs.length ≤ 140737488355328) (hcap : xs.length ≤ c)
    (hlen : (Lib.join (xs.map (·.data.toList)) sep.data.toList).length ≤ 140737488355328) :
    Calls Tryz.prog 215 #[.slice (some ⟨bk, o, none⟩) xs.length c, .string sep] w fun e w' => e = .returned (.string ⟨(Lib.join (xs.map (·.data.toList)) sep.data.toList).toArray⟩) ∧ Below w.heap.size w w' := Any.strings_Join Tryz.lays156 Tryz.Builder_Extra_156 bk o c xs sep w hcells hbk hN hcap hlen
open Go.RowKit in
theorem Tryz.strings_Join_none (a : Option Addr) (c : Nat) (sep : ByteArray) (w : World) :
    Calls Tryz.prog 215 #[.slice a 0 c, .string sep] w fun e w' => e = .returned (.string ⟨#[]⟩) ∧ w' = w := Any.strings_Join_none Tryz.lays156 Tryz.Builder_Extra_156 a c sep w
end Go.Proofs
namespace Go.Proofs
open Go.RowKit
namespace YtabojeleomfgnaaGreatDoor
set_option maxRecDepth 100000
/-- while the texts of the Args are gathered, by the reference -/
structure KX (ec : Array Value) (n : Nat) (V : Value) (xs : List Value) (w0 w : World) : Prop where
  low : Below w0.heap.size w0 w
  exb : w.heap[w0.heap.size]? = some (.cells ec 70 (0, 0))
  own : w.ownsRow (w0.heap.size + 1) 9 1 V n xs
theorem KX.room {ec : Array Value} {n : Nat} {V : Value} {xs : List Value} {w0 w : World} (h : KX ec n V xs w0 w) : w0.heap.size + 1 ≤ w.heap.size := lt_of_block h.exb
theorem KX.below {ec : Array Value} {n : Nat} {V : Value} {xs : List Value} {w0 w w' : World} (h : KX ec n V xs w0 w) (hb : Below w.heap.size w w') : KX ec n V xs w0 w' :=
  ⟨below_call h.low hb, (hb.block _ (lt_of_block h.exb)).trans h.exb, h.own.kept (row := none) ⟨hb.os, hb.tape, hb.output, hb.size, fun k hk1 _ => hb.block k hk1⟩ (by
    cases hv : V.ownBlock with
    | none => exact .inl rfl
    | some k => exact .inr (fun e => by cases e))⟩
theorem KX.alloc {ec : Array Value} {n : Nat} {V : Value} {xs : List Value} {w0 w : World} (h : KX ec n V xs w0 w) (o : Obj) : KX ec n V xs w0 (w.alloc o) := h.below ((Below.refl _ _).alloc (Nat.le_refl _) o)
theorem KX.grows {ec : Array Value} {n m : Nat} {V V' : Value} {xs ys : List Value} {w0 w w' : World} (h : KX ec n V xs w0 w) (hg : w.grownBy w' V.ownBlock) (ho : w'.ownsRow (w0.heap.size + 1) 9 1 V' m ys) : KX ec m V' ys w0 w' := by
  have hne : ∀ k, k < w0.heap.size + 1 → some k ≠ V.ownBlock := fun k hk e => by have := (h.own.lt k e.symm).1; omega
  refine ⟨⟨hg.os.trans h.low.os, hg.tape.trans h.low.tape, hg.output.trans h.low.output, Nat.le_trans h.low.size hg.size, fun k hk => (hg.block k (Nat.lt_of_lt_of_le hk h.low.size) (hne k (by omega))).trans (h.low.block k hk)⟩, ?_, ho⟩
  exact (hg.block _ (lt_of_block h.exb) (hne _ (by omega))).trans h.exb
theorem info9 : (Tryz.prog.info? 9).map (fun i => (i.zero, i.size, i.bytes)) = some (some (.string ⟨#[]⟩), 1, 16) := by kernel_rfl
theorem news9 (w : World) (u0 : Value) (j : Nat) (u : Value) (h : [u0][j]? = some u) : (w.alloc (.cells #[u0] 9)).cell? ((⟨w.heap.size, 0, none⟩ : Addr).add j) = some u := by
  have hadd : (⟨w.heap.size, 0, none⟩ : Addr).add j = ⟨w.heap.size, j, none⟩ := by unfold Addr.add; split <;> simp_all
  rw [hadd, cell_of_row _ _ j _ _ _ (heap_alloc_new w _)]
  simpa using h
/-- a list of texts as strings -/
abbrev strs (ts : List (List UInt8)) : List Value := ts.map fun t => .string ⟨t.toArray⟩
theorem wpList_pushT {ops : Array Oper} {rest : List Oper} {o : Oper} {a : Act} {w : World} {Q : Exit → Act → World → Prop} (hgd : o.guard = none) (s x : Operand) (ho : o.op = .call { callee := .builtin .append, args := #[s, x], argTypes := #[56, 56] })
    (B : Nat) (wr : World) (ts : List (List UInt8)) (v : Value) (t : List UInt8) (hs : a.eval s = v) (hA : wr.ownsRow B 9 1 v ts.length (strs ts)) (hB : B ≤ wr.heap.size) (hw : w = wr.alloc (.cells #[.string ⟨t.toArray⟩] 9))
    (hx : a.eval x = .slice (some ⟨wr.heap.size, 0, none⟩) 1 1) (hlen : ts.length ≤ 1000000000)
    (h : ∀ v' w', w'.ownsRow B 9 1 v' (ts ++ [t]).length (strs (ts ++ [t])) → w.grownBy w' v.ownBlock → wpList Tryz.prog ops Q rest (a.put o.dst v') w') : wpList Tryz.prog ops Q (o :: rest) a w := by
  subst hw
  obtain ⟨i9, hi, hz0, hz1, hz2⟩ := info_parts info9
  have hA1 : (wr.alloc (.cells #[.string ⟨t.toArray⟩] 9)).ownsRow B 9 1 v ts.length (strs ts) := by
    obtain ⟨h1, h2⟩ := hA
    refine ⟨h1, ?_⟩
    rcases h2 with h2 | ⟨g, cap, cur, hv, h3, h4, h5⟩
    · exact Or.inl h2
    · exact Or.inr ⟨g, cap, cur, hv, h3, (heap_alloc_old _ _ (lt_of_block h4)).trans h4, h5⟩
  refine wpList_append_own _ hgd s x 56 ho B 9 i9 (.string ⟨#[]⟩) 1 16 Tryz.underlying56 hi hz0 hz1 hz2 rfl (by decide) v ts.length _ hs hA1 ⟨wr.heap.size, 0, none⟩ 1 1 [.string ⟨t.toArray⟩] hx rfl (news9 _ _) (by simp [Value.oneCell']) (by unfold maxLen; omega) (by omega) (Nat.le_trans hB (by simp)) ?_
  intro v' w' h1 h2 _
  refine h v' w' ?_ h2
  rw [strs, List.map_append, List.length_append]
  exact h1
/-- a slice of texts that is not empty -/
def Sts (w : World) (v : Value) (ts : List (List UInt8)) : Prop := ∃ g cap, v = .slice (some ⟨g, 0, none⟩) ts.length cap ∧ ts.length ≤ cap ∧ g < w.heap.size ∧ ∀ (j : Nat) (x : ByteArray), (ts.map fun t => (⟨t.toArray⟩ : ByteArray))[j]? = some x → w.cell? ⟨g, 0 + j, none⟩ = some (.string x)
theorem sts_of {w : World} {B : Nat} {v : Value} {ts : List (List UInt8)} (h : w.ownsRow B 9 1 v ts.length (strs ts)) (hn : 0 < ts.length) : Sts w v ts := by
  have hcell := fun g hg => h.cells (g := g) hg
  obtain ⟨h1, h2⟩ := h
  rcases h2 with h2 | ⟨g, cap, cur, hv, h3, h4, h5, h6, _⟩
  · obtain ⟨h2, h3⟩ := h2
    omega
  · refine ⟨g, cap, hv, h5, lt_of_block h4, fun j x hx => ?_⟩
    have h7 := hcell g (by rw [hv]; rfl) j (.string x) (by
      rw [List.getElem?_map] at hx ⊢
      cases hj : ts[j]? with
      | none => rw [hj] at hx; cases hx
      | some t => rw [hj] at hx; simp at hx ⊢; exact hx)
    have hadd : ∀ j, (⟨g, 0, none⟩ : Addr).add j = ⟨g, j, none⟩ := fun j => by unfold Addr.add; split <;> simp_all
    rw [hadd] at h7
    simpa using h7
theorem jn_t (v : Value) (ts : List (List UInt8)) (w : World) (h : Sts w v ts) (hn : ts.length ≤ 1000000) (hl : (Lib.join ts [44]).length ≤ 1000000) : Calls Tryz.prog 215 #[v, .string ⟨#[44]⟩] w fun e w' => e = .returned (.string ⟨(Lib.join ts [44]).toArray⟩) ∧ Below w.heap.size w w' := by
  obtain ⟨g, cap, rfl, hcap, hg, hc⟩ := h
  have e1 : (ts.map fun t => (⟨t.toArray⟩ : ByteArray)).map (·.data.toList) = ts := by rw [List.map_map]; simp [Function.comp_def]
  have h1 := Tryz.strings_Join g 0 cap (ts.map fun t => (⟨t.toArray⟩ : ByteArray)) ⟨#[44]⟩ w hc hg (by rw [List.length_map]; omega) (by rw [List.length_map]; exact hcap) (by rw [e1]; show (Lib.join ts [44]).length ≤ _; omega)
  rw [e1, List.length_map] at h1
  exact h1
theorem take_next' (ts : List (List UInt8)) (j : Nat) (h : j < ts.length) : ts.take (j + 1) = ts.take j ++ [ts[j]] := List.take_succ_eq_append_getElem h
set_option maxHeartbeats 4000000 in
theorem opNames_t (w : World) : Calls Tryz.prog 216 #[] w fun e w' => e = .returned (.slice (some ⟨w.heap.size, 0, none⟩) 28 28) ∧ w'.cell? ⟨w.heap.size, 17, none⟩ = some (.string ⟨#[110, 101, 103]⟩) ∧ w.heap.size < w'.heap.size ∧ Below w.heap.size w w' := by
  go_enter Tryz.func216, Tryz.ntmps216
  go_wp2
  go_ret
  exact ⟨rfl, (cell_of_row _ _ 17 _ _ _ (heap_alloc_new w _)).trans rfl, by simp, by go_grown⟩
end YtabojeleomfgnaaGreatDoor
end Go.Proofs
namespace Go.Proofs
open Go.RowKit
namespace YtabojeleomfgnaaGreatDoor
set_option maxRecDepth 100000
theorem KX.low' {ec : Array Value} {n : Nat} {V : Value} {xs : List Value} {w0 w W : World} (h : KX ec n V xs w w0) (hL : Low W w) : Low W w0 := hL.below h.low
set_option maxHeartbeats 8000000 in
theorem rtext_in (kids : List Tr) (av : Value) (w0 : World) (b o : Nat) (f : Nat → List Value) (hs : SlAt av kids.length b o)
    (hb : 0 < kids.length → b < w0.heap.size) (hf : ∀ i, i < kids.length → w0.rangeAt b (o + i * 13) (f i) ∧ (f i).length = 13) (hc : ∀ (i : Nat) (t : Tr), kids[i]? = some t → At w0 t (.agg (f i).toArray))
    (ts : List (List UInt8)) (hts : ts.length = kids.length) (hlen : ts.length ≤ 1000) (hjl : (Lib.join ts [44]).length ≤ 1000000) (hn : 0 < ts.length) 
    (hch : ∀ (j : Nat) (h : j < ts.length) (W : World), Low w0 W → Calls Tryz.prog 164 #[.agg (f j).toArray] W fun e w' => e = .returned (.string ⟨ts[j].toArray⟩) ∧ Below W.heap.size W w') :
    ∀ (W : World), Low w0 W → Calls Tryz.prog 164 #[.agg (inN.c av)] W fun e w' => e = .returned (.string ⟨([105, 110] ++ 40 :: Lib.join ts [44] ++ [41]).toArray⟩) ∧ Below W.heap.size W w' := by
  intro W hL
  obtain ⟨pa, cap, rfl, hcap, hmax, hpa⟩ := hs
  have HF := Lib.hid hf
  have HB := Lib.hid hb
  have HC := Lib.hid hc
  have CH := Lib.hid hch
  have HL := Lib.hid hL
  have HN := Lib.hid hn
  have HJ := Lib.hid hjl
  have HK := Lib.hid hts
  simp only [Nd.c, inN]
  clear hf hb hc hch hL hn hjl
  rw [← hts] at hcap hmax hpa ⊢
  clear hts
  generalize hRes : (⟨([105, 110] ++ 40 :: Lib.join ts [44] ++ [41]).toArray⟩ : ByteArray) = RES
  have HR := Lib.hid hRes
  clear hRes
  have K0 : Hid (KX (ndC 6 0 0 0 0 ⟨#[]⟩ ⟨#[]⟩ ⟨#[]⟩ false (.slice pa ts.length cap)) 0 (.slice none 0 0) (strs (ts.take 0)) W (W.alloc (.cells (ndC 6 0 0 0 0 ⟨#[]⟩ ⟨#[]⟩ ⟨#[]⟩ false (.slice pa ts.length cap)) 70))) := Lib.hid ⟨by go_grown, heap_alloc_new W _, World.ownsRow_nil _ _ _ _⟩
  go_enter Tryz.func164, Tryz.ntmps164
  go_wp2_with fail
  go_loopw [3, 11] (fun u y wr => ∃ (j : Nat) (V : Value), j ≤ ts.length ∧ V = u ∧ y = .int .i64 j ∧ Hid (KX (ndC 6 0 0 0 0 ⟨#[]⟩ ⟨#[]⟩ ⟨#[]⟩ false (.slice pa ts.length cap)) j V (strs (ts.take j)) W wr)) (fun _ y _ => ts.length - (intOf y).toNat)
  case atStart => exact ⟨0, _, Nat.zero_le _, rfl, rfl, K0⟩
  case round =>
    obtain ⟨j, V, hj, rfl, rfl, hS⟩ := hrel
    have hLj := Lib.hid (hS.out.low' HL.out)
    by_cases hlt : j < ts.length
    · obtain rfl := hpa (by omega)
      have ht : kids[j]? = some (kids[j]'(by have := HK.out; omega)) := List.getElem?_eq_getElem (by have := HK.out; omega)
      have CI := Lib.hid (CH.out j hlt)
      have HT := Lib.hid (take_next' ts j hlt)
      obtain ⟨d', kids', pa', cap', ht', hv'⟩ := (HC.out j _ ht).inv
      have hR := HF.out j (by have := HK.out; omega)
      have hcs : f j = (d'.c (.slice pa' kids'.length cap')).toList := by
        have := congrArg (fun v => match v with | .agg a => a.toList | _ => []) hv'
        simpa using this
      rw [hcs] at hR
      rw [hv'] at CI
      have HRg := Lib.hid (hLj.out.range hR.1 (HB.out (by have := HK.out; omega)))
      have hl1 : (ts.take j).length = j := by rw [List.length_take]; omega
      generalize ts[j] = tj at *
      generalize kids'.length = n' at *
      obtain ⟨k', op', n1', vk', vn', vs', src', name', dis'⟩ := d'
      simp only [Nd.c] at CI HRg
      clear hR hcs hv' ht' ht
      go_wp2_with (refine load_mid rfl (.tmp 13) rfl b (o + j * 13) _ rfl HRg.out rfl ?_)
      refine (CI.out _ (low_alloc hLj.out _)).mono ?_
      rintro e w2 ⟨rfl, hb2⟩
      have S2 := Lib.hid ((hS.out.alloc _).below hb2)
      clear hb2
      go_wp2_with (at_builtin; go_must (refine wpList_pushT rfl (.tmp 15) (.tmp 18) rfl (W.heap.size + 1) w2 (ts.take j) V tj rfl (by rw [hl1]; exact S2.out.own) S2.out.room rfl rfl (by rw [hl1]; omega) ?_); intro v3 w3 ho3 hg3; have S3 := Lib.hid ((S2.out.alloc _).grows hg3 ho3); clear ho3 hg3)
      have e1 : (List.take j ts ++ [tj]).length = j + 1 := by rw [List.length_append, hl1]; rfl
      have SR : Hid (KX (ndC 6 0 0 0 0 ⟨#[]⟩ ⟨#[]⟩ ⟨#[]⟩ false (.slice (some ⟨b, o, none⟩) ts.length cap)) (j + 1) v3 (strs (ts.take (j + 1))) W w3) := Lib.hid (by rw [HT.out, ← e1]; exact S3.out)
      clear e1 hl1
      go_roundw
      case rel => exact ⟨j + 1, v3, by omega, rfl, by go_num, SR⟩
      case measure => simp [intOf]; omega
    · have hj2 : j = ts.length := by omega
      subst hj2
      have HT : Hid (ts.take ts.length = ts) := Lib.hid List.take_length
      rw [HT.out] at hS
      have hne := HN.out
      have CJ := Lib.hid (jn_t V ts wr (sts_of hS.out.own HN.out) (by omega) HJ.out)
      have hJl : (⟨(Lib.join ts [44]).toArray⟩ : ByteArray).size ≤ 1000000 := HJ.out
      generalize hJJ : (⟨(Lib.join ts [44]).toArray⟩ : ByteArray) = J at CJ hJl
      have HJJ := Lib.hid hJJ
      clear hJJ
      go_wp2_with fail
      refine CJ.out.mono ?_
      rintro e w3 ⟨rfl, hb3⟩
      have S3 := Lib.hid (hS.out.below hb3)
      have r3 : W.heap.size < w3.heap.size := lt_of_block S3.out.exb
      clear hb3 CJ
      have x0 : w3.cell? ⟨W.heap.size, 0, none⟩ = some (.int .i64 6) := (cell_of_row w3 _ 0 _ _ _ S3.out.exb).trans rfl
      have x1 : w3.cell? ⟨W.heap.size, 1, none⟩ = some (.int .i64 0) := (cell_of_row w3 _ 1 _ _ _ S3.out.exb).trans rfl
      go_wp2_with fail
      go_ret
      exact ⟨ret_str (by rw [← HR.out, ← HJJ.out]; apply ByteArray.ext; simp), S3.out.low⟩
set_option maxHeartbeats 8000000 in
theorem rtext_neg (kids : List Tr) (av : Value) (w0 : World) (b o : Nat) (f : Nat → List Value) (hs : SlAt av kids.length b o)
    (hb : 0 < kids.length → b < w0.heap.size) (hf : ∀ i, i < kids.length → w0.rangeAt b (o + i * 13) (f i) ∧ (f i).length = 13) (hc : ∀ (i : Nat) (t : Tr), kids[i]? = some t → At w0 t (.agg (f i).toArray))
    (ts : List (List UInt8)) (hts : ts.length = kids.length) (hlen : ts.length ≤ 1000) (hjl : (Lib.join ts [44]).length ≤ 1000000) (hn : 0 < ts.length) 
    (hch : ∀ (j : Nat) (h : j < ts.length) (W : World), Low w0 W → Calls Tryz.prog 164 #[.agg (f j).toArray] W fun e w' => e = .returned (.string ⟨ts[j].toArray⟩) ∧ Below W.heap.size W w') :
    ∀ (W : World), Low w0 W → Calls Tryz.prog 164 #[.agg (negN.c av)] W fun e w' => e = .returned (.string ⟨([110, 101, 103] ++ 40 :: Lib.join ts [44] ++ [41]).toArray⟩) ∧ Below W.heap.size W w' := by
  intro W hL
  obtain ⟨pa, cap, rfl, hcap, hmax, hpa⟩ := hs
  have HF := Lib.hid hf
  have HB := Lib.hid hb
  have HC := Lib.hid hc
  have CH := Lib.hid hch
  have HL := Lib.hid hL
  have HN := Lib.hid hn
  have HJ := Lib.hid hjl
  have HK := Lib.hid hts
  simp only [Nd.c, negN]
  clear hf hb hc hch hL hn hjl
  rw [← hts] at hcap hmax hpa ⊢
  clear hts
  generalize hRes : (⟨([110, 101, 103] ++ 40 :: Lib.join ts [44] ++ [41]).toArray⟩ : ByteArray) = RES
  have HR := Lib.hid hRes
  clear hRes
  have K0 : Hid (KX (ndC 4 17 0 0 0 ⟨#[]⟩ ⟨#[]⟩ ⟨#[]⟩ false (.slice pa ts.length cap)) 0 (.slice none 0 0) (strs (ts.take 0)) W (W.alloc (.cells (ndC 4 17 0 0 0 ⟨#[]⟩ ⟨#[]⟩ ⟨#[]⟩ false (.slice pa ts.length cap)) 70))) := Lib.hid ⟨by go_grown, heap_alloc_new W _, World.ownsRow_nil _ _ _ _⟩
  go_enter Tryz.func164, Tryz.ntmps164
  go_wp2_with fail
  go_loopw [3, 11] (fun u y wr => ∃ (j : Nat) (V : Value), j ≤ ts.length ∧ V = u ∧ y = .int .i64 j ∧ Hid (KX (ndC 4 17 0 0 0 ⟨#[]⟩ ⟨#[]⟩ ⟨#[]⟩ false (.slice pa ts.length cap)) j V (strs (ts.take j)) W wr)) (fun _ y _ => ts.length - (intOf y).toNat)
  case atStart => exact ⟨0, _, Nat.zero_le _, rfl, rfl, K0⟩
  case round =>
    obtain ⟨j, V, hj, rfl, rfl, hS⟩ := hrel
    have hLj := Lib.hid (hS.out.low' HL.out)
    by_cases hlt : j < ts.length
    · obtain rfl := hpa (by omega)
      have ht : kids[j]? = some (kids[j]'(by have := HK.out; omega)) := List.getElem?_eq_getElem (by have := HK.out; omega)
      have CI := Lib.hid (CH.out j hlt)
      have HT := Lib.hid (take_next' ts j hlt)
      obtain ⟨d', kids', pa', cap', ht', hv'⟩ := (HC.out j _ ht).inv
      have hR := HF.out j (by have := HK.out; omega)
      have hcs : f j = (d'.c (.slice pa' kids'.length cap')).toList := by
        have := congrArg (fun v => match v with | .agg a => a.toList | _ => []) hv'
        simpa using this
      rw [hcs] at hR
      rw [hv'] at CI
      have HRg := Lib.hid (hLj.out.range hR.1 (HB.out (by have := HK.out; omega)))
      have hl1 : (ts.take j).length = j := by rw [List.length_take]; omega
      generalize ts[j] = tj at *
      generalize kids'.length = n' at *
      obtain ⟨k', op', n1', vk', vn', vs', src', name', dis'⟩ := d'
      simp only [Nd.c] at CI HRg
      clear hR hcs hv' ht' ht
      go_wp2_with (refine load_mid rfl (.tmp 13) rfl b (o + j * 13) _ rfl HRg.out rfl ?_)
      refine (CI.out _ (low_alloc hLj.out _)).mono ?_
      rintro e w2 ⟨rfl, hb2⟩
      have S2 := Lib.hid ((hS.out.alloc _).below hb2)
      clear hb2
      go_wp2_with (at_builtin; go_must (refine wpList_pushT rfl (.tmp 15) (.tmp 18) rfl (W.heap.size + 1) w2 (ts.take j) V tj rfl (by rw [hl1]; exact S2.out.own) S2.out.room rfl rfl (by rw [hl1]; omega) ?_); intro v3 w3 ho3 hg3; have S3 := Lib.hid ((S2.out.alloc _).grows hg3 ho3); clear ho3 hg3)
      have e1 : (List.take j ts ++ [tj]).length = j + 1 := by rw [List.length_append, hl1]; rfl
      have SR : Hid (KX (ndC 4 17 0 0 0 ⟨#[]⟩ ⟨#[]⟩ ⟨#[]⟩ false (.slice (some ⟨b, o, none⟩) ts.length cap)) (j + 1) v3 (strs (ts.take (j + 1))) W w3) := Lib.hid (by rw [HT.out, ← e1]; exact S3.out)
      clear e1 hl1
      go_roundw
      case rel => exact ⟨j + 1, v3, by omega, rfl, by go_num, SR⟩
      case measure => simp [intOf]; omega
    · have hj2 : j = ts.length := by omega
      subst hj2
      have HT : Hid (ts.take ts.length = ts) := Lib.hid List.take_length
      rw [HT.out] at hS
      have hne := HN.out
      have CJ := Lib.hid (jn_t V ts wr (sts_of hS.out.own HN.out) (by omega) HJ.out)
      have hJl : (⟨(Lib.join ts [44]).toArray⟩ : ByteArray).size ≤ 1000000 := HJ.out
      generalize hJJ : (⟨(Lib.join ts [44]).toArray⟩ : ByteArray) = J at CJ hJl
      have HJJ := Lib.hid hJJ
      clear hJJ
      go_wp2_with fail
      refine CJ.out.mono ?_
      rintro e w3 ⟨rfl, hb3⟩
      have S3 := Lib.hid (hS.out.below hb3)
      have r3 : W.heap.size < w3.heap.size := lt_of_block S3.out.exb
      clear hb3 CJ
      have x0 : w3.cell? ⟨W.heap.size, 0, none⟩ = some (.int .i64 4) := (cell_of_row w3 _ 0 _ _ _ S3.out.exb).trans rfl
      have x1 : w3.cell? ⟨W.heap.size, 1, none⟩ = some (.int .i64 17) := (cell_of_row w3 _ 1 _ _ _ S3.out.exb).trans rfl
      go_wp2_with fail
      have hS0 : (fun w' : World => w'.cell? ⟨W.heap.size, 1, none⟩ = some (.int .i64 17) ∧ W.heap.size < w'.heap.size ∧ Below W.heap.size W w') w3.drew := ⟨x1, r3, S3.out.low.drew⟩
      clear x0 x1 r3
      refine wp_region_held_drew (S := fun w' : World => w'.cell? ⟨W.heap.size, 1, none⟩ = some (.int .i64 17) ∧ W.heap.size < w'.heap.size ∧ Below W.heap.size W w') (by kernel_rfl) hS0 ?_
      intro hS1
      clear hS0
      generalize w3.drew = wd at hS1 ⊢
      refine wpAnyH_take (i := 1) (oi := ⟨some 55, _, _, _, _, _⟩) (v := .pointer (some ⟨W.heap.size, 1, none⟩)) rfl (by kernel_rfl) (by kernel_rfl) (by kernel_rfl) (fun _ _ _ h => h) (Or.inl ⟨rfl, fun _ _ => by go_simp⟩) hS1 ?_
      try simp only [Act.put, List.setIfInBounds_toArray, List.set_cons_zero, List.set_cons_succ]
      refine wpAnyH_take (i := 2) (oi := ⟨some 56, _, _, _, _, _⟩) (v := .int .i64 17) rfl (by kernel_rfl) (by kernel_rfl) (by kernel_rfl) (fun _ _ _ h => h) (Or.inl ⟨rfl, fun w' h => by have h1 := h.1; go_simp⟩) hS1 ?_
      try simp only [Act.put, List.setIfInBounds_toArray, List.set_cons_zero, List.set_cons_succ]
      refine wpAnyH_ready (rs := [0]) (by kernel_rfl) (by simp) ?_
      refine AllReadyH.cons (o := ⟨some 54, _, _, _, _, _⟩) rfl (fun K hK => ?_) AllReadyH.nil
      go_simp
      refine (opNames_t _).mono ?_
      rintro e w5 ⟨rfl, hq5, hz5, hb5⟩
      refine hK.out _ _ ⟨(hb5.cell (p := ⟨W.heap.size, 1, none⟩) hS1.2.1).trans hS1.1, Nat.lt_of_lt_of_le hS1.2.1 hb5.size, below_call hS1.2.2 hb5⟩ ?_
      clear hK K
      intro hS5
      try simp only [Act.put, List.setIfInBounds_toArray, List.set_cons_zero, List.set_cons_succ]
      refine wpAnyH_take (i := 3) (oi := ⟨some 57, _, _, _, _, _⟩) (v := .pointer (some ⟨wd.heap.size, 17, none⟩)) rfl (by kernel_rfl) (by kernel_rfl) (by kernel_rfl) (fun _ _ _ h => h) (Or.inl ⟨rfl, fun _ _ => by go_simp⟩) hS5 ?_
      try simp only [Act.put, List.setIfInBounds_toArray, List.set_cons_zero, List.set_cons_succ]
      refine wpAnyH_ready (rs := [4]) (by kernel_rfl) (by simp) ?_
      refine AllReadyH.cons (o := ⟨some 58, _, _, _, _, _⟩) rfl (fun K hK => ?_) AllReadyH.nil
      go_simp
      refine hK.out _ _ hS5 ?_
      clear hK K
      intro _
      try simp only [Act.put, List.setIfInBounds_toArray, List.set_cons_zero, List.set_cons_succ]
      refine wpAnyH_take (i := 5) (oi := ⟨some 7, _, _, _, _, _⟩) (v := .string ⟨#[110, 101, 103]⟩) rfl (by kernel_rfl) (by kernel_rfl) (by kernel_rfl) (fun _ _ _ h => h) (Or.inl ⟨rfl, fun _ _ => by go_simp⟩) hS5 ?_
      try simp only [Act.put, List.setIfInBounds_toArray, List.set_cons_zero, List.set_cons_succ]
      refine wpAnyH_done (by kernel_rfl) ?_ _
      obtain ⟨x1, r5, hB5⟩ := hS5
      have B5 := Lib.hid hB5
      clear hS1 hB5 hb5 hq5 hz5
      go_wp2
      go_ret
      exact ⟨ret_str (by rw [← HR.out, ← HJJ.out]; apply ByteArray.ext; simp), B5.out⟩
set_option maxHeartbeats 8000000 in
theorem rtext_one (kids : List Tr) (av : Value) (w0 : World) (b o : Nat) (f : Nat → List Value) (hs : SlAt av kids.length b o)
    (hb : 0 < kids.length → b < w0.heap.size) (hf : ∀ i, i < kids.length → w0.rangeAt b (o + i * 13) (f i) ∧ (f i).length = 13) (hc : ∀ (i : Nat) (t : Tr), kids[i]? = some t → At w0 t (.agg (f i).toArray))
    (ts : List (List UInt8)) (hts : ts.length = kids.length) (hlen : ts.length ≤ 1000) (hjl : (Lib.join ts [44]).length ≤ 1000000) (hn : ts.length = 0) 
    (hch : ∀ (j : Nat) (h : j < ts.length) (W : World), Low w0 W → Calls Tryz.prog 164 #[.agg (f j).toArray] W fun e w' => e = .returned (.string ⟨ts[j].toArray⟩) ∧ Below W.heap.size W w') :
    ∀ (W : World), Low w0 W → Calls Tryz.prog 164 #[.agg (oneN.c av)] W fun e w' => e = .returned (.string ⟨([49] : List UInt8).toArray⟩) ∧ Below W.heap.size W w' := by
  intro W hL
  obtain ⟨pa, cap, rfl, hcap, hmax, hpa⟩ := hs
  have HF := Lib.hid hf
  have HB := Lib.hid hb
  have HC := Lib.hid hc
  have CH := Lib.hid hch
  have HL := Lib.hid hL
  have HN := Lib.hid hn
  have HJ := Lib.hid hjl
  have HK := Lib.hid hts
  simp only [Nd.c, oneN]
  clear hf hb hc hch hL hn hjl
  rw [← hts] at hcap hmax hpa ⊢
  clear hts
  generalize hRes : (⟨([49] : List UInt8).toArray⟩ : ByteArray) = RES
  have HR := Lib.hid hRes
  clear hRes
  have K0 : Hid (KX (ndC 1 0 0 2 1 ⟨#[]⟩ ⟨#[]⟩ ⟨#[]⟩ false (.slice pa ts.length cap)) 0 (.slice none 0 0) (strs (ts.take 0)) W (W.alloc (.cells (ndC 1 0 0 2 1 ⟨#[]⟩ ⟨#[]⟩ ⟨#[]⟩ false (.slice pa ts.length cap)) 70))) := Lib.hid ⟨by go_grown, heap_alloc_new W _, World.ownsRow_nil _ _ _ _⟩
  go_enter Tryz.func164, Tryz.ntmps164
  go_wp2_with fail
  go_loopw [3, 11] (fun u y wr => ∃ (j : Nat) (V : Value), j ≤ ts.length ∧ V = u ∧ y = .int .i64 j ∧ Hid (KX (ndC 1 0 0 2 1 ⟨#[]⟩ ⟨#[]⟩ ⟨#[]⟩ false (.slice pa ts.length cap)) j V (strs (ts.take j)) W wr)) (fun _ y _ => ts.length - (intOf y).toNat)
  case atStart => exact ⟨0, _, Nat.zero_le _, rfl, rfl, K0⟩
  case round =>
    obtain ⟨j, V, hj, rfl, rfl, hS⟩ := hrel
    have hLj := Lib.hid (hS.out.low' HL.out)
    by_cases hlt : j < ts.length
    · obtain rfl := hpa (by omega)
      have ht : kids[j]? = some (kids[j]'(by have := HK.out; omega)) := List.getElem?_eq_getElem (by have := HK.out; omega)
      have CI := Lib.hid (CH.out j hlt)
      have HT := Lib.hid (take_next' ts j hlt)
      obtain ⟨d', kids', pa', cap', ht', hv'⟩ := (HC.out j _ ht).inv
      have hR := HF.out j (by have := HK.out; omega)
      have hcs : f j = (d'.c (.slice pa' kids'.length cap')).toList := by
        have := congrArg (fun v => match v with | .agg a => a.toList | _ => []) hv'
        simpa using this
      rw [hcs] at hR
      rw [hv'] at CI
      have HRg := Lib.hid (hLj.out.range hR.1 (HB.out (by have := HK.out; omega)))
      have hl1 : (ts.take j).length = j := by rw [List.length_take]; omega
      generalize ts[j] = tj at *
      generalize kids'.length = n' at *
      obtain ⟨k', op', n1', vk', vn', vs', src', name', dis'⟩ := d'
      simp only [Nd.c] at CI HRg
      clear hR hcs hv' ht' ht
      go_wp2_with (refine load_mid rfl (.tmp 13) rfl b (o + j * 13) _ rfl HRg.out rfl ?_)
      refine (CI.out _ (low_alloc hLj.out _)).mono ?_
      rintro e w2 ⟨rfl, hb2⟩
      have S2 := Lib.hid ((hS.out.alloc _).below hb2)
      clear hb2
      go_wp2_with (at_builtin; go_must (refine wpList_pushT rfl (.tmp 15) (.tmp 18) rfl (W.heap.size + 1) w2 (ts.take j) V tj rfl (by rw [hl1]; exact S2.out.own) S2.out.room rfl rfl (by rw [hl1]; omega) ?_); intro v3 w3 ho3 hg3; have S3 := Lib.hid ((S2.out.alloc _).grows hg3 ho3); clear ho3 hg3)
      have e1 : (List.take j ts ++ [tj]).length = j + 1 := by rw [List.length_append, hl1]; rfl
      have SR : Hid (KX (ndC 1 0 0 2 1 ⟨#[]⟩ ⟨#[]⟩ ⟨#[]⟩ false (.slice (some ⟨b, o, none⟩) ts.length cap)) (j + 1) v3 (strs (ts.take (j + 1))) W w3) := Lib.hid (by rw [HT.out, ← e1]; exact S3.out)
      clear e1 hl1
      go_roundw
      case rel => exact ⟨j + 1, v3, by omega, rfl, by go_num, SR⟩
      case measure => simp [intOf]; omega
    · have hj2 : j = ts.length := by omega
      subst hj2
      have HT : Hid (ts.take ts.length = ts) := Lib.hid List.take_length
      rw [HT.out] at hS
      have h0 := HN.out
      have hV : ∃ a c, V = .slice a 0 c := by
        rcases hS.out.own.2 with ⟨h1, _⟩ | ⟨g, c1, cur, hv, _⟩
        · exact ⟨none, 0, h1⟩
        · exact ⟨_, c1, by rw [hv, h0]⟩
      obtain ⟨a1, c1, rfl⟩ := hV
      have CJ := Lib.hid (fun w => Tryz.strings_Join_none a1 c1 ⟨#[44]⟩ w)
      rw [h0] at hcap hpa hS ⊢
      go_wp2_with fail
      refine (CJ.out _).mono ?_
      rintro e wx ⟨rfl, hwx⟩
      rw [hwx]
      clear hwx wx
      have x0 : wr.cell? ⟨W.heap.size, 0, none⟩ = some (.int .i64 1) := (cell_of_row wr _ 0 _ _ _ hS.out.exb).trans rfl
      have x3 : wr.cell? ⟨W.heap.size, 3, none⟩ = some (.int .i64 2) := (cell_of_row wr _ 3 _ _ _ hS.out.exb).trans rfl
      have x4 : wr.cell? ⟨W.heap.size, 4, none⟩ = some (.int .i64 1) := (cell_of_row wr _ 4 _ _ _ hS.out.exb).trans rfl
      have x5 : wr.cell? ⟨W.heap.size, 5, none⟩ = some (.string ⟨#[]⟩) := (cell_of_row wr _ 5 _ _ _ hS.out.exb).trans rfl
      have r0 : W.heap.size < wr.heap.size := lt_of_block hS.out.exb
      go_wp2_with fail
      refine (shown1 _).mono ?_
      rintro e w5 ⟨rfl, hb5⟩
      have B5 := Lib.hid (show Below W.heap.size W w5 from below_call hS.out.low hb5)
      clear hb5
      go_wp2_with fail
      go_ret
      exact ⟨ret_str (by rw [← HR.out]), B5.out⟩
set_option maxHeartbeats 8000000 in
theorem rtext_null (kids : List Tr) (av : Value) (w0 : World) (b o : Nat) (f : Nat → List Value) (hs : SlAt av kids.length b o)
    (hb : 0 < kids.length → b < w0.heap.size) (hf : ∀ i, i < kids.length → w0.rangeAt b (o + i * 13) (f i) ∧ (f i).length = 13) (hc : ∀ (i : Nat) (t : Tr), kids[i]? = some t → At w0 t (.agg (f i).toArray))
    (ts : List (List UInt8)) (hts : ts.length = kids.length) (hlen : ts.length ≤ 1000) (hjl : (Lib.join ts [44]).length ≤ 1000000) (hn : ts.length = 0) 
    (hch : ∀ (j : Nat) (h : j < ts.length) (W : World), Low w0 W → Calls Tryz.prog 164 #[.agg (f j).toArray] W fun e w' => e = .returned (.string ⟨ts[j].toArray⟩) ∧ Below W.heap.size W w') :
    ∀ (W : World), Low w0 W → Calls Tryz.prog 164 #[.agg (nullN.c av)] W fun e w' => e = .returned (.string ⟨([110, 117, 108, 108] : List UInt8).toArray⟩) ∧ Below W.heap.size W w' := by
  intro W hL
  obtain ⟨pa, cap, rfl, hcap, hmax, hpa⟩ := hs
  have HF := Lib.hid hf
  have HB := Lib.hid hb
  have HC := Lib.hid hc
  have CH := Lib.hid hch
  have HL := Lib.hid hL
  have HN := Lib.hid hn
  have HJ := Lib.hid hjl
  have HK := Lib.hid hts
  simp only [Nd.c, nullN]
  clear hf hb hc hch hL hn hjl
  rw [← hts] at hcap hmax hpa ⊢
  clear hts
  generalize hRes : (⟨([110, 117, 108, 108] : List UInt8).toArray⟩ : ByteArray) = RES
  have HR := Lib.hid hRes
  clear hRes
  have K0 : Hid (KX (ndC 1 0 0 0 0 ⟨#[]⟩ ⟨#[]⟩ ⟨#[]⟩ false (.slice pa ts.length cap)) 0 (.slice none 0 0) (strs (ts.take 0)) W (W.alloc (.cells (ndC 1 0 0 0 0 ⟨#[]⟩ ⟨#[]⟩ ⟨#[]⟩ false (.slice pa ts.length cap)) 70))) := Lib.hid ⟨by go_grown, heap_alloc_new W _, World.ownsRow_nil _ _ _ _⟩
  go_enter Tryz.func164, Tryz.ntmps164
  go_wp2_with fail
  go_loopw [3, 11] (fun u y wr => ∃ (j : Nat) (V : Value), j ≤ ts.length ∧ V = u ∧ y = .int .i64 j ∧ Hid (KX (ndC 1 0 0 0 0 ⟨#[]⟩ ⟨#[]⟩ ⟨#[]⟩ false (.slice pa ts.length cap)) j V (strs (ts.take j)) W wr)) (fun _ y _ => ts.length - (intOf y).toNat)
  case atStart => exact ⟨0, _, Nat.zero_le _, rfl, rfl, K0⟩
  case round =>
    obtain ⟨j, V, hj, rfl, rfl, hS⟩ := hrel
    have hLj := Lib.hid (hS.out.low' HL.out)
    by_cases hlt : j < ts.length
    · obtain rfl := hpa (by omega)
      have ht : kids[j]? = some (kids[j]'(by have := HK.out; omega)) := List.getElem?_eq_getElem (by have := HK.out; omega)
      have CI := Lib.hid (CH.out j hlt)
      have HT := Lib.hid (take_next' ts j hlt)
      obtain ⟨d', kids', pa', cap', ht', hv'⟩ := (HC.out j _ ht).inv
      have hR := HF.out j (by have := HK.out; omega)
      have hcs : f j = (d'.c (.slice pa' kids'.length cap')).toList := by
        have := congrArg (fun v => match v with | .agg a => a.toList | _ => []) hv'
        simpa using this
      rw [hcs] at hR
      rw [hv'] at CI
      have HRg := Lib.hid (hLj.out.range hR.1 (HB.out (by have := HK.out; omega)))
      have hl1 : (ts.take j).length = j := by rw [List.length_take]; omega
      generalize ts[j] = tj at *
      generalize kids'.length = n' at *
      obtain ⟨k', op', n1', vk', vn', vs', src', name', dis'⟩ := d'
      simp only [Nd.c] at CI HRg
      clear hR hcs hv' ht' ht
      go_wp2_with (refine load_mid rfl (.tmp 13) rfl b (o + j * 13) _ rfl HRg.out rfl ?_)
      refine (CI.out _ (low_alloc hLj.out _)).mono ?_
      rintro e w2 ⟨rfl, hb2⟩
      have S2 := Lib.hid ((hS.out.alloc _).below hb2)
      clear hb2
      go_wp2_with (at_builtin; go_must (refine wpList_pushT rfl (.tmp 15) (.tmp 18) rfl (W.heap.size + 1) w2 (ts.take j) V tj rfl (by rw [hl1]; exact S2.out.own) S2.out.room rfl rfl (by rw [hl1]; omega) ?_); intro v3 w3 ho3 hg3; have S3 := Lib.hid ((S2.out.alloc _).grows hg3 ho3); clear ho3 hg3)
      have e1 : (List.take j ts ++ [tj]).length = j + 1 := by rw [List.length_append, hl1]; rfl
      have SR : Hid (KX (ndC 1 0 0 0 0 ⟨#[]⟩ ⟨#[]⟩ ⟨#[]⟩ false (.slice (some ⟨b, o, none⟩) ts.length cap)) (j + 1) v3 (strs (ts.take (j + 1))) W w3) := Lib.hid (by rw [HT.out, ← e1]; exact S3.out)
      clear e1 hl1
      go_roundw
      case rel => exact ⟨j + 1, v3, by omega, rfl, by go_num, SR⟩
      case measure => simp [intOf]; omega
    · have hj2 : j = ts.length := by omega
      subst hj2
      have HT : Hid (ts.take ts.length = ts) := Lib.hid List.take_length
      rw [HT.out] at hS
      have h0 := HN.out
      have hV : ∃ a c, V = .slice a 0 c := by
        rcases hS.out.own.2 with ⟨h1, _⟩ | ⟨g, c1, cur, hv, _⟩
        · exact ⟨none, 0, h1⟩
        · exact ⟨_, c1, by rw [hv, h0]⟩
      obtain ⟨a1, c1, rfl⟩ := hV
      have CJ := Lib.hid (fun w => Tryz.strings_Join_none a1 c1 ⟨#[44]⟩ w)
      rw [h0] at hcap hpa hS ⊢
      go_wp2_with fail
      refine (CJ.out _).mono ?_
      rintro e wx ⟨rfl, hwx⟩
      rw [hwx]
      clear hwx wx
      have x0 : wr.cell? ⟨W.heap.size, 0, none⟩ = some (.int .i64 1) := (cell_of_row wr _ 0 _ _ _ hS.out.exb).trans rfl
      have x3 : wr.cell? ⟨W.heap.size, 3, none⟩ = some (.int .i64 0) := (cell_of_row wr _ 3 _ _ _ hS.out.exb).trans rfl
      have x4 : wr.cell? ⟨W.heap.size, 4, none⟩ = some (.int .i64 0) := (cell_of_row wr _ 4 _ _ _ hS.out.exb).trans rfl
      have x5 : wr.cell? ⟨W.heap.size, 5, none⟩ = some (.string ⟨#[]⟩) := (cell_of_row wr _ 5 _ _ _ hS.out.exb).trans rfl
      have r0 : W.heap.size < wr.heap.size := lt_of_block hS.out.exb
      go_wp2_with fail
      refine (shown0 _).mono ?_
      rintro e w5 ⟨rfl, hb5⟩
      have B5 := Lib.hid (show Below W.heap.size W w5 from below_call hS.out.low hb5)
      clear hb5
      go_wp2_with fail
      go_ret
      exact ⟨ret_str (by rw [← HR.out]), B5.out⟩
end YtabojeleomfgnaaGreatDoor
end Go.Proofs
namespace Go.Proofs
open Go.RowKit
namespace YtabojeleomfgnaaGreatDoor
set_option maxRecDepth 100000
theorem rt_null (w0 : World) (v : Value) (h : At w0 (.node nullN []) v) (W : World) (hL : Low w0 W) : Calls Tryz.prog 164 #[v] W fun e w' => e = .returned (.string ⟨([110, 117, 108, 108] : List UInt8).toArray⟩) ∧ Below W.heap.size W w' := by
  cases h with
  | node d kids av b o f hs hb hf hc =>
    exact rtext_null [] av w0 b o f hs (fun h => (hb h).2) hf hc [] rfl (by decide) (by decide) rfl (fun j h => absurd h (by simp)) W hL
theorem rt_chain (w0 : World) : ∀ (n : Nat), n ≤ 1000 → ∀ (v : Value), At w0 (chainT n) v → ∀ (W : World), Low w0 W → Calls Tryz.prog 164 #[v] W fun e w' => e = .returned (.string ⟨(nt n).toArray⟩) ∧ Below W.heap.size W w'
  | 0, _, v, h, W, hL => by
    rw [chainT] at h
    cases h with
    | node d kids av b o f hs hb hf hc =>
      exact rtext_one [] av w0 b o f hs (fun h => (hb h).2) hf hc [] rfl (by decide) (by decide) rfl (fun j h => absurd h (by simp)) W hL
  | n + 1, hn, v, h, W, hL => by
    rw [chainT] at h
    have hl := nt_len n
    cases h with
    | node d kids av b o f hs hb hf hc =>
      have h1 := rtext_neg [chainT n] av w0 b o f hs (fun h => (hb h).2) hf hc [nt n] rfl (by simp) (by rw [Lib.join_one, hl]; omega) (by simp) (fun j h W' hL' => by
        have hj : j = 0 := by simpa using h
        subst hj
        exact rt_chain w0 n (by omega) _ (hc 0 _ rfl) W' hL') W hL
      rw [Lib.join_one] at h1
      have e : [110, 101, 103] ++ 40 :: nt n ++ [41] = nt (n + 1) := by rw [nt]; simp
      rw [e] at h1
      exact h1
theorem rt_inT (w0 : World) (n : Nat) (hn : 2 ≤ n) (hn2 : n ≤ 1000) (v : Value) (h : At w0 (inT n) v) (W : World) (hL : Low w0 W) : Calls Tryz.prog 164 #[v] W fun e w' => e = .returned (.string ⟨(it n).toArray⟩) ∧ Below W.heap.size W w' := by
  rw [inT] at h
  have hjl := join_len [110, 117, 108, 108] n
  have e4 : ([110, 117, 108, 108] : List UInt8).length + 1 = 5 := rfl
  rw [e4] at hjl
  cases h with
  | node d kids av b o f hs hb hf hc =>
    exact rtext_in _ av w0 b o f hs (fun h => (hb h).2) hf hc (List.replicate n [110, 117, 108, 108]) (by simp) (by simp; omega) (by omega) (by simp; omega) (fun j h W' hL' => by
      have hj : j < n := by simpa using h
      rw [List.getElem_replicate]
      exact rt_null w0 _ (hc j (.node nullN []) (by simp [hj])) W' hL') W hL
set_option maxHeartbeats 4000000 in
theorem ScalarText_t (t : Tr) (v : Value) (tx : List UInt8) (kl : Int) (w : World) (h : At w t v) (hcn : cntT t ≤ 1000000000) (htx : tx.length ≤ 65536)
    (hk : ∀ (W : World), Low w W → Calls Tryz.prog 151 #[v, nilS, nilS, .bool false] W fun e w' => e = .returned (.tuple #[.int .i64 kl, .int .i64 0]) ∧ Below W.heap.size W w')
    (hrt : ∀ (W : World), Low w W → Calls Tryz.prog 164 #[v] W fun e w' => e = .returned (.string ⟨tx.toArray⟩) ∧ Below W.heap.size W w') :
    Calls Tryz.prog 81 #[v] w fun e w' => e = .returned (.tuple #[.string (txB t tx), .int .i64 (sizedN t)]) ∧ Below w.heap.size w w' := by
  have HX := Lib.hid (fun W (hL : Low w W) => sizeOf_t w t v h W hL hcn)
  have HK := Lib.hid hk
  have RT := Lib.hid hrt
  have hsz : (⟨tx.toArray⟩ : ByteArray).size ≤ 65536 := htx
  have HB : Hid ((400 < cntT t ∨ 24 < depT t) ∧ sizedN t = 2 ∧ txB t tx = ⟨#[]⟩ ∨ ¬ (400 < cntT t ∨ 24 < depT t) ∧ sizedN t = 0 ∧ txB t tx = ⟨tx.toArray⟩) := Lib.hid (by
    unfold sizedN txB bigB
    by_cases hb : 24 < depT t ∨ 400 < cntT t
    · exact Or.inl ⟨hb.symm, by simp [hb], by simp [hb]⟩
    · exact Or.inr ⟨fun h => hb h.symm, by simp [hb], by simp [hb]⟩)
  have hdl := dep_le t
  generalize (⟨tx.toArray⟩ : ByteArray) = TS at HB RT hsz
  generalize sizedN t = S at HB ⊢
  generalize txB t tx = TX at HB ⊢
  obtain ⟨d, kids, pa, cap, rfl, rfl⟩ := h.inv
  generalize kids.length = n' at *
  generalize cntT (Tr.node d kids) = c at *
  generalize depT (Tr.node d kids) = x at *
  obtain ⟨k, op, n, vk, vn, vs, src, name, dis⟩ := d
  simp only [Nd.c] at HX HK RT ⊢
  clear h hk hrt htx
  have big : ∀ (h1 : 400 < c ∨ 24 < x), S = 2 → TX = ⟨#[]⟩ → Calls Tryz.prog 81 #[.agg (ndC k op n vk vn vs src name dis (.slice pa n' cap))] w fun e w' => e = .returned (.tuple #[.string TX, .int .i64 S]) ∧ Below w.heap.size w w' := by
    rintro h1 rfl rfl
    clear HB
    by_cases h2 : 400 < c
    · clear h1
      go_enter Tryz.func81, Tryz.ntmps81
      go_wp2_with fail
      refine (HX.out _ (low_alloc (Low.refl w) _)).mono ?_
      rintro e w1 ⟨rfl, hb1⟩
      have B1 := Lib.hid (show Below w.heap.size w w1 from below_call (by go_grown) hb1)
      clear hb1
      go_wp2_with fail
      go_ret2
      exact ⟨rfl, B1.out⟩
    · have h3 : 24 < x := by omega
      clear h1
      go_enter Tryz.func81, Tryz.ntmps81
      go_wp2_with fail
      refine (HX.out _ (low_alloc (Low.refl w) _)).mono ?_
      rintro e w1 ⟨rfl, hb1⟩
      have B1 := Lib.hid (show Below w.heap.size w w1 from below_call (by go_grown) hb1)
      clear hb1
      go_wp2_with fail
      go_ret2
      exact ⟨rfl, B1.out⟩
  rcases HB.out with ⟨h1, h2, h3⟩ | ⟨h1, rfl, rfl⟩
  · exact big h1 h2 h3
  · clear HB big
    have h2 : ¬ 400 < c := fun h => h1 (Or.inl h)
    have h3 : ¬ 24 < x := fun h => h1 (Or.inr h)
    clear h1
    go_enter Tryz.func81, Tryz.ntmps81
    go_wp2_with fail
    refine (HX.out _ (low_alloc (Low.refl w) _)).mono ?_
    rintro e w1 ⟨rfl, hb1⟩
    have K1 : Hid (KC (ndC k op n vk vn vs src name dis (.slice pa n' cap)) w w1) := Lib.hid ⟨below_call (by go_grown) hb1, (hb1.block _ (by simp)).trans (heap_alloc_new w _)⟩
    clear hb1
    go_wp2_with (refine load_expr rfl (.tmp 1) rfl w.heap.size _ rfl K1.out.exb rfl ?_)
    refine (HK.out _ (Low.of_below K1.out.low)).mono ?_
    rintro e w2 ⟨rfl, hb2⟩
    have K2 := Lib.hid (K1.out.below hb2)
    clear hb2
    go_wp2_with (refine load_expr rfl (.tmp 1) rfl w.heap.size _ rfl K2.out.exb rfl ?_)
    refine (RT.out _ (Low.of_below K2.out.low)).mono ?_
    rintro e w3 ⟨rfl, hb3⟩
    have B3 := Lib.hid (show Below w.heap.size w w3 from below_call K2.out.low hb3)
    clear hb3
    have h65 : (TX.size : Int) ≤ 65536 := by omega
    go_wp2_with fail
    go_ret2
    exact ⟨rfl, B3.out⟩
end YtabojeleomfgnaaGreatDoor
end Go.Proofs
