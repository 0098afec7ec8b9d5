/- Tokens: what Issue returns, by the program and by the reference. -/
import Derived.Test.YtbihfgcejlgffaaTk4
namespace Go.Proofs
open Go.RowKit
namespace Ytbihfgcejlgffaa
set_option maxRecDepth 100000
theorem run_store_sl (w : World) (g i : Nat) (p : Option Addr) (n c : Nat) (old : Array Value) (t : TypeId) (hg : w.heap[g]? = some (.cells old t (0, 0))) (hi : i < old.size) :
    (storeVar 22 ⟨g, i, none⟩ (.slice p n c)).run Try.prog w = .ok () (w.setCells g i [.slice p n c]) := by
  have ht := there_of_block (n := 1) (o := i) hg (by omega)
  have := run_storeCells_cells (P := Try.prog) g i [.slice p n c] 0 w (fun j hj => by simpa using (ht j (by simpa using hj)).1) (fun j hj => by simpa using (ht j (by simpa using hj)).2) (fun v hv => by simp at hv; subst hv; rfl)
  simp only [Nat.add_zero] at this
  have hi : (Try.prog.info? 22).map (·.size) = some 1 := by kernel_rfl
  cases hq : Try.prog.info? 22 with
  | none => simp [hq] at hi
  | some i =>
    have hs : i.size = 1 := by simpa [hq] using hi
    simp [storeVar, sizeOf, typeInfo, hq, Value.cells, hs, this]
theorem store_sl {ops : Array Oper} {rest : List Oper} {o : Oper} {a : Act} {w : World} {Q : Exit → Act → World → Prop} (hgd : o.guard = none) (u v : Operand) (ho : o.op = .store 22 u v)
    (g i : Nat) (p : Option Addr) (n c : Nat) (hx : a.eval u = .pointer (some ⟨g, i, none⟩)) (hy : a.eval v = .slice p n c) (old : Array Value) (t : TypeId) (hg : w.heap[g]? = some (.cells old t (0, 0))) (hi : i < old.size)
    (h : ∀ w', Puts g (old.setIfInBounds i (.slice p n c)) t w w' → wpList Try.prog ops Q rest (a.put o.dst undef) w') : wpList Try.prog ops Q (o :: rest) a w :=
  wpList_plain hgd fun _ hK => by
    unfold Oper.wp execOp
    simp only [ho, hx, hy, Instr.storeAt, Instr.sureAddr, Sem.run_bind, Sem.run_pure, Result.andThen_ok, run_store_sl w g i p n c old t hg hi]
    exact hK _ _ (h _ (puts_setCell _ hg))
theorem run_store_u (w : World) (g i : Nat) (n : Int) (old : Array Value) (t : TypeId) (hg : w.heap[g]? = some (.cells old t (0, 0))) (hi : i < old.size) :
    (storeVar 30 ⟨g, i, none⟩ (.int .u64 n)).run Try.prog w = .ok () (w.setCells g i [.int .u64 n]) := by
  have ht := there_of_block (n := 1) (o := i) hg (by omega)
  have := run_storeCells_cells (P := Try.prog) g i [.int .u64 n] 0 w (fun j hj => by simpa using (ht j (by simpa using hj)).1) (fun j hj => by simpa using (ht j (by simpa using hj)).2) (fun v hv => by simp at hv; subst hv; rfl)
  simp only [Nat.add_zero] at this
  have hi : (Try.prog.info? 30).map (·.size) = some 1 := by kernel_rfl
  cases hq : Try.prog.info? 30 with
  | none => simp [hq] at hi
  | some i =>
    have hs : i.size = 1 := by simpa [hq] using hi
    simp [storeVar, sizeOf, typeInfo, hq, Value.cells, hs, this]
theorem store_u {ops : Array Oper} {rest : List Oper} {o : Oper} {a : Act} {w : World} {Q : Exit → Act → World → Prop} (hgd : o.guard = none) (u v : Operand) (ho : o.op = .store 30 u v)
    (g i : Nat) (n : Int) (hx : a.eval u = .pointer (some ⟨g, i, none⟩)) (hy : a.eval v = .int .u64 n) (old : Array Value) (t : TypeId) (hg : w.heap[g]? = some (.cells old t (0, 0))) (hi : i < old.size)
    (h : ∀ w', Puts g (old.setIfInBounds i (.int .u64 n)) t w w' → wpList Try.prog ops Q rest (a.put o.dst undef) w') : wpList Try.prog ops Q (o :: rest) a w :=
  wpList_plain hgd fun _ hK => by
    unfold Oper.wp execOp
    simp only [ho, hx, hy, Instr.storeAt, Instr.sureAddr, Sem.run_bind, Sem.run_pure, Result.andThen_ok, run_store_u w g i n old t hg hi]
    exact hK _ _ (h _ (puts_setCell _ hg))
theorem Oz.alloc {zs : List Int} {g cap : Nat} {w0 w : World} (h : Oz zs g cap w0 w) (o : Obj) : Oz zs g cap w0 (w.alloc o) := ⟨h.1.alloc o, h.2.alloc h.2.size o⟩
theorem Zs.keeps {p g : Nat} {w w' : World} {zs : List Int} (h : Zs w (some ⟨g, 0, none⟩) zs) (hk : Keeps p w w') (hp : g ≠ p) : Zs w' (some ⟨g, 0, none⟩) zs := by
  rcases h with h | ⟨b, o, ha, hf⟩
  · exact Or.inl h
  · cases ha
    exact Or.inr ⟨g, 0, rfl, fun j hj => (cell_kept hk hp (block_lt_of_cell (hf j hj))).trans (hf j hj)⟩
/-- the cells of a token -/
abbrev ck (p : Option Addr) (n c : Nat) (u S : Int) : Array Value := #[.slice p n c, .int .i64 u, .int .u64 S]
theorem size32 : (Try.prog.info? 32).map (·.size) = some 3 := by kernel_rfl
theorem store32 {ops : Array Oper} {rest : List Oper} {o : Oper} {a : Act} {w : World} {Q : Exit → Act → World → Prop} (hgd : o.guard = none) (x y : Operand) (ho : o.op = .store 32 x y)
    (g : Nat) (p : Option Addr) (n c : Nat) (u S : Int) (hx : a.eval x = .pointer (some ⟨g, 0, none⟩)) (hy : a.eval y = .agg (ck p n c u S)) (p' : Option Addr) (n' c' : Nat) (u' S' : Int) (hg : w.heap[g]? = some (.cells (ck p' n' c' u' S') 32 (0, 0)))
    (h : ∀ w', Puts g (ck p n c u S) 32 w w' → wpList Try.prog ops Q rest (a.put o.dst undef) w') : wpList Try.prog ops Q (o :: rest) a w :=
  wpList_store_row hgd 32 x y ho g (ck p n c u S) hx hy 32 (ck p' n' c' u' S') hg size32 rfl (by simp [Value.oneCell']) (h _ (puts_setRow hg))
theorem ret32 {fn : Func} {r q : Tmp} (h : fn.results = #[.cell r 32, .tmp q]) {tmps : Array Value} {w : World} {g : Nat} {p : Option Addr} {n c : Nat} {u S : Int} {v : Value} (hp : tmps.getD r undef = .pointer (some ⟨g, 0, none⟩)) (hg : w.heap[g]? = some (.cells (ck p n c u S) 32 (0, 0))) (hq : tmps.getD q undef = v) :
    (results fn tmps).run Try.prog w = .ok (.tuple #[.agg (ck p n c u S), v]) w := by
  have hp' : tmps[r]?.getD undef = .pointer (some ⟨g, 0, none⟩) := by simpa using hp
  have hl := run_loadVar_row (P := Try.prog) w g 32 32 (ck p n c u S) (0, 0) _ hg Try.underlying32 rfl size32
  have hq' : tmps[q]?.getD undef = v := by simpa using hq
  simp [results, h, hp', asAddr, hl, hq']
/-- the error of Issue -/
def issE (s : ByteArray) (zs : List Int) (u : Int) : Int := if termB s zs u = true then 1 else if 200 < zs.length then 2 else 0
def issT (s : ByteArray) (zs : List Int) (u : Int) : List Int := if issE s zs u = 0 then comp (sortZ zs) else []
def issU (s : ByteArray) (zs : List Int) (u : Int) : Int := if issE s zs u = 0 then u else 0
def issS (s : ByteArray) (zs : List Int) (u : Int) : Int := if issE s zs u = 0 then hashT s u (comp (sortZ zs)) else 0
/-- a token, and an error, are returned -/
def TokP (T : List Int) (U S E : Int) (w : World) (e : Ending) (w' : World) : Prop := ∃ p c, e = .returned (.tuple #[.agg (ck p T.length c U S), .int .i64 E]) ∧ (T = [] ∨ ∃ g, p = some ⟨g, 0, none⟩ ∧ w.heap.size ≤ g) ∧ Zs w' p T ∧ Below w.heap.size w w'
set_option maxHeartbeats 4000000 in
theorem issue_t (s : ByteArray) (hs : s.size ≤ 1000) (a : Option Addr) (c : Nat) (zs : List Int) (hl : zs.length ≤ 1000) (u : Int) (w : World) (hz : Zs w a zs) :
    Calls Try.prog 7 #[.string s, .slice a zs.length c, .int .i64 u] w fun e w' => TokP (issT s zs u) (issU s zs u) (issS s zs u) (issE s zs u) w e w' := by
  have CT := Lib.hid (fun w (hz : Zs w a zs) => terms_t s hs a c zs (by omega) u w hz)
  have HZ := Lib.hid hz
  clear hz
  have HE : Hid (issE s zs u = if termB s zs u = true then 1 else if 200 < zs.length then 2 else 0) := Lib.hid rfl
  have HT : Hid (issT s zs u = if issE s zs u = 0 then comp (sortZ zs) else []) := Lib.hid rfl
  have HU : Hid (issU s zs u = if issE s zs u = 0 then u else 0) := Lib.hid rfl
  have HS : Hid (issS s zs u = if issE s zs u = 0 then hashT s u (comp (sortZ zs)) else 0) := Lib.hid rfl
  generalize issE s zs u = E at HE HT HU HS ⊢
  generalize issT s zs u = T at HT ⊢
  generalize issU s zs u = U at HU ⊢
  generalize issS s zs u = S at HS ⊢
  cases htm : termB s zs u with
  | true =>
    rw [htm] at CT HE
    have hE : E = 1 := HE.out
    subst hE
    have hT : T = [] := HT.out
    have hU : U = 0 := HU.out
    have hS : S = 0 := HS.out
    subst hT hU hS
    clear HE HT HU HS
    go_enter Try.func7, Try.ntmps7
    go_wp2_with fail
    refine (CT.out _ (HZ.out.below (by go_grown))).mono ?_
    rintro e w1 ⟨rfl, hb1⟩
    have R1 : Hid (w1.heap[w.heap.size]? = some (.cells (ck none 0 0 0 0) 32 (0, 0))) := Lib.hid ((hb1.block _ (by simp)).trans (heap_alloc_new w _))
    have B1 : Hid (Below w.heap.size w w1) := Lib.hid (below_call (w := w) (by go_grown) hb1)
    clear hb1
    go_wp2_with (refine store32 rfl (.tmp 6) (.tmp 16) rfl w.heap.size none 0 0 0 0 rfl rfl none 0 0 0 0 R1.out ?_; intro w2 hp; have P2 := Lib.hid hp; clear hp)
    exact bodyPost_ret (ret32 (p := none) (n := 0) (c := 0) (u := 0) (S := 0) rfl rfl P2.out.at' rfl) rfl ⟨none, 0, rfl, Or.inl rfl, Or.inl rfl, P2.out.below B1.out (Nat.le_refl _)⟩
  | false =>
    rw [htm] at CT HE
    by_cases hlen : 200 < zs.length
    · have hE : E = 2 := by rw [HE.out, if_neg (by simp), if_pos hlen]
      subst hE
      have hT : T = [] := HT.out
      have hU : U = 0 := HU.out
      have hS : S = 0 := HS.out
      subst hT hU hS
      clear HE HT HU HS
      have hlen2 : (200 : Int) < (zs.length : Int) := by omega
      go_enter Try.func7, Try.ntmps7
      go_wp2_with fail
      refine (CT.out _ (HZ.out.below (by go_grown))).mono ?_
      rintro e w1 ⟨rfl, hb1⟩
      have R1 : Hid (w1.heap[w.heap.size]? = some (.cells (ck none 0 0 0 0) 32 (0, 0))) := Lib.hid ((hb1.block _ (by simp)).trans (heap_alloc_new w _))
      have B1 : Hid (Below w.heap.size w w1) := Lib.hid (below_call (w := w) (by go_grown) hb1)
      clear hb1
      go_wp2_with (refine store32 rfl (.tmp 6) (.tmp 21) rfl w.heap.size none 0 0 0 0 rfl rfl none 0 0 0 0 R1.out ?_; intro w2 hp; have P2 := Lib.hid hp; clear hp)
      exact bodyPost_ret (ret32 (p := none) (n := 0) (c := 0) (u := 0) (S := 0) rfl rfl P2.out.at' rfl) rfl ⟨none, 0, rfl, Or.inl rfl, Or.inl rfl, P2.out.below B1.out (Nat.le_refl _)⟩
    · have hE : E = 0 := by rw [HE.out, if_neg (by simp), if_neg hlen]
      subst hE
      have hT : T = comp (sortZ zs) := HT.out
      have hU : u = U := HU.out.symm
      have hS : S = hashT s u (comp (sortZ zs)) := HS.out
      subst hT hU hS
      clear HE HT HU HS
      have hlen2 : ¬ (200 : Int) < (zs.length : Int) := by omega
      have CC := Lib.hid (fun w (hz : Zs w a zs) => clone_t a c zs (by omega) w hz)
      have CS := Lib.hid (fun g cap w0 w1 (h : Oz zs g cap w0 w1) => sort_t zs (by omega) g cap w0 w1 h)
      have CK := Lib.hid (fun g cap w0 w1 (h : Oz (sortZ zs) g cap w0 w1) => compact_t (sortZ zs) (by rw [sortZ_len]; omega) g cap w0 w1 h)
      have CH := Lib.hid (fun p c w (hz : Zs w p (comp (sortZ zs))) => sumOf_t s hs p c (comp (sortZ zs)) (by have := comp_len (sortZ zs); rw [sortZ_len] at this; omega) u 0 w hz)
      rw [sortZ_len] at CK
      go_enter Try.func7, Try.ntmps7
      go_wp2_with fail
      refine (CT.out _ (HZ.out.below (by go_grown))).mono ?_
      rintro e w1 ⟨rfl, hb1⟩
      have R1 : Hid (w1.heap[w.heap.size]? = some (.cells (ck none 0 0 0 0) 32 (0, 0))) := Lib.hid ((hb1.block _ (by simp)).trans (heap_alloc_new w _))
      have B1 : Hid (Below w.heap.size w w1) := Lib.hid (below_call (w := w) (by go_grown) hb1)
      clear hb1
      go_wp2_with fail
      refine (CC.out _ (HZ.out.below B1.out)).mono ?_
      rintro e w2 ⟨p, c2, rfl, hb2, hor⟩
      have R2 : Hid (w2.heap[w.heap.size]? = some (.cells (ck none 0 0 0 0) 32 (0, 0))) := Lib.hid ((hb2.block _ (lt_of_block R1.out)).trans R1.out)
      have B2 : Hid (Below w.heap.size w w2) := Lib.hid (below_call B1.out hb2)
      have B1s := Lib.hid (lt_of_block R1.out)
      clear R1 hb2
      rcases hor with hz0 | ⟨g, rfl, ho⟩
      · subst hz0
        have hC : comp (sortZ ([] : List Int)) = [] := by simp [comp, sortZ, Go.Lib.compact, Go.Lib.compactUpTo]
        rw [hC] at CH
        have HC := Lib.hid hC
        have T3 : Hid ((w2.alloc (.cells (ck p 0 c2 u 0) 32)).heap[w2.heap.size]? = some (.cells (ck p 0 c2 u 0) 32 (0, 0))) := Lib.hid (heap_alloc_new w2 _)
        have R3 : Hid ((w2.alloc (.cells (ck p 0 c2 u 0) 32)).heap[w.heap.size]? = some (.cells (ck none 0 0 0 0) 32 (0, 0))) := Lib.hid ((((Below.refl _ w2).alloc (Nat.le_refl _) _).block _ (lt_of_block R2.out)).trans R2.out)
        have B3 : Hid (Below w.heap.size w (w2.alloc (.cells (ck p 0 c2 u 0) 32))) := Lib.hid (B2.out.alloc B2.out.size _)
        have NT := Lib.hid (show w.heap.size ≠ w2.heap.size by have := lt_of_block R2.out; omega)
        have LT := Lib.hid (show w.heap.size ≤ w2.heap.size from B2.out.size)
        clear R2 B2 CC CS CK CT HZ hC
        go_wp2_with fail
        generalize w2.alloc (.cells (ck p 0 c2 u 0) 32) = w3 at T3 R3 B3 ⊢
        refine (Try.slices_Sort_int_none p c2 _).mono ?_
        rintro e wx ⟨rfl, hwx⟩
        rw [hwx]
        clear hwx wx
        have v0 : w3.cell? ⟨w2.heap.size, 0, none⟩ = some (.slice p 0 c2) := (cell_of_row w3 _ 0 _ _ _ T3.out).trans rfl
        have v1 : w3.cell? ⟨w2.heap.size, 1, none⟩ = some (.int .i64 u) := (cell_of_row w3 _ 1 _ _ _ T3.out).trans rfl
        have v2 : w3.cell? ⟨w2.heap.size, 2, none⟩ = some (.int .u64 0) := (cell_of_row w3 _ 2 _ _ _ T3.out).trans rfl
        go_wp2_with fail
        refine (Try.slices_Compact_int_empty p c2 _).mono ?_
        rintro e wx ⟨rfl, hwx⟩
        rw [hwx]
        clear hwx wx
        go_wp2_with (refine store_sl rfl (.tmp 32) (.tmp 31) rfl w2.heap.size 0 p 0 c2 rfl rfl _ 32 T3.out (by simp) ?_; intro w6 hp; have T6 : Hid (w6.heap[w2.heap.size]? = some (.cells (ck p 0 c2 u 0) 32 (0, 0))) := Lib.hid hp.at'; have R6 : Hid (w6.heap[w.heap.size]? = some (.cells (ck none 0 0 0 0) 32 (0, 0))) := Lib.hid ((hp.keeps.block _ (lt_of_block R3.out) NT.out).trans R3.out); have B6 := Lib.hid (hp.below B3.out LT.out); clear hp T3 R3 B3 v0 v1 v2; have v0 : w6.cell? ⟨w2.heap.size, 0, none⟩ = some (.slice p 0 c2) := (cell_of_row w6 _ 0 _ _ _ T6.out).trans rfl; have v1 : w6.cell? ⟨w2.heap.size, 1, none⟩ = some (.int .i64 u) := (cell_of_row w6 _ 1 _ _ _ T6.out).trans rfl; have v2 : w6.cell? ⟨w2.heap.size, 2, none⟩ = some (.int .u64 0) := (cell_of_row w6 _ 2 _ _ _ T6.out).trans rfl)
        refine (CH.out p c2 _ (Or.inl rfl)).mono ?_
        rintro e w7 ⟨rfl, hb7⟩
        have T7 : Hid (w7.heap[w2.heap.size]? = some (.cells (ck p 0 c2 u 0) 32 (0, 0))) := Lib.hid ((hb7.block _ (lt_of_block T6.out)).trans T6.out)
        have R7 : Hid (w7.heap[w.heap.size]? = some (.cells (ck none 0 0 0 0) 32 (0, 0))) := Lib.hid ((hb7.block _ (lt_of_block R6.out)).trans R6.out)
        have B7 := Lib.hid (below_call B6.out hb7)
        clear hb7 T6 R6 B6 v0 v1 v2
        go_wp2_with (first
          | (refine store_u rfl (.tmp 36) (.tmp 35) rfl w2.heap.size 2 (hashT s u []) rfl rfl _ 32 T7.out (by simp) ?_; intro w8 hp; have T8 : Hid (w8.heap[w2.heap.size]? = some (.cells (ck p 0 c2 u (hashT s u [])) 32 (0, 0))) := Lib.hid hp.at'; have R8 : Hid (w8.heap[w.heap.size]? = some (.cells (ck none 0 0 0 0) 32 (0, 0))) := Lib.hid ((hp.keeps.block _ (lt_of_block R7.out) NT.out).trans R7.out); have B8 := Lib.hid (hp.below B7.out LT.out); clear hp T7 R7 B7; have v0 : w8.cell? ⟨w2.heap.size, 0, none⟩ = some (.slice p 0 c2) := (cell_of_row w8 _ 0 _ _ _ T8.out).trans rfl; have v1 : w8.cell? ⟨w2.heap.size, 1, none⟩ = some (.int .i64 u) := (cell_of_row w8 _ 1 _ _ _ T8.out).trans rfl; have v2 : w8.cell? ⟨w2.heap.size, 2, none⟩ = some (.int .u64 (hashT s u [])) := (cell_of_row w8 _ 2 _ _ _ T8.out).trans rfl)
          | (refine store32 rfl (.tmp 6) (.tmp 37) rfl w.heap.size p 0 c2 u (hashT s u []) rfl rfl none 0 0 0 0 R8.out ?_; intro w9 hp; have P9 := Lib.hid hp; clear hp v0 v1 v2))
        exact bodyPost_ret (ret32 (p := p) (n := 0) (c := c2) (u := u) (S := hashT s u []) rfl rfl P9.out.at' rfl) rfl ⟨p, c2, by rw [HC.out]; rfl, Or.inl HC.out, Or.inl HC.out, P9.out.below B8.out (Nat.le_refl _)⟩
      · have O2 := Lib.hid ho
        clear ho
        have hgl := O2.out.lt
        have hgw : w1.heap.size ≤ g := by obtain ⟨_, h1, _⟩ := O2.out.row; exact h1
        have hw1 : w.heap.size < w1.heap.size := by have := B1s.out; omega
        have O3 : Hid (Oz zs g c2 w1 (w2.alloc (.cells (ck (some ⟨g, 0, none⟩) zs.length c2 u 0) 32))) := Lib.hid (O2.out.alloc _)
        have T3 : Hid ((w2.alloc (.cells (ck (some ⟨g, 0, none⟩) zs.length c2 u 0) 32)).heap[w2.heap.size]? = some (.cells (ck (some ⟨g, 0, none⟩) zs.length c2 u 0) 32 (0, 0))) := Lib.hid (heap_alloc_new w2 _)
        have R3 : Hid ((w2.alloc (.cells (ck (some ⟨g, 0, none⟩) zs.length c2 u 0) 32)).heap[w.heap.size]? = some (.cells (ck none 0 0 0 0) 32 (0, 0))) := Lib.hid ((((Below.refl _ w2).alloc (Nat.le_refl _) _).block _ (lt_of_block R2.out)).trans R2.out)
        have NG := Lib.hid (show w2.heap.size ≠ g by omega)
        have NR := Lib.hid (show w.heap.size ≠ g by omega)
        have NT := Lib.hid (show w.heap.size ≠ w2.heap.size by have := lt_of_block R2.out; omega)
        have LB := Lib.hid (show w.heap.size ≤ g by omega)
        have LT := Lib.hid (show w.heap.size ≤ w2.heap.size from B2.out.size)
        have BB := Lib.hid B1.out
        clear hgl hgw hw1 O2 R2
        go_wp2_with fail
        refine (CS.out g c2 w1 _ O3.out).mono ?_
        rintro e w4 ⟨rfl, ho4, hg4⟩
        have O4 := Lib.hid ho4
        have T4 : Hid (w4.heap[w2.heap.size]? = some (.cells (ck (some ⟨g, 0, none⟩) zs.length c2 u 0) 32 (0, 0))) := Lib.hid ((hg4.block _ (lt_of_block T3.out) (fun e => NG.out (by cases e; rfl))).trans T3.out)
        have R4 : Hid (w4.heap[w.heap.size]? = some (.cells (ck none 0 0 0 0) 32 (0, 0))) := Lib.hid ((hg4.block _ (lt_of_block R3.out) (fun e => NR.out (by cases e; rfl))).trans R3.out)
        clear ho4 hg4 O3 T3 R3
        have v0 : w4.cell? ⟨w2.heap.size, 0, none⟩ = some (.slice (some ⟨g, 0, none⟩) zs.length c2) := (cell_of_row w4 _ 0 _ _ _ T4.out).trans rfl
        go_wp2_with fail
        refine (CK.out g c2 w1 _ O4.out).mono ?_
        rintro e w5 ⟨rfl, hz5, hg5, hb5⟩
        have Z5 := Lib.hid hz5
        have T5 : Hid (w5.heap[w2.heap.size]? = some (.cells (ck (some ⟨g, 0, none⟩) zs.length c2 u 0) 32 (0, 0))) := Lib.hid ((hg5.block _ (lt_of_block T4.out) (fun e => NG.out (by cases e; rfl))).trans T4.out)
        have R5 : Hid (w5.heap[w.heap.size]? = some (.cells (ck none 0 0 0 0) 32 (0, 0))) := Lib.hid ((hg5.block _ (lt_of_block R4.out) (fun e => NR.out (by cases e; rfl))).trans R4.out)
        have B5 := Lib.hid (below_call BB.out hb5)
        clear hz5 hg5 hb5 O4 T4 R4 v0
        go_wp2_with (refine store_sl rfl (.tmp 32) (.tmp 31) rfl w2.heap.size 0 (some ⟨g, 0, none⟩) (comp (sortZ zs)).length c2 rfl rfl _ 32 T5.out (by simp) ?_; intro w6 hp; have T6 : Hid (w6.heap[w2.heap.size]? = some (.cells (ck (some ⟨g, 0, none⟩) (comp (sortZ zs)).length c2 u 0) 32 (0, 0))) := Lib.hid hp.at'; have Z6 := Lib.hid (Z5.out.keeps hp.keeps (fun e => NG.out e.symm)); have R6 : Hid (w6.heap[w.heap.size]? = some (.cells (ck none 0 0 0 0) 32 (0, 0))) := Lib.hid ((hp.keeps.block _ (lt_of_block R5.out) NT.out).trans R5.out); have B6 := Lib.hid (hp.below B5.out LT.out); clear hp Z5 T5 R5 B5; have v0 : w6.cell? ⟨w2.heap.size, 0, none⟩ = some (.slice (some ⟨g, 0, none⟩) (comp (sortZ zs)).length c2) := (cell_of_row w6 _ 0 _ _ _ T6.out).trans rfl; have v1 : w6.cell? ⟨w2.heap.size, 1, none⟩ = some (.int .i64 u) := (cell_of_row w6 _ 1 _ _ _ T6.out).trans rfl; have v2 : w6.cell? ⟨w2.heap.size, 2, none⟩ = some (.int .u64 0) := (cell_of_row w6 _ 2 _ _ _ T6.out).trans rfl)
        refine (CH.out (some ⟨g, 0, none⟩) c2 _ Z6.out).mono ?_
        rintro e w7 ⟨rfl, hb7⟩
        have Z7 := Lib.hid (Z6.out.below hb7)
        have T7 : Hid (w7.heap[w2.heap.size]? = some (.cells (ck (some ⟨g, 0, none⟩) (comp (sortZ zs)).length c2 u 0) 32 (0, 0))) := Lib.hid ((hb7.block _ (lt_of_block T6.out)).trans T6.out)
        have R7 : Hid (w7.heap[w.heap.size]? = some (.cells (ck none 0 0 0 0) 32 (0, 0))) := Lib.hid ((hb7.block _ (lt_of_block R6.out)).trans R6.out)
        have B7 := Lib.hid (below_call B6.out hb7)
        clear hb7 Z6 T6 R6 B6 v0 v1 v2
        go_wp2_with (first
          | (refine store_u rfl (.tmp 36) (.tmp 35) rfl w2.heap.size 2 (hashT s u (comp (sortZ zs))) rfl rfl _ 32 T7.out (by simp) ?_; intro w8 hp; have T8 : Hid (w8.heap[w2.heap.size]? = some (.cells (ck (some ⟨g, 0, none⟩) (comp (sortZ zs)).length c2 u (hashT s u (comp (sortZ zs)))) 32 (0, 0))) := Lib.hid hp.at'; have Z8 := Lib.hid (Z7.out.keeps hp.keeps (fun e => NG.out e.symm)); have R8 : Hid (w8.heap[w.heap.size]? = some (.cells (ck none 0 0 0 0) 32 (0, 0))) := Lib.hid ((hp.keeps.block _ (lt_of_block R7.out) NT.out).trans R7.out); have B8 := Lib.hid (hp.below B7.out LT.out); clear hp Z7 T7 R7 B7; have v0 : w8.cell? ⟨w2.heap.size, 0, none⟩ = some (.slice (some ⟨g, 0, none⟩) (comp (sortZ zs)).length c2) := (cell_of_row w8 _ 0 _ _ _ T8.out).trans rfl; have v1 : w8.cell? ⟨w2.heap.size, 1, none⟩ = some (.int .i64 u) := (cell_of_row w8 _ 1 _ _ _ T8.out).trans rfl; have v2 : w8.cell? ⟨w2.heap.size, 2, none⟩ = some (.int .u64 (hashT s u (comp (sortZ zs)))) := (cell_of_row w8 _ 2 _ _ _ T8.out).trans rfl)
          | (refine store32 rfl (.tmp 6) (.tmp 37) rfl w.heap.size (some ⟨g, 0, none⟩) (comp (sortZ zs)).length c2 u (hashT s u (comp (sortZ zs))) rfl rfl none 0 0 0 0 R8.out ?_; intro w9 hp; have P9 := Lib.hid hp; clear hp v0 v1 v2))
        have Z9 := Lib.hid (Z8.out.keeps P9.out.keeps (fun e => NR.out e.symm))
        exact bodyPost_ret (ret32 (p := some ⟨g, 0, none⟩) (n := (comp (sortZ zs)).length) (c := c2) (u := u) (S := hashT s u (comp (sortZ zs))) rfl rfl P9.out.at' rfl) rfl ⟨some ⟨g, 0, none⟩, c2, rfl, Or.inr ⟨g, rfl, LB.out⟩, Z9.out, P9.out.below B8.out (Nat.le_refl _)⟩
end Ytbihfgcejlgffaa
end Go.Proofs
