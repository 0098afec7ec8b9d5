/- A cache: its use, its floor, the copy of an object. -/
import Derived.Test.YtbihfgcejlgffaaTk9
namespace Go.Proofs
open Go.RowKit
namespace Ytbihfgcejlgffaa
set_option maxRecDepth 100000
/-- all blocks are as they were but those of X -/
structure KX (X : List Nat) (w w' : World) : Prop where
  os : w'.os = w.os
  tape : w'.tape = w.tape
  output : w'.output = w.output
  size : w.heap.size ≤ w'.heap.size
  block : ∀ k, k < w.heap.size → k ∉ X → w'.heap[k]? = w.heap[k]?
theorem KX.refl (X : List Nat) (w : World) : KX X w w := ⟨rfl, rfl, rfl, Nat.le_refl _, fun _ _ _ => rfl⟩
theorem KX.trans {X : List Nat} {a b c : World} (h : KX X a b) (k : KX X b c) : KX X a c :=
  ⟨k.os.trans h.os, k.tape.trans h.tape, k.output.trans h.output, Nat.le_trans h.size k.size, fun j hj hx => (k.block j (Nat.lt_of_lt_of_le hj h.size) hx).trans (h.block j hj hx)⟩
theorem KX.of_below {X : List Nat} {w w' : World} (h : Below w.heap.size w w') : KX X w w' := ⟨h.os, h.tape, h.output, h.size, fun j hj _ => h.block j hj⟩
theorem KX.puts {X : List Nat} {g : Nat} {cells : Array Value} {t : TypeId} {w0 w w' : World} (h : KX X w0 w) (hp : Puts g cells t w w') (hg : g ∈ X ∨ w0.heap.size ≤ g) : KX X w0 w' :=
  ⟨hp.keeps.os.trans h.os, hp.keeps.tape.trans h.tape, hp.keeps.output.trans h.output, by rw [hp.size]; exact h.size, fun j hj hx => (hp.keeps.block j (Nat.lt_of_lt_of_le hj h.size) (fun e => by subst e; rcases hg with hg | hg; exact hx hg; omega)).trans (h.block j hj hx)⟩
theorem KX.put {X : List Nat} {g : Nat} {o : Obj} {w0 w : World} (h : KX X w0 w) (hg : g ∈ X ∨ w0.heap.size ≤ g) : KX X w0 (w.putObj g o) :=
  ⟨h.os, h.tape, h.output, by simp [World.putObj]; exact h.size, fun j hj hx => (World.putObj_heap_other (fun e => by subst e; rcases hg with hg | hg; exact hx hg; omega)).trans (h.block j hj hx)⟩
theorem KX.alloc {X : List Nat} {w0 w : World} (h : KX X w0 w) (o : Obj) : KX X w0 (w.alloc o) := h.trans (KX.of_below ((Below.refl _ _).alloc (Nat.le_refl _) o))
theorem KX.drew {X : List Nat} {w0 w : World} (h : KX X w0 w) (n : Nat) : KX X w0 (w.drewN n) := ⟨h.os, h.tape, h.output, h.size, h.block⟩
theorem KX.mono {X Y : List Nat} {w w' : World} (h : KX X w w') (hs : ∀ k ∈ X, k ∈ Y) : KX Y w w' := ⟨h.os, h.tape, h.output, h.size, fun j hj hx => h.block j hj (fun hk => hx (hs j hk))⟩
theorem KX.below {X : List Nat} {w0 w w' : World} (hb : Below w0.heap.size w0 w) (h : KX X w w') (hX : ∀ k ∈ X, w0.heap.size ≤ k) : Below w0.heap.size w0 w' :=
  ⟨h.os.trans hb.os, h.tape.trans hb.tape, h.output.trans hb.output, Nat.le_trans hb.size h.size, fun k hk => (h.block k (Nat.lt_of_lt_of_le hk hb.size) (fun hx => by have := hX k hx; omega)).trans (hb.block k hk)⟩
/-- the cells of the cache -/
abbrev CA (h u : Int) (m : Nat) : Array Value := #[.int .i64 4, .int .i64 h, .int .i64 0, .int .i64 u, .map (some m)]
/-- the cells of an entry -/
abbrev EN (s u : Int) (g : Nat) : Array Value := #[.slice (some ⟨g, 0, none⟩) 1 1, .slice none 0 0, .int .i64 s, .int .i64 u]
set_option maxHeartbeats 1000000 in
theorem use_t (b e m : Nat) (h u s k : Int) (g : Nat) (hbe : b ≠ e) (hu : 0 ≤ u) (hu2 : u ≤ 1000) (w : World) (hb : w.heap[b]? = some (.cells (CA h u m) 85 (0, 0))) (he : w.heap[e]? = some (.cells (EN s k g) 93 (0, 0))) :
    Calls Try.prog 50 #[.pointer (some ⟨b, 0, none⟩), .pointer (some ⟨e, 0, none⟩)] w fun r w' => r = .returned (.tuple #[]) ∧ w'.heap[b]? = some (.cells (CA h (u + 1) m) 85 (0, 0)) ∧ w'.heap[e]? = some (.cells (EN s (u + 1) g) 93 (0, 0)) ∧ KX [b, e] w w' := by
  have HB := Lib.hid hb
  have HE := Lib.hid he
  have HN := Lib.hid hbe
  have c3 : w.cell? ⟨b, 3, none⟩ = some (.int .i64 u) := (cell_of_row w _ 3 _ _ _ hb).trans rfl
  clear hb he hbe
  go_enter Try.func50, Try.ntmps50
  go_wp2_with (first
    | (have _t := HB; refine store_int rfl (.tmp 10) (.tmp 8) rfl b 3 (u + 1) rfl (by rfl) _ 85 HB.out (by simp) ?_; intro w1 hp; have B1 : Hid (w1.heap[b]? = some (.cells (CA h (u + 1) m) 85 (0, 0))) := Lib.hid hp.at'; have E1 : Hid (w1.heap[e]? = some (.cells (EN s k g) 93 (0, 0))) := Lib.hid ((hp.keeps.block _ (lt_of_block HE.out) (fun x => HN.out x.symm)).trans HE.out); have K1 : Hid (KX [b, e] w w1) := Lib.hid ((KX.refl _ _).puts hp (Or.inl (by simp))); clear hp c3 HB HE; have c3 : w1.cell? ⟨b, 3, none⟩ = some (.int .i64 (u + 1)) := (cell_of_row w1 _ 3 _ _ _ B1.out).trans rfl)
    | (refine store_int rfl (.tmp 17) (.tmp 15) rfl e 3 (u + 1) rfl rfl _ 93 E1.out (by simp) ?_; intro w2 hp; have E2 : Hid (w2.heap[e]? = some (.cells (EN s (u + 1) g) 93 (0, 0))) := Lib.hid hp.at'; have B2 : Hid (w2.heap[b]? = some (.cells (CA h (u + 1) m) 85 (0, 0))) := Lib.hid ((hp.keeps.block _ (lt_of_block B1.out) HN.out).trans B1.out); have K2 : Hid (KX [b, e] w w2) := Lib.hid (K1.out.puts hp (Or.inl (by simp))); clear hp c3))
  exact bodyPost_end (results_none rfl _ _ _) rfl ⟨rfl, B2.out, E2.out, K2.out⟩
theorem floor_t (b m : Nat) (h u : Int) (hh : 0 ≤ h) (w : World) (hb : w.heap[b]? = some (.cells (CA h u m) 85 (0, 0))) :
    Calls Try.prog 72 #[.pointer (some ⟨b, 0, none⟩)] w fun r w' => r = .returned (.int .i64 h) ∧ ∃ n, w' = w.drewN n := by
  have c1 : w.cell? ⟨b, 1, none⟩ = some (.int .i64 h) := (cell_of_row w _ 1 _ _ _ hb).trans rfl
  have c2 : w.cell? ⟨b, 2, none⟩ = some (.int .i64 0) := (cell_of_row w _ 2 _ _ _ hb).trans rfl
  have hm : max h 0 = h := by omega
  have HM := Lib.hid hm
  clear hb hm
  go_enter Try.func72, Try.ntmps72
  go_wp2
  go_region
  go_wp2
  go_ret
  exact ⟨by rw [HM.out]; rfl, 1, rfl⟩
/-- the cells of the object -/
abbrev OC : Array Value := #[.string SA, .int .i64 0, .int .i64 1, .int .i64 0, .int .i64 0, .int .i64 0, .string S0, .slice none 0 0, .slice none 0 0]
theorem eqn57 (w : World) : (binOp BinOp.eql 57 (.slice none 0 0) (.slice none 0 0)).run Try.prog w = .ok (.bool true) w := by kernel_rfl
theorem cloneV_nil (w : World) : Calls Try.prog 74 #[.slice none 0 0] w fun e w' => e = .returned (.slice none 0 0) ∧ w' = w := by
  have hq := eqn57
  go_enter Try.func74, Try.ntmps74
  go_wp2
  go_ret
  exact ⟨rfl, rfl⟩
abbrev OZ : Array Value := #[.string S0, .int .i64 0, .int .i64 0, .int .i64 0, .int .i64 0, .int .i64 0, .string S0, .slice none 0 0, .slice none 0 0]
theorem size59 : (Try.prog.info? 59).map (·.size) = some 9 := by kernel_rfl
theorem load59 {ops : Array Oper} {rest : List Oper} {o : Oper} {a : Act} {w : World} {Q : Exit → Act → World → Prop} (hgd : o.guard = none) (x : Operand) (ho : o.op = .load 59 x)
    (g : Nat) (C : Array Value) (hx : a.eval x = .pointer (some ⟨g, 0, none⟩)) (hC : C.size = 9) (hg : w.heap[g]? = some (.cells C 59 (0, 0))) (h : wpList Try.prog ops Q rest (a.put o.dst (.agg C)) w) : wpList Try.prog ops Q (o :: rest) a w :=
  wpList_load_row hgd 59 x ho g hx 59 C (0, 0) _ hg Try.underlying59 rfl (by rw [hC]; exact size59) h
theorem store59 {ops : Array Oper} {rest : List Oper} {o : Oper} {a : Act} {w : World} {Q : Exit → Act → World → Prop} (hgd : o.guard = none) (x y : Operand) (ho : o.op = .store 59 x y)
    (g : Nat) (C D : Array Value) (hx : a.eval x = .pointer (some ⟨g, 0, none⟩)) (hy : a.eval y = .agg C) (hC : C.size = 9) (hD : D.size = 9) (hone : (C.all fun x => x.oneCell') = true) (hg : w.heap[g]? = some (.cells D 59 (0, 0)))
    (h : ∀ w', Puts g C 59 w w' → wpList Try.prog ops Q rest (a.put o.dst undef) w') : wpList Try.prog ops Q (o :: rest) a w :=
  wpList_store_row hgd 59 x y ho g C hx hy 59 D hg (by rw [hC]; exact size59) (by rw [hC, hD]) hone (h _ (puts_setRow hg))
theorem sq_row {w : World} {b : Nat} (h : w.heap[b]? = some (.cells OC 59 (0, 0))) : w.cell? ⟨b, 7, none⟩ = some (.slice none 0 0) ∧ w.cell? ⟨b, 8, none⟩ = some (.slice none 0 0) ∧ w.frozen? ⟨b, 7, none⟩ = false ∧ w.frozen? ⟨b, 8, none⟩ = false :=
  ⟨(cell_of_row w _ 7 _ _ _ h).trans rfl, (cell_of_row w _ 8 _ _ _ h).trans rfl, by simp [World.frozen?, h], by simp [World.frozen?, h]⟩
theorem row7 {w : World} {b : Nat} (h : w.heap[b]? = some (.cells OC 59 (0, 0))) : (w.setCell ⟨b, 7, none⟩ (.slice none 0 0)).heap[b]? = some (.cells OC 59 (0, 0)) := heap_setCell_same w b 7 OC 59 _ h
theorem row8 {w : World} {b : Nat} (h : w.heap[b]? = some (.cells OC 59 (0, 0))) : (w.setCell ⟨b, 8, none⟩ (.slice none 0 0)).heap[b]? = some (.cells OC 59 (0, 0)) := heap_setCell_same w b 8 OC 59 _ h
set_option maxHeartbeats 1000000 in
theorem objClone_t (w : World) : Calls Try.prog 48 #[.agg OC] w fun e w' => e = .returned (.agg OC) ∧ Below w.heap.size w w' := by
  have CV := Lib.hid cloneV_nil
  have CI := Lib.hid (fun w => Try.slices_Clone_int_nil 0 0 w)
  have B1 : Hid (Below w.heap.size w ((w.alloc (.cells OC 59)).alloc (.cells OZ 59))) := Lib.hid (by go_grown)
  have R1 : Hid (((w.alloc (.cells OC 59)).alloc (.cells OZ 59)).heap[w.heap.size]? = some (.cells OC 59 (0, 0))) := Lib.hid ((((Below.refl _ (w.alloc (.cells OC 59))).alloc (Nat.le_refl _) _).block _ (by simp)).trans (heap_alloc_new w _))
  have R2 : Hid (((w.alloc (.cells OC 59)).alloc (.cells OZ 59)).heap[w.heap.size + 1]? = some (.cells OZ 59 (0, 0))) := Lib.hid (new_at _ _ _ (by simp))
  go_enter Try.func48, Try.ntmps48
  go_wp2_with fail
  generalize ((w.alloc (.cells OC 59)).alloc (.cells OZ 59)) = w1 at B1 R1 R2 ⊢
  have v5 : w1.cell? ⟨w.heap.size, 7, none⟩ = some (.slice none 0 0) := (cell_of_row w1 _ 7 _ _ _ R1.out).trans rfl
  have v6 : w1.cell? ⟨w.heap.size, 8, none⟩ = some (.slice none 0 0) := (cell_of_row w1 _ 8 _ _ _ R1.out).trans rfl
  have f5 : w1.frozen? ⟨w.heap.size, 7, none⟩ = false := by simp [World.frozen?, R1.out]
  have f6 : w1.frozen? ⟨w.heap.size, 8, none⟩ = false := by simp [World.frozen?, R1.out]
  go_region_held3 (fun w' => w'.cell? ⟨w.heap.size, 7, none⟩ = some (.slice none 0 0) ∧ w'.cell? ⟨w.heap.size, 8, none⟩ = some (.slice none 0 0) ∧ w'.frozen? ⟨w.heap.size, 7, none⟩ = false ∧ w'.frozen? ⟨w.heap.size, 8, none⟩ = false) (first | exact sq_row R1.out | exact sq_row (row7 R1.out) | exact sq_row (row8 R1.out) | exact sq_row (row8 (row7 R1.out)) | exact sq_row (row7 (row8 R1.out)) | go_keep)
    (first | (go_at_call 74; refine (CV.out _).mono ?_; rintro e wx ⟨rfl, hwx⟩; rw [hwx]; clear hwx wx) | (go_at_call 10; refine (CI.out _).mono ?_; rintro e wx ⟨rfl, hwx⟩; rw [hwx]; clear hwx wx))
  all_goals
    have R3 : Hid ((((w1.setCell ⟨w.heap.size, 7, none⟩ (.slice none 0 0)).setCell ⟨w.heap.size, 8, none⟩ (.slice none 0 0)).drew).heap[w.heap.size]? = some (.cells OC 59 (0, 0))) := Lib.hid (row8 (row7 R1.out))
    have R4 : Hid ((((w1.setCell ⟨w.heap.size, 7, none⟩ (.slice none 0 0)).setCell ⟨w.heap.size, 8, none⟩ (.slice none 0 0)).drew).heap[w.heap.size + 1]? = some (.cells OZ 59 (0, 0))) := Lib.hid (((heap_setCell_other _ _ _ _ (by show w.heap.size + 1 ≠ w.heap.size; omega)).trans (heap_setCell_other _ _ _ _ (by show w.heap.size + 1 ≠ w.heap.size; omega))).trans R2.out)
    have B3 : Hid (Below w.heap.size w (((w1.setCell ⟨w.heap.size, 7, none⟩ (.slice none 0 0)).setCell ⟨w.heap.size, 8, none⟩ (.slice none 0 0)).drew)) := Lib.hid (((B1.out.setCell (p := ⟨w.heap.size, 7, none⟩) (Nat.le_refl _) _).setCell (p := ⟨w.heap.size, 8, none⟩) (Nat.le_refl _) _).drew)
    generalize (((w1.setCell ⟨w.heap.size, 7, none⟩ (.slice none 0 0)).setCell ⟨w.heap.size, 8, none⟩ (.slice none 0 0)).drew) = w2 at R3 R4 B3 ⊢
    clear v5 v6 f5 f6 R1 R2 B1
    go_wp2_with (first
      | (refine load59 rfl (.tmp 1) rfl w.heap.size OC rfl rfl R3.out ?_)
      | (refine store59 rfl (.tmp 2) (.tmp 11) rfl (w.heap.size + 1) OC OZ rfl rfl rfl rfl (by simp [Value.oneCell']) R4.out ?_; intro w3 hp; have P3 := Lib.hid hp; clear hp))
    exact bodyPost_ret (results_cell_row rfl _ _ (w.heap.size + 1) 59 OC (0, 0) _ rfl P3.out.at' Try.underlying59 rfl size59) rfl ⟨rfl, P3.out.below B3.out (Nat.le_succ _)⟩
end Ytbihfgcejlgffaa
end Go.Proofs
