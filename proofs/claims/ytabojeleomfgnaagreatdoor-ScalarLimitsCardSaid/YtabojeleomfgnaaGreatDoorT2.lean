/- Values as triples: loads, stores, equality; what clean gives. -/
import Derived.Test.YtabojeleomfgnaaGreatDoorM4
namespace Go.Proofs
open Go.RowKit
namespace YtabojeleomfgnaaGreatDoor
set_option maxRecDepth 100000
def toV (x : V3) : Value := val x.1 x.2.1 x.2.2
abbrev cells (x : V3) : Array Value := #[.int .i64 x.1, .int .i64 x.2.1, .string x.2.2]
def nullT : V3 := (0, 0, ByteArray.empty)
def boolT (b : Bool) : V3 := (1, if b then 1 else 0, ByteArray.empty)
def clT (x : V3) : V3 := if rightB x.1 x.2.1 x.2.2 = true then x else nullT
def Right (x : V3) : Prop := rightB x.1 x.2.1 x.2.2 = true
def Sz (x : V3) : Prop := x.2.2.size ≤ maxLen
theorem cl_t (k n : Int) (s : ByteArray) : cl k n s = toV (clT (k, n, s)) := by
  unfold cl clT
  by_cases h : rightB k n s = true
  · simp only [h, if_true]; rfl
  · simp only [h]; rfl
theorem cl_comps (x : V3) : (clK x.1 x.2.1 x.2.2, clN x.1 x.2.1 x.2.2, clS x.1 x.2.1 x.2.2) = clT x := by
  unfold clK clN clS clT
  by_cases h : rightB x.1 x.2.1 x.2.2 = true
  · simp only [h, if_true]
  · simp only [h]; rfl
theorem clT_right (x : V3) : Right (clT x) := by
  unfold clT Right
  by_cases h : rightB x.1 x.2.1 x.2.2 = true
  · simp only [h, if_true]
  · simp only [h]; exact right0
theorem clT_of_right {x : V3} (h : Right x) : clT x = x := by unfold clT; rw [if_pos (show rightB x.1 x.2.1 x.2.2 = true from h)]
theorem clT_clT (x : V3) : clT (clT x) = clT x := clT_of_right (clT_right x)
theorem Right.bounds {x : V3} (h : Right x) : 0 ≤ x.1 ∧ x.1 ≤ 4 ∧ -999999999999999 ≤ x.2.1 ∧ x.2.1 ≤ 999999999999999 ∧ x.2.2.size ≤ 100 := right_bounds h
theorem Right.sz {x : V3} (h : Right x) : Sz x := by unfold Sz maxLen; have := h.bounds; omega
theorem nullT_right : Right nullT := right0
theorem nullT_sz : Sz nullT := nullT_right.sz
theorem cmp3_cl (x y : V3) : cmp3 x y = cmpV (clT x).1 (clT x).2.1 (clT x).2.2 (clT y).1 (clT y).2.1 (clT y).2.2 := by
  rw [← cl_comps x, ← cl_comps y]; rfl
theorem cmp3_clT (x y : V3) : cmp3 (clT x) (clT y) = cmp3 x y := by rw [cmp3_cl, cmp3_cl, clT_clT, clT_clT]
/-! contracts at triples -/
theorem clean_t (x : V3) (hs : Sz x) (w : World) : Calls Tryz.prog 94 #[toV x] w fun e w' => e = .returned (toV (clT x)) ∧ Below w.heap.size w w' := by
  obtain ⟨k, n, s⟩ := x
  have := clean_any k n s hs w
  rw [cl_t] at this
  exact this
theorem right_t (x : V3) (hs : Sz x) (w : World) : Calls Tryz.prog 97 #[toV x] w fun e w' => e = .returned (toV (clT x)) ∧ Below w.heap.size w w' := by
  obtain ⟨k, n, s⟩ := x
  have := right_any k n s hs w
  rw [cl_t] at this
  exact this
theorem compare_t (x y : V3) (hx : Sz x) (hy : Sz y) (w : World) : Calls Tryz.prog 20 #[toV x, toV y] w fun e w' => e = .returned (.int .i64 (cmp3 x y)) ∧ Below w.heap.size w w' := by
  obtain ⟨k, n, s⟩ := x
  obtain ⟨k', n', s'⟩ := y
  exact compare_any k n k' n' s s' hx hy w
theorem compared_t (x y : V3) (hx : Sz x) (hy : Sz y) (w : World) : Calls Tryz.prog 21 #[toV x, toV y] w fun e w' => e = .returned (.int .i64 (cmp3 x y)) ∧ Below w.heap.size w w' := by
  obtain ⟨k, n, s⟩ := x
  obtain ⟨k', n', s'⟩ := y
  exact compared_any k n k' n' s s' hx hy w
/-! one operation -/
theorem bytes_eq (s t : ByteArray) : s.toList = t.toList ↔ s = t := by
  constructor
  · intro h
    rw [Lib.toList_data, Lib.toList_data] at h
    obtain ⟨⟨a⟩⟩ := s
    obtain ⟨⟨b⟩⟩ := t
    simpa using h
  · rintro rfl; rfl
theorem run_eq23 (x y : V3) (w : World) : (binOp BinOp.eql 23 (toV x) (toV y)).run Tryz.prog w = .ok (.bool (decide (x = y))) w := by
  obtain ⟨k, n, s⟩ := x
  obtain ⟨k', n', s'⟩ := y
  show (binOp BinOp.eql 23 (val k n s) (val k' n' s')).run Tryz.prog w = _
  go_simp
  by_cases h1 : k = k'
  · by_cases h2 : n = n'
    · by_cases h3 : s.toList = s'.toList
      · simp [h1, h2, (bytes_eq s s').mp h3]
      · have h4 : ¬ s = s' := fun h => h3 ((bytes_eq s s').mpr h)
        rw [if_pos h1, if_pos h2, if_neg h3]
        simp [h4]
    · simp [h1, h2]
  · simp [h1]
theorem run_guard23 (x y : V3) (u v : Operand) (w : World) : (eqGuard BinOp.eql 23 u v (toV x) (toV y)).run Tryz.prog w = .ok () w := by
  obtain ⟨k, n, s⟩ := x
  obtain ⟨k', n', s'⟩ := y
  show (eqGuard BinOp.eql 23 u v (val k n s) (val k' n' s')).run Tryz.prog w = _
  go_simp
theorem op_eq23 {a : Act} {o : Oper} {u v : Operand} {t : TypeId} (x y : V3) (ho : o.op = .binOp .eql 23 u v t) (hu : a.eval u = toV x) (hv : a.eval v = toV y) (w : World) :
    (execOp a.eval o).run Tryz.prog w = .ok (.value (.bool (decide (x = y)))) w := by
  unfold execOp
  simp only [ho, hu, hv]
  have h1 := run_guard23 x y u v w
  have h2 := run_eq23 x y w
  simp [go_sem, h1, h2]
theorem wpList_eq23 {ops : Array Oper} {rest : List Oper} {o : Oper} {a : Act} {w : World} {Q : Exit → Act → World → Prop} (hgd : o.guard = none) (u v : Operand) (t : TypeId) (ho : o.op = .binOp .eql 23 u v t) (x y : V3)
    (hu : a.eval u = toV x) (hv : a.eval v = toV y) (h : wpList Tryz.prog ops Q rest (a.put o.dst (.bool (decide (x = y)))) w) : wpList Tryz.prog ops Q (o :: rest) a w :=
  wpList_plain hgd fun _ hK => by unfold Oper.wp; rw [op_eq23 x y ho hu hv w]; exact hK _ _ h
theorem store23 {ops : Array Oper} {rest : List Oper} {o : Oper} {a : Act} {w : World} {Q : Exit → Act → World → Prop} (hgd : o.guard = none) (u v : Operand) (ho : o.op = .store 23 u v)
    (g : Nat) (x : V3) (hx : a.eval u = .pointer (some ⟨g, 0, none⟩)) (hy : a.eval v = toV x) (y : V3) (hg : w.heap[g]? = some (.cells (cells y) 23 (0, 0)))
    (h : ∀ w', Puts g (cells x) 23 w w' → wpList Tryz.prog ops Q rest (a.put o.dst undef) w') : wpList Tryz.prog ops Q (o :: rest) a w :=
  wpList_store_row hgd 23 u v ho g (cells x) hx hy 23 (cells y) hg size23 rfl (by simp [Value.oneCell']) (h _ (puts_setRow hg))
theorem ret23 {fn : Func} {r : Tmp} (h : fn.results = #[.cell r 23]) {tmps : Array Value} {w : World} {g : Nat} {x : V3} (hp : tmps.getD r undef = .pointer (some ⟨g, 0, none⟩)) (hg : w.heap[g]? = some (.cells (cells x) 23 (0, 0))) :
    (results fn tmps).run Tryz.prog w = .ok (toV x) w :=
  results_cell_row h tmps w g 23 (cells x) (0, 0) _ hp hg Tryz.underlying23 rfl size23
theorem Puts.low {g : Nat} {x : V3} {w0 w w' : World} (h : Puts g (cells x) 23 w w') (hb : Below w0.heap.size w0 w) (hg : w0.heap.size ≤ g) : Below w0.heap.size w0 w' := h.below hb hg
end YtabojeleomfgnaaGreatDoor
end Go.Proofs
