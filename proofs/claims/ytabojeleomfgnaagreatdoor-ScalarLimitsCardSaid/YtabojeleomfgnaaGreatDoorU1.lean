/- From the listed variables and the world's shape to what the walks read; the builder that hands on both. -/
import Derived.Test.YtabojeleomfgnaaGreatDoorF1
import Derived.Test.YtabojeleomfgnaaGreatDoorTie
import Derived.Test.YtabojeleomfgnaaGreatDoorCards
import Derived.ProofKit
import Derived.Lay
import Derived.LaidMore
import Derived.OpenShut
import Derived.MakeChecks
import Derived.HandedShaped
import Derived.Lib.LaidU8
import Derived.Lib.SmallJoins
import Derived.Shelf.Vars
namespace Go.Proofs
open Go.RowKit
namespace YtabojeleomfgnaaGreatDoor
section
variable {H : Type} {enc : TypeId × Value → H}
theorem change_and_shaped {a : Assume} {C : Checked} {os : Os} {f : FuncId} {fn : Func} {s : ChangeSpec} {conds : List PathCond} {apart fresh handsOn again : Bool} {X : World → Array Value → Prop}
    (hX : ∀ (w w' : World) (args : Array Value), w.heap = w'.heap → X w args → X w' args)
    (own : ownKnob C.prog.godebug = none) (started : os.Started) (noInit : C.prog.inits.idxOf? f = none) (hfn : C.prog.funcs[f]? = some fn)
    (witness : ∃ (w : World) (tape : Tape) (i : Input), w.os = os ∧ (w.forCall tape i).Shaped C.prog ∧ i.vars = [] ∧ Input.okWide C.prog (w.forCall tape i) .any w.heap.size f i ∧
      ((s.pre enc C.prog fn conds apart (w.forCall tape i).memory i.args ∧ X (w.forCall tape i).memory i.args) ∧ sizedMet enc C.prog fn (OpenSpec.ofChange s) apart (w.forCall tape i).memory i.args) ∧ a.holds C.prog (lone (Frame.enter C.prog f i.args .normal) [] (w.forCall tape i)))
    (contract : ∀ (W : World) (base : Nat) (args : Array Value) (ds gs : List (DataW H)) (before : List MemPlace),
      (∀ (j : Nat) t v, fn.params[j]? = some t → args[j]? = some v → Value.okWide C.prog W .any base t v) →
      DataW.Whole enc C.prog fn.params.toList s.vars apart W args.toList ds gs before →
      (DataW.weightsEach C.prog (fn.params.toList ++ s.plain.varTypes C.prog) (ds ++ gs)).all (· ≤ reachBytes) = true → X W args → W.ShapedOpen C.prog →
      Calls C.prog f args W fun e W' => ∃ v, e = .returned v ∧ s.post enc C.prog fn apart fresh handsOn again W args v W') :
    ReturnsInHanded a C os f .any (fun w args => (s.pre enc C.prog fn conds apart w args ∧ X w args) ∧ sizedMet enc C.prog fn (OpenSpec.ofChange s) apart w args) (s.post enc C.prog fn apart fresh handsOn again) := by
  refine returnsInHanded_of_calls own started noInit witness ?_
  intro w tape i _ hsh _ hok hpre _
  obtain ⟨_, _, _, fn', hfn', _, _, _, _, hval⟩ := hok
  obtain rfl : fn' = fn := Option.some.inj (hfn'.symm.trans hfn)
  obtain ⟨⟨⟨ds, gs, before, hw, _⟩, hx⟩, hz⟩ := hpre
  refine (contract (w.forCall tape i) w.heap.size i.args ds gs before hval (DataW.Whole.of_heap (w' := w.forCall tape i) (by rfl) hw) (hz.weights hw) (hX _ _ _ (by rfl) hx) hsh).mono fun e W' ⟨v, he, hp⟩ => ?_
  subst he
  exact ChangeSpec.post_blind hp
end
abbrev laidL : List (String × DataW Unit) := Rows.valueChecksRow.laid
theorem gOps : Tryz.prog.globalNamed "dumbwaiter/value.operations" = some 1 := by kernel_rfl
theorem tOps : (Tryz.prog.globals[1]?).map (·.type) = some 226 := by kernel_rfl
theorem cOp : Tryz.prog.cellsOf 225 = 5 := by kernel_rfl
theorem cStr : Tryz.prog.cellsOf 9 = 1 := by kernel_rfl
theorem cInt : Tryz.prog.cellsOf 3 = 1 := by kernel_rfl
/-- the table's rows, as they are listed -/
def opsRows : List (DataW Unit) := match Rows.laid_dumbwaiter_value_operations (H := Unit) with | .agg ds => ds | _ => []
theorem ops_rows : Rows.laid_dumbwaiter_value_operations (H := Unit) = .agg opsRows := rfl
theorem ops_row {w : World} {fuel : Nat} {cs : List Value} {p : List MemPlace} (h : DataW.trod (fun _ => ()) Tryz.prog w 0 (fun _ => true) false fuel 226 cs = some (Rows.laid_dumbwaiter_value_operations, p))
    (i : Nat) (hi : i < 28) (b : List UInt8) (n : Int) (r : List (DataW Unit)) (hr : opsRows[i]? = some (.agg (.lit (.string b) :: .lit (.int .i64 n) :: r))) :
    cs[i * 5]? = some (.string ⟨b.toArray⟩) ∧ cs[i * 5 + 1]? = some (.int .i64 n) := by
  rw [ops_rows] at h
  obtain ⟨f, d, q, hd, he⟩ := Lib.array_elem Tryz.underlying226 h i hi
  rw [hr] at hd
  obtain rfl := Option.some.inj hd
  rw [cOp] at he
  obtain ⟨xs, m, _, hx, hl, hxl, hf⟩ := DataW.trod_struct Tryz.underlying225 he
  have f0 := hf 0 _ rfl
  have f1 := hf 1 _ rfl
  match xs, hxl with
  | x0 :: x1 :: xr, hxl =>
    simp only [Prod.mk.injEq, DataW.agg.injEq, List.map_cons, List.cons.injEq] at hx
    obtain ⟨s, hs, es, _⟩ := DataW.trod_string Tryz.underlying9 f0
    obtain ⟨k, hk, ek, _⟩ := DataW.trod_int Tryz.underlying3 f1
    have h0 := hx.1.1
    have h1 := hx.1.2.1
    rw [es] at h0
    rw [ek] at h1
    simp only [DataW.lit.injEq, Lit.string.injEq, Lit.int.injEq, true_and] at h0 h1
    have g0 := congrArg (·[0]?) hs
    have g1 := congrArg (·[0]?) hk
    simp [List.getElem?_drop, cStr, cInt] at g0 g1
    subst h1
    have hb : s = ⟨b.toArray⟩ := by rw [h0]
    rw [← hb]
    exact ⟨g0, g1⟩
theorem ops_of_laid {w : World} (hL : laidMet Tryz.prog laidL w) (hsh : w.ShapedOpen Tryz.prog) : Ops w := by
  have hv : Lib.VarReads Tryz.prog w "dumbwaiter/value.operations" Rows.laid_dumbwaiter_value_operations := Lib.laidMet.reads hL (.tail _ (.tail _ (.tail _ (.tail _ (.tail _ (.tail _ (.head _)))))))
  obtain ⟨g, t, cs, fuel, p, hg, ht, hvar, hd⟩ := hv
  obtain rfl := Option.some.inj (gOps.symm.trans hg)
  obtain rfl := Option.some.inj (tOps.symm.trans ht)
  have c : ∀ j v, cs.toList[j]? = some v → w.cell? ⟨1, j, none⟩ = some v := fun j v hj => (World.var?_cell hg hvar j).trans (by rw [← Array.getElem?_toList]; exact hj)
  have row := fun i hi b n r hr => ops_row hd i hi b n r hr
  refine ⟨c _ _ (row 1 (by decide) _ _ _ rfl).1, c _ _ (row 2 (by decide) _ _ _ rfl).1, c _ _ (row 3 (by decide) _ _ _ rfl).1, c _ _ (row 4 (by decide) _ _ _ rfl).1, c _ _ (row 5 (by decide) _ _ _ rfl).1, c _ _ (row 6 (by decide) _ _ _ rfl).1,
    c _ _ (row 7 (by decide) _ _ _ rfl).1, c _ _ (row 8 (by decide) _ _ _ rfl).1, c _ _ (row 9 (by decide) _ _ _ rfl).1, c _ _ (row 10 (by decide) _ _ _ rfl).1, c _ _ (row 11 (by decide) _ _ _ rfl).1, c _ _ (row 12 (by decide) _ _ _ rfl).1, c _ _ (row 12 (by decide) _ _ _ rfl).2, ?_, ?_⟩
  · exact block_lt_of_cell (a := ⟨1, 5, none⟩) (c _ _ (row 1 (by decide) _ _ _ rfl).1)
  · exact cell_of_shapedOpen_int hsh (g := 0) (t := 3) (zero := #[.int .i64 0]) (of_decide_eq_true (by kernel_rfl)) (by kernel_rfl) rfl (by kernel_rfl) (by kernel_rfl) Tryz.underlying3
theorem one23 : Go.Deep.oneCellFields Tryz.prog #[{ name := "Kind", type := 3, offset := 0, embedded := false, tag := "", pkgPath := "", byteOffset := 0 }, { name := "N", type := 3, offset := 1, embedded := false, tag := "", pkgPath := "", byteOffset := 8 }, { name := "S", type := 9, offset := 2, embedded := false, tag := "", pkgPath := "", byteOffset := 16 }] = true := by kernel_rfl
theorem cells23 : Tryz.prog.cellsOf 23 = 3 := by kernel_rfl
theorem own : ownKnob Tryz.prog.godebug = none := by kernel_rfl
theorem laid_plain (w : World) : laidMetH Tryz.prog laidL w = laidMet Tryz.prog laidL w := MakeChecks.laidMetH_plain _ _ _ (by kernel_rfl)
theorem start_met (os : Os) (args : Array Value) : laidMetH Tryz.prog laidL ((World.laidAll Tryz.prog os laidL).forCall (fun _ _ => 0) ⟨#[], args, []⟩).memory := by
  rw [laid_plain]; exact laidMet_laidAll _ (by kernel_rfl) (by kernel_rfl)
theorem start_shaped (os : Os) (args : Array Value) : ((World.laidAll Tryz.prog os laidL).forCall (fun _ _ => 0) ⟨#[], args, []⟩).Shaped Tryz.prog := World.shaped_of_ZipB (by kernel_rfl) (by kernel_rfl)
end YtabojeleomfgnaaGreatDoor
end Go.Proofs
