/- The run of map operations that a cache makes. -/
import Derived.Test.YtbihfgcejlgffaaTk8
import Derived.MapKept
import Derived.RangeFuncRecord
namespace Go.Proofs
open Go.RowKit
namespace Ytbihfgcejlgffaa
set_option maxRecDepth 100000
abbrev SA : ByteArray := ⟨#[97]⟩
abbrev S0 : ByteArray := ⟨#[]⟩
/-- the name of the object -/
abbrev NK : Value := .agg #[.bool false, .string SA, .int .i64 0, .int .i64 1, .string S0]
abbrev RK : Value := .agg #[.string SA, .int .i64 0, .int .i64 1]
theorem key88 (e : Bool) (w : World) : (Instr.checkKey e 10000 88 NK).run Try.prog w = .ok () w := by cases e <;> kernel_rfl
theorem key69 (e : Bool) (w : World) : (Instr.checkKey e 10000 69 RK).run Try.prog w = .ok () w := by cases e <;> kernel_rfl
theorem find88_no (w : World) : (Instr.findKey 88 NK []).run Try.prog w = .ok none w := by kernel_rfl
theorem find88_yes (v : Value) (b : Nat) (w : World) : (Instr.findKey 88 NK [{ key := NK, val := v, born := b }]).run Try.prog w = .ok (some (0, v)) w := by kernel_rfl
theorem find69_no (w : World) : (Instr.findKey 69 RK []).run Try.prog w = .ok none w := by kernel_rfl
theorem find69_yes (v : Value) (b : Nat) (w : World) : (Instr.findKey 69 RK [{ key := RK, val := v, born := b }]).run Try.prog w = .ok (some (0, v)) w := by kernel_rfl
theorem under83 : Try.prog.underlying 83 = some (.map 88 89) := Try.underlying83
theorem zero89 (w : World) : (zeroValue 89).run Try.prog w = .ok (.pointer none) w := by kernel_rfl
theorem gm {w : World} {m : Nat} {es : Array MapEntry} {clock : Nat} (h : w.heap[m]? = some (.map es clock)) : (getObj m).run Try.prog w = .ok (.map es clock) w := by simp [getObj, Sem.run, h]
theorem sm {w : World} {m : Nat} {es : Array MapEntry} {clock : Nat} (o : Obj) (h : w.heap[m]? = some (.map es clock)) : (setObj m o).run Try.prog w = .ok () (w.putObj m o) := by simp [setObj, Sem.run, h, World.putObj]
theorem look_no (w : World) (m clock : Nat) (h : w.heap[m]? = some (.map #[] clock)) : (Instr.lookup 83 (.map (some m)) NK true).run Try.prog w = .ok (.tuple #[.pointer none, .bool false]) w := by
  simp [Instr.lookup, run_underlying Try.underlying83, gm h, key88, find88_no, zero89]
theorem look_yes (w : World) (m clock b : Nat) (v : Value) (h : w.heap[m]? = some (.map #[{ key := NK, val := v, born := b }] clock)) : (Instr.lookup 83 (.map (some m)) NK true).run Try.prog w = .ok (.tuple #[v, .bool true]) w := by
  simp [Instr.lookup, run_underlying Try.underlying83, gm h, key88, find88_yes]
theorem upd88 (w : World) (m clock : Nat) (v : Value) (h : w.heap[m]? = some (.map #[] clock)) : (Instr.mapUpdate 83 (.map (some m)) NK v).run Try.prog w = .ok () (w.putObj m (.map #[{ key := NK, val := v, born := clock }] (clock + 1))) := by
  simp [Instr.mapUpdate, run_underlying Try.underlying83, gm h, key88, find88_no, sm _ h]
theorem upd69 (w : World) (m clock : Nat) (v : Value) (h : w.heap[m]? = some (.map #[] clock)) : (Instr.mapUpdate 117 (.map (some m)) RK v).run Try.prog w = .ok () (w.putObj m (.map #[{ key := RK, val := v, born := clock }] (clock + 1))) := by
  simp [Instr.mapUpdate, run_underlying Try.underlying117, gm h, key69, find69_no, sm _ h]
theorem look69 (w : World) (m clock b : Nat) (v : Value) (h : w.heap[m]? = some (.map #[{ key := RK, val := v, born := b }] clock)) : (Instr.lookup 117 (.map (some m)) RK false).run Try.prog w = .ok v w := by
  simp [Instr.lookup, run_underlying Try.underlying117, gm h, key69, find69_yes]
theorem len83 (w : World) (m clock n : Nat) (es : Array MapEntry) (hn : es.size = n) (h : w.heap[m]? = some (.map es clock)) : (Builtin.len_ #[83] 3 #[.map (some m)]).run Try.prog w = .ok (.int .i64 n) w := by
  simp [Builtin.len_, run_underlying Try.underlying83, gm h, hn, goInt]
theorem del88 (w : World) (m clock b : Nat) (v : Value) (h : w.heap[m]? = some (.map #[{ key := NK, val := v, born := b }] clock)) : (Builtin.delete_ #[83, 88] 0 #[.map (some m), NK]).run Try.prog w = .ok (.tuple #[]) (w.putObj m (.map #[] clock)) := by
  simp [Builtin.delete_, run_underlying Try.underlying83, gm h, key88, find88_yes, sm _ h]
theorem range83 (w : World) (m clock : Nat) (es : Array MapEntry) (h : w.heap[m]? = some (.map es clock)) : (Instr.range 83 (.map (some m))).run Try.prog w = .ok (.pointer (some ⟨w.heap.size, 0, none⟩)) (w.alloc (.mapIter (some m) clock #[] clock)) := by
  simp [Instr.range, run_underlying Try.underlying83, gm h]
theorem gi {w : World} {r : Nat} {mm : Option Nat} {a b : Nat} {c : Array Nat} (h : w.heap[r]? = some (.mapIter mm a c b)) : (getObj r).run Try.prog w = .ok (.mapIter mm a c b) w := by simp [getObj, Sem.run, h]
theorem si {w : World} {r : Nat} {mm : Option Nat} {a b : Nat} {c : Array Nat} (o : Obj) (h : w.heap[r]? = some (.mapIter mm a c b)) : (setObj r o).run Try.prog w = .ok () (w.putObj r o) := by simp [setObj, Sem.run, h, World.putObj]
theorem next_one (w : World) (m r : Nat) (v : Value) (t : TypeId) (h : w.heap[m]? = some (.map #[{ key := NK, val := v, born := 0 }] 1)) (hr : w.heap[r]? = some (.mapIter (some m) 1 #[] 1)) : (Instr.next (.pointer (some ⟨r, 0, none⟩)) false t).run Try.prog w = .ok (.tuple #[.bool true, NK, v]) (w.putObj r (.mapIter (some m) 1 #[0] 1)) := by
  simp [Instr.next, gi hr, gm h, si _ hr, Question.forced]
theorem entry_one (w : World) (m r : Nat) (v : Value) (h : w.heap[m]? = some (.map #[{ key := NK, val := v, born := 0 }] 1)) (hr : w.heap[r]? = some (.mapIter (some m) 1 #[0] 1)) : (Instr.entry (.pointer (some ⟨r, 0, none⟩))).run Try.prog w = .ok (.tuple #[NK, v]) w := by
  simp [Instr.entry, gi hr, gm h]
theorem next_end (w : World) (m r : Nat) (t : TypeId) (h : w.heap[m]? = some (.map #[] 1)) (hr : w.heap[r]? = some (.mapIter (some m) 1 #[0] 1)) : (Instr.next (.pointer (some ⟨r, 0, none⟩)) false t).run Try.prog w = .ok (.tuple #[.bool false]) w := by
  simp [Instr.next, gi hr, gm h, Question.forced]
end Ytbihfgcejlgffaa
end Go.Proofs
