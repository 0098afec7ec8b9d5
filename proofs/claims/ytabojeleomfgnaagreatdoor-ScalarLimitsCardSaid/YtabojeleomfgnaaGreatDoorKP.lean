/- Closed facts of the program, each a theorem of its own (together they pass the kernel's memory). -/
import Derived.Test.YtabojeleomfgnaaGreatDoorRows
import Derived.JoinedOf
import Derived.KernelRfl
import Derived.SevenTiedAt
namespace Go.Proofs.YtabojeleomfgnaaGreatDoor
open Go
namespace KP
theorem and_t {a b : Bool} (ha : a = true) (hb : b = true) : (a && b) = true := by rw [ha, hb]; rfl
theorem laidOut : laidOutB Tryz.prog = true := by kernel_rfl
theorem mapsRowed : mapsRowed Tryz.prog = true := by kernel_rfl
theorem noStops : (Tryz.prog.stops == []) = true := by kernel_rfl
theorem noKnobs : (Tryz.prog.stopKnobs == []) = true := by kernel_rfl
theorem heard : Tryz.prog.stopsHeard = true := by kernel_rfl
theorem enters : Tryz.prog.mayEnter = true := by kernel_rfl
theorem plainKs : (Rows.valueChecksRow.plainKeys == Tryz.prog.plainKeys) = true := by kernel_rfl
theorem lifts : (Rows.valueChecksRow.lifted == Tryz.prog.liftsFinal) = true := by kernel_rfl
theorem makes : (Tryz.prog.make == some Rows.valueChecksRow.make) = true := by kernel_rfl
theorem mains : Tryz.pinned.checked.prog.mainIs = some (true, "638d87437fe1456012d0652be4c865f3dad8114ca81620598ab648150333acef".toList) := by kernel_rfl
theorem looksAt : true = Tryz.pinned.checked.prog.looks [] := by kernel_rfl
end KP
end Go.Proofs.YtabojeleomfgnaaGreatDoor
