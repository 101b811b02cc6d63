/- The examples of the layer, by the kernel: called in any world the function returns true and leaves the world as it was. Conditions: none. -/
import Derived.Test.YtegablbaflfcbaaTb
namespace Go.Xe.TC
open Go Go.Xe Go.Proofs
set_option maxRecDepth 1000000
theorem run : runT Try.prog TA.F1 5000 9 = .rt .e [] (.mk 0 .e) := by kernel_rfl
theorem names : (∀ (w : World) (r : Option Nat) (n : Nat), CallsIn (FW r) n Try.prog 9 #[] w (Quiet (.bool true) w)) ∧ ∃ fn, Try.prog.funcs[9]? = some fn ∧ fn.body.isSome = true ∧ (fn.name == "runtime.NumGoroutine") = false :=
  closed TB.orc TB.mixed (TA.ok1 TB.orc rfl) run
end Go.Xe.TC
