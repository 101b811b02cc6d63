/- The closed check that ends each statement of the layer, by the kernel: called in any world it returns true and leaves the world as it was. Conditions: none. -/
import Derived.Test.YtegablbaflfcbaaTa
namespace Go.Xe.TB
open Go Go.Xe Go.Proofs
set_option maxRecDepth 1000000
theorem mixed : Try.prog.follows .mixedOrders = true := by kernel_rfl
theorem run : runT Try.prog TA.F0 5000 20 = .rt .e [] (.mk 0 .e) := by kernel_rfl
theorem awake : (∀ (w : World) (r : Option Nat) (n : Nat), CallsIn (FW r) n Try.prog 20 #[] w (Quiet (.bool true) w)) ∧ ∃ fn, Try.prog.funcs[20]? = some fn ∧ fn.body.isSome = true ∧ (fn.name == "runtime.NumGoroutine") = false :=
  closed (Orc.none Try.prog) mixed (TA.ok0 (Orc.none Try.prog) rfl) run
@[reducible] def orc : Orc Try.prog := ⟨TA.orcs1, fun g b h => by
  unfold TA.orcs1 at h
  split at h
  · rename_i hg
    cases h
    subst hg
    exact awake
  · cases h⟩
end Go.Xe.TB
