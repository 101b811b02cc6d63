/- Function 6, called in any world, returns true and leaves the world as it was: its pieces put together. Conditions: none. -/
import Derived.Test.YtlhoonfkjfmadaaTNP6x0
import Derived.Test.YtlhoonfkjfmadaaTNP6x1
import Derived.Test.YtlhoonfkjfmadaaTNP6x2
import Derived.Test.YtlhoonfkjfmadaaTNO
namespace Go.Xe.TNB6
open Go Go.Xe Go.Proofs
set_option maxRecDepth 1000000
theorem mixed : Try.prog.follows .mixedOrders = true := by kernel_rfl
noncomputable def body : Code := match Try.f6.body with | some c => c | none => .skip
theorem hb : Try.f6.body = some body := by kernel_rfl
theorem hn : Try.f6.ntmps = 216 := by kernel_rfl
theorem call : (∀ (w : World) (r : Option Nat) (n : Nat), CallsIn (FW r) n Try.prog 6 #[] w (Quiet (.bool true) w)) ∧ ∃ fn, Try.prog.funcs[(6 : Nat)]? = some fn ∧ fn.body.isSome = true ∧ (fn.name == "runtime.NumGoroutine") = false := by
  letI := Gl.none Try.prog
  letI := TNO.orc
  have hF := TN.ok1 TNO.orc rfl
  obtain ⟨hc, hres⟩ := of_entry hb TN.e6
  obtain ⟨tm0, H0, x0, s0⟩ := piece hF hc 0 5 4995 TNP6x0.len TNP6x0.run stOk_start
  obtain ⟨tm1, H1, x1, s1⟩ := piece hF hc 5 2 4993 TNP6x1.len TNP6x1.run s0
  obtain ⟨e, a, Hz, y1, y2, y3, y4⟩ := piece_last hF hc 7 4993 TN.o6 hres TNP6x2.run s1
  have hx : exec Try.prog 5000 none body ⟨Array.replicate Try.f6.ntmps undef, [], Heap.empty⟩ = some (e, a) := by rw [hn]; exact x0.trans (x1.trans (y1))
  obtain ⟨z1, z2⟩ := xcall_of rfl TN.g6 hb TN.o6 hx y2 y3 y4
  obtain ⟨k1, k2⟩ := closed_x TNO.orc mixed (start_x TNO.orc rfl) z1 z2
  exact ⟨fun w r n => k1 w r n (Nat.zero_le _) trivial, k2⟩
end Go.Xe.TNB6
