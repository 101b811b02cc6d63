/- Function 15, called in any world, returns true and leaves the world as it was: its pieces put together. Conditions: none. -/
import Derived.Test.YtlhoonfkjfmadaaTNP15x0
import Derived.Test.YtlhoonfkjfmadaaTNP15x1
import Derived.Test.YtlhoonfkjfmadaaTNP15x2
namespace Go.Xe.TNB15
open Go Go.Xe Go.Proofs
set_option maxRecDepth 1000000
theorem mixed : Try.prog.follows .mixedOrders = true := by kernel_rfl
noncomputable def body : Code := match Try.f15.body with | some c => c | none => .skip
theorem hb : Try.f15.body = some body := by kernel_rfl
theorem hn : Try.f15.ntmps = 84 := by kernel_rfl
theorem call : (∀ (w : World) (r : Option Nat) (n : Nat), CallsIn (FW r) n Try.prog 15 #[] w (Quiet (.bool true) w)) ∧ ∃ fn, Try.prog.funcs[(15 : Nat)]? = some fn ∧ fn.body.isSome = true ∧ (fn.name == "runtime.NumGoroutine") = false := by
  letI := Gl.none Try.prog
  letI := (Orc.none Try.prog)
  have hF := TN.ok0 (Orc.none Try.prog) rfl
  obtain ⟨hc, hres⟩ := of_entry hb TN.e15
  obtain ⟨tm0, H0, x0, s0⟩ := piece hF hc 0 4 4996 TNP15x0.len TNP15x0.run stOk_start
  obtain ⟨tm1, H1, x1, s1⟩ := piece hF hc 4 1 4995 TNP15x1.len TNP15x1.run s0
  obtain ⟨e, a, Hz, y1, y2, y3, y4⟩ := piece_last hF hc 5 4995 TN.o15 hres TNP15x2.run s1
  have hx : exec Try.prog 5000 none body ⟨Array.replicate Try.f15.ntmps undef, [], Heap.empty⟩ = some (e, a) := by rw [hn]; exact x0.trans (x1.trans (y1))
  obtain ⟨z1, z2⟩ := xcall_of rfl TN.g15 hb TN.o15 hx y2 y3 y4
  obtain ⟨k1, k2⟩ := closed_x (Orc.none Try.prog) mixed (start_x (Orc.none Try.prog) rfl) z1 z2
  exact ⟨fun w r n => k1 w r n (Nat.zero_le _) trivial, k2⟩
end Go.Xe.TNB15
