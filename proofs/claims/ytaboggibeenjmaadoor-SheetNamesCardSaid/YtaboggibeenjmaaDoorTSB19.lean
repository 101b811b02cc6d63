/- Function 19, called in any world, returns true and leaves the world as it was: its pieces put together. Conditions: none. -/
import Derived.Test.YtaboggibeenjmaaDoorTSP19x0
import Derived.Test.YtaboggibeenjmaaDoorTSP19x1
import Derived.Test.YtaboggibeenjmaaDoorTSP19x2
import Derived.Test.YtaboggibeenjmaaDoorTSP19x3
namespace Go.Xe.TSB19
open Go Go.Xe Go.Proofs
set_option maxRecDepth 1000000
theorem mixed : Tryd.prog.follows .mixedOrders = true := by kernel_rfl
noncomputable def body : Code := match Tryd.f19.body with | some c => c | none => .skip
theorem hb : Tryd.f19.body = some body := by kernel_rfl
theorem hn : Tryd.f19.ntmps = 109 := by kernel_rfl
theorem call : (∀ (w : World) (r : Option Nat) (n : Nat), 2 ≤ w.heap.size → TabAt 1 TS.tab w → CallsIn (FW r) n Tryd.prog 19 #[] w (Quiet (.bool true) w)) ∧ ∃ fn, Tryd.prog.funcs[(19 : Nat)]? = some fn ∧ fn.body.isSome = true ∧ (fn.name == "runtime.NumGoroutine") = false := by
  letI := (glOne Tryd.prog 1)
  letI := TS.orcK
  have hF := TS.ok0 TS.orcK rfl
  obtain ⟨hc, hres⟩ := of_entry hb TS.e19
  obtain ⟨tm0, H0, x0, s0⟩ := piece hF hc 0 2 4998 TSP19x0.len TSP19x0.run stOk_tab
  obtain ⟨tm1, H1, x1, s1⟩ := piece hF hc 2 1 4997 TSP19x1.len TSP19x1.run s0
  obtain ⟨tm2, H2, x2, s2⟩ := piece hF hc 3 2 4995 TSP19x2.len TSP19x2.run s1
  obtain ⟨e, a, Hz, y1, y2, y3, y4⟩ := piece_last hF hc 5 4995 TS.o19 hres TSP19x3.run s2
  have hx : exec Tryd.prog 5000 none body ⟨Array.replicate Tryd.f19.ntmps undef, [], (tabHeap 1 TS.tab 0)⟩ = some (e, a) := by rw [hn]; exact x0.trans (x1.trans (x2.trans (y1)))
  obtain ⟨z1, z2⟩ := xcall_of rfl TS.g19 hb TS.o19 hx y2 y3 y4
  obtain ⟨k1, k2⟩ := closed_x TS.orcK mixed (start_tab TS.orcK 0 TS.tabInt rfl (fun _ h => h)) z1 z2
  exact ⟨k1, k2⟩
end Go.Xe.TSB19
