/- Function 3, called in any world, returns true and leaves the world as it was: its pieces put together. Conditions: none. -/
import Derived.Test.YtaboggibeenjmaaDoorTSP3x0
import Derived.Test.YtaboggibeenjmaaDoorTSP3x1
import Derived.Test.YtaboggibeenjmaaDoorTSP3x2
import Derived.Test.YtaboggibeenjmaaDoorTSP3x3
import Derived.Test.YtaboggibeenjmaaDoorTSP3x4
import Derived.Test.YtaboggibeenjmaaDoorTSP3x5
import Derived.Test.YtaboggibeenjmaaDoorTSO
namespace Go.Xe.TSB3
open Go Go.Xe Go.Proofs
set_option maxRecDepth 1000000
theorem mixed : Tryd.prog.follows .mixedOrders = true := by kernel_rfl
noncomputable def body : Code := match Tryd.f3.body with | some c => c | none => .skip
theorem hb : Tryd.f3.body = some body := by kernel_rfl
theorem hn : Tryd.f3.ntmps = 301 := by kernel_rfl
theorem call : (∀ (w : World) (r : Option Nat) (n : Nat), 2 ≤ w.heap.size → TabAt 1 TS.tab w → CallsIn (FW r) n Tryd.prog 3 #[] w (Quiet (.bool true) w)) ∧ ∃ fn, Tryd.prog.funcs[(3 : Nat)]? = some fn ∧ fn.body.isSome = true ∧ (fn.name == "runtime.NumGoroutine") = false := by
  letI := (glOne Tryd.prog 1)
  letI := TSO.orc
  have hF := TS.ok1 TSO.orc rfl
  obtain ⟨hc, hres⟩ := of_entry hb TS.e3
  obtain ⟨tm0, H0, x0, s0⟩ := piece hF hc 0 3 4997 TSP3x0.len TSP3x0.run stOk_tab
  obtain ⟨tm1, H1, x1, s1⟩ := piece hF hc 3 1 4996 TSP3x1.len TSP3x1.run s0
  obtain ⟨tm2, H2, x2, s2⟩ := piece hF hc 4 1 4995 TSP3x2.len TSP3x2.run s1
  obtain ⟨tm3, H3, x3, s3⟩ := piece hF hc 5 3 4992 TSP3x3.len TSP3x3.run s2
  obtain ⟨tm4, H4, x4, s4⟩ := piece hF hc 8 1 4991 TSP3x4.len TSP3x4.run s3
  obtain ⟨e, a, Hz, y1, y2, y3, y4⟩ := piece_last hF hc 9 4991 TS.o3 hres TSP3x5.run s4
  have hx : exec Tryd.prog 5000 none body ⟨Array.replicate Tryd.f3.ntmps undef, [], (tabHeap 1 TS.tab 0)⟩ = some (e, a) := by rw [hn]; exact x0.trans (x1.trans (x2.trans (x3.trans (x4.trans (y1)))))
  obtain ⟨z1, z2⟩ := xcall_of rfl TS.g3 hb TS.o3 hx y2 y3 y4
  obtain ⟨k1, k2⟩ := closed_x TSO.orc mixed (start_tab TSO.orc 0 TS.tabInt rfl (fun _ h => h)) z1 z2
  exact ⟨k1, k2⟩
end Go.Xe.TSB3
