/- The examples of the layer sheet and its errors are as the document says: the function SheetNames, called in any world in which the table of math/bits reads as the program lays it, returns true and leaves what was there as it was. Conditions: the row's own: the two listed variables read as the program's text lays them, to which the card ties them. -/
import Derived.Test.YtaboggibeenjmaaDoorRows
import Derived.Test.YtaboggibeenjmaaDoorCards
import Derived.Test.YtaboggibeenjmaaDoorTie
import Derived.WalkKit
import Derived.ProofKit
import Derived.LaidMore
import Derived.OpenShut
import Derived.Stop.Joined
import Derived.SevenTiedAt
import Derived.Test.YtaboggibeenjmaaDoorTSB3
import Derived.Test.YtaboggibeenjmaaDoorYh
namespace Go.Proofs.YtaboggibeenjmaaDoor.sheetNames
open Go Go.ChangeShapes Go.WideShapes Go.ChangeAt Go.RowKit
set_option linter.unusedVariables false

theorem own : ownKnob Tryd.prog.godebug = none := by kernel_rfl
theorem g32 : Tryd.prog.globalNamed "math/bits.deBruijn32tab" = some 0 := by kernel_rfl
theorem g64 : Tryd.prog.globalNamed "math/bits.deBruijn64tab" = some 1 := by kernel_rfl
theorem t64 : (Tryd.prog.globals[1]?).map (·.type) = some 134 := by kernel_rfl
theorem c64 : Tryd.prog.cellsOf 5 = 1 := by kernel_rfl

/-- The door's own heap meets the condition: three closed facts. -/
theorem door_met (os : Os) (args : Array Value) : laidMetH Tryd.prog Rows.sheetNamesRow.laid ((World.doorLaid Tryd.prog 19 os).forCall (fun _ _ => 0) ⟨#[], args, []⟩).memory :=
  laidMetH_of_parts3 (fuel := 8) (laidMet_of_run' 8 (by kernel_rfl) (by kernel_rfl)) (by kernel_rfl) (by kernel_rfl)

theorem lits : Rows.laid_math_bits_deBruijn64tab (H := Unit) = .agg (Go.Xe.TS.tab.map fun v => match v with | .int k n => .lit (.int k n) | _ => .nil) := by kernel_rfl

/-- What the condition gives the run: the table's block. -/
theorem of_laid {W : World} (h : laidMetH Tryd.prog Rows.sheetNamesRow.laid W) : 2 ≤ W.heap.size ∧ Go.Xe.TabAt 1 Go.Xe.TS.tab W := by
  rw [MakeChecks.laidMetH_plain _ _ _ (by kernel_rfl)] at h
  obtain ⟨ps, ⟨g0, t0, cs0, f0, p0, q0, hg0, ht0, hv0, hd0, ⟨g1, t1, cs1, f1, p1, q1, hg1, ht1, hv1, hd1, _, _⟩, _⟩, _, _⟩ := h
  obtain rfl := Option.some.inj (g64.symm.trans hg1)
  obtain rfl := Option.some.inj (t64.symm.trans ht1)
  obtain ⟨xs, m1, rfl, hx1, hlen, hn3, hel⟩ := DataW.trod_array Tryd.underlying134 hd1
  have hmem : ∃ el fz, W.heap[1]? = some (.cells cs1 el fz) := by
    simp only [World.var?, hg1, Option.bind_some] at hv1
    split at hv1
    · rename_i c el fz hc
      cases hv1
      exact ⟨el, fz, hc⟩
    · cases hv1
  obtain ⟨el, fz, hm⟩ := hmem
  refine ⟨(Array.getElem?_eq_some_iff.1 hm).1, cs1, el, fz, hm, fun k v hk => ?_⟩
  have hk64 : k < 64 := by
    have := (List.getElem?_eq_some_iff.1 hk).1
    have h64 : Go.Xe.TS.tab.length = 64 := by kernel_rfl
    omega
  have hk1 := hel k hk64
  rw [c64, Nat.mul_one] at hk1
  have hxk : xs[k]? = some xs[k] := List.getElem?_eq_getElem (by omega)
  rw [hxk] at hk1
  obtain ⟨n, e1, e2, _⟩ := DataW.trod_int Tryd.underlying5 hk1
  have hc : cs1[k]? = some (.int .u8 n) := by
    have h1 : (List.take 1 (List.drop k cs1.toList))[0]? = some (.int .u8 n) := by rw [e1]; rfl
    rw [List.getElem?_take_of_lt (by omega), List.getElem?_drop, Nat.add_zero, Array.getElem?_toList] at h1
    exact h1
  rw [hc]
  simp only [Prod.mk.injEq] at hx1
  have hd := hx1.1
  rw [lits] at hd
  simp only [DataW.agg.injEq] at hd
  have hd2 : (Go.Xe.TS.tab.map fun v => match v with | .int k n => (DataW.lit (.int k n) : DataW Unit) | _ => .nil)[k]? = (xs.map (·.1))[k]? := by rw [hd]
  rw [List.getElem?_map, List.getElem?_map, hk, hxk, Option.map_some, Option.map_some, Option.some.injEq, e2] at hd2
  obtain ⟨m, rfl⟩ := Go.Xe.TS.tabInt v (List.mem_of_getElem? hk)
  simp only [DataW.lit.injEq, Lit.int.injEq, true_and] at hd2
  rw [hd2]

theorem walk (w : World) (h1 : 2 ≤ w.heap.size) (h2 : Go.Xe.TabAt 1 Go.Xe.TS.tab w) :
    Calls Tryd.prog 3 #[] w fun e w' => e = .returned (.bool true) ∧ Below w.heap.size w w' := by
  have h := (Go.Xe.TSB3.call.1 w none 0 h1 h2)
  rw [Go.Xe.FW_none, callsIn_wide] at h
  exact h.mono fun e w' ⟨h1, h2, h3, h4, h5, h6⟩ => ⟨h1, h4, h5, h6, h2, h3⟩

set_option maxRecDepth 100000 in
theorem lifted (os : Os) (started : os.Started) (H : Type) (enc : TypeId × Value → H) :
    ReturnsInHanded {} Tryd.checked os 3 .any (fun w args => (Rows.sheetNamesSpec.pre enc Tryd.prog Tryd.f3 [] false w args ∧ laidMetH Tryd.prog Rows.sheetNamesRow.laid w) ∧ sizedMet enc Tryd.prog Tryd.f3 (OpenSpec.ofChange Rows.sheetNamesSpec) false w args)
      (Rows.sheetNamesSpec.post enc Tryd.prog Tryd.f3 false true false false) := by
  refine returnsInHanded_of_change_and (C := Tryd.checked) (X := fun w _ => laidMetH Tryd.prog Rows.sheetNamesRow.laid w) (fun _ _ _ hh h => h.of_heap hh) own started (by kernel_rfl) Tryd.func3
    (ChangeSpec.witness_shaped (enc := enc) (C := Tryd.checked) (os := os) (X := fun w _ => laidMetH Tryd.prog Rows.sheetNamesRow.laid w) false (World.doorLaid Tryd.prog 19 os) #[] 8 rfl (World.shaped_of_RefB (by kernel_rfl) (by kernel_rfl)) (by kernel_rfl) (by kernel_rfl) (by kernel_rfl) (door_met os _)) ?_
  intro W base args ds gs before hval0 hW _ _ hL _
  have hW' := hW
  obtain ⟨p, q, hA0, hV, rfl, hfz, hnd⟩ := hW
  have hA : DataW.TrodAll enc Tryd.prog W 0 (fun _ => true) true Tryd.f3.params.toList args.toList ds p := hA0
  rw [Tryd.params3] at hA
  obtain ⟨rfl, rfl, rfl⟩ := trodAll_none hA
  obtain ⟨rfl, rfl⟩ := trodVars_none hV
  obtain ⟨hl1, hl2⟩ := of_laid hL
  clear hA0 hval0
  simp only [List.append_nil] at hW'
  refine (walk W hl1 hl2).mono fun e W' ⟨he, hg⟩ => ?_
  subst he
  exact ⟨_, rfl, Go.Xe.post_of_old (pa := []) (pv := []) hW' (fun _ _ _ => (trodAll_cons_mk (shut_bool Tryd.underlying4 _) trodAll_mk0)) (fun sp _ => rfl) (fun _ _ => rfl) rfl
    (hg.frame _) (fun a ha => hg.frozen ha) (ok_one (by kernel_rfl) rfl (okWide_bool_mk Tryd.underlying4 _))⟩

theorem over : Rows.SheetNamesSaid :=
  OpenClaim.holds_of_wide 3 Tryd.f3 rfl rfl rfl rfl rfl rfl rfl ⟨rfl, rfl, rfl, rfl, rfl⟩ rfl rfl rfl rfl rfl (by kernel_rfl) Tryd.func3 (by kernel_rfl)
    (of_decide_eq_true (by kernel_rfl)) (by unfold Func.isWrapper; first | (rw [if_pos (by decide +kernel)]; kernel_rfl) | (rw [if_neg (by decide +kernel)]; exact ⟨rfl, rfl⟩))
    (fun os started H enc _ => lifted os started H enc)

theorem proved : Rows.SheetNamesCardSaid :=
  Claim7.holds_tied_plain_at .later [] [.data, .data] true (true, "6b5e0185a1b7ec88fda97a617fb632703ec2b45038d6a0a797599a2d202bd426") false
    over (fun _ h => by cases h) (by kernel_rfl) (fun _ h => by cases h) sheetNames_row_tie rfl ⟨rfl, rfl⟩ (by kernel_rfl) rfl
    (fun f fn hf hfn => by
      obtain rfl : f = 3 := Option.some.inj ((show Tryd.prog.funcNamed "tithing/tithinglaw02.SheetNames" = some 3 by kernel_rfl).symm.trans hf) |>.symm
      obtain rfl : fn = Tryd.f3 := (Option.some.inj (Tryd.func3.symm.trans hfn)).symm
      exact ⟨by kernel_rfl, fun j t ht => by
        rw [Tryd.params3] at ht
        simp at ht⟩)
    (by kernel_rfl)
#print axioms proved
end Go.Proofs.YtaboggibeenjmaaDoor.sheetNames
