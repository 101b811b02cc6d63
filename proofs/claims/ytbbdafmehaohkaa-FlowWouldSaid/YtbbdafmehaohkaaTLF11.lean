/- called with any table, any words and any two numbers, in whatever memory, the function returns true and leaves what was there as it was: the range in which a count would have to be, with the count itself, is what the bounds say of its cell Conditions: none. -/
import Derived.Test.YtbbdafmehaohkaaRows
import Derived.WalkKit
import Derived.ProofKit
import Derived.OpenShut
import Derived.Carry
import Derived.Test.YtbbdafmehaohkaaYh
namespace Go.Proofs.Ytbbdafmehaohkaa.flowWould
open Go.ChangeShapes Go.WideShapes Go.ChangeAt Go.RowKit
set_option linter.unusedVariables false
set_option linter.unusedSimpArgs false
set_option maxRecDepth 100000

theorem own : ownKnob Try.prog.godebug = none := by kernel_rfl
theorem mixed : Try.prog.follows .mixedOrders = true := by kernel_rfl
theorem laid : laidOutB Try.prog = true := by kernel_rfl
theorem sh25 : Go.Xe.shOf Try.prog 6 25 = some Go.Xe.TFX.shT := by kernel_rfl
theorem cells97 : Try.prog.cellsOf 97 = 1 := by kernel_rfl

theorem walk {H : Type} {enc : TypeId × Value → H} {w : World} {base : Nat} {v0 v1 v2 v3 : Value} {d0 d1 d2 d3 : DataW H} {p0 p1 p2 p3 : List MemPlace} (o0 : Value.okWide Try.prog w .any base 25 v0) (h0 : DataW.Trod enc Try.prog w 0 (fun _ => true) true 25 v0 d0 p0) (o1 : Value.okWide Try.prog w .any base 94 v1) (h1 : DataW.Trod enc Try.prog w 0 (fun _ => true) true 94 v1 d1 p1) (o2 : Value.okWide Try.prog w .any base 97 v2) (h2 : DataW.Trod enc Try.prog w 0 (fun _ => true) true 97 v2 d2 p2) (o3 : Value.okWide Try.prog w .any base 5 v3) (h3 : DataW.Trod enc Try.prog w 0 (fun _ => true) true 5 v3 d3 p3) : Calls Try.prog 11 #[v0, v1, v2, v3] w fun e w' => e = .returned (.bool true) ∧ Below w.heap.size w w' := by
  obtain ⟨c0, rfl⟩ := Go.Xe.okWide_agg Try.underlying25 o0
  obtain ⟨b2, rfl⟩ := okWide_int Try.underlying97 o2
  obtain ⟨b3, rfl⟩ := okWide_int Try.underlying5 o3
  have h := Go.Xe.frame (P := Try.prog) (f := 11) (args := [.agg c0, v1, .int .u16 b2, .int .u8 b3]) (fun _ => rfl) mixed (Nat.zero_le _) trivial (w := w) (fun A hA => by
    obtain ⟨l0, y0, e0, m0⟩ := Go.Xe.arg_agg hA 6 sh25 h0
    obtain ⟨u0_0, u0_1, u0_2, u0_3, T0, rfl, s0⟩ := Go.Xe.TFX.tv_of m0
    obtain ⟨l1, s1, _, w1⟩ := Go.Xe.arg_ints hA Try.underlying94 Try.underlying97 cells97 (okWide_slice Try.underlying94 o1) h1
    simp only [List.map_cons, List.map_nil, e0, List.cons_append, List.nil_append]
    exact Go.Xe.TFX.f11_all (Go.Xe.ro_of hA) s0 s1 (fun x hx => bounds_u16 (w1 x hx)) (bounds_u16 (Go.Xe.arg_int Try.underlying97 h2)) (bounds_u8 (Go.Xe.arg_int Try.underlying5 h3))) none 0
  rw [Go.Xe.FW_none, callsIn_wide] at h
  exact h.mono fun e w' ⟨h1, h2, h3, h4, h5, h6⟩ => ⟨h1, h4, h5, h6, h2, h3⟩

set_option maxRecDepth 100000 in
theorem lifted (os : Os) (started : os.Started) (H : Type) (enc : TypeId × Value → H) :
    ReturnsInHanded {} Try.checked os 11 .any (Rows.flowWouldSpec.pre6 enc Try.prog Try.f11 Rows.flowWouldRow.domain false) (Rows.flowWouldSpec.post enc Try.prog Try.f11 false true false false) := by
  refine returnsInHanded_of_change (C := Try.checked) own started (by kernel_rfl) Try.func11
    (ChangeSpec.witness6 (enc := enc) (C := Try.checked) false ⟨#[], #[.agg #[.slice none 0 0, .slice none 0 0, .slice none 0 0, .slice none 0 0], .slice none 0 0, .int .u16 0, .int .u8 0], []⟩ 8 (by kernel_rfl) (by kernel_rfl) (by kernel_rfl) (by kernel_rfl)) ?_
  intro W base args ds gs before hval0 hW hcnd _
  have hval : ∀ (j : Nat) t v, Try.f11.params[j]? = some t → args[j]? = some v → Value.okWide Try.prog W .any base t v := hval0
  have hW' := hW
  obtain ⟨p, q, hA0, hV, rfl, hfz, hnd⟩ := hW
  have hA : DataW.TrodAll enc Try.prog W 0 (fun _ => true) true Try.f11.params.toList args.toList ds p := hA0
  have hP := hA
  rw [Try.params11] at hA hval
  obtain ⟨v0, v1, v2, v3, d0, d1, d2, d3, p0, p1, p2, p3, rfl, rfl, rfl, t0, t1, t2, t3⟩ := trodAll_four hA
  obtain ⟨rfl, rfl⟩ := trodVars_none hV
  clear hA0 hval0
  simp only [List.append_nil] at hW'
  refine (walk (hval 0 _ _ rfl rfl) t0 (hval 1 _ _ rfl rfl) t1 (hval 2 _ _ rfl rfl) t2 (hval 3 _ _ rfl rfl) t3).mono fun e W' ⟨he, hg⟩ => ?_
  subst he
  refine ⟨_, rfl, Go.Xe.post_of_old (pa := p0 ++ p1 ++ p2 ++ p3) (pv := []) hW' (fun _ _ _ => (trodAll_cons_mk (shut_bool Try.underlying4 _) trodAll_mk0)) (fun sp hs => ?_) (fun _ _ => rfl) (by simp)
    (hg.frame _) (fun a ha => hg.frozen ha) (ok_one (by kernel_rfl) rfl (okWide_bool_mk Try.underlying4 _))⟩
  exact Go.Xe.stays_all laid (by rw [Try.params11]; decide +kernel) hP (fun x hx => hg.same (hW'.lt x hx)) hs

theorem over : Rows.flowWouldRow.holds Try.pinned (OpenSpec.ofChange Rows.flowWouldSpec) :=
  OpenClaim.holds_of_wide 11 Try.f11 rfl rfl rfl rfl rfl rfl rfl ⟨rfl, rfl, rfl, rfl, rfl⟩ rfl rfl rfl rfl rfl (by kernel_rfl) Try.func11 (by kernel_rfl)
    (of_decide_eq_true (by kernel_rfl)) (by unfold Func.isWrapper; first | (rw [if_pos (by decide +kernel)]; kernel_rfl) | (rw [if_neg (by decide +kernel)]; exact ⟨rfl, rfl⟩))
    (fun os started H enc _ => lifted os started H enc)

/-- ████ THE STATEMENT ████ -/
theorem proved : Rows.FlowWouldSaid :=
  over
#print axioms proved
end Go.Proofs.Ytbbdafmehaohkaa.flowWould
