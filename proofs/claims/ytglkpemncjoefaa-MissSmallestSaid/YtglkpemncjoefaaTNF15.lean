/- The statement MissSmallest: called with any five bytes and any fraction, in whatever memory, the function returns true and leaves what was there as it was. Conditions: none. -/
import Derived.Test.YtglkpemncjoefaaRows
import Derived.WalkKit
import Derived.ProofKit
import Derived.OpenShut
import Derived.Carry
import Derived.Test.YtglkpemncjoefaaYh
namespace Go.Proofs.Ytglkpemncjoefaa.missSmallest
open Go.ChangeShapes Go.WideShapes Go.ChangeAt Go.RowKit
set_option linter.unusedVariables false
set_option linter.unusedSimpArgs false
set_option maxRecDepth 100000

theorem own : ownKnob Try.prog.godebug = none := by kernel_rfl
theorem mixed : Try.prog.follows .mixedOrders = true := by kernel_rfl
theorem laid : laidOutB Try.prog = true := by kernel_rfl
theorem sh41 : Go.Xe.shOf Try.prog 3 41 = some (.pair (.int .i64) (.pair (.int .i64) .unit)) := by kernel_rfl

theorem walk {H : Type} {enc : TypeId × Value → H} {w : World} {base : Nat} {v0 v1 v2 v3 v4 v5 : Value} {d0 d1 d2 d3 d4 d5 : DataW H} {p0 p1 p2 p3 p4 p5 : List MemPlace} (o0 : Value.okWide Try.prog w .any base 5 v0) (h0 : DataW.Trod enc Try.prog w 0 (fun _ => true) true 5 v0 d0 p0) (o1 : Value.okWide Try.prog w .any base 5 v1) (h1 : DataW.Trod enc Try.prog w 0 (fun _ => true) true 5 v1 d1 p1) (o2 : Value.okWide Try.prog w .any base 5 v2) (h2 : DataW.Trod enc Try.prog w 0 (fun _ => true) true 5 v2 d2 p2) (o3 : Value.okWide Try.prog w .any base 41 v3) (h3 : DataW.Trod enc Try.prog w 0 (fun _ => true) true 41 v3 d3 p3) (o4 : Value.okWide Try.prog w .any base 5 v4) (h4 : DataW.Trod enc Try.prog w 0 (fun _ => true) true 5 v4 d4 p4) (o5 : Value.okWide Try.prog w .any base 5 v5) (h5 : DataW.Trod enc Try.prog w 0 (fun _ => true) true 5 v5 d5 p5) : Calls Try.prog 15 #[v0, v1, v2, v3, v4, v5] w fun e w' => e = .returned (.bool true) ∧ Below w.heap.size w w' := by
  obtain ⟨b0, rfl⟩ := okWide_int Try.underlying5 o0
  obtain ⟨b1, rfl⟩ := okWide_int Try.underlying5 o1
  obtain ⟨b2, rfl⟩ := okWide_int Try.underlying5 o2
  obtain ⟨c3, rfl⟩ := Go.Xe.okWide_agg Try.underlying41 o3
  obtain ⟨b4, rfl⟩ := okWide_int Try.underlying5 o4
  obtain ⟨b5, rfl⟩ := okWide_int Try.underlying5 o5
  have h := Go.Xe.frame (P := Try.prog) (f := 15) (args := [.int .u8 b0, .int .u8 b1, .int .u8 b2, .agg c3, .int .u8 b4, .int .u8 b5]) (fun _ => rfl) mixed (Nat.zero_le _) trivial (w := w) (fun A hA => by
    obtain ⟨l3, y3, e3, m3⟩ := Go.Xe.arg_agg hA 3 sh41 h3
    obtain ⟨_, _, rfl, ⟨rfl, _⟩, _, _, rfl, ⟨rfl, _⟩, rfl⟩ := id m3
    simp only [List.map_cons, List.map_nil, e3, List.cons_append, List.nil_append]
    exact Go.Xe.TMX.f15_ok (bounds_u8 (Go.Xe.arg_int Try.underlying5 h0)) (bounds_u8 (Go.Xe.arg_int Try.underlying5 h1)) (bounds_u8 (Go.Xe.arg_int Try.underlying5 h2)) (bounds_u8 (Go.Xe.arg_int Try.underlying5 h4)) (bounds_u8 (Go.Xe.arg_int Try.underlying5 h5))) none 0
  rw [Go.Xe.FW_none, callsIn_wide] at h
  exact h.mono fun e w' ⟨h1, h2, h3, h4, h5, h6⟩ => ⟨h1, h4, h5, h6, h2, h3⟩

set_option maxRecDepth 100000 in
theorem lifted (os : Os) (started : os.Started) (H : Type) (enc : TypeId × Value → H) :
    ReturnsInHanded {} Try.checked os 15 .any (Rows.missSmallestSpec.pre6 enc Try.prog Try.f15 Rows.missSmallestRow.domain false) (Rows.missSmallestSpec.post enc Try.prog Try.f15 false true false false) := by
  refine returnsInHanded_of_change (C := Try.checked) own started (by kernel_rfl) Try.func15
    (ChangeSpec.witness6 (enc := enc) (C := Try.checked) false ⟨#[], #[.int .u8 0, .int .u8 0, .int .u8 0, .agg #[.int .i64 0, .int .i64 0], .int .u8 0, .int .u8 0], []⟩ 8 (by kernel_rfl) (by kernel_rfl) (by kernel_rfl) (by kernel_rfl)) ?_
  intro W base args ds gs before hval0 hW hcnd _
  have hval : ∀ (j : Nat) t v, Try.f15.params[j]? = some t → args[j]? = some v → Value.okWide Try.prog W .any base t v := hval0
  have hW' := hW
  obtain ⟨p, q, hA0, hV, rfl, hfz, hnd⟩ := hW
  have hA : DataW.TrodAll enc Try.prog W 0 (fun _ => true) true Try.f15.params.toList args.toList ds p := hA0
  have hP := hA
  rw [Try.params15] at hA hval
  obtain ⟨v0, x0, d0, y0, p0, z0, hargs, rfl, rfl, t0, r0⟩ := trodAll_cons hA
  obtain ⟨v1, x1, d1, y1, p1, z1, rfl, rfl, rfl, t1, r1⟩ := trodAll_cons r0
  obtain ⟨v2, x2, d2, y2, p2, z2, rfl, rfl, rfl, t2, r2⟩ := trodAll_cons r1
  obtain ⟨v3, x3, d3, y3, p3, z3, rfl, rfl, rfl, t3, r3⟩ := trodAll_cons r2
  obtain ⟨v4, x4, d4, y4, p4, z4, rfl, rfl, rfl, t4, r4⟩ := trodAll_cons r3
  obtain ⟨v5, x5, d5, y5, p5, z5, rfl, rfl, rfl, t5, r5⟩ := trodAll_cons r4
  obtain ⟨rfl, rfl, rfl⟩ := trodAll_nil r5
  obtain rfl : args = #[v0, v1, v2, v3, v4, v5] := by cases args; simp_all
  obtain ⟨rfl, rfl⟩ := trodVars_none hV
  clear hA0 hval0
  simp only [List.append_nil] at hP hW'
  refine (walk (hval 0 _ _ rfl rfl) t0 (hval 1 _ _ rfl rfl) t1 (hval 2 _ _ rfl rfl) t2 (hval 3 _ _ rfl rfl) t3 (hval 4 _ _ rfl rfl) t4 (hval 5 _ _ rfl rfl) t5).mono fun e W' ⟨he, hg⟩ => ?_
  subst he
  refine ⟨_, rfl, Go.Xe.post_of_old (pa := p0 ++ (p1 ++ (p2 ++ (p3 ++ (p4 ++ (p5)))))) (pv := []) hW' (fun _ _ _ => (trodAll_cons_mk (shut_bool Try.underlying4 _) trodAll_mk0)) (fun sp hs => ?_) (fun _ _ => rfl) (by simp)
    (hg.frame _) (fun a ha => hg.frozen ha) (ok_one (by kernel_rfl) rfl (okWide_bool_mk Try.underlying4 _))⟩
  exact Go.Xe.stays_all laid (by rw [Try.params15]; decide +kernel) hP (fun x hx => hg.same (hW'.lt x hx)) hs

theorem over : Rows.missSmallestRow.holds Try.pinned (OpenSpec.ofChange Rows.missSmallestSpec) :=
  OpenClaim.holds_of_wide 15 Try.f15 rfl rfl rfl rfl rfl rfl rfl ⟨rfl, rfl, rfl, rfl, rfl⟩ rfl rfl rfl rfl rfl (by kernel_rfl) Try.func15 (by kernel_rfl)
    (of_decide_eq_true (by kernel_rfl)) (by unfold Func.isWrapper; first | (rw [if_pos (by decide +kernel)]; kernel_rfl) | (rw [if_neg (by decide +kernel)]; exact ⟨rfl, rfl⟩))
    (fun os started H enc _ => lifted os started H enc)

/-- ████ THE STATEMENT ████ -/
theorem proved : Rows.MissSmallestSaid :=
  over
#print axioms proved
end Go.Proofs.Ytglkpemncjoefaa.missSmallest
