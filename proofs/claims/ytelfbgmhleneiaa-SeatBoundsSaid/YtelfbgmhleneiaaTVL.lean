/- What the functions of the layer seat come to: Seats, and what the statements ask of rules and counts. Conditions: none. -/
import Derived.Test.YtelfbgmhleneiaaTVI
-- MOD TV
namespace Go.Xe.TVX
open Go Go.Xe Go.Proofs
open Nat renaming reduceLeDiff → qA, reduceSub → qB, reduceAdd → qC, reduceEqDiff → qD, reduceLT → qE
open Int renaming reduceNegSucc → qF, reduceEq → qG
open Go.Xe.V renaming seq → sA, block → sB, scope → sC, skip → sD, close → sE
open Go.Xe renaming pth → P
open Go.Xe.Sea
set_option maxRecDepth 100000
set_option maxHeartbeats 3200000
set_option linter.unusedSimpArgs false
noncomputable def d22 : FCode := (.seq (.run (.go (.box 23 (tm 0)) (P 1)::
.go (.alloc 28 [(.int .u8 (.ofNat 0)),(.int .i64 (.ofNat 0)),(.int .i64 (.ofNat 0))]) (P 2)::
[])) (.seq (.run (.go (.fieldAddr 0 (tm 1)) (P 3)::
.go (.load1 (tm 3)) (P 4)::
.go (.fieldAddr 1 (tm 1)) (P 5)::
.go (.load1 (tm 5)) (P 6)::
.go (.fieldAddr 2 (tm 1)) (P 7)::
.go (.load1 (tm 7)) (P 8)::
.go (.build [(.int .u8 (.ofNat 0)),(.int .i64 (.ofNat 0)),(.int .i64 (.ofNat 0))] [(0,1,(tm 4)),(1,1,(tm 6)),(2,1,(tm 8))]) (P 9)::
.un (.store 3 (tm 2) (tm 9))::
[])) .ret))
theorem de22 : @compF Try.prog (Gl.none Try.prog) Try.f22 1 = .mk d22 (mkTT 10) [(P 0)] [.many (P 2) 3] := by kernel_rfl
theorem dg22 : Try.prog.funcs[22]? = some Try.f22 := Try.func22
theorem do22 : okF Try.prog Try.f22 = true := by kernel_rfl
noncomputable def d38 : FCode := (.seq (.run (.go (.move (.con (.bool false))) (P 6)::
[])) (.seq (.run (.go (.move (tm 0)) (P 7)::
.go (.move (tm 1)) (P 8)::
.go (.bin .geq 3 (tm 7) (tm 8)) (P 9)::
.go (.move (tm 9)) (P 10)::
.gd (P 10) true (.move (tm 0)) (P 11)::
.gd (P 10) true (.move (tm 2)) (P 12)::
.gd (P 10) true (.bin .leq 3 (tm 11) (tm 12)) (P 13)::
.go (.pick (tm 10) (tm 13) (.con (.bool false))) (P 14)::
.go (.move (tm 14)) (P 6)::
[])) .ret))
theorem de38 : @compF Try.prog (Gl.none Try.prog) Try.f38 3 = .mk d38 (mkTT 15) [(P 0),(P 1),(P 2)] [.tmp (P 6)] := by kernel_rfl
theorem dg38 : Try.prog.funcs[38]? = some Try.f38 := Try.func38
theorem do38 : okF Try.prog Try.f38 = true := by kernel_rfl
noncomputable def d51 : FCode := (.seq (.run (.go (.box 23 (tm 0)) (P 1)::
.go (.move (.con (.bool false))) (P 2)::
[])) (.seq (.run (.go (.fieldAddr 0 (tm 1)) (P 3)::
.go (.load1 (tm 3)) (P 4)::
.go (.bin .geq 5 (tm 4) (.con (.int .u8 (.ofNat 1)))) (P 5)::
.go (.move (tm 5)) (P 6)::
.gd (P 6) true (.fieldAddr 0 (tm 1)) (P 7)::
.gd (P 6) true (.load1 (tm 7)) (P 8)::
.gd (P 6) true (.bin .leq 5 (tm 8) (.con (.int .u8 (.ofNat 5)))) (P 9)::
.go (.pick (tm 6) (tm 9) (.con (.bool false))) (P 10)::
.go (.move (tm 10)) (P 11)::
.gd (P 11) true (.fieldAddr 1 (tm 1)) (P 12)::
.gd (P 11) true (.load1 (tm 12)) (P 13)::
.gd (P 11) true (.call (.con (.func (.func 38) ⟨[]⟩ ⟨[]⟩)) [(tm 13),(.con (.int .i64 (.ofNat 0))),(.con (.int .i64 (.ofNat 60)))]) (P 14)::
.go (.pick (tm 11) (tm 14) (.con (.bool false))) (P 15)::
.go (.move (tm 15)) (P 16)::
.gd (P 16) true (.fieldAddr 2 (tm 1)) (P 17)::
.gd (P 16) true (.load1 (tm 17)) (P 18)::
.gd (P 16) true (.call (.con (.func (.func 38) ⟨[]⟩ ⟨[]⟩)) [(tm 18),(.con (.int .i64 (.ofNat 0))),(.con (.int .i64 (.ofNat 10000)))]) (P 19)::
.go (.pick (tm 16) (tm 19) (.con (.bool false))) (P 20)::
.go (.move (tm 20)) (P 2)::
[])) .ret))
theorem de51 : @compF Try.prog (Gl.none Try.prog) Try.f51 1 = .mk d51 (mkTT 21) [(P 0)] [.tmp (P 2)] := by kernel_rfl
theorem dg51 : Try.prog.funcs[51]? = some Try.f51 := Try.func51
theorem do51 : okF Try.prog Try.f51 = true := by kernel_rfl
noncomputable def d26 : FCode := (.seq (.run (.go (.box 23 (tm 0)) (P 1)::
.go (.move (.con (.int .i64 (.ofNat 0)))) (P 2)::
[])) (.seq (.seq (.run (.go (.loadN 3 (tm 1)) (P 3)::
.go (.call (.con (.func (.func 51) ⟨[]⟩ ⟨[]⟩)) [tm 3]) (P 4)::
.go (.un .not (tm 4)) (P 5)::
[])) (.cond (tm 5) (.seq (.run (.go (.move (.con (.int .i64 (.ofNat 1)))) (P 2)::
[])) .ret) .skip)) (.seq (.run (.go (.move (.con (.int .i64 (.ofNat 0)))) (P 2)::
[])) .ret)))
theorem de26 : @compF Try.prog (Gl.none Try.prog) Try.f26 1 = .mk d26 (mkTT 6) [(P 0)] [.tmp (P 2)] := by kernel_rfl
theorem dg26 : Try.prog.funcs[26]? = some Try.f26 := Try.func26
theorem do26 : okF Try.prog Try.f26 = true := by kernel_rfl
noncomputable def d37 : FCode := (.seq (.run (.go (.box 23 (tm 0)) (P 2)::
.go (.move (.con (.bool false))) (P 4)::
[])) (.seq (.run (.go (.move (tm 1)) (P 5)::
.go (.bin .gtr 3 (tm 5) (.con (.int .i64 (.ofNat 0)))) (P 6)::
.go (.move (tm 6)) (P 7)::
.gd (P 7) true (.move (tm 1)) (P 8)::
.gd (P 7) true (.fieldAddr 2 (tm 2)) (P 9)::
.gd (P 7) true (.load1 (tm 9)) (P 10)::
.gd (P 7) true (.bin .geq 3 (tm 8) (tm 10)) (P 11)::
.go (.pick (tm 7) (tm 11) (.con (.bool false))) (P 12)::
.go (.move (tm 12)) (P 4)::
[])) .ret))
theorem de37 : @compF Try.prog (Gl.none Try.prog) Try.f37 2 = .mk d37 (mkTT 13) [(P 0),(P 1)] [.tmp (P 4)] := by kernel_rfl
theorem dg37 : Try.prog.funcs[37]? = some Try.f37 := Try.func37
theorem do37 : okF Try.prog Try.f37 = true := by kernel_rfl
theorem gl0_bd {l : List Int} (hb : ∀ v ∈ l, 0 ≤ v ∧ v ≤ 10000) : ∀ i, 0 ≤ gl0 l i ∧ gl0 l i ≤ 10000 := by
  intro i
  unfold gl0
  by_cases hi : i < l.length
  · rw [List.getD_eq_getElem?_getD, List.getElem?_eq_getElem hi]
    exact hb _ (List.getElem_mem hi)
  · rw [List.getD_eq_getElem?_getD, List.getElem?_eq_none (by omega)]
    simp
theorem gl0_at {l : List Int} {i : Nat} (hi : i < l.length) : gl0 l i = l[i] := by
  unfold gl0
  rw [List.getD_eq_getElem?_getD, List.getElem?_eq_getElem hi]; rfl
theorem gl0_out {l : List Int} {i : Nat} (hi : l.length ≤ i) : gl0 l i = 0 := by
  unfold gl0
  rw [List.getD_eq_getElem?_getD, List.getElem?_eq_none hi]; rfl
abbrev vl (L : Int) (l : List Int) : Nat → Int := vts L (gl0 l)
theorem vl_out {L : Int} {l : List Int} {p : Nat} (h : l.length ≤ p) : vl L l p = 0 := by
  unfold vl vts
  rw [gl0_out h]
  split <;> rfl
theorem vl_8 {L : Int} {l : List Int} (hl : l.length ≤ 8) : ∀ p, ¬ p < 8 → vl L l p = 0 := fun p hp => vl_out (by omega)
theorem vl_ok {L : Int} {l : List Int} (hb : ∀ v ∈ l, 0 ≤ v ∧ v ≤ 10000) : vok (vl L l) := vts_vok fun i _ => gl0_bd hb i
def fl (n : Nat) (f : Nat → Int) : List Int := (List.range n).map f
theorem fl_len (n : Nat) (f : Nat → Int) : (fl n f).length = n := by simp [fl]
theorem fl_at {n : Nat} {f : Nat → Int} {i : Nat} (h : i < (fl n f).length) : (fl n f)[i] = f i := by simp [fl]
def SR (m S L : Int) (l : List Int) (X : Heap) (w : Value) : Prop := ∃ y e, w = .tuple ⟨[y, I e]⟩ ∧
  ((flt m S L l ≠ 0 ∧ y = .slice none 0 0 ∧ e = flt m S L l) ∨ (flt m S L l = 0 ∧ ¬ sure m S (vl L l) ∧ y = .slice none 0 0 ∧ e = 10) ∨
   (flt m S L l = 0 ∧ sure m S (vl L l) ∧ e = 0 ∧ LS X y (fl l.length (otc m S (vl L l)).1)))
theorem f22_ok (m S L : Int) (H : Heap) : Gives Try.prog 22 [.agg ⟨A3 m S L⟩] H (.agg ⟨A3 m S L⟩) := by
  refine F.entryL rfl dg22 do22 de22 rfl (by kernel_rfl) ?_
  simp only[sets]
  refine V.re [(0, .agg ⟨A3 m S L⟩)] (N := 10) zE zY ?_
  intro t hF hA
  simp only[Kn, and_true] at hA
  refine zS ?_
  refine V.l0 ?_
  refine zS ?_
  refine V.l0 ?_
  refine zS ?_
  refine V.ret (V.rets rfl (Lv.retG (by simp +contextual (disch := first|omega|simp only[nx];omega) only[D1, cells_alloc_at, cells_alloc_ne, cells_set_at, cells_set_ne, yres, yres1, yresL, qA, qB, qC, D5,hF,hA,↓reduceIte,qD,qE]; rfl) ?_ ?_))
  · exact zW
  · rfl
theorem ow_ls {H0 X : Heap} {v : Value} {l : List Int} (h : Ow H0 X 3 v (Li l)) : LS X v l := ⟨h.sl⟩
theorem f38_ok (n a b : Int) (H : Heap) : Gives Try.prog 38 [I n, I a, I b] H (.bool (decide (a ≤ n ∧ n ≤ b))) := by
  refine F.entryL rfl dg38 do38 de38 rfl (by kernel_rfl) ?_
  simp only[sets]
  refine V.re [(0, I n), (1, I a), (2, I b)] (N := 15) zE zY ?_
  intro t hF hA
  simp only[Kn, and_true] at hA
  refine zS ?_
  refine V.l0 ?_
  refine zS ?_
  refine V.l0 ?_
  refine zS ?_
  refine V.ret (V.rets rfl (Lv.retG (by simp +contextual (disch := first|omega|simp only[nx];omega) only[D1, cells_alloc_at, cells_alloc_ne, cells_set_at, cells_set_ne, yres, yres1, yresL, qA, qB, qC, D5,hF,hA,↓reduceIte,qD,qE]; rfl) ?_ ?_))
  · exact zW
  · rfl
theorem f51_ok (m S L : Int) (H : Heap) : Gives Try.prog 51 [.agg ⟨A3 m S L⟩] H (.bool (decide (rvalid m S L))) := by
  refine F.entryL rfl dg51 do51 de51 rfl (by kernel_rfl) ?_
  simp only[sets]
  refine V.re [(0, .agg ⟨A3 m S L⟩)] (N := 21) zE zY ?_
  intro t hF hA
  simp only[Kn, and_true] at hA
  refine zS ?_
  refine V.l0 ?_
  refine V.heap (fun X => Grow H X ∧ Bx X H.next (A3 m S L) 23) ⟨?_, ?_⟩ ?_
  · exact zW
  · exact zB
  rintro H1 ⟨g1, b1⟩
  refine zS ?_
  refine V.run ?_
  have zf:=b1.2
  refine VI.sz 9 ?_
  simp only[ds]
  have zf:=b1.2
  refine VI.sz 2 ?_
  simp only[ds]
  first | refine VI.callGt zG (fun hc => zI) (fun hc => f38_ok S 0 60 _) (fun hc => zI) (fun H2 g2 => ?_) | refine VI.callGf zG (fun hc => zI) (fun hc => f38_ok S 0 60 _) (fun hc => zI) (fun H2 g2 => ?_)
  have b2 := b1.grow g2
  have zf:=b2.2
  refine VI.sz 4 ?_
  simp only[ds]
  first | refine VI.callGt zG (fun hc => zI) (fun hc => f38_ok L 0 10000 _) (fun hc => zI) (fun H3 g3 => ?_) | refine VI.callGf zG (fun hc => zI) (fun hc => f38_ok L 0 10000 _) (fun hc => zI) (fun H3 g3 => ?_)
  refine VI.l0 ?_
  refine zS ?_
  refine V.ret (V.rets rfl (Lv.retG (by simp +contextual (disch := first|omega|simp only[nx];omega) only[D1, cells_alloc_at, cells_alloc_ne, cells_set_at, cells_set_ne, yres, yres1, yresL, qA, qB, qC, D5,hF,hA,↓reduceIte,qD,qE]; rfl) ?_ ?_))
  · exact (g1.trans g2).trans g3
  · congr 1
    rw [decide_eq_decide]
    unfold rvalid
    simp only[and_assoc]
theorem f26_ok (m S L : Int) (H : Heap) : Gives Try.prog 26 [.agg ⟨A3 m S L⟩] H (I (if rvalid m S L then 0 else 1)) := by
  refine F.entryL rfl dg26 do26 de26 rfl (by kernel_rfl) ?_
  simp only[sets]
  refine V.re [(0, .agg ⟨A3 m S L⟩)] (N := 6) zE zY ?_
  intro t hF hA
  simp only[Kn, and_true] at hA
  refine zS ?_
  refine V.l0 ?_
  refine V.heap (fun X => Grow H X ∧ Bx X H.next (A3 m S L) 23) ⟨?_, ?_⟩ ?_
  · exact zW
  · exact zB
  rintro H1 ⟨g1, b1⟩
  refine zS ?_
  refine V.run ?_
  have zf:=b1.2
  refine VI.sz 1 ?_
  simp only[ds]
  refine VI.callA rfl (f51_ok m S L _) zA (fun H2 g2 => ?_)
  have g12 := g1.trans g2
  refine VI.l0 ?_
  refine zS ?_
  refine V.condP zP (fun hv => ?_) (fun hv => ?_)
  · refine zS ?_
    refine V.l0 ?_
    refine zS ?_
    refine V.ret (V.rets rfl (Lv.retG (by simp +contextual (disch := first|omega|simp only[nx];omega) only[D1, cells_alloc_at, cells_alloc_ne, cells_set_at, cells_set_ne, yres, yres1, yresL, qA, qB, qC, D5,hF,hA,↓reduceIte,qD,qE]; rfl) ?_ ?_))
    · exact g12
    · rw [if_neg hv]
  · refine zS ?_
    refine V.l0 ?_
    refine zS ?_
    refine V.ret (V.rets rfl (Lv.retG (by simp +contextual (disch := first|omega|simp only[nx];omega) only[D1, cells_alloc_at, cells_alloc_ne, cells_set_at, cells_set_ne, yres, yres1, yresL, qA, qB, qC, D5,hF,hA,↓reduceIte,qD,qE]; rfl) ?_ ?_))
    · exact g12
    · rw [if_pos (Decidable.not_not.1 hv)]
theorem f37_ok (m S L n : Int) (H : Heap) : Gives Try.prog 37 [.agg ⟨A3 m S L⟩, I n] H (.bool (decide (adm L n))) := by
  refine F.entryL rfl dg37 do37 de37 rfl (by kernel_rfl) ?_
  simp only[sets]
  refine V.re [(0, .agg ⟨A3 m S L⟩), (1, I n)] (N := 13) zE zY ?_
  intro t hF hA
  simp only[Kn, and_true] at hA
  refine zS ?_
  refine V.l0 ?_
  refine zS ?_
  refine V.l0 ?_
  refine zS ?_
  refine V.ret (V.rets rfl (Lv.retG (by simp +contextual (disch := first|omega|simp only[nx];omega) only[D1, cells_alloc_at, cells_alloc_ne, cells_set_at, cells_set_ne, yres, yres1, yresL, qA, qB, qC, D5,hF,hA,↓reduceIte,qD,qE]; rfl) ?_ ?_))
  · exact zW
  · rfl
end Go.Xe.TVX
/- What the functions of the layer seat come to: SeatKind. Conditions: none. -/
-- MOD TV
namespace Go.Xe.TVX
open Go Go.Xe Go.Proofs
open Nat renaming reduceLeDiff → qA, reduceSub → qB, reduceAdd → qC, reduceEqDiff → qD, reduceLT → qE
open Int renaming reduceNegSucc → qF, reduceEq → qG
open Go.Xe.V renaming seq → sA, block → sB, scope → sC, skip → sD, close → sE
open Go.Xe renaming pth → P
open Go.Xe.Sea
set_option maxRecDepth 100000
set_option maxHeartbeats 3200000
set_option linter.unusedSimpArgs false
theorem mm2 (a d : Int) : a*a*(d*d)=a*d*(a*d):=by ac_rfl
theorem sq_lt {x y : Int} (hx : 0≤x) (h : x<y) : x*x<y*y:=by
 have h1:=Int.mul_le_mul_of_nonneg_left (Int.le_of_lt h) hx
 have h2:=Int.mul_lt_mul_of_pos_right h (show 0<y by omega)
 omega
theorem SR.ok {m S L : Int} {l : List Int} {X : Heap} {w : Value} (h : SR m S L l X w) (h0 : flt m S L l=0) : ∃ y e,w=.tuple ⟨[y,I e]⟩∧((¬ sure m S (vl L l)∧y=.slice none 0 0∧e=10)∨(sure m S (vl L l)∧e=0∧LS X y (fl l.length (otc m S (vl L l)).1))):=by
 obtain⟨y,e,hw,h⟩:=h
 refine⟨y,e,hw,?_⟩
 rcases h with⟨h,_⟩|⟨_,h⟩|⟨_,h⟩
 ·exact absurd h0 h
 ·exact .inl h
 ·exact .inr h
end Go.Xe.TVX
/- What the functions of the layer seat come to: SeatVotes. Conditions: none. -/
-- MOD TV
namespace Go.Xe.TVX
open Go Go.Xe Go.Proofs
open Nat renaming reduceLeDiff → qA, reduceSub → qB, reduceAdd → qC, reduceEqDiff → qD, reduceLT → qE
open Int renaming reduceNegSucc → qF, reduceEq → qG
open Go.Xe.V renaming seq → sA, block → sB, scope → sC, skip → sD, close → sE
open Go.Xe renaming pth → P
open Go.Xe.Sea
set_option maxRecDepth 100000
set_option maxHeartbeats 3200000
set_option linter.unusedSimpArgs false
noncomputable def d36 : FCode:=(.seq (.run (.go (.box 23 (tm 0)) (P 2)::
.go (.move (.con (.int .i64 (.ofNat 0)))) (P 4)::
[])) (.seq (.run (.go (.move (.con (.int .i64 (.ofNat 0)))) (P 5)::
[])) (.seq (.seq (.run (.go (.move (.con (.int .i64 (.ofNat 0)))) (P 6)::
[])) (.block 0 (.loop (.seq (.seq (.run (.go (.move (tm 6)) (P 7)::
.go (.move (tm 1)) (P 8)::
.go (.len 0 (tm 8)) (P 9)::
.go (.bin .lss 3 (tm 7) (tm 9)) (P 10)::
[])) (.cond (tm 10) .skip (.exit 0))) (.seq (.block 1 (.seq (.draw 6 (.go (.loadN 3 (tm 2)) (P 13)::
.go (.move (tm 1)) (P 14)::
.go (.move (tm 6)) (P 15)::
.go (.indexAddr none 1 (tm 14) (tm 15)) (P 16)::
.go (.load1 (tm 16)) (P 17)::
.go (.call (.con (.func (.func 37) ⟨[]⟩ ⟨[]⟩)) [(tm 13),(tm 17)]) (P 18)::
[]) [.ok,.ok,.ok,.ok,.ok,.ok]) (.cond (tm 18) (.run (.go (.move (tm 5)) (P 19)::
.go (.move (tm 1)) (P 20)::
.go (.move (tm 6)) (P 21)::
.go (.indexAddr none 1 (tm 20) (tm 21)) (P 22)::
.go (.load1 (tm 22)) (P 23)::
.go (.bin .add 3 (tm 19) (tm 23)) (P 24)::
.go (.move (tm 24)) (P 5)::
[])) .skip))) (.run (.go (.move (tm 6)) (P 11)::
.go (.bin .add 3 (tm 11) (.con (.int .i64 (.ofNat 1)))) (P 12)::
.go (.move (tm 12)) (P 6)::
[]))))))) (.seq (.run (.go (.move (tm 5)) (P 25)::
.go (.move (tm 25)) (P 4)::
[])) .ret))))
theorem de36 : @compF Try.prog (Gl.none Try.prog) Try.f36 2=.mk d36 (mkTT 26) [(P 0),(P 1)] [.tmp (P 4)]:=by kernel_rfl
theorem dg36 : Try.prog.funcs[36]?=some Try.f36:=Try.func36
theorem do36 : okF Try.prog Try.f36=true:=by kernel_rfl
noncomputable def d34 : FCode:=(.seq (.run (.go (.box 23 (tm 0)) (P 2)::
.go (.move (.con (.bool false))) (P 4)::
[])) (.seq (.run (.go (.loadN 3 (tm 2)) (P 5)::
.go (.move (tm 1)) (P 6)::
.go (.call (.con (.func (.func 36) ⟨[]⟩ ⟨[]⟩)) [(tm 5),(tm 6)]) (P 7)::
.go (.bin .gtr 3 (tm 7) (.con (.int .i64 (.ofNat 0)))) (P 8)::
.go (.move (tm 8)) (P 4)::
[])) .ret))
theorem de34 : @compF Try.prog (Gl.none Try.prog) Try.f34 2=.mk d34 (mkTT 9) [(P 0),(P 1)] [.tmp (P 4)]:=by kernel_rfl
theorem dg34 : Try.prog.funcs[34]?=some Try.f34:=Try.func34
theorem do34 : okF Try.prog Try.f34=true:=by kernel_rfl
theorem clq_le {m S : Int} {v : Nat→Int} (hv : vok v) (hS : 0≤S∧S≤61) {p : Nat} (hp : p<8) (h : 0<v p) : ∀ {n : Nat} {s : Int},0≤s→¬ qlt (clq m S v p s) (clq m S v p (s+n))
 | 0,s,_=>by
  have e : s+((0 : Nat) : Int)=s:=by omega
  rw[e];exact qlt_irr _
 | n+1,s,hs=>by
  have h1:=clq_le (m:=m) hv hS hp h (n:=n) hs
  have h2:=clq_dec (m:=m) hv hS hp h (s:=s+n) (by omega)
  have e : s+((n+1 : Nat) : Int)=s+n+1:=by omega
  rw[e]
  exact qlt_neg (clq_ok hv hS hp h hs) (clq_ok hv hS hp h (by omega)) (clq_ok hv hS hp h (by omega)) h1 h2
theorem clq_le' {m S : Int} {v : Nat→Int} (hv : vok v) (hS : 0≤S∧S≤61) {p : Nat} (hp : p<8) (h : 0<v p) {s t : Int} (hs : 0≤s) (hst : s≤t) : ¬ qlt (clq m S v p s) (clq m S v p t):=by
 have:=clq_le (m:=m) hv hS hp h (n:=(t-s).toNat) hs
 have e : s+((t-s).toNat : Int)=t:=by omega
 rw[e] at this
 exact this
theorem sm_out {v : Nat→Int} : ∀ {k n : Nat},(∀ p,n≤p→v p=0)→sm v (n+k)=sm v n
 | 0,_,_=>rfl
 | k+1,n,h=>by
  show sm v (n+k)+v (n+k)=_
  rw[sm_out h,h (n+k) (by omega)];omega
theorem vl_sum {L : Int} {l : List Int} (hl : l.length≤8) : sm (vl L l) 8=sm (vl L l) l.length:=by
 have:=sm_out (v:=vl L l) (n:=l.length) (k:=8-l.length) (fun p hp=>vl_out hp)
 rw[show l.length+(8-l.length)=8 by omega] at this
 exact this
theorem f36_ok {H : Heap} {m S L : Int} {x : Value} {l : List Int} (h : LS H x l) (hl8 : l.length≤8) (hb : ∀ v∈l,0≤v∧v≤10000) : Gives Try.prog 36 [.agg ⟨A3 m S L⟩,x] H (I (sm (vl L l) 8)):=by
 have hl:=h.len
 obtain⟨px,nx',cx,rfl⟩:=h.s.isS
 refine F.entryL rfl dg36 do36 de36 rfl (by kernel_rfl) ?_
 simp only[sets]
 refine V.re [(0,.agg ⟨A3 m S L⟩),(1,.slice px nx' cx)] (N:=26) zE zY ?_
 intro t hF hA
 simp only[Kn,and_true] at hA
 refine zS ?_
 refine V.l0 ?_
 refine V.heap (fun X=>Grow H X∧Bx X H.next (A3 m S L) 23) ⟨?_,?_⟩ ?_
 ·exact zW
 ·exact zB
 rintro H1 ⟨g1,b1⟩
 refine zS ?_
 refine V.l0 ?_
 refine zS ?_
 refine V.l0 ?_
 refine zS ?_
 refine V.loop (fun z t mm X=>∃ (k : Nat),k≤l.length∧z=l.length-k∧mm=[]∧Grow H X∧Bx X H.next (A3 m S L) 23∧(0≤sm (vl L l) k∧sm (vl L l) k≤10000*k)∧Full 26 t∧Kn [(1,.slice px nx' cx),(2,PT H.next),(5,I (sm (vl L l) k)),(6,I k)] t) l.length ?_ ?_
 ·exact⟨0,by omega,by omega,rfl,g1,b1,by simp[sm],zF,zK⟩
 clear hF hA
 rintro z t mm X ⟨k,hk,rfl,rfl,hg,bx,hsb,hF,hA⟩
 simp only[Kn,and_true] at hA
 refine zS ?_
 have zf:=@hl
 refine V.lz ?_
 refine zS ?_
 refine V.condP zP (fun hlt=>?_) (fun hlt=>?_)
 ·have hlt' : k<l.length:=by omega
  obtain⟨p,hp,hx⟩:=h.at hlt'
  have hx1:=hx X hg
  have hbk:=hb _ (List.getElem_mem hlt')
  have ev : sm (vl L l) (k+1)=sm (vl L l) k+(if adm L l[k] then l[k] else 0):=by
   show sm (vl L l) k+vl L l k=_
   congr 1
   unfold vl vts
   rw[gl0_at hlt']
  refine zS ?_
  refine V.draw ?_
  have zf:=And.intro bx.2<|And.intro @hp<|@hx1
  refine VD.nz 5 ?_
  simp only[ds]
  refine VD.callA zA (f37_ok m S L l[k] X) zA (fun X2 g2=>?_)
  have bx2:=bx.grow g2
  have hg2:=hg.trans g2
  have hx2:=hx X2 hg2
  have m2:=g2.1
  refine VD.d0 ?_ ?_ rfl ?_
  ·exact zM
  ·simp only[dcAll,dcOk,wantD,List.cons_append,List.nil_append,true_and,and_true]
  refine zS ?_
  refine V.condP zP (fun ha=>?_) (fun ha=>?_)
  ·rw[if_pos ha] at ev
   refine zS ?_
   have zf:=And.intro @hp<|@hx2
   refine V.lz ?_
   refine zS ?_
   refine V.l0 ?_
   refine V.nil (Or.inl ⟨rfl,l.length-(k+1),by omega,?_⟩)
   refine⟨k+1,hlt',rfl,rfl,hg2,bx2,by rw[ev];omega,?_⟩
   rw[ev]
   exact⟨zF,zK⟩
  ·rw[if_neg ha] at ev
   refine zS ?_
   refine V.l0 ?_
   refine V.nil (Or.inl ⟨rfl,l.length-(k+1),by omega,?_⟩)
   refine⟨k+1,hlt',rfl,rfl,hg2,bx2,by rw[ev];omega,?_⟩
   rw[ev,Int.add_zero]
   exact⟨zF,zK⟩
 ·obtain rfl : k=l.length:=by omega
  refine V.exit ?_
  refine zX ?_
  refine V.nil (Or.inr ⟨by simp,?_⟩)
  refine zX ?_
  refine zS ?_
  refine V.l0 ?_
  refine zS ?_
  refine V.ret (V.rets rfl (Lv.retG (by simp +contextual (disch:=first|omega|simp only[nx];omega) only[D1,cells_alloc_at,cells_alloc_ne,cells_set_at,cells_set_ne,yres,yres1,yresL,qA,qB,qC,D5,hF,hA,↓reduceIte,qD,qE];rfl) ?_ ?_))
  ·exact hg
  ·rw[vl_sum hl8]
theorem f34_ok {H : Heap} {m S L : Int} {x : Value} {l : List Int} (h : LS H x l) (hl8 : l.length≤8) (hb : ∀ v∈l,0≤v∧v≤10000) : Gives Try.prog 34 [.agg ⟨A3 m S L⟩,x] H (.bool (decide (0<sm (vl L l) 8))):=by
 obtain⟨px,nx',cx,rfl⟩:=h.s.isS
 refine F.entryL rfl dg34 do34 de34 rfl (by kernel_rfl) ?_
 simp only[sets]
 refine V.re [(0,.agg ⟨A3 m S L⟩),(1,.slice px nx' cx)] (N:=9) zE zY ?_
 intro t hF hA
 simp only[Kn,and_true] at hA
 refine zS ?_
 refine V.l0 ?_
 refine V.heap (fun X=>Grow H X∧Bx X H.next (A3 m S L) 23) ⟨?_,?_⟩ ?_
 ·exact zW
 ·exact zB
 rintro H1 ⟨g1,b1⟩
 refine zS ?_
 refine V.run ?_
 have zf:=b1.2
 refine VI.sz 2 ?_
 simp only[ds]
 refine VI.callA rfl (f36_ok (m:=m) (S:=S) (h.grow g1) hl8 hb) zA (fun H2 g2=>?_)
 refine VI.l0 ?_
 refine zS ?_
 refine V.ret (V.rets rfl (Lv.retG (by simp +contextual (disch:=first|omega|simp only[nx];omega) only[D1,cells_alloc_at,cells_alloc_ne,cells_set_at,cells_set_ne,yres,yres1,yresL,qA,qB,qC,D5,hF,hA,↓reduceIte,qD,qE];rfl) ?_ ?_))
 ·exact g1.trans g2
 ·rfl
theorem sure_none {m S : Int} {v : Nat→Int} (h : ∀ p,p<8→¬ 0<v p) (F : Fin v (clq m S v) S (otc m S v).1 (otc m S v).2) : (otc m S v).1=fun _=>0:=by
 rcases F.2 with⟨_,e,_⟩|⟨⟨p,h1,h2⟩,_⟩|⟨⟨p,h1,h2⟩,_⟩
 ·exact e
 ·exact absurd h2 (h p h1)
 ·exact absurd h2 (h p h1)
theorem sm_pos' {v : Nat→Int} (hv : vok v) : 0<sm v 8↔∃ p,p<8∧0<v p:=by
 constructor
 ·intro h
  apply Decidable.by_contra
  intro hn
  have : sm v 8=sm (fun _=>0) 8:=sm_cong fun p hp=>by
   apply Decidable.by_contra
   intro hh
   exact hn ⟨p,hp,by have:=(hv p hp).1;omega⟩
  rw[this,sm_0] at h
  omega
 ·rintro⟨p,hp,h⟩
  exact sm_pos hv hp h
end Go.Xe.TVX
