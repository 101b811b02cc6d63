/- What the functions of the layer seat come to: Seats, and what the statements ask of rules and counts. Conditions: none. -/
import Derived.Test.YtelfbgmhleneiaaTVI
-- MOD TV
namespace Go.Xe.TVX
open Go Go.Xe Go.Proofs
open Nat renaming reduceLeDiff → qA, reduceSub → qB, reduceAdd → qC, reduceEqDiff → qD, reduceLT → qE
open Int renaming reduceNegSucc → qF, reduceEq → qG
open Go.Xe.V renaming seq → sA, block → sB, scope → sC, skip → sD, close → sE
open Go.Xe renaming pth → P
open Go.Xe.Sea
set_option maxRecDepth 100000
set_option maxHeartbeats 3200000
set_option linter.unusedSimpArgs false
noncomputable def d23 : FCode := (.seq (.run (.go (.box 28 (tm 0)) (P 2)::
.go (.move (.con (.slice none 0 0))) (P 4)::
.go (.move (.con (.int .i64 (.ofNat 0)))) (P 5)::
[])) (.seq (.seq (.run (.go (.loadN 3 (tm 2)) (P 9)::
.go (.move (tm 1)) (P 10)::
.go (.call (.con (.func (.func 54) ⟨[]⟩ ⟨[]⟩)) [(tm 9),(tm 10)]) (P 11)::
.go (.move (tm 11)) (P 6)::
[])) (.seq (.run (.go (.move (tm 6)) (P 12)::
.go (.bin .neq 26 (tm 12) (.con (.int .i64 (.ofNat 0)))) (P 13)::
[])) (.cond (tm 13) (.seq (.run (.go (.move (tm 6)) (P 14)::
.go (.move (.con (.slice none 0 0))) (P 4)::
.go (.move (tm 14)) (P 5)::
[])) .ret) .skip))) (.seq (.run (.go (.loadN 3 (tm 2)) (P 16)::
.go (.move (tm 1)) (P 17)::
.go (.call (.con (.func (.func 55) ⟨[]⟩ ⟨[]⟩)) [(tm 16),(tm 17)]) (P 18)::
.go (.call (.con (.func (.func 56) ⟨[]⟩ ⟨[]⟩)) [tm 18]) (P 19)::
.go (.move (tm 19)) (P 15)::
.go (.extract (tm 15) 0) (P 20)::
.go (.extract (tm 15) 1) (P 21)::
.go (.alloc 78 [(.int .i64 (.ofNat 0)),(.int .i64 (.ofNat 0)),(.int .i64 (.ofNat 0)),(.int .i64 (.ofNat 0)),(.int .i64 (.ofNat 0)),(.int .i64 (.ofNat 0)),(.int .i64 (.ofNat 0)),(.int .i64 (.ofNat 0))]) (P 7)::
.un (.store 8 (tm 7) (tm 20))::
.go (.move (tm 21)) (P 8)::
[])) (.seq (.seq (.run (.go (.move (tm 8)) (P 22)::
.go (.bin .neq 26 (tm 22) (.con (.int .i64 (.ofNat 0)))) (P 23)::
[])) (.cond (tm 23) (.seq (.run (.go (.move (tm 8)) (P 24)::
.go (.move (.con (.slice none 0 0))) (P 4)::
.go (.move (tm 24)) (P 5)::
[])) .ret) .skip)) (.seq (.run (.go (.move (tm 1)) (P 25)::
.go (.len 0 (tm 25)) (P 26)::
.go (.sliceSlow 78 (tm 7) none (some (tm 26))) (P 27)::
.go (.move (tm 27)) (P 4)::
.go (.move (.con (.int .i64 (.ofNat 0)))) (P 5)::
[])) .ret)))))
theorem de23 : @compF Try.prog (Gl.none Try.prog) Try.f23 2 = .mk d23 (mkTT 28) [(P 0),(P 1)] [.tmp (P 4),.tmp (P 5)] := by kernel_rfl
theorem dg23 : Try.prog.funcs[23]? = some Try.f23 := Try.func23
theorem do23 : okF Try.prog Try.f23 = true := by kernel_rfl
noncomputable def d22 : FCode := (.seq (.run (.go (.box 23 (tm 0)) (P 1)::
.go (.alloc 28 [(.int .u8 (.ofNat 0)),(.int .i64 (.ofNat 0)),(.int .i64 (.ofNat 0))]) (P 2)::
[])) (.seq (.run (.go (.fieldAddr 0 (tm 1)) (P 3)::
.go (.load1 (tm 3)) (P 4)::
.go (.fieldAddr 1 (tm 1)) (P 5)::
.go (.load1 (tm 5)) (P 6)::
.go (.fieldAddr 2 (tm 1)) (P 7)::
.go (.load1 (tm 7)) (P 8)::
.go (.build [(.int .u8 (.ofNat 0)),(.int .i64 (.ofNat 0)),(.int .i64 (.ofNat 0))] [(0,1,(tm 4)),(1,1,(tm 6)),(2,1,(tm 8))]) (P 9)::
.un (.store 3 (tm 2) (tm 9))::
[])) .ret))
theorem de22 : @compF Try.prog (Gl.none Try.prog) Try.f22 1 = .mk d22 (mkTT 10) [(P 0)] [.many (P 2) 3] := by kernel_rfl
theorem dg22 : Try.prog.funcs[22]? = some Try.f22 := Try.func22
theorem do22 : okF Try.prog Try.f22 = true := by kernel_rfl
noncomputable def d24 : FCode := (.seq (.run (.go (.move (.con (.slice none 0 0))) (P 2)::
[])) (.seq (.run (.go (.buildSlice 3 0 [] []) (P 3)::
.go (.move (tm 0)) (P 4)::
.go (.append 3 1 8 (tm 3) (tm 4)) (P 5)::
.go (.move (tm 5)) (P 2)::
[])) .ret))
theorem de24 : @compF Try.prog (Gl.none Try.prog) Try.f24 1 = .mk d24 (mkTT 6) [(P 0)] [.tmp (P 2)] := by kernel_rfl
theorem dg24 : Try.prog.funcs[24]? = some Try.f24 := Try.func24
theorem do24 : okF Try.prog Try.f24 = true := by kernel_rfl
noncomputable def d38 : FCode := (.seq (.run (.go (.move (.con (.bool false))) (P 6)::
[])) (.seq (.run (.go (.move (tm 0)) (P 7)::
.go (.move (tm 1)) (P 8)::
.go (.bin .geq 3 (tm 7) (tm 8)) (P 9)::
.go (.move (tm 9)) (P 10)::
.gd (P 10) true (.move (tm 0)) (P 11)::
.gd (P 10) true (.move (tm 2)) (P 12)::
.gd (P 10) true (.bin .leq 3 (tm 11) (tm 12)) (P 13)::
.go (.pick (tm 10) (tm 13) (.con (.bool false))) (P 14)::
.go (.move (tm 14)) (P 6)::
[])) .ret))
theorem de38 : @compF Try.prog (Gl.none Try.prog) Try.f38 3 = .mk d38 (mkTT 15) [(P 0),(P 1),(P 2)] [.tmp (P 6)] := by kernel_rfl
theorem dg38 : Try.prog.funcs[38]? = some Try.f38 := Try.func38
theorem do38 : okF Try.prog Try.f38 = true := by kernel_rfl
noncomputable def d51 : FCode := (.seq (.run (.go (.box 23 (tm 0)) (P 1)::
.go (.move (.con (.bool false))) (P 2)::
[])) (.seq (.run (.go (.fieldAddr 0 (tm 1)) (P 3)::
.go (.load1 (tm 3)) (P 4)::
.go (.bin .geq 5 (tm 4) (.con (.int .u8 (.ofNat 1)))) (P 5)::
.go (.move (tm 5)) (P 6)::
.gd (P 6) true (.fieldAddr 0 (tm 1)) (P 7)::
.gd (P 6) true (.load1 (tm 7)) (P 8)::
.gd (P 6) true (.bin .leq 5 (tm 8) (.con (.int .u8 (.ofNat 5)))) (P 9)::
.go (.pick (tm 6) (tm 9) (.con (.bool false))) (P 10)::
.go (.move (tm 10)) (P 11)::
.gd (P 11) true (.fieldAddr 1 (tm 1)) (P 12)::
.gd (P 11) true (.load1 (tm 12)) (P 13)::
.gd (P 11) true (.call (.con (.func (.func 38) ⟨[]⟩ ⟨[]⟩)) [(tm 13),(.con (.int .i64 (.ofNat 0))),(.con (.int .i64 (.ofNat 60)))]) (P 14)::
.go (.pick (tm 11) (tm 14) (.con (.bool false))) (P 15)::
.go (.move (tm 15)) (P 16)::
.gd (P 16) true (.fieldAddr 2 (tm 1)) (P 17)::
.gd (P 16) true (.load1 (tm 17)) (P 18)::
.gd (P 16) true (.call (.con (.func (.func 38) ⟨[]⟩ ⟨[]⟩)) [(tm 18),(.con (.int .i64 (.ofNat 0))),(.con (.int .i64 (.ofNat 10000)))]) (P 19)::
.go (.pick (tm 16) (tm 19) (.con (.bool false))) (P 20)::
.go (.move (tm 20)) (P 2)::
[])) .ret))
theorem de51 : @compF Try.prog (Gl.none Try.prog) Try.f51 1 = .mk d51 (mkTT 21) [(P 0)] [.tmp (P 2)] := by kernel_rfl
theorem dg51 : Try.prog.funcs[51]? = some Try.f51 := Try.func51
theorem do51 : okF Try.prog Try.f51 = true := by kernel_rfl
noncomputable def d57 : FCode := (.seq (.run (.go (.box 23 (tm 0)) (P 2)::
.go (.move (.con (.int .i64 (.ofNat 0)))) (P 4)::
[])) (.seq (.seq (.run (.go (.loadN 3 (tm 2)) (P 6)::
.go (.call (.con (.func (.func 51) ⟨[]⟩ ⟨[]⟩)) [tm 6]) (P 7)::
.go (.un .not (tm 7)) (P 8)::
[])) (.cond (tm 8) (.seq (.run (.go (.move (.con (.int .i64 (.ofNat 1)))) (P 4)::
[])) .ret) .skip)) (.seq (.seq (.run (.go (.move (tm 1)) (P 9)::
.go (.len 0 (tm 9)) (P 10)::
.go (.bin .gtr 3 (tm 10) (.con (.int .i64 (.ofNat 8)))) (P 11)::
[])) (.cond (tm 11) (.seq (.run (.go (.move (.con (.int .i64 (.ofNat 3)))) (P 4)::
[])) .ret) .skip)) (.seq (.seq (.run (.go (.move (.con (.int .i64 (.ofNat 0)))) (P 5)::
[])) (.block 0 (.loop (.seq (.seq (.run (.go (.move (tm 5)) (P 12)::
.go (.move (tm 1)) (P 13)::
.go (.len 0 (tm 13)) (P 14)::
.go (.bin .lss 3 (tm 12) (tm 14)) (P 15)::
[])) (.cond (tm 15) .skip (.exit 0))) (.seq (.block 1 (.seq (.run (.go (.move (tm 1)) (P 18)::
.go (.move (tm 5)) (P 19)::
.go (.indexAddr none 1 (tm 18) (tm 19)) (P 20)::
.go (.load1 (tm 20)) (P 21)::
.go (.call (.con (.func (.func 38) ⟨[]⟩ ⟨[]⟩)) [(tm 21),(.con (.int .i64 (.ofNat 0))),(.con (.int .i64 (.ofNat 10000)))]) (P 22)::
.go (.un .not (tm 22)) (P 23)::
[])) (.cond (tm 23) (.seq (.run (.go (.move (.con (.int .i64 (.ofNat 2)))) (P 4)::
[])) .ret) .skip))) (.run (.go (.move (tm 5)) (P 16)::
.go (.bin .add 3 (tm 16) (.con (.int .i64 (.ofNat 1)))) (P 17)::
.go (.move (tm 17)) (P 5)::
[]))))))) (.seq (.run (.go (.move (.con (.int .i64 (.ofNat 0)))) (P 4)::
[])) .ret)))))
theorem de57 : @compF Try.prog (Gl.none Try.prog) Try.f57 2 = .mk d57 (mkTT 24) [(P 0),(P 1)] [.tmp (P 4)] := by kernel_rfl
theorem dg57 : Try.prog.funcs[57]? = some Try.f57 := Try.func57
theorem do57 : okF Try.prog Try.f57 = true := by kernel_rfl
noncomputable def d25 : FCode := (.seq (.run (.go (.box 23 (tm 0)) (P 2)::
.go (.move (.con (.int .i64 (.ofNat 0)))) (P 4)::
[])) (.seq (.run (.go (.loadN 3 (tm 2)) (P 5)::
.go (.move (tm 1)) (P 6)::
.go (.call (.con (.func (.func 57) ⟨[]⟩ ⟨[]⟩)) [(tm 5),(tm 6)]) (P 7)::
.go (.move (tm 7)) (P 4)::
[])) .ret))
theorem de25 : @compF Try.prog (Gl.none Try.prog) Try.f25 2 = .mk d25 (mkTT 8) [(P 0),(P 1)] [.tmp (P 4)] := by kernel_rfl
theorem dg25 : Try.prog.funcs[25]? = some Try.f25 := Try.func25
theorem do25 : okF Try.prog Try.f25 = true := by kernel_rfl
noncomputable def d48 : FCode := (.seq (.run (.go (.box 23 (tm 0)) (P 2)::
.go (.move (.con (.bool false))) (P 4)::
[])) (.seq (.run (.go (.move (tm 1)) (P 5)::
.go (.len 0 (tm 5)) (P 6)::
.go (.bin .leq 3 (tm 6) (.con (.int .i64 (.ofNat 11)))) (P 7)::
.go (.move (tm 7)) (P 8)::
.gd (P 8) true (.loadN 3 (tm 2)) (P 9)::
.gd (P 8) true (.move (tm 1)) (P 10)::
.gd (P 8) true (.call (.con (.func (.func 25) ⟨[]⟩ ⟨[]⟩)) [(tm 9),(tm 10)]) (P 11)::
.gd (P 8) true (.bin .eql 26 (tm 11) (.con (.int .i64 (.ofNat 0)))) (P 12)::
.go (.pick (tm 8) (tm 12) (.con (.bool false))) (P 13)::
.go (.move (tm 13)) (P 4)::
[])) .ret))
theorem de48 : @compF Try.prog (Gl.none Try.prog) Try.f48 2 = .mk d48 (mkTT 14) [(P 0),(P 1)] [.tmp (P 4)] := by kernel_rfl
theorem dg48 : Try.prog.funcs[48]? = some Try.f48 := Try.func48
theorem do48 : okF Try.prog Try.f48 = true := by kernel_rfl
theorem gl0_bd {l : List Int} (hb : ∀ v ∈ l, 0 ≤ v ∧ v ≤ 10000) : ∀ i, 0 ≤ gl0 l i ∧ gl0 l i ≤ 10000 := by
  intro i
  unfold gl0
  by_cases hi : i < l.length
  · rw [List.getD_eq_getElem?_getD, List.getElem?_eq_getElem hi]
    exact hb _ (List.getElem_mem hi)
  · rw [List.getD_eq_getElem?_getD, List.getElem?_eq_none (by omega)]
    simp
theorem gl0_at {l : List Int} {i : Nat} (hi : i < l.length) : gl0 l i = l[i] := by
  unfold gl0
  rw [List.getD_eq_getElem?_getD, List.getElem?_eq_getElem hi]; rfl
theorem gl0_out {l : List Int} {i : Nat} (hi : l.length ≤ i) : gl0 l i = 0 := by
  unfold gl0
  rw [List.getD_eq_getElem?_getD, List.getElem?_eq_none hi]; rfl
abbrev vl (L : Int) (l : List Int) : Nat → Int := vts L (gl0 l)
theorem vl_out {L : Int} {l : List Int} {p : Nat} (h : l.length ≤ p) : vl L l p = 0 := by
  unfold vl vts
  rw [gl0_out h]
  split <;> rfl
theorem vl_8 {L : Int} {l : List Int} (hl : l.length ≤ 8) : ∀ p, ¬ p < 8 → vl L l p = 0 := fun p hp => vl_out (by omega)
theorem vl_ok {L : Int} {l : List Int} (hb : ∀ v ∈ l, 0 ≤ v ∧ v ≤ 10000) : vok (vl L l) := vts_vok fun i _ => gl0_bd hb i
theorem flt_0 {m S L : Int} {l : List Int} : flt m S L l = 0 ↔ rvalid m S L ∧ l.length ≤ 8 ∧ ∀ v ∈ l, 0 ≤ v ∧ v ≤ 10000 := by
  unfold flt
  by_cases h1 : rvalid m S L
  · rw [if_pos h1]
    by_cases h2 : l.length ≤ 8
    · rw [if_pos h2]
      by_cases h3 : ∀ v ∈ l, 0 ≤ v ∧ v ≤ 10000
      · rw [if_pos h3]; exact iff_of_true rfl ⟨h1, h2, h3⟩
      · rw [if_neg h3]; exact iff_of_false (by omega) (fun h => h3 h.2.2)
    · rw [if_neg h2]; exact iff_of_false (by omega) (fun h => h2 h.2.1)
  · rw [if_neg h1]; exact iff_of_false (by omega) (fun h => h1 h.1)
def fl (n : Nat) (f : Nat → Int) : List Int := (List.range n).map f
theorem fl_len (n : Nat) (f : Nat → Int) : (fl n f).length = n := by simp [fl]
theorem fl_at {n : Nat} {f : Nat → Int} {i : Nat} (h : i < (fl n f).length) : (fl n f)[i] = f i := by simp [fl]
theorem ls_cut {X : Heap} {i : Nat} {e : TypeId} {f : Nat → Int} {n : Nat} (b : Bx X i (n8 f) e) (hn : n ≤ 8) : LS X (.slice (some ⟨i, 0, none⟩) n 8) (fl n f) :=
  ⟨.at b.1 b.2 hn (by rw [Li_len, fl_len]) (by rw [arr_size, n8_len]; omega) (fun p x hx => by
    have hp : p < n := by
      have := (List.getElem?_eq_some_iff.1 hx).1
      rw [Li_len, fl_len] at this
      exact this
    rw [arr_get, Nat.zero_add, n8_get (by omega)]
    simpa [Li, fl, hp] using hx)⟩
theorem sl78h (i n : Nat) (h : n ≤ 8) : xslice Try.prog 78 (PT i) none (some (I n)) none = some (.slice (some ⟨i, 0, none⟩) n 8) := by
  simp only[xslice, Try.underlying78, xbound]
  rw [if_pos (by omega)]
  rfl
def SR (m S L : Int) (l : List Int) (X : Heap) (w : Value) : Prop := ∃ y e, w = .tuple ⟨[y, I e]⟩ ∧
  ((flt m S L l ≠ 0 ∧ y = .slice none 0 0 ∧ e = flt m S L l) ∨ (flt m S L l = 0 ∧ ¬ sure m S (vl L l) ∧ y = .slice none 0 0 ∧ e = 10) ∨
   (flt m S L l = 0 ∧ sure m S (vl L l) ∧ e = 0 ∧ LS X y (fl l.length (otc m S (vl L l)).1)))
theorem f23_ok {H : Heap} {m S L : Int} {x : Value} {l : List Int} (h : LS H x l) (hS : 0 ≤ S ∧ S ≤ 61) : F Try.prog 23 ⟨[.agg ⟨A3 m S L⟩, x]⟩ H (fun w X => Grow H X ∧ SR m S L l X w) := by
  have hl := h.len
  obtain ⟨px, nx', cx, rfl⟩ := h.s.isS
  refine F.entryL rfl dg23 do23 de23 rfl (by kernel_rfl) ?_
  simp only[sets]
  refine V.re [(0, .agg ⟨A3 m S L⟩), (1, .slice px nx' cx)] (N := 28) zE zY ?_
  intro t hF hA
  simp only[Kn, and_true] at hA
  refine zS ?_
  refine V.l0 ?_
  refine V.heap (fun X => Grow H X ∧ Bx X H.next (A3 m S L) 28) ⟨?_, ?_⟩ ?_
  · exact zW
  · exact zB
  rintro H1 ⟨g1, b1⟩
  refine zS ?_
  refine V.run ?_
  have zf:=b1.2
  refine VI.sz 2 ?_
  simp only[ds]
  refine VI.callA rfl (f54_ok (m := m) (S := S) (L := L) (h.grow g1)) zA (fun H2 g2 => ?_)
  have b2 := b1.grow g2
  have g12 := g1.trans g2
  refine VI.l0 ?_
  refine zS ?_
  refine V.l0 ?_
  refine zS ?_
  refine V.condP zP (fun he => ?_) (fun he => ?_)
  · refine zS ?_
    refine V.l0 ?_
    refine zS ?_
    refine V.ret (V.rets rfl (Lv.retF (by simp +contextual (disch := first|omega|simp only[nx];omega) only[D1, cells_alloc_at, cells_alloc_ne, cells_set_at, cells_set_ne, yres, yres1, yresL, qA, qB, qC, D5,hF,hA,↓reduceIte,qD,qE]; rfl) ?_))
    exact ⟨g12, _, _, rfl, .inl ⟨he, rfl, rfl⟩⟩
  have he0 : flt m S L l = 0 := Decidable.not_not.1 he
  obtain ⟨hr, hl8, hb⟩ := flt_0.1 he0
  have hm : 1 ≤ m ∧ m ≤ 5 := ⟨hr.1, hr.2.1⟩
  have hvk := vl_ok (L := L) hb
  have hv8 := vl_8 (L := L) hl8
  refine zS ?_
  refine V.run ?_
  have zf:=b2.2
  refine VI.sz 2 ?_
  simp only[ds]
  refine VI.callA rfl (f55_ok (m := m) (S := S) (L := L) (h.grow g12) hl8 hb hm) zA (fun H3 g3 => ?_)
  refine VI.callA rfl (f56_ok hm hvk hS hv8) zA (fun H4 g4 => ?_)
  have g14 := (g12.trans g3).trans g4
  have n4 := g14.1
  obtain ⟨rf, hrf⟩ : ∃ rf, rf = (if sure m S (vl L l) then (otc m S (vl L l)).1 else fun _ => 0) := ⟨_, rfl⟩
  rw [← hrf]
  have n8a := n8_set0 rf (fun _ => 0)
  have zf:=And.intro @n8_take<|And.intro @n8_len<|And.intro @n8_ok<|And.intro @n8a<|@n8_0
  refine VI.lz ?_
  refine V.heap (fun X => Grow H X ∧ Bx X H4.next (n8 rf) 78) ⟨?_, ?_⟩ ?_
  · exact zW
  · exact Bx.put (by simp only[Heap.next_alloc]; omega) _ _
  rintro H5 ⟨g5, b5⟩
  refine zS ?_
  refine V.l0 ?_
  refine zS ?_
  by_cases hsu : sure m S (vl L l)
  · have e10 : ((if sure m S (vl L l) then (0 : Int) else 10) ≠ 0) = False := by rw [if_pos hsu]; simp
    have s78 := sl78h H4.next l.length hl8
    refine V.condP zP (fun ht => ?_) (fun ht => ?_)
    · exact absurd ht (by rw [if_pos hsu]; simp)
    · refine zS ?_
      have zf:=And.intro @hl<|@s78
      refine V.lz ?_
      refine zS ?_
      refine V.ret (V.rets rfl (Lv.retF (by simp +contextual (disch := first|omega|simp only[nx];omega) only[D1, cells_alloc_at, cells_alloc_ne, cells_set_at, cells_set_ne, yres, yres1, yresL, qA, qB, qC, D5,hF,hA,↓reduceIte,qD,qE]; rfl) ?_))
      refine ⟨g5, _, _, rfl, .inr (.inr ⟨he0, hsu, rfl, ?_⟩)⟩
      rw [hrf, if_pos hsu] at b5
      exact ls_cut b5 hl8
  · refine V.condP zP (fun ht => ?_) (fun ht => ?_)
    · refine zS ?_
      refine V.l0 ?_
      refine zS ?_
      refine V.ret (V.rets rfl (Lv.retF (by simp +contextual (disch := first|omega|simp only[nx];omega) only[D1, cells_alloc_at, cells_alloc_ne, cells_set_at, cells_set_ne, yres, yres1, yresL, qA, qB, qC, D5,hF,hA,↓reduceIte,qD,qE]; rfl) ?_))
      exact ⟨g5, _, _, rfl, .inr (.inl ⟨he0, hsu, rfl, by rw [if_neg hsu]⟩)⟩
    · exact absurd ht (by rw [if_neg hsu]; simp)
theorem f22_ok (m S L : Int) (H : Heap) : Gives Try.prog 22 [.agg ⟨A3 m S L⟩] H (.agg ⟨A3 m S L⟩) := by
  refine F.entryL rfl dg22 do22 de22 rfl (by kernel_rfl) ?_
  simp only[sets]
  refine V.re [(0, .agg ⟨A3 m S L⟩)] (N := 10) zE zY ?_
  intro t hF hA
  simp only[Kn, and_true] at hA
  refine zS ?_
  refine V.l0 ?_
  refine zS ?_
  refine V.l0 ?_
  refine zS ?_
  refine V.ret (V.rets rfl (Lv.retG (by simp +contextual (disch := first|omega|simp only[nx];omega) only[D1, cells_alloc_at, cells_alloc_ne, cells_set_at, cells_set_ne, yres, yres1, yresL, qA, qB, qC, D5,hF,hA,↓reduceIte,qD,qE]; rfl) ?_ ?_))
  · exact zW
  · rfl
theorem f24_ok {H : Heap} {x : Value} {l : List Int} (h : LS H x l) (hn : l.length ≤ 1048576) : F Try.prog 24 ⟨[x]⟩ H (fun v X => Grow H X ∧ Ow H X 3 v (Li l)) := by
  have gh : Grow H (H.alloc (.cells ⟨[]⟩ 3 true)) := (Grow.refl H).alloc _
  obtain ⟨w, H', k1, k2, k3, k4⟩ := Ow.append (H0 := H) (e := 3) (bytes := 8) (s := .slice (some ⟨H.next, 0, none⟩) 0 0) (l := []) gh (.inr ⟨H.next, Nat.le_refl _, Nat.lt_succ_self _, rfl, cells_alloc _ _ _ _⟩) (h.s.grow gh) (Li_ok l) (by simp [Li_len]; omega) (by simp [Li_len]; omega)
  rw [List.nil_append] at k2
  refine F.entryL rfl dg24 do24 de24 rfl (by kernel_rfl) ?_
  simp only[sets]
  refine V.re [(0, x)] (N := 6) zE zY ?_
  intro t hF hA
  simp only[Kn, and_true] at hA
  refine zS ?_
  refine V.l0 ?_
  refine zS ?_
  have zf:=@k1
  refine V.lz ?_
  refine zS ?_
  refine V.ret (V.rets rfl (Lv.retF (by simp +contextual (disch := first|omega|simp only[nx];omega) only[D1, cells_alloc_at, cells_alloc_ne, cells_set_at, cells_set_ne, yres, yres1, yresL, qA, qB, qC, D5,hF,hA,↓reduceIte,qD,qE]; rfl) ?_))
  exact ⟨k3, k2⟩
theorem ow_ls {H0 X : Heap} {v : Value} {l : List Int} (h : Ow H0 X 3 v (Li l)) : LS X v l := ⟨h.sl⟩
theorem f38_ok (n a b : Int) (H : Heap) : Gives Try.prog 38 [I n, I a, I b] H (.bool (decide (a ≤ n ∧ n ≤ b))) := by
  refine F.entryL rfl dg38 do38 de38 rfl (by kernel_rfl) ?_
  simp only[sets]
  refine V.re [(0, I n), (1, I a), (2, I b)] (N := 15) zE zY ?_
  intro t hF hA
  simp only[Kn, and_true] at hA
  refine zS ?_
  refine V.l0 ?_
  refine zS ?_
  refine V.l0 ?_
  refine zS ?_
  refine V.ret (V.rets rfl (Lv.retG (by simp +contextual (disch := first|omega|simp only[nx];omega) only[D1, cells_alloc_at, cells_alloc_ne, cells_set_at, cells_set_ne, yres, yres1, yresL, qA, qB, qC, D5,hF,hA,↓reduceIte,qD,qE]; rfl) ?_ ?_))
  · exact zW
  · rfl
theorem f51_ok (m S L : Int) (H : Heap) : Gives Try.prog 51 [.agg ⟨A3 m S L⟩] H (.bool (decide (rvalid m S L))) := by
  refine F.entryL rfl dg51 do51 de51 rfl (by kernel_rfl) ?_
  simp only[sets]
  refine V.re [(0, .agg ⟨A3 m S L⟩)] (N := 21) zE zY ?_
  intro t hF hA
  simp only[Kn, and_true] at hA
  refine zS ?_
  refine V.l0 ?_
  refine V.heap (fun X => Grow H X ∧ Bx X H.next (A3 m S L) 23) ⟨?_, ?_⟩ ?_
  · exact zW
  · exact zB
  rintro H1 ⟨g1, b1⟩
  refine zS ?_
  refine V.run ?_
  have zf:=b1.2
  refine VI.sz 9 ?_
  simp only[ds]
  have zf:=b1.2
  refine VI.sz 2 ?_
  simp only[ds]
  first | refine VI.callGt zG (fun hc => zI) (fun hc => f38_ok S 0 60 _) (fun hc => zI) (fun H2 g2 => ?_) | refine VI.callGf zG (fun hc => zI) (fun hc => f38_ok S 0 60 _) (fun hc => zI) (fun H2 g2 => ?_)
  have b2 := b1.grow g2
  have zf:=b2.2
  refine VI.sz 4 ?_
  simp only[ds]
  first | refine VI.callGt zG (fun hc => zI) (fun hc => f38_ok L 0 10000 _) (fun hc => zI) (fun H3 g3 => ?_) | refine VI.callGf zG (fun hc => zI) (fun hc => f38_ok L 0 10000 _) (fun hc => zI) (fun H3 g3 => ?_)
  refine VI.l0 ?_
  refine zS ?_
  refine V.ret (V.rets rfl (Lv.retG (by simp +contextual (disch := first|omega|simp only[nx];omega) only[D1, cells_alloc_at, cells_alloc_ne, cells_set_at, cells_set_ne, yres, yres1, yresL, qA, qB, qC, D5,hF,hA,↓reduceIte,qD,qE]; rfl) ?_ ?_))
  · exact (g1.trans g2).trans g3
  · congr 1
    rw [decide_eq_decide]
    unfold rvalid
    simp only[and_assoc]
theorem f57_ok {H : Heap} {m S L : Int} {x : Value} {l : List Int} (h : LS H x l) : Gives Try.prog 57 [.agg ⟨A3 m S L⟩, x] H (I (flt m S L l)) := by
  have hl := h.len
  refine F.entryL rfl dg57 do57 de57 rfl (by kernel_rfl) ?_
  simp only[sets]
  refine V.re [(0, .agg ⟨A3 m S L⟩), (1, x)] (N := 24) zE zY ?_
  intro t hF hA
  simp only[Kn, and_true] at hA
  refine zS ?_
  refine V.l0 ?_
  refine V.heap (fun X => Grow H X ∧ Bx X H.next (A3 m S L) 23) ⟨?_, ?_⟩ ?_
  · exact zW
  · exact zB
  rintro H1 ⟨g1, b1⟩
  refine zS ?_
  refine V.run ?_
  have zf:=b1.2
  refine VI.sz 1 ?_
  simp only[ds]
  refine VI.callA rfl (f51_ok m S L _) zA (fun H2 g2 => ?_)
  have g12 := g1.trans g2
  unfold flt
  refine VI.l0 ?_
  refine zS ?_
  refine V.condP zP (fun hv => ?_) (fun hv => ?_)
  · refine zS ?_
    refine V.l0 ?_
    refine zS ?_
    refine V.ret (V.rets rfl (Lv.retG (by simp +contextual (disch := first|omega|simp only[nx];omega) only[D1, cells_alloc_at, cells_alloc_ne, cells_set_at, cells_set_ne, yres, yres1, yresL, qA, qB, qC, D5,hF,hA,↓reduceIte,qD,qE]; rfl) ?_ ?_))
    · exact g12
    · rw [if_neg hv]
  rw [if_pos (Decidable.not_not.1 hv)]
  refine zS ?_
  have zf:=@hl
  refine V.lz ?_
  refine zS ?_
  refine V.condP zP (fun hn => ?_) (fun hn => ?_)
  · refine zS ?_
    refine V.l0 ?_
    refine zS ?_
    refine V.ret (V.rets rfl (Lv.retG (by simp +contextual (disch := first|omega|simp only[nx];omega) only[D1, cells_alloc_at, cells_alloc_ne, cells_set_at, cells_set_ne, yres, yres1, yresL, qA, qB, qC, D5,hF,hA,↓reduceIte,qD,qE]; rfl) ?_ ?_))
    · exact g12
    · rw [if_neg (by omega)]
  have hn8 : l.length ≤ 8 := by omega
  rw [if_pos hn8]
  refine zS ?_
  refine V.l0 ?_
  refine zS ?_
  refine V.loop (fun z t m X => ∃ (k : Nat), k ≤ l.length ∧ z = l.length - k ∧ m = [] ∧ Grow H X ∧ (∀ v ∈ l.take k, 0 ≤ v ∧ v ≤ 10000) ∧ Full 24 t ∧ Kn [(1, x), (5, I k)] t) l.length ?_ ?_
  · exact ⟨0, by omega, by omega, rfl, g12, by simp, zF, zK⟩
  clear hF hA
  rintro z t m' X ⟨k, hk, rfl, rfl, hg, hall, hF, hA⟩
  simp only[Kn, and_true] at hA
  refine zS ?_
  have zf:=@hl
  refine V.lz ?_
  refine zS ?_
  refine V.condP zP (fun hlt => ?_) (fun hlt => ?_)
  · have hlt' : k < l.length := by omega
    obtain ⟨p, hp, hx⟩ := h.at hlt'
    have hx1 := hx X hg
    refine zS ?_
    refine V.run ?_
    have zf:=And.intro @hp<|@hx1
    refine VI.sz 4 ?_
    simp only[ds]
    refine VI.callA rfl (f38_ok l[k] 0 10000 _) zA (fun X2 g2' => ?_)
    refine VI.l0 ?_
    refine zS ?_
    refine V.condP zP (fun hb => ?_) (fun hb => ?_)
    · refine zS ?_
      refine V.l0 ?_
      refine zS ?_
      refine V.ret (V.rets rfl (Or.inr ⟨by simp, V.rets rfl (Lv.retG (by simp +contextual (disch := first|omega|simp only[nx];omega) only[D1, cells_alloc_at, cells_alloc_ne, cells_set_at, cells_set_ne, yres, yres1, yresL, qA, qB, qC, D5,hF,hA,↓reduceIte,qD,qE]; rfl) ?_ ?_)⟩))
      · exact hg.trans g2'
      · rw [if_neg (fun hh => hb (hh _ (List.getElem_mem hlt')))]
    · refine zS ?_
      refine V.l0 ?_
      refine V.nil (Or.inl ⟨rfl, l.length - (k + 1), by omega, ?_⟩)
      refine ⟨k + 1, hlt', rfl, rfl, hg.trans g2', ?_, zF, zK⟩
      intro v hv
      rw [tk1 hlt'] at hv
      rcases List.mem_append.1 hv with hv | hv
      · exact hall v hv
      · rw [List.mem_singleton.1 hv]; exact Decidable.not_not.1 hb
  · obtain rfl : k = l.length := by omega
    rw [List.take_length] at hall
    refine V.exit ?_
    refine zX ?_
    refine V.nil (Or.inr ⟨by simp, ?_⟩)
    refine zX ?_
    refine zS ?_
    refine V.l0 ?_
    refine zS ?_
    refine V.ret (V.rets rfl (Lv.retG (by simp +contextual (disch := first|omega|simp only[nx];omega) only[D1, cells_alloc_at, cells_alloc_ne, cells_set_at, cells_set_ne, yres, yres1, yresL, qA, qB, qC, D5,hF,hA,↓reduceIte,qD,qE]; rfl) ?_ ?_))
    · exact hg
    · rw [if_pos hall]
theorem f25_ok {H : Heap} {m S L : Int} {x : Value} {l : List Int} (h : LS H x l) : Gives Try.prog 25 [.agg ⟨A3 m S L⟩, x] H (I (flt m S L l)) := by
  refine F.entryL rfl dg25 do25 de25 rfl (by kernel_rfl) ?_
  simp only[sets]
  refine V.re [(0, .agg ⟨A3 m S L⟩), (1, x)] (N := 8) zE zY ?_
  intro t hF hA
  simp only[Kn, and_true] at hA
  refine zS ?_
  refine V.l0 ?_
  refine V.heap (fun X => Grow H X ∧ Bx X H.next (A3 m S L) 23) ⟨?_, ?_⟩ ?_
  · exact zW
  · exact zB
  rintro H1 ⟨g1, b1⟩
  refine zS ?_
  refine V.run ?_
  have zf:=b1.2
  refine VI.sz 2 ?_
  simp only[ds]
  refine VI.callA rfl (f57_ok (h.grow g1)) zA (fun H2 g2 => ?_)
  refine VI.l0 ?_
  refine zS ?_
  refine V.ret (V.rets rfl (Lv.retG (by simp +contextual (disch := first|omega|simp only[nx];omega) only[D1, cells_alloc_at, cells_alloc_ne, cells_set_at, cells_set_ne, yres, yres1, yresL, qA, qB, qC, D5,hF,hA,↓reduceIte,qD,qE]; rfl) ?_ ?_))
  · exact g1.trans g2
  · rfl
theorem f48_ok {H : Heap} {m S L : Int} {x : Value} {l : List Int} (h : LS H x l) : Gives Try.prog 48 [.agg ⟨A3 m S L⟩, x] H (.bool (decide (flt m S L l = 0))) := by
  have hl := h.len
  refine F.entryL rfl dg48 do48 de48 rfl (by kernel_rfl) ?_
  simp only[sets]
  refine V.re [(0, .agg ⟨A3 m S L⟩), (1, x)] (N := 14) zE zY ?_
  intro t hF hA
  simp only[Kn, and_true] at hA
  refine zS ?_
  refine V.l0 ?_
  refine V.heap (fun X => Grow H X ∧ Bx X H.next (A3 m S L) 23) ⟨?_, ?_⟩ ?_
  · exact zW
  · exact zB
  rintro H1 ⟨g1, b1⟩
  refine zS ?_
  refine V.run ?_
  have zf:=And.intro @hl<|b1.2
  refine VI.sz 6 ?_
  simp only[ds]
  first | refine VI.callGt zG (fun hc => zI) (fun hc => f25_ok (m := m) (S := S) (L := L) (h.grow g1)) (fun hc => zI) (fun H2 g2 => ?_) | refine VI.callGf zG (fun hc => zI) (fun hc => f25_ok (m := m) (S := S) (L := L) (h.grow g1)) (fun hc => zI) (fun H2 g2 => ?_)
  refine VI.l0 ?_
  refine zS ?_
  refine V.ret (V.rets rfl (Lv.retG (by simp +contextual (disch := first|omega|simp only[nx];omega) only[D1, cells_alloc_at, cells_alloc_ne, cells_set_at, cells_set_ne, yres, yres1, yresL, qA, qB, qC, D5,hF,hA,↓reduceIte,qD,qE]; rfl) ?_ ?_))
  · exact g1.trans g2
  · congr 1
    rw [decide_eq_decide]
    constructor
    · exact fun hh => hh.2
    · intro hh
      exact ⟨by have := (flt_0.1 hh).2.1; omega, hh⟩
end Go.Xe.TVX
