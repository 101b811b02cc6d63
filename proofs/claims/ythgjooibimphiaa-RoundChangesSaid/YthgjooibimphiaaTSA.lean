/- What the functions of the layer round come to: lists of numbers. Conditions: none. -/
import Derived.Test.YthgjooibimphiaaRM
-- MOD TR
namespace Go.Xe.TRX
open Go Go.Xe Go.Proofs
open Nat renaming reduceLeDiff → qA, reduceSub → qB, reduceAdd → qC, reduceEqDiff → qD, reduceLT → qE
open Int renaming reduceNegSucc → qF, reduceEq → qG
open Go.Xe.V renaming seq → sA, block → sB, scope → sC, skip → sD, close → sE
open Go.Xe renaming pth → P
open Go.Xe.Rnd
set_option maxRecDepth 100000
set_option maxHeartbeats 3200000
set_option linter.unusedSimpArgs false
noncomputable def d61 : FCode:=(.seq (.run (.go (.move (.con (.bool false))) (P 4)::
[])) (.seq (.seq (.run (.go (.move (tm 0)) (P 7)::
.go (.len 0 (tm 7)) (P 8)::
.go (.move (.con (.int .i64 (.ofNat 0)))) (P 9)::
[])) (.block 0 (.loop (.seq (.run (.go (.bin .lss 3 (tm 9) (tm 8)) (P 10)::
[])) (.seq (.cond (tm 10) .skip (.exit 0)) (.seq (.block 1 (.seq (.run (.go (.indexAddr none 1 (tm 7) (tm 9)) (P 11)::
.go (.load1 (tm 11)) (P 12)::
.go (.move (tm 12)) (P 6)::
[])) (.seq (.run (.go (.move (tm 1)) (P 13)::
.go (.move (tm 6)) (P 14)::
.go (.call (tm 13) [tm 14]) (P 15)::
.go (.un .not (tm 15)) (P 16)::
[])) (.cond (tm 16) (.seq (.run (.go (.move (.con (.bool false))) (P 4)::
[])) .ret) .skip)))) (.run (.go (.bin .add 3 (tm 9) (.con (.int .i64 (.ofNat 1)))) (P 17)::
.go (.move (tm 17)) (P 9)::
[])))))))) (.seq (.run (.go (.move (.con (.bool true))) (P 4)::
[])) .ret)))
theorem de61 : @compF Try.prog (Gl.none Try.prog) Try.f61 2=.mk d61 (mkTT 18) [(P 0),(P 1)] [.tmp (P 4)]:=by kernel_rfl
theorem dg61 : Try.prog.funcs[61]?=some Try.f61:=Try.func61
theorem do61 : okF Try.prog Try.f61=true:=by kernel_rfl
noncomputable def d64 : FCode:=(.seq (.run (.go (.move (.con (.int .i64 (.ofNat 0)))) (P 2)::
[])) (.seq (.run (.go (.move (.con (.int .i64 (.ofNat 0)))) (P 3)::
[])) (.seq (.seq (.run (.go (.move (tm 0)) (P 6)::
.go (.len 0 (tm 6)) (P 7)::
.go (.move (.con (.int .i64 (.ofNat 0)))) (P 8)::
[])) (.block 0 (.loop (.seq (.run (.go (.bin .lss 3 (tm 8) (tm 7)) (P 9)::
[])) (.seq (.cond (tm 9) .skip (.exit 0)) (.seq (.block 1 (.seq (.run (.go (.indexAddr none 1 (tm 6) (tm 8)) (P 10)::
.go (.load1 (tm 10)) (P 11)::
.go (.move (tm 11)) (P 5)::
[])) (.run (.go (.move (tm 3)) (P 12)::
.go (.move (tm 5)) (P 13)::
.go (.bin .add 3 (tm 12) (tm 13)) (P 14)::
.go (.move (tm 14)) (P 3)::
[])))) (.run (.go (.bin .add 3 (tm 8) (.con (.int .i64 (.ofNat 1)))) (P 15)::
.go (.move (tm 15)) (P 8)::
[])))))))) (.seq (.run (.go (.move (tm 3)) (P 16)::
.go (.move (tm 16)) (P 2)::
[])) .ret))))
theorem de64 : @compF Try.prog (Gl.none Try.prog) Try.f64 1=.mk d64 (mkTT 17) [(P 0)] [.tmp (P 2)]:=by kernel_rfl
theorem dg64 : Try.prog.funcs[64]?=some Try.f64:=Try.func64
theorem do64 : okF Try.prog Try.f64=true:=by kernel_rfl
noncomputable def d38 : FCode:=(.seq (.run (.go (.move (.con (.slice none 0 0))) (P 2)::
[])) (.seq (.run (.go (.move (tm 0)) (P 3)::
.go (.append 3 1 8 (.con (.slice none 0 0)) (tm 3)) (P 4)::
.go (.move (tm 4)) (P 2)::
[])) .ret))
theorem de38 : @compF Try.prog (Gl.none Try.prog) Try.f38 1=.mk d38 (mkTT 5) [(P 0)] [.tmp (P 2)]:=by kernel_rfl
theorem dg38 : Try.prog.funcs[38]?=some Try.f38:=Try.func38
theorem do38 : okF Try.prog Try.f38=true:=by kernel_rfl
def Li (l : List Int) : List Value:=l.map I
theorem Li_len (l : List Int) : (Li l).length=l.length:=by simp[Li]
theorem Li_at {l : List Int} {k : Nat} (h : k<l.length) : (Li l)[k]?=some (I l[k]):=by simp[Li,h]
theorem Li_ok (l : List Int) : (Li l).all ok1=true:=by simp[Li,ok1_int]
theorem tk1 {α : Type} {l : List α} {k : Nat} (h : k<l.length) : l.take (k+1)=l.take k++[l[k]]:=List.take_succ_eq_append_getElem h
theorem sl1 {x : Value} (h : ∃ p n c,x=.slice p n c) : ok1 x=true∧(∀ off c f,yfillV x off 1 c f=if off<c.length then f (c.set off x) else none)∧vEq 3 x x=true∧(∀ (H : Heap) i o c el,ystC 1 H i o x (⟨c⟩,el,true)=if o<c.length then some (H.set i (.cells ⟨c.set o x⟩ el true)) else none):=by
 obtain⟨p,n,c,rfl⟩:=h
 refine⟨ok1_slice,fun off c f=>yfV_slice,?_,fun H i o c el=>ystC_slice⟩
 simp[vEq,vEq0]
structure LS (H : Heap) (x : Value) (l : List Int) : Prop where
 s : Sl H x (Li l)
theorem LS.grow {A B : Heap} (g : Grow A B) {x : Value} {l : List Int} (h : LS A x l) : LS B x l:=⟨h.s.grow g⟩
theorem LS.len {H : Heap} {x : Value} {l : List Int} (h : LS H x l) : ∀ X,ylen 0 X x=some (I l.length):=by
 intro X
 have:=h.s.len
 rw[Li_len] at this
 obtain⟨p,n,c,rfl⟩:=h.s.isS
 exact this
theorem LS.at {H : Heap} {x : Value} {l : List Int} (h : LS H x l) {k : Nat} (hk : k<l.length) : ∃ p,yindexAddr none 1 x (I k)=some p∧∀ H',Grow H H'→yload1 H' p=some (I l[k]):=h.s.get (Li_at hk) rfl
theorem f61_ok {H : Heap} {x : Value} {l : List Int} (a b : Int) (h : LS H x l) (hn : l.length≤1048576) : Gives Try.prog 61 [x,.func (.func 59) ⟨[.agg ⟨A2 a b⟩]⟩ ⟨[]⟩] H (.bool (decide (∀ v∈l,a≤v∧v≤b))):=by
 have hl:=h.len
 refine F.entryL rfl dg61 do61 de61 rfl (by kernel_rfl) ?_
 simp only[sets]
 refine V.re [(0,x),(1,.func (.func 59) ⟨[.agg ⟨A2 a b⟩]⟩ ⟨[]⟩)] (N:=18) zE zY ?_
 intro t hF hA
 simp only[Kn,and_true] at hA
 refine zS ?_
 refine V.l0 ?_
 refine zS ?_
 have zf:=@hl
 refine V.lz ?_
 refine zS ?_
 refine V.loop (fun z t m X=>∃ (k : Nat),k≤l.length∧z=l.length-k∧m=[]∧Grow H X∧(∀ v∈l.take k,a≤v∧v≤b)∧Full 18 t∧Kn [(0,x),(1,.func (.func 59) ⟨[.agg ⟨A2 a b⟩]⟩ ⟨[]⟩),(7,x),(8,I l.length),(9,I k)] t) l.length ?_ ?_
 ·exact⟨0,by omega,by omega,rfl,.refl _,by simp,zF,zK⟩
 clear hF hA
 rintro z t m X ⟨k,hk,rfl,rfl,hg,hall,hF,hA⟩
 simp only[Kn,and_true] at hA
 refine zS ?_
 refine V.l0 ?_
 refine zS ?_
 refine V.condP zP (fun hlt=>?_) (fun hlt=>?_)
 ·have hlt' : k<l.length:=by omega
  obtain⟨p,hp,hx⟩:=h.at hlt'
  have hx1:=hx X hg
  refine zS ?_
  have zf:=And.intro @hp<|@hx1
  refine V.lz ?_
  refine zS ?_
  refine V.run ?_
  refine VI.s0 2 ?_
  simp only[ds]
  refine VI.callR zA (f59_ok a b l[k] _) zA (fun v X2 ⟨hv,g2⟩=>?_)
  subst hv
  refine VI.l0 ?_
  refine zS ?_
  refine V.condP zP (fun hb=>?_) (fun hb=>?_)
  ·refine zS ?_
   refine V.l0 ?_
   refine zS ?_
   refine V.ret (V.rets rfl (Or.inr ⟨by simp,V.rets rfl (Lv.retG (by simp +contextual (disch:=first|omega|simp only[nx];omega) only[D1,cells_alloc_at,cells_alloc_ne,cells_set_at,cells_set_ne,yres,yres1,yresL,qA,qB,qC,D5,hF,hA,↓reduceIte,qD,qE];rfl) ?_ ?_)⟩))
   ·exact hg.trans g2
   ·congr 1
    exact (decide_eq_false (fun hh=>hb (hh _ (List.getElem_mem hlt')))).symm
  ·refine zS ?_
   refine V.l0 ?_
   refine V.nil (Or.inl ⟨rfl,l.length-(k+1),by omega,?_⟩)
   refine⟨k+1,hlt',rfl,rfl,hg.trans g2,?_,zF,zK⟩
   intro v hv
   rw[tk1 hlt'] at hv
   rcases List.mem_append.1 hv with hv|hv
   ·exact hall v hv
   ·rw[List.mem_singleton.1 hv];omega
 ·obtain rfl : k=l.length:=by omega
  rw[List.take_length] at hall
  refine V.exit ?_
  refine zX ?_
  refine V.nil (Or.inr ⟨by simp,?_⟩)
  refine zX ?_
  refine zS ?_
  refine V.l0 ?_
  refine zS ?_
  refine V.ret (V.rets rfl (Lv.retG (by simp +contextual (disch:=first|omega|simp only[nx];omega) only[D1,cells_alloc_at,cells_alloc_ne,cells_set_at,cells_set_ne,yres,yres1,yresL,qA,qB,qC,D5,hF,hA,↓reduceIte,qD,qE];rfl) ?_ ?_))
  ·exact hg
  ·rw[decide_eq_true hall]
theorem f64_ok {H : Heap} {x : Value} {l : List Int} (h : LS H x l) (hn : l.length≤20) (hb : ∀ v∈l,0≤v∧v≤1000000) : Gives Try.prog 64 [x] H (I (sm l)):=by
 have hl:=h.len
 refine F.entryL rfl dg64 do64 de64 rfl (by kernel_rfl) ?_
 simp only[sets]
 refine V.re [(0,x)] (N:=17) zE zY ?_
 intro t hF hA
 simp only[Kn,and_true] at hA
 refine zS ?_
 refine V.l0 ?_
 refine zS ?_
 refine V.l0 ?_
 refine zS ?_
 have zf:=@hl
 refine V.lz ?_
 refine zS ?_
 refine V.loop (fun z t m X=>∃ (k : Nat),k≤l.length∧z=l.length-k∧m=[]∧Grow H X∧Full 17 t∧Kn [(0,x),(3,I (sm (l.take k))),(6,x),(7,I l.length),(8,I k)] t) l.length ?_ ?_
 ·exact⟨0,by omega,by omega,rfl,.refl _,zF,zK⟩
 clear hF hA
 rintro z t m X ⟨k,hk,rfl,rfl,hg,hF,hA⟩
 simp only[Kn,and_true] at hA
 refine zS ?_
 refine V.l0 ?_
 refine zS ?_
 refine V.condP zP (fun hlt=>?_) (fun hlt=>?_)
 ·have hlt' : k<l.length:=by omega
  obtain⟨p,hp,hx⟩:=h.at hlt'
  have hx1:=hx X hg
  have hs:=sm_take hlt'
  have hbk:=hb _ (List.getElem_mem hlt')
  have hbt:=sm_bound (c:=1000000) (l:=l.take k) (fun v hv=>hb v (List.mem_of_mem_take hv))
  have hlk : (l.take k).length=k:=by rw[List.length_take];omega
  rw[hlk] at hbt
  refine zS ?_
  have zf:=And.intro @hp<|@hx1
  refine V.lz ?_
  refine zS ?_
  refine V.l0 ?_
  refine zS ?_
  refine V.l0 ?_
  rw[← hs]
  refine V.nil (Or.inl ⟨rfl,l.length-(k+1),by omega,?_⟩)
  exact⟨k+1,hlt',rfl,rfl,hg,zF,zK⟩
 ·obtain rfl : k=l.length:=by omega
  refine V.exit ?_
  refine zX ?_
  refine V.nil (Or.inr ⟨by simp,?_⟩)
  refine zX ?_
  rw[List.take_length] at hA
  refine zS ?_
  refine V.l0 ?_
  refine zS ?_
  refine V.ret (V.rets rfl (Lv.retG (by simp +contextual (disch:=first|omega|simp only[nx];omega) only[D1,cells_alloc_at,cells_alloc_ne,cells_set_at,cells_set_ne,yres,yres1,yresL,qA,qB,qC,D5,hF,hA,↓reduceIte,qD,qE];rfl) ?_ ?_))
  ·exact hg
  ·rfl
theorem f38_ow {H : Heap} {x : Value} {l : List Int} (h : Sl H x (Li l)) (hn : l.length≤1048576) : F Try.prog 38 ⟨[x]⟩ H (fun v X=>Grow H X∧Ow H X 3 v (Li l)):=by
 obtain⟨w,H',k1,k2,k3,k4⟩:=Ow.append (H0:=H) (e:=3) (bytes:=8) (s:=.slice none 0 0) (l:=[]) (.refl H) .nil h (Li_ok l) (by simp[Li_len];omega) (by simp[Li_len];omega)
 rw[List.nil_append] at k2
 refine F.entryL rfl dg38 do38 de38 rfl (by kernel_rfl) ?_
 simp only[sets]
 refine V.re [(0,x)] (N:=5) zE zY ?_
 intro t hF hA
 simp only[Kn,and_true] at hA
 refine zS ?_
 refine V.l0 ?_
 refine zS ?_
 have zf:=@k1
 refine V.lz ?_
 refine zS ?_
 refine V.ret (V.rets rfl (Lv.retF (by simp +contextual (disch:=first|omega|simp only[nx];omega) only[D1,cells_alloc_at,cells_alloc_ne,cells_set_at,cells_set_ne,yres,yres1,yresL,qA,qB,qC,D5,hF,hA,↓reduceIte,qD,qE];rfl) ?_))
 exact⟨k3,k2⟩
end Go.Xe.TRX
/- What the functions of the layer round come to: lists that are compared, the first greatest element. Conditions: none. -/
-- MOD TR
namespace Go.Xe.TRX
open Go Go.Xe Go.Proofs
open Nat renaming reduceLeDiff → qA, reduceSub → qB, reduceAdd → qC, reduceEqDiff → qD, reduceLT → qE
open Int renaming reduceNegSucc → qF, reduceEq → qG
open Go.Xe.V renaming seq → sA, block → sB, scope → sC, skip → sD, close → sE
open Go.Xe renaming pth → P
open Go.Xe.Rnd
set_option maxRecDepth 100000
set_option maxHeartbeats 3200000
set_option linter.unusedSimpArgs false
noncomputable def d79 : FCode:=(.seq (.run (.go (.move (.con (.int .i64 (.ofNat 0)))) (P 4)::
[])) (.seq (.seq (.run (.go (.move (tm 0)) (P 6)::
.go (.len 0 (tm 6)) (P 7)::
.go (.move (.con (.int .i64 (.ofNat 0)))) (P 8)::
[])) (.block 0 (.loop (.seq (.run (.go (.bin .lss 3 (tm 8) (tm 7)) (P 9)::
[])) (.seq (.cond (tm 9) .skip (.exit 0)) (.seq (.block 1 (.seq (.run (.go (.move (tm 8)) (P 10)::
.go (.move (tm 10)) (P 5)::
[])) (.seq (.run (.go (.move (tm 1)) (P 11)::
.go (.move (tm 0)) (P 12)::
.go (.move (tm 5)) (P 13)::
.go (.indexAddr none 1 (tm 12) (tm 13)) (P 14)::
.go (.load1 (tm 14)) (P 15)::
.go (.bin .eql 3 (tm 11) (tm 15)) (P 16)::
[])) (.cond (tm 16) (.seq (.run (.go (.move (tm 5)) (P 17)::
.go (.move (tm 17)) (P 4)::
[])) .ret) .skip)))) (.run (.go (.bin .add 3 (tm 8) (.con (.int .i64 (.ofNat 1)))) (P 18)::
.go (.move (tm 18)) (P 8)::
[])))))))) (.seq (.run (.go (.move (.con (.int .i64 (.negSucc 0)))) (P 4)::
[])) .ret)))
theorem de79 : @compF Try.prog (Gl.none Try.prog) Try.f79 2=.mk d79 (mkTT 19) [(P 0),(P 1)] [.tmp (P 4)]:=by kernel_rfl
theorem dg79 : Try.prog.funcs[79]?=some Try.f79:=Try.func79
theorem do79 : okF Try.prog Try.f79=true:=by kernel_rfl
noncomputable def d84 : FCode:=(.seq (.run (.go (.move (.con (.bool false))) (P 4)::
[])) (.seq (.run (.go (.move (tm 0)) (P 5)::
.go (.move (tm 1)) (P 6)::
.go (.call (.con (.func (.func 79) ⟨[]⟩ ⟨[]⟩)) [(tm 5),(tm 6)]) (P 7)::
.go (.bin .geq 3 (tm 7) (.con (.int .i64 (.ofNat 0)))) (P 8)::
.go (.move (tm 8)) (P 4)::
[])) .ret))
theorem de84 : @compF Try.prog (Gl.none Try.prog) Try.f84 2=.mk d84 (mkTT 9) [(P 0),(P 1)] [.tmp (P 4)]:=by kernel_rfl
theorem dg84 : Try.prog.funcs[84]?=some Try.f84:=Try.func84
theorem do84 : okF Try.prog Try.f84=true:=by kernel_rfl
def RI (H : Heap) (x : Value) (l : List Int) : Prop:=Sl H x (Li l)
theorem ri : RP RI:=RP.ofSl _
theorem RI.len {H : Heap} {x : Value} {l : List Int} (h : RI H x l) : ∀ X,ylen 0 X x=some (I l.length):=LS.len ⟨h⟩
theorem RI.at {H : Heap} {x : Value} {l : List Int} (h : RI H x l) {k : Nat} (hk : k<l.length) : ∃ p,yindexAddr none 1 x (I k)=some p∧∀ H',Grow H H'→yload1 H' p=some (I l[k]):=LS.at ⟨h⟩ hk
theorem f79_ok {H : Heap} {x : Value} {l : List Int} {k0 : Nat} (h : LS H x l) (hn : l.length≤1048576) (h0 : k0<l.length) (hf : ∀ j (hj : j<k0),l[j]≠l[k0]) : Gives Try.prog 79 [x,I l[k0]] H (I k0):=by
 have hl:=h.len
 refine F.entryL rfl dg79 do79 de79 rfl (by kernel_rfl) ?_
 simp only[sets]
 refine V.re [(0,x),(1,I l[k0])] (N:=19) zE zY ?_
 intro t hF hA
 simp only[Kn,and_true] at hA
 refine zS ?_
 refine V.l0 ?_
 refine zS ?_
 have zf:=@hl
 refine V.lz ?_
 refine zS ?_
 refine V.loop (fun z t m X=>∃ (k : Nat),k≤k0∧z=l.length-k∧m=[]∧Grow H X∧Full 19 t∧Kn [(0,x),(1,I l[k0]),(7,I l.length),(8,I k)] t) l.length ?_ ?_
 ·exact⟨0,by omega,by omega,rfl,.refl _,zF,zK⟩
 clear hF hA
 rintro z t m X ⟨k,hk,rfl,rfl,hg,hF,hA⟩
 simp only[Kn,and_true] at hA
 have hlt' : k<l.length:=by omega
 obtain⟨p,hp,hx⟩:=h.at hlt'
 have hx1:=hx X hg
 refine zS ?_
 refine V.l0 ?_
 refine zS ?_
 refine V.condP zP (fun hlt=>?_) (fun hlt=>?_)
 ·refine zS ?_
  refine V.l0 ?_
  refine zS ?_
  have zf:=And.intro @hp<|@hx1
  refine V.lz ?_
  refine zS ?_
  refine V.condP zP (fun he=>?_) (fun he=>?_)
  ·have hkk : k=k0:=by
    by_cases hh : k<k0
    ·exact absurd he.symm (hf k hh)
    ·omega
   subst hkk
   refine zS ?_
   refine V.l0 ?_
   refine zS ?_
   refine V.ret (V.rets rfl (Or.inr ⟨by simp,V.rets rfl (Lv.retG (by simp +contextual (disch:=first|omega|simp only[nx];omega) only[D1,cells_alloc_at,cells_alloc_ne,cells_set_at,cells_set_ne,yres,yres1,yresL,qA,qB,qC,D5,hF,hA,↓reduceIte,qD,qE];rfl) ?_ ?_)⟩))
   ·exact hg
   ·rfl
  ·have hkk : k≠k0:=by rintro rfl;exact he rfl
   refine zS ?_
   refine V.l0 ?_
   refine V.nil (Or.inl ⟨rfl,l.length-(k+1),by omega,?_⟩)
   exact⟨k+1,by omega,rfl,rfl,hg,zF,zK⟩
 ·omega
theorem f79_no {H : Heap} {x : Value} {l : List Int} {v : Int} (h : LS H x l) (hn : l.length≤1048576) (hv : v∉l) : Gives Try.prog 79 [x,I v] H (I (-1)):=by
 have hl:=h.len
 refine F.entryL rfl dg79 do79 de79 rfl (by kernel_rfl) ?_
 simp only[sets]
 refine V.re [(0,x),(1,I v)] (N:=19) zE zY ?_
 intro t hF hA
 simp only[Kn,and_true] at hA
 refine zS ?_
 refine V.l0 ?_
 refine zS ?_
 have zf:=@hl
 refine V.lz ?_
 refine zS ?_
 refine V.loop (fun z t m X=>∃ (k : Nat),k≤l.length∧z=l.length-k∧m=[]∧Grow H X∧Full 19 t∧Kn [(0,x),(1,I v),(7,I l.length),(8,I k)] t) l.length ?_ ?_
 ·exact⟨0,by omega,by omega,rfl,.refl _,zF,zK⟩
 clear hF hA
 rintro z t m X ⟨k,hk,rfl,rfl,hg,hF,hA⟩
 simp only[Kn,and_true] at hA
 refine zS ?_
 refine V.l0 ?_
 refine zS ?_
 refine V.condP zP (fun hlt=>?_) (fun hlt=>?_)
 ·have hlt' : k<l.length:=by omega
  obtain⟨p,hp,hx⟩:=h.at hlt'
  have hx1:=hx X hg
  have hne : ¬ v=l[k]:=fun e=>hv (e ▸ List.getElem_mem hlt')
  refine zS ?_
  refine V.l0 ?_
  refine zS ?_
  have zf:=And.intro @hp<|@hx1
  refine V.lz ?_
  refine zS ?_
  refine V.condP zP (fun he=>?_) (fun he=>?_)
  ·exact absurd he hne
  ·refine zS ?_
   refine V.l0 ?_
   refine V.nil (Or.inl ⟨rfl,l.length-(k+1),by omega,?_⟩)
   exact⟨k+1,by omega,rfl,rfl,hg,zF,zK⟩
 ·refine V.exit ?_
  refine zX ?_
  refine V.nil (Or.inr ⟨by simp,?_⟩)
  refine zX ?_
  refine zS ?_
  refine V.l0 ?_
  refine zS ?_
  refine V.ret (V.rets rfl (Lv.retG (by simp +contextual (disch:=first|omega|simp only[nx];omega) only[D1,cells_alloc_at,cells_alloc_ne,cells_set_at,cells_set_ne,yres,yres1,yresL,qA,qB,qC,D5,hF,hA,↓reduceIte,qD,qE];rfl) ?_ ?_))
  ·exact hg
  ·rfl
theorem first_at {v : Int} : ∀ {l : List Int},v∈l→∃ k0,∃ h0 : k0<l.length,l[k0]=v∧∀ j (hj : j<k0),l[j]'(Nat.lt_trans hj h0)≠v
 | [],h=>by simp at h
 | x::l,h=>by
  by_cases e : x=v
  ·exact⟨0,by simp,e,fun j hj=>by omega⟩
  ·obtain⟨k,h1,h2,h3⟩:=first_at (l:=l) (by
    rcases List.mem_cons.1 h with h|h
    ·exact absurd h.symm e
    ·exact h)
   refine⟨k+1,by simp only[List.length_cons];omega,by simpa using h2,fun j hj=>?_⟩
   cases j with
   | zero=>simpa using e
   | succ j=>simpa using h3 j (by omega)
theorem f84_ok {H : Heap} {x : Value} {l : List Int} (v : Int) (h : LS H x l) (hn : l.length≤1048576) : Gives Try.prog 84 [x,I v] H (.bool (decide (v∈l))):=by
 by_cases hv : v∈l
 ·obtain⟨k0,h0,e0,hf⟩:=first_at hv
  subst e0
  rw[decide_eq_true hv]
  refine F.entryL rfl dg84 do84 de84 rfl (by kernel_rfl) ?_
  simp only[sets]
  refine V.re [(0,x),(1,I l[k0])] (N:=9) zE zY ?_
  intro t hF hA
  simp only[Kn,and_true] at hA
  refine zS ?_
  refine V.l0 ?_
  refine zS ?_
  refine V.run ?_
  refine VI.s0 2 ?_
  simp only[ds]
  refine VI.callA rfl (f79_ok h hn h0 hf) zA (fun H2 g2=>?_)
  refine VI.l0 ?_
  refine zS ?_
  refine V.ret (V.rets rfl (Lv.retG (by simp +contextual (disch:=first|omega|simp only[nx];omega) only[D1,cells_alloc_at,cells_alloc_ne,cells_set_at,cells_set_ne,yres,yres1,yresL,qA,qB,qC,D5,hF,hA,↓reduceIte,qD,qE];rfl) ?_ ?_))
  ·exact g2
  ·exact congrArg _ (decide_eq_true (by omega))
 ·rw[decide_eq_false hv]
  refine F.entryL rfl dg84 do84 de84 rfl (by kernel_rfl) ?_
  simp only[sets]
  refine V.re [(0,x),(1,I v)] (N:=9) zE zY ?_
  intro t hF hA
  simp only[Kn,and_true] at hA
  refine zS ?_
  refine V.l0 ?_
  refine zS ?_
  refine V.run ?_
  refine VI.s0 2 ?_
  simp only[ds]
  refine VI.callA rfl (f79_no h hn hv) zA (fun H2 g2=>?_)
  refine VI.l0 ?_
  refine zS ?_
  refine V.ret (V.rets rfl (Lv.retG (by simp +contextual (disch:=first|omega|simp only[nx];omega) only[D1,cells_alloc_at,cells_alloc_ne,cells_set_at,cells_set_ne,yres,yres1,yresL,qA,qB,qC,D5,hF,hA,↓reduceIte,qD,qE];rfl) ?_ ?_))
  ·exact g2
  ·rfl
end Go.Xe.TRX
