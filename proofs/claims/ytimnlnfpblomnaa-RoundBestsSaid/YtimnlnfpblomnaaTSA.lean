/- What the functions of the layer round come to: lists that are compared, the first greatest element. Conditions: none. -/
import Derived.Test.YtimnlnfpblomnaaTRZ
noncomputable section
namespace Go.Xe.TRX
open Go Go.Xe Go.Proofs
open Nat renaming reduceLeDiff ->qA, reduceSub ->qB, reduceAdd ->qC, reduceEqDiff ->qD, reduceLT ->qE
open Int renaming reduceNegSucc ->qF, reduceEq ->qG
open Go.Xe.V renaming seq ->sA, block ->sB, scope ->sC, skip ->sD, close ->sE
open Go.Xe renaming pth ->P
open Go.Xe.Rnd
set_option maxRecDepth 100000
set_option maxHeartbeats 3200000
set_option linter.unusedSimpArgs false
def d33 : FCode:=(.seq (.run (.go (.move (.con (.bool false))) (P 4)::
[])) (.seq (.seq (.run (.go (.move (tm 0)) (P 7)::
.go (.len 0 (tm 7)) (P 8)::
.go (.move (tm 1)) (P 9)::
.go (.len 0 (tm 9)) (P 10)::
.go (.bin .neq 3 (tm 8) (tm 10)) (P 11)::
[])) (.cond (tm 11) (.seq (.run (.go (.move (.con (.bool false))) (P 4)::
[])) .ret) .skip)) (.seq (.seq (.run (.go (.move (.con (.int .i64 (.ofNat 0)))) (P 5)::
[])) (.block 0 (.loop (.seq (.seq (.run (.go (.move (tm 5)) (P 12)::
.go (.move (tm 0)) (P 13)::
.go (.len 0 (tm 13)) (P 14)::
.go (.bin .lss 3 (tm 12) (tm 14)) (P 15)::
[])) (.cond (tm 15) .skip (.exit 0))) (.seq (.block 1 (.seq (.seq (.draw 11 (.go (.move (tm 0)) (P 18)::
.go (.move (tm 5)) (P 19)::
.go (.indexAddr none 1 (tm 18) (tm 19)) (P 20)::
.go (.load1 (tm 20)) (P 21)::
.go (.len 0 (tm 21)) (P 22)::
.go (.move (tm 1)) (P 23)::
.go (.move (tm 5)) (P 24)::
.go (.indexAddr none 1 (tm 23) (tm 24)) (P 25)::
.go (.load1 (tm 25)) (P 26)::
.go (.len 0 (tm 26)) (P 27)::
.go (.bin .neq 3 (tm 22) (tm 27)) (P 28)::
[]) [.ok,.ok,.ok,.ok,.ok,.ok,.ok,.ok,.ok,.ok,.ok]) (.cond (tm 28) (.seq (.run (.go (.move (.con (.bool false))) (P 4)::
[])) .ret) .skip)) (.seq (.run (.go (.move (.con (.int .i64 (.ofNat 0)))) (P 6)::
[])) (.block 2 (.loop (.seq (.seq (.run (.go (.move (tm 6)) (P 29)::
.go (.move (tm 0)) (P 30)::
.go (.move (tm 5)) (P 31)::
.go (.indexAddr none 1 (tm 30) (tm 31)) (P 32)::
.go (.load1 (tm 32)) (P 33)::
.go (.len 0 (tm 33)) (P 34)::
.go (.bin .lss 3 (tm 29) (tm 34)) (P 35)::
[])) (.cond (tm 35) .skip (.exit 2))) (.seq (.block 3 (.seq (.draw 15 (.go (.move (tm 0)) (P 38)::
.go (.move (tm 5)) (P 39)::
.go (.indexAddr none 1 (tm 38) (tm 39)) (P 40)::
.go (.load1 (tm 40)) (P 41)::
.go (.move (tm 6)) (P 42)::
.go (.indexAddr none 1 (tm 41) (tm 42)) (P 43)::
.go (.load1 (tm 43)) (P 44)::
.go (.move (tm 1)) (P 45)::
.go (.move (tm 5)) (P 46)::
.go (.indexAddr none 1 (tm 45) (tm 46)) (P 47)::
.go (.load1 (tm 47)) (P 48)::
.go (.move (tm 6)) (P 49)::
.go (.indexAddr none 1 (tm 48) (tm 49)) (P 50)::
.go (.load1 (tm 50)) (P 51)::
.go (.bin .neq 3 (tm 44) (tm 51)) (P 52)::
[]) [.ok,.ok,.ok,.ok,.ok,.ok,.ok,.ok,.ok,.ok,.ok,.ok,.ok,.ok,.ok]) (.cond (tm 52) (.seq (.run (.go (.move (.con (.bool false))) (P 4)::
[])) .ret) .skip))) (.run (.go (.move (tm 6)) (P 36)::
.go (.bin .add 3 (tm 36) (.con (.int .i64 (.ofNat 1)))) (P 37)::
.go (.move (tm 37)) (P 6)::
[]))))))))) (.run (.go (.move (tm 5)) (P 16)::
.go (.bin .add 3 (tm 16) (.con (.int .i64 (.ofNat 1)))) (P 17)::
.go (.move (tm 17)) (P 5)::
[]))))))) (.seq (.run (.go (.move (.con (.bool true))) (P 4)::
[])) .ret))))
theorem de33 : @compF Try.prog (Gl.none Try.prog) Try.f33 2=.mk d33 (mkTT 53) [(P 0),(P 1)] [.tmp (P 4)]:=by kernel_rfl
theorem dg33 : Try.prog.funcs[33]?=some Try.f33:=Try.func33
theorem do33 : okF Try.prog Try.f33=true:=by kernel_rfl
def d79 : FCode:=(.seq (.run (.go (.move (.con (.int .i64 (.ofNat 0)))) (P 4)::
[])) (.seq (.seq (.run (.go (.move (tm 0)) (P 6)::
.go (.len 0 (tm 6)) (P 7)::
.go (.move (.con (.int .i64 (.ofNat 0)))) (P 8)::
[])) (.block 0 (.loop (.seq (.run (.go (.bin .lss 3 (tm 8) (tm 7)) (P 9)::
[])) (.seq (.cond (tm 9) .skip (.exit 0)) (.seq (.block 1 (.seq (.run (.go (.move (tm 8)) (P 10)::
.go (.move (tm 10)) (P 5)::
[])) (.seq (.run (.go (.move (tm 1)) (P 11)::
.go (.move (tm 0)) (P 12)::
.go (.move (tm 5)) (P 13)::
.go (.indexAddr none 1 (tm 12) (tm 13)) (P 14)::
.go (.load1 (tm 14)) (P 15)::
.go (.bin .eql 3 (tm 11) (tm 15)) (P 16)::
[])) (.cond (tm 16) (.seq (.run (.go (.move (tm 5)) (P 17)::
.go (.move (tm 17)) (P 4)::
[])) .ret) .skip)))) (.run (.go (.bin .add 3 (tm 8) (.con (.int .i64 (.ofNat 1)))) (P 18)::
.go (.move (tm 18)) (P 8)::
[])))))))) (.seq (.run (.go (.move (.con (.int .i64 (.negSucc 0)))) (P 4)::
[])) .ret)))
theorem de79 : @compF Try.prog (Gl.none Try.prog) Try.f79 2=.mk d79 (mkTT 19) [(P 0),(P 1)] [.tmp (P 4)]:=by kernel_rfl
theorem dg79 : Try.prog.funcs[79]?=some Try.f79:=Try.func79
theorem do79 : okF Try.prog Try.f79=true:=by kernel_rfl
def d84 : FCode:=(.seq (.run (.go (.move (.con (.bool false))) (P 4)::
[])) (.seq (.run (.go (.move (tm 0)) (P 5)::
.go (.move (tm 1)) (P 6)::
.go (.call (.con (.func (.func 79) ⟨[]⟩ ⟨[]⟩)) [(tm 5),(tm 6)]) (P 7)::
.go (.bin .geq 3 (tm 7) (.con (.int .i64 (.ofNat 0)))) (P 8)::
.go (.move (tm 8)) (P 4)::
[])) .ret))
theorem de84 : @compF Try.prog (Gl.none Try.prog) Try.f84 2=.mk d84 (mkTT 9) [(P 0),(P 1)] [.tmp (P 4)]:=by kernel_rfl
theorem dg84 : Try.prog.funcs[84]?=some Try.f84:=Try.func84
theorem do84 : okF Try.prog Try.f84=true:=by kernel_rfl
def d80 : FCode:=(.seq (.run (.go (.move (.con (.int .i64 (.ofNat 0)))) (P 4)::
[])) (.seq (.seq (.run (.go (.move (tm 1)) (P 7)::
.go (.len 0 (tm 7)) (P 8)::
.go (.move (.con (.int .i64 (.ofNat 0)))) (P 9)::
[])) (.block 0 (.loop (.seq (.run (.go (.bin .lss 3 (tm 9) (tm 8)) (P 10)::
[])) (.seq (.cond (tm 10) .skip (.exit 0)) (.seq (.block 1 (.seq (.run (.go (.indexAddr none 1 (tm 7) (tm 9)) (P 11)::
.go (.load1 (tm 11)) (P 12)::
.go (.move (tm 12)) (P 6)::
[])) (.run (.go (.move (tm 0)) (P 13)::
.go (.move (tm 6)) (P 14)::
.go (.mm false [(tm 13),(tm 14)]) (P 15)::
.go (.move (tm 15)) (P 0)::
[])))) (.run (.go (.bin .add 3 (tm 9) (.con (.int .i64 (.ofNat 1)))) (P 16)::
.go (.move (tm 16)) (P 9)::
[])))))))) (.seq (.run (.go (.move (tm 0)) (P 17)::
.go (.move (tm 17)) (P 4)::
[])) .ret)))
theorem de80 : @compF Try.prog (Gl.none Try.prog) Try.f80 2=.mk d80 (mkTT 18) [(P 0),(P 1)] [.tmp (P 4)]:=by kernel_rfl
theorem dg80 : Try.prog.funcs[80]?=some Try.f80:=Try.func80
theorem do80 : okF Try.prog Try.f80=true:=by kernel_rfl
def RI (H : Heap) (x : Value) (l : List Int) : Prop:=Sl H x (Li l)
theorem ri : RP RI:=RP.ofSl _
theorem RI.len {H : Heap} {x : Value} {l : List Int} (h : RI H x l) : ∀ X,ylen 0 X x=some (I l.length):=LS.len ⟨h⟩
theorem RI.at {H : Heap} {x : Value} {l : List Int} (h : RI H x l) {k : Nat} (hk : k<l.length) : ∃ p,yindexAddr none 1 x (I k)=some p/\∀ H',Grow H H'->yload1 H' p=some (I l[k]):=LS.at ⟨h⟩ hk
theorem f33_ok {H : Heap} {v y : Value} {A B : List (List Int)} (hv : Nest RI H v A) (hy : Nest RI H y B) (hn : A.length<=1048576) (hr : ∀ row∈A,row.length<=1048576) : Gives Try.prog 33 [v,y] H (.bool (decide (A=B))):=by
 have hl1:=hv.len
 have hl2:=hy.len
 refine F.entryL rfl dg33 do33 de33 rfl (by kernel_rfl) ?_
 simp only[sets]
 refine V.re [(0,v),(1,y)] (N:=53) zE zY ?_
 intro t hF hA
 simp only[Kn,and_true] at hA
 refine zS ?_
 refine V.l0 ?_
 refine zS ?_
 have zf:=aI @hl1<|@hl2
 refine V.lz ?_
 refine zS ?_
 refine V.condP zP (λhne=>?_) (λhne=>?_)
 ·refine zS ?_
  refine V.l0 ?_
  refine zS ?_
  refine V.ret (V.rets rfl (Lv.retG (by simp +contextual (disch:=first|omega|simp only[nx];omega) only[D1,cells_alloc_at,cells_alloc_ne,cells_set_at,cells_set_ne,yres,yres1,yresL,qA,qB,qC,D5,hF,hA,↓reduceIte,qD,qE];rfl) ?_ ?_))
  ·exact .refl _
  ·congr 1
   exact (decide_eq_false (λhh=>hne (by rw[hh]))).symm
 have hlen : A.length=B.length:=by omega
 refine zS ?_
 refine V.l0 ?_
 refine zS ?_
 refine V.loop (λz t m X=>∃ (k : Nat),k<=A.length/\z=A.length-k/\m=[]/\Grow H X/\A.take k=B.take k/\Full 53 t/\Kn [(0,v),(1,y),(5,I k)] t) A.length ?_ ?_
 ·exact⟨0,by omega,by omega,rfl,.refl _,by simp,zF,zK⟩
 clear hF hA
 rintro z t m X ⟨k,hk,rfl,rfl,hg,hall,hF,hA⟩
 simp only[Kn,and_true] at hA
 refine zS ?_
 have zf:=@hl1
 refine V.lz ?_
 refine zS ?_
 refine V.condP zP (λhlt=>?_) (λhlt=>?_)
 ·have hlt' : k<A.length:=by omega
  have hlt2 : k<B.length:=by omega
  obtain⟨p,x,hp,hx⟩:=hv.at ri hlt'
  obtain⟨q,u,hq,hu⟩:=hy.at ri hlt2
  have hpk:=hp .i64
  have hqk:=hq .i64
  obtain⟨hx1,hx2⟩:=hx X hg
  obtain⟨hu1,hu2⟩:=hu X hg
  have hlx:=hx2.len
  have hlu:=hu2.len
  have hrk:=hr _ (List.getElem_mem hlt')
  refine zS ?_
  have zf:=aI @hpk<|aI @hx1<|aI @hlx<|aI @hqk<|aI @hu1<|@hlu
  refine V.dz ?_ ?_ rfl ?_
  ·exact zM
  ·simp only[dcAll,dcOk,wantD,List.cons_append,List.nil_append,true_and,and_true]
  refine zS ?_
  refine V.condP zP (λhw=>?_) (λhw=>?_)
  ·refine zS ?_
   refine V.l0 ?_
   refine zS ?_
   refine V.ret (V.rets rfl (Or.inr ⟨by simp,V.rets rfl (Lv.retG (by simp +contextual (disch:=first|omega|simp only[nx];omega) only[D1,cells_alloc_at,cells_alloc_ne,cells_set_at,cells_set_ne,yres,yres1,yresL,qA,qB,qC,D5,hF,hA,↓reduceIte,qD,qE];rfl) ?_ ?_)⟩))
   ·exact hg
   ·congr 1
    exact (decide_eq_false (λhh=>hw (by subst hh;rfl))).symm
  have hlr : (A[k]).length=(B[k]).length:=by omega
  refine zS ?_
  refine V.l0 ?_
  refine zS ?_
  refine V.re [(0,v),(1,y),(5,I k),(6,I 0)] (N:=53) zF zK ?_
  clear hF hA
  intro t hF hA
  simp only[Kn,and_true] at hA
  refine V.loop (λz t m Y=>∃ (j : Nat),j<=(A[k]).length/\z=(A[k]).length-j/\m=[]/\Y=X/\(A[k]).take j=(B[k]).take j/\Full 53 t/\Kn [(0,v),(1,y),(5,I k),(6,I j)] t) (A[k]).length ?_ ?_
  ·exact⟨0,by omega,by omega,rfl,rfl,by simp,zF,zK⟩
  clear hF hA
  rintro z t m Y ⟨j,hj,rfl,rfl,rfl,hallj,hF,hA⟩
  simp only[Kn,and_true] at hA
  refine zS ?_
  have zf:=aI @hpk<|aI @hx1<|@hlx
  refine V.lz ?_
  refine zS ?_
  refine V.condP zP (λhlj=>?_) (λhlj=>?_)
  ·have hlj1 : j<(A[k]).length:=by omega
   have hlj2 : j<(B[k]).length:=by omega
   obtain⟨p2,hp2,hxx⟩:=hx2.at hlj1
   obtain⟨q2,hq2,huu⟩:=hu2.at hlj2
   have hx3:=hxx Y (.refl _)
   have hu3:=huu Y (.refl _)
   refine zS ?_
   have zf:=aI @hpk<|aI @hx1<|aI @hp2<|aI @hx3<|aI @hqk<|aI @hu1<|aI @hq2<|@hu3
   refine V.dz ?_ ?_ rfl ?_
   ·exact zM
   ·simp only[dcAll,dcOk,wantD,List.cons_append,List.nil_append,true_and,and_true]
   refine zS ?_
   refine V.condP zP (λhw2=>?_) (λhw2=>?_)
   ·refine zS ?_
    refine V.l0 ?_
    refine zS ?_
    refine V.ret (V.rets rfl (Or.inr ⟨by simp,V.rets rfl (Or.inr ⟨by simp,V.rets rfl (Lv.retG (by simp +contextual (disch:=first|omega|simp only[nx];omega) only[D1,cells_alloc_at,cells_alloc_ne,cells_set_at,cells_set_ne,yres,yres1,yresL,qA,qB,qC,D5,hF,hA,↓reduceIte,qD,qE];rfl) ?_ ?_)⟩)⟩))
    ·exact hg
    ·congr 1
     exact (decide_eq_false (λhh=>hw2 (by subst hh;rfl))).symm
   ·refine zS ?_
    refine V.l0 ?_
    refine V.nil (Or.inl ⟨rfl,(A[k]).length-(j+1),by omega,?_⟩)
    refine⟨j+1,by omega,rfl,rfl,rfl,?_,zF,zK⟩
    rw[tk1 hlj1,tk1 hlj2,hallj,Decidable.not_not.1 hw2]
  ·refine V.exit ?_
   refine zX ?_
   refine V.nil (Or.inr ⟨by simp,?_⟩)
   refine zX ?_
   refine zS ?_
   refine V.l0 ?_
   refine V.nil (Or.inl ⟨rfl,A.length-(k+1),by omega,?_⟩)
   refine⟨k+1,by omega,rfl,rfl,hg,?_,zF,zK⟩
   rw[List.take_of_length_le (by omega),List.take_of_length_le (by omega)] at hallj
   rw[tk1 hlt',tk1 hlt2,hall,hallj]
 ·refine V.exit ?_
  refine zX ?_
  refine V.nil (Or.inr ⟨by simp,?_⟩)
  refine zX ?_
  rw[List.take_of_length_le (by omega),List.take_of_length_le (by omega)] at hall
  refine zS ?_
  refine V.l0 ?_
  refine zS ?_
  refine V.ret (V.rets rfl (Lv.retG (by simp +contextual (disch:=first|omega|simp only[nx];omega) only[D1,cells_alloc_at,cells_alloc_ne,cells_set_at,cells_set_ne,yres,yres1,yresL,qA,qB,qC,D5,hF,hA,↓reduceIte,qD,qE];rfl) ?_ ?_))
  ·exact hg
  ·rw[decide_eq_true hall]
theorem f79_ok {H : Heap} {x : Value} {l : List Int} {k0 : Nat} (h : LS H x l) (hn : l.length<=1048576) (h0 : k0<l.length) (hf : ∀ j (hj : j<k0),l[j]≠l[k0]) : Gives Try.prog 79 [x,I l[k0]] H (I k0):=by
 have hl:=h.len
 refine F.entryL rfl dg79 do79 de79 rfl (by kernel_rfl) ?_
 simp only[sets]
 refine V.re [(0,x),(1,I l[k0])] (N:=19) zE zY ?_
 intro t hF hA
 simp only[Kn,and_true] at hA
 refine zS ?_
 refine V.l0 ?_
 refine zS ?_
 have zf:=@hl
 refine V.lz ?_
 refine zS ?_
 refine V.loop (λz t m X=>∃ (k : Nat),k<=k0/\z=l.length-k/\m=[]/\Grow H X/\Full 19 t/\Kn [(0,x),(1,I l[k0]),(7,I l.length),(8,I k)] t) l.length ?_ ?_
 ·exact⟨0,by omega,by omega,rfl,.refl _,zF,zK⟩
 clear hF hA
 rintro z t m X ⟨k,hk,rfl,rfl,hg,hF,hA⟩
 simp only[Kn,and_true] at hA
 have hlt' : k<l.length:=by omega
 obtain⟨p,hp,hx⟩:=h.at hlt'
 have hx1:=hx X hg
 refine zS ?_
 refine V.l0 ?_
 refine zS ?_
 refine V.condP zP (λhlt=>?_) (λhlt=>?_)
 ·refine zS ?_
  refine V.l0 ?_
  refine zS ?_
  have zf:=aI @hp<|@hx1
  refine V.lz ?_
  refine zS ?_
  refine V.condP zP (λhe=>?_) (λhe=>?_)
  ·have hkk : k=k0:=by
    by_cases hh : k<k0
    ·exact absurd he.symm (hf k hh)
    ·omega
   subst hkk
   refine zS ?_
   refine V.l0 ?_
   refine zS ?_
   refine V.ret (V.rets rfl (Or.inr ⟨by simp,V.rets rfl (Lv.retG (by simp +contextual (disch:=first|omega|simp only[nx];omega) only[D1,cells_alloc_at,cells_alloc_ne,cells_set_at,cells_set_ne,yres,yres1,yresL,qA,qB,qC,D5,hF,hA,↓reduceIte,qD,qE];rfl) ?_ ?_)⟩))
   ·exact hg
   ·rfl
  ·have hkk : k≠k0:=by rintro rfl;exact he rfl
   refine zS ?_
   refine V.l0 ?_
   refine V.nil (Or.inl ⟨rfl,l.length-(k+1),by omega,?_⟩)
   exact⟨k+1,by omega,rfl,rfl,hg,zF,zK⟩
 ·omega
theorem f79_no {H : Heap} {x : Value} {l : List Int} {v : Int} (h : LS H x l) (hn : l.length<=1048576) (hv : v∉l) : Gives Try.prog 79 [x,I v] H (I (-1)):=by
 have hl:=h.len
 refine F.entryL rfl dg79 do79 de79 rfl (by kernel_rfl) ?_
 simp only[sets]
 refine V.re [(0,x),(1,I v)] (N:=19) zE zY ?_
 intro t hF hA
 simp only[Kn,and_true] at hA
 refine zS ?_
 refine V.l0 ?_
 refine zS ?_
 have zf:=@hl
 refine V.lz ?_
 refine zS ?_
 refine V.loop (λz t m X=>∃ (k : Nat),k<=l.length/\z=l.length-k/\m=[]/\Grow H X/\Full 19 t/\Kn [(0,x),(1,I v),(7,I l.length),(8,I k)] t) l.length ?_ ?_
 ·exact⟨0,by omega,by omega,rfl,.refl _,zF,zK⟩
 clear hF hA
 rintro z t m X ⟨k,hk,rfl,rfl,hg,hF,hA⟩
 simp only[Kn,and_true] at hA
 refine zS ?_
 refine V.l0 ?_
 refine zS ?_
 refine V.condP zP (λhlt=>?_) (λhlt=>?_)
 ·have hlt' : k<l.length:=by omega
  obtain⟨p,hp,hx⟩:=h.at hlt'
  have hx1:=hx X hg
  have hne : ¬ v=l[k]:=λe=>hv (e ▸ List.getElem_mem hlt')
  refine zS ?_
  refine V.l0 ?_
  refine zS ?_
  have zf:=aI @hp<|@hx1
  refine V.lz ?_
  refine zS ?_
  refine V.condP zP (λhe=>?_) (λhe=>?_)
  ·exact absurd he hne
  ·refine zS ?_
   refine V.l0 ?_
   refine V.nil (Or.inl ⟨rfl,l.length-(k+1),by omega,?_⟩)
   exact⟨k+1,by omega,rfl,rfl,hg,zF,zK⟩
 ·refine V.exit ?_
  refine zX ?_
  refine V.nil (Or.inr ⟨by simp,?_⟩)
  refine zX ?_
  refine zS ?_
  refine V.l0 ?_
  refine zS ?_
  refine V.ret (V.rets rfl (Lv.retG (by simp +contextual (disch:=first|omega|simp only[nx];omega) only[D1,cells_alloc_at,cells_alloc_ne,cells_set_at,cells_set_ne,yres,yres1,yresL,qA,qB,qC,D5,hF,hA,↓reduceIte,qD,qE];rfl) ?_ ?_))
  ·exact hg
  ·rfl
theorem first_at {v : Int} : ∀ {l : List Int},v∈l->∃ k0,∃ h0 : k0<l.length,l[k0]=v/\∀ j (hj : j<k0),l[j]'(Nat.lt_trans hj h0)≠v
 | [],h=>by simp at h
 | x::l,h=>by
  by_cases e : x=v
  ·exact⟨0,by simp,e,λj hj=>by omega⟩
  ·obtain⟨k,h1,h2,h3⟩:=first_at (l:=l) (by
    rcases List.mem_cons.1 h with h|h
    ·exact absurd h.symm e
    ·exact h)
   refine⟨k+1,by simp only[List.length_cons];omega,by simpa using h2,λj hj=>?_⟩
   cases j with
   | zero=>simpa using e
   | succ j=>simpa using h3 j (by omega)
theorem f84_ok {H : Heap} {x : Value} {l : List Int} (v : Int) (h : LS H x l) (hn : l.length<=1048576) : Gives Try.prog 84 [x,I v] H (.bool (decide (v∈l))):=by
 by_cases hv : v∈l
 ·obtain⟨k0,h0,e0,hf⟩:=first_at hv
  subst e0
  rw[decide_eq_true hv]
  refine F.entryL rfl dg84 do84 de84 rfl (by kernel_rfl) ?_
  simp only[sets]
  refine V.re [(0,x),(1,I l[k0])] (N:=9) zE zY ?_
  intro t hF hA
  simp only[Kn,and_true] at hA
  refine zS ?_
  refine V.l0 ?_
  refine zS ?_
  refine V.run ?_
  refine VI.s0 2 ?_
  simp only[ds]
  refine VI.callA rfl (f79_ok h hn h0 hf) zA (λH2 g2=>?_)
  refine VI.l0 ?_
  refine zS ?_
  refine V.ret (V.rets rfl (Lv.retG (by simp +contextual (disch:=first|omega|simp only[nx];omega) only[D1,cells_alloc_at,cells_alloc_ne,cells_set_at,cells_set_ne,yres,yres1,yresL,qA,qB,qC,D5,hF,hA,↓reduceIte,qD,qE];rfl) ?_ ?_))
  ·exact g2
  ·exact congrArg _ (decide_eq_true (by omega))
 ·rw[decide_eq_false hv]
  refine F.entryL rfl dg84 do84 de84 rfl (by kernel_rfl) ?_
  simp only[sets]
  refine V.re [(0,x),(1,I v)] (N:=9) zE zY ?_
  intro t hF hA
  simp only[Kn,and_true] at hA
  refine zS ?_
  refine V.l0 ?_
  refine zS ?_
  refine V.run ?_
  refine VI.s0 2 ?_
  simp only[ds]
  refine VI.callA rfl (f79_no h hn hv) zA (λH2 g2=>?_)
  refine VI.l0 ?_
  refine zS ?_
  refine V.ret (V.rets rfl (Lv.retG (by simp +contextual (disch:=first|omega|simp only[nx];omega) only[D1,cells_alloc_at,cells_alloc_ne,cells_set_at,cells_set_ne,yres,yres1,yresL,qA,qB,qC,D5,hF,hA,↓reduceIte,qD,qE];rfl) ?_ ?_))
  ·exact g2
  ·rfl
def lst (a : Int) : List Int->Int
 | []=>a
 | x::l=>lst (min a x) l
theorem lst_app (a : Int) : ∀ (l r : List Int),lst a (l++r)=lst (lst a l) r:=by
 intro l
 induction l generalizing a with
 | nil=>intro r;rfl
 | cons x l ih=>intro r;simp only[List.cons_append,lst,ih]
theorem f80_ok {H : Heap} {x : Value} {l : List Int} (a : Int) (h : LS H x l) (hn : l.length<=1048576) : Gives Try.prog 80 [I a,x] H (I (lst a l)):=by
 have hl:=h.len
 refine F.entryL rfl dg80 do80 de80 rfl (by kernel_rfl) ?_
 simp only[sets]
 refine V.re [(0,I a),(1,x)] (N:=18) zE zY ?_
 intro t hF hA
 simp only[Kn,and_true] at hA
 refine zS ?_
 refine V.l0 ?_
 refine zS ?_
 have zf:=@hl
 refine V.lz ?_
 refine zS ?_
 refine V.loop (λz t m X=>∃ (k : Nat),k<=l.length/\z=l.length-k/\m=[]/\Grow H X/\Full 18 t/\Kn [(0,I (lst a (l.take k))),(7,x),(8,I l.length),(9,I k)] t) l.length ?_ ?_
 ·exact⟨0,by omega,by omega,rfl,.refl _,zF,zK⟩
 clear hF hA
 rintro z t m X ⟨k,hk,rfl,rfl,hg,hF,hA⟩
 simp only[Kn,and_true] at hA
 refine zS ?_
 refine V.l0 ?_
 refine zS ?_
 refine V.condP zP (λhlt=>?_) (λhlt=>?_)
 ·have hlt' : k<l.length:=by omega
  obtain⟨p,hp,hx⟩:=h.at hlt'
  have hx1:=hx X hg
  have hs : (if l[k]<lst a (l.take k) then l[k] else lst a (l.take k))=lst a (l.take (k+1)):=by
   rw[tk1 hlt',lst_app]
   simp only[lst]
   split<;>omega
  refine zS ?_
  have zf:=aI @hp<|@hx1
  refine V.lz ?_
  refine zS ?_
  have zf:=@hs
  refine V.lz ?_
  refine zS ?_
  refine V.l0 ?_
  refine V.nil (Or.inl ⟨rfl,l.length-(k+1),by omega,?_⟩)
  exact⟨k+1,hlt',rfl,rfl,hg,zF,zK⟩
 ·obtain rfl : k=l.length:=by omega
  refine V.exit ?_
  refine zX ?_
  refine V.nil (Or.inr ⟨by simp,?_⟩)
  refine zX ?_
  rw[List.take_length] at hA
  refine zS ?_
  refine V.l0 ?_
  refine zS ?_
  refine V.ret (V.rets rfl (Lv.retG (by simp +contextual (disch:=first|omega|simp only[nx];omega) only[D1,cells_alloc_at,cells_alloc_ne,cells_set_at,cells_set_ne,yres,yres1,yresL,qA,qB,qC,D5,hF,hA,↓reduceIte,qD,qE];rfl) ?_ ?_))
  ·exact hg
  ·rfl
end Go.Xe.TRX
end
