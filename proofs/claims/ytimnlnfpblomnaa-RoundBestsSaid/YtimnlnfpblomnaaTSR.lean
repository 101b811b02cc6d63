/- What the functions of the layer round come to: the reference's sums, and fixes. Conditions: none. -/
import Derived.Test.YtimnlnfpblomnaaTSQ
noncomputable section
namespace Go.Xe.TRX
open Go Go.Xe Go.Proofs
open Nat renaming reduceLeDiff ->qA, reduceSub ->qB, reduceAdd ->qC, reduceEqDiff ->qD, reduceLT ->qE
open Int renaming reduceNegSucc ->qF, reduceEq ->qG
open Go.Xe.V renaming seq ->sA, block ->sB, scope ->sC, skip ->sD, close ->sE
open Go.Xe renaming pth ->P
open Go.Xe.Rnd
set_option maxRecDepth 100000
set_option maxHeartbeats 3200000
set_option linter.unusedSimpArgs false
def d53 : FCode:=(.seq (.run (.go (.box 25 (tm 0)) (P 2)::
.go (.move (.con (.bool false))) (P 4)::
[])) (.seq (.seq (.run (.go (.move (.con (.int .i64 (.ofNat 0)))) (P 5)::
[])) (.block 0 (.loop (.seq (.seq (.run (.go (.move (tm 5)) (P 7)::
.go (.fieldAddr 2 (tm 2)) (P 8)::
.go (.load1 (tm 8)) (P 9)::
.go (.len 0 (tm 9)) (P 10)::
.go (.bin .lss 3 (tm 7) (tm 10)) (P 11)::
[])) (.cond (tm 11) .skip (.exit 0))) (.seq (.block 1 (.seq (.run (.go (.fieldAddr 2 (tm 2)) (P 14)::
.go (.load1 (tm 14)) (P 15)::
.go (.move (tm 5)) (P 16)::
.go (.indexAddr none 3 (tm 15) (tm 16)) (P 17)::
.go (.loadN 3 (tm 17)) (P 18)::
.go (.alloc 76 [(.int .i64 (.ofNat 0)),(.int .i64 (.ofNat 0)),(.int .i64 (.ofNat 0))]) (P 6)::
.un (.store 3 (tm 6) (tm 18))::
[])) (.seq (.draw 12 (.go (.move (tm 1)) (P 19)::
.go (.fieldAddr 0 (tm 6)) (P 20)::
.go (.load1 (tm 20)) (P 21)::
.go (.indexAddr none 1 (tm 19) (tm 21)) (P 22)::
.go (.load1 (tm 22)) (P 23)::
.go (.fieldAddr 1 (tm 6)) (P 24)::
.go (.load1 (tm 24)) (P 25)::
.go (.indexAddr none 1 (tm 23) (tm 25)) (P 26)::
.go (.load1 (tm 26)) (P 27)::
.go (.fieldAddr 2 (tm 6)) (P 28)::
.go (.load1 (tm 28)) (P 29)::
.go (.bin .neq 3 (tm 27) (tm 29)) (P 30)::
[]) [.ok,.ok,.ok,.ok,.ok,.ok,.ok,.ok,.ok,.ok,.ok,.ok]) (.cond (tm 30) (.seq (.run (.go (.move (.con (.bool false))) (P 4)::
[])) .ret) .skip)))) (.run (.go (.move (tm 5)) (P 12)::
.go (.bin .add 3 (tm 12) (.con (.int .i64 (.ofNat 1)))) (P 13)::
.go (.move (tm 13)) (P 5)::
[]))))))) (.seq (.run (.go (.move (.con (.bool true))) (P 4)::
[])) .ret)))
theorem de53 : @compF Try.prog (Gl.none Try.prog) Try.f53 2=.mk d53 (mkTT 31) [(P 0),(P 1)] [.tmp (P 4)]:=by kernel_rfl
theorem dg53 : Try.prog.funcs[53]?=some Try.f53:=Try.func53
theorem do53 : okF Try.prog Try.f53=true:=by kernel_rfl
def d54 : FCode:=(.seq (.run (.go (.move (.con (.slice none 0 0))) (P 2)::
.go (.move (.con (.slice none 0 0))) (P 3)::
.go (.move (.con (.int .i64 (.ofNat 0)))) (P 4)::
[])) (.seq (.draw 11 (.go (.move (tm 0)) (P 10)::
.go (.len 0 (tm 10)) (P 11)::
.go (.move (tm 0)) (P 13)::
.go (.indexAddr none 1 (tm 13) (.con (.int .i64 (.ofNat 0)))) (P 14)::
.go (.load1 (tm 14)) (P 15)::
.go (.len 0 (tm 15)) (P 16)::
.go (.move (.con (.int .i64 (.ofNat 0)))) (P 7)::
.go (.makeSlice 3 1 8 [(.int .i64 (.ofNat 0))] (tm 11) (tm 11)) (P 12)::
.go (.makeSlice 3 1 8 [(.int .i64 (.ofNat 0))] (tm 16) (tm 16)) (P 17)::
.go (.move (tm 12)) (P 5)::
.go (.move (tm 17)) (P 6)::
[]) [.ok,.ok,.nw none (some (P 12)) 7 true,.ok,.ok,.ok,.ok,.nw none (some (P 17)) 8 true,.nw none (some (P 5)) 9 false,.nw none (some (P 6)) 10 false,.ok]) (.seq (.seq (.run (.go (.move (.con (.int .i64 (.ofNat 0)))) (P 8)::
[])) (.block 0 (.loop (.seq (.seq (.run (.go (.move (tm 8)) (P 18)::
.go (.move (tm 0)) (P 19)::
.go (.len 0 (tm 19)) (P 20)::
.go (.bin .lss 3 (tm 18) (tm 20)) (P 21)::
[])) (.cond (tm 21) .skip (.exit 0))) (.seq (.block 1 (.seq (.run (.go (.move (.con (.int .i64 (.ofNat 0)))) (P 9)::
[])) (.block 2 (.loop (.seq (.seq (.run (.go (.move (tm 9)) (P 24)::
.go (.move (tm 0)) (P 25)::
.go (.move (tm 8)) (P 26)::
.go (.indexAddr none 1 (tm 25) (tm 26)) (P 27)::
.go (.load1 (tm 27)) (P 28)::
.go (.len 0 (tm 28)) (P 29)::
.go (.bin .lss 3 (tm 24) (tm 29)) (P 30)::
[])) (.cond (tm 30) .skip (.exit 2))) (.seq (.block 3 (.seq (.draw 14 (.go (.move (tm 5)) (P 33)::
.go (.move (tm 8)) (P 34)::
.go (.indexAddr none 1 (tm 33) (tm 34)) (P 35)::
.go (.load1 (tm 35)) (P 36)::
.go (.move (tm 0)) (P 37)::
.go (.move (tm 8)) (P 38)::
.go (.indexAddr none 1 (tm 37) (tm 38)) (P 39)::
.go (.load1 (tm 39)) (P 40)::
.go (.move (tm 9)) (P 41)::
.go (.indexAddr none 1 (tm 40) (tm 41)) (P 42)::
.go (.load1 (tm 42)) (P 43)::
.go (.bin .add 3 (tm 36) (tm 43)) (P 44)::
.go (.indexAddr none 1 (tm 33) (tm 34)) (P 45)::
.un (.store 1 (tm 45) (tm 44))::
[]) [.ok,.ok,.ok,.ok,.ok,.ok,.ok,.ok,.ok,.ok,.ok,.ok,.ok,.ok]) (.seq (.draw 14 (.go (.move (tm 6)) (P 46)::
.go (.move (tm 9)) (P 47)::
.go (.indexAddr none 1 (tm 46) (tm 47)) (P 48)::
.go (.load1 (tm 48)) (P 49)::
.go (.move (tm 0)) (P 50)::
.go (.move (tm 8)) (P 51)::
.go (.indexAddr none 1 (tm 50) (tm 51)) (P 52)::
.go (.load1 (tm 52)) (P 53)::
.go (.move (tm 9)) (P 54)::
.go (.indexAddr none 1 (tm 53) (tm 54)) (P 55)::
.go (.load1 (tm 55)) (P 56)::
.go (.bin .add 3 (tm 49) (tm 56)) (P 57)::
.go (.indexAddr none 1 (tm 46) (tm 47)) (P 58)::
.un (.store 1 (tm 58) (tm 57))::
[]) [.ok,.ok,.ok,.ok,.ok,.ok,.ok,.ok,.ok,.ok,.ok,.ok,.ok,.ok]) (.run (.go (.move (tm 7)) (P 59)::
.go (.move (tm 0)) (P 60)::
.go (.move (tm 8)) (P 61)::
.go (.indexAddr none 1 (tm 60) (tm 61)) (P 62)::
.go (.load1 (tm 62)) (P 63)::
.go (.move (tm 9)) (P 64)::
.go (.indexAddr none 1 (tm 63) (tm 64)) (P 65)::
.go (.load1 (tm 65)) (P 66)::
.go (.bin .add 3 (tm 59) (tm 66)) (P 67)::
.go (.move (tm 67)) (P 7)::
[]))))) (.run (.go (.move (tm 9)) (P 31)::
.go (.bin .add 3 (tm 31) (.con (.int .i64 (.ofNat 1)))) (P 32)::
.go (.move (tm 32)) (P 9)::
[])))))))) (.run (.go (.move (tm 8)) (P 22)::
.go (.bin .add 3 (tm 22) (.con (.int .i64 (.ofNat 1)))) (P 23)::
.go (.move (tm 23)) (P 8)::
[]))))))) (.seq (.run (.go (.move (tm 5)) (P 68)::
.go (.move (tm 6)) (P 69)::
.go (.move (tm 7)) (P 70)::
.go (.move (tm 68)) (P 2)::
.go (.move (tm 69)) (P 3)::
.go (.move (tm 70)) (P 4)::
[])) .ret))))
theorem de54 : @compF Try.prog (Gl.none Try.prog) Try.f54 1=.mk d54 (mkTT 71) [(P 0)] [.tmp (P 2),.tmp (P 3),.tmp (P 4)]:=by kernel_rfl
theorem dg54 : Try.prog.funcs[54]?=some Try.f54:=Try.func54
theorem do54 : okF Try.prog Try.f54=true:=by kernel_rfl
def hol (T : Tb) (N : List (List Int)) : Prop:=∀ x∈T.F,(N.getD x.1.toNat []).getD x.2.1.toNat 0=x.2.2
instance (T : Tb) (N : List (List Int)) : Decidable (hol T N):=by unfold hol;infer_instance
theorem f53_ok {H : Heap} {c f y : Value} {T : Tb} {N : List (List Int)} (h : TV H c f T) (hy : Nest RI H y N) (hf : fits T) (hv : valid T) (hN : N.length=T.C.length/\∀ row∈N,row.length=cols T) : Gives Try.prog 53 [.agg ⟨[I T.b,c,f]⟩,y] H (.bool (decide (hol T N))):=by
 have hlf:=h.fl
 have hfl:=hf.2.1
 refine F.entryL rfl dg53 do53 de53 rfl (by kernel_rfl) ?_
 simp only[sets]
 refine V.re [(0,.agg ⟨[I T.b,c,f]⟩),(1,y)] (N:=31) zE zY ?_
 intro t hF hA
 simp only[Kn,and_true] at hA
 refine zS ?_
 refine V.l0 ?_
 refine V.heap (λX=>Grow H X/\Bx X H.next [I T.b,c,f] 25) ⟨?_,?_⟩ ?_
 ·exact zW
 ·exact zB
 rintro H1 ⟨g1,b1⟩
 refine zS ?_
 refine V.l0 ?_
 refine zS ?_
 refine V.loop (λz t m X=>∃ (k : Nat),k<=T.F.length/\z=T.F.length-k/\m=[]/\Grow H1 X/\(∀ x∈T.F.take k,(N.getD x.1.toNat []).getD x.2.1.toNat 0=x.2.2)/\Full 31 t/\Kn [(1,y),(2,PT H.next),(5,I k)] t) T.F.length ?_ ?_
 ·exact⟨0,by omega,by omega,rfl,.refl _,by simp,zF,zK⟩
 clear hF hA
 rintro z t m X ⟨k,hk,rfl,rfl,hg,hall,hF,hA⟩
 simp only[Kn,and_true] at hA
 have bX:=b1.grow hg
 have gX:=g1.trans hg
 refine zS ?_
 have zf:=aI bX.2<|@hlf
 refine V.lz ?_
 refine zS ?_
 refine V.condP zP (λhlt=>?_) (λhlt=>?_)
 ·have hlt' : k<T.F.length:=by omega
  obtain⟨p,hp,hx⟩:=h.fat hlt'
  have hx1:=hx X gX
  have hfx:=hv.2.2.2 _ (List.getElem_mem hlt')
  unfold fixOk at hfx
  obtain⟨i,hi⟩ : ∃ i : Nat,(T.F[k]).1=(i : Int):=⟨(T.F[k]).1.toNat,by omega⟩
  obtain⟨j,hj⟩ : ∃ j : Nat,(T.F[k]).2.1=(j : Int):=⟨(T.F[k]).2.1.toNat,by omega⟩
  have hiN : i<N.length:=by omega
  have hrow:=hN.2 _ (List.getElem_mem hiN)
  have hjN : j<(N[i]).length:=by omega
  obtain⟨q,u,hq,hu⟩:=hy.at ri hiN
  have hqk:=hq .i64
  refine zS ?_
  have zf:=aI bX.2<|aI @hp<|@hx1
  refine V.lz ?_
  refine V.heap (λY=>Grow X Y/\Bx Y X.next (r3 T.F[k]) 76) ⟨?_,?_⟩ ?_
  ·exact zW
  ·exact zB
  rintro Y ⟨gy,by1⟩
  obtain⟨hu1,hu2⟩:=hu Y (gX.trans gy)
  obtain⟨w,hw,hww⟩:=hu2.at hjN
  have hw1:=hww Y (.refl _)
  have by2 : Y.cellsAt X.next=some (⟨[I i,I j,I (T.F[k]).2.2]⟩,76,true):=by rw[<- hi,<- hj];exact by1.2
  have eN : (N.getD (T.F[k]).1.toNat []).getD (T.F[k]).2.1.toNat 0=(N[i])[j]:=by
   rw[hi,hj,Int.toNat_natCast,Int.toNat_natCast,gdl hiN,<- gD hjN]
  refine zS ?_
  have zf:=aI @by2<|aI @hqk<|aI @hu1<|aI @hw<|@hw1
  refine V.dz ?_ ?_ rfl ?_
  ·exact zM
  ·simp only[dcAll,dcOk,wantD,List.cons_append,List.nil_append,true_and,and_true]
  refine zS ?_
  refine V.condP zP (λhno=>?_) (λhno=>?_)
  ·refine zS ?_
   refine V.l0 ?_
   refine zS ?_
   refine V.ret (V.rets rfl (Or.inr ⟨by simp,V.rets rfl (Lv.retG (by simp +contextual (disch:=first|omega|simp only[nx];omega) only[D1,cells_alloc_at,cells_alloc_ne,cells_set_at,cells_set_ne,yres,yres1,yresL,qA,qB,qC,D5,hF,hA,↓reduceIte,qD,qE];rfl) ?_ ?_)⟩))
   ·exact gX.trans gy
   ·exact congrArg _ (decide_eq_false (λhh=>hno (by rw[<- eN];exact hh _ (List.getElem_mem hlt')))).symm
  ·refine zS ?_
   refine V.l0 ?_
   refine V.nil (Or.inl ⟨rfl,T.F.length-(k+1),by omega,?_⟩)
   refine⟨k+1,hlt',rfl,rfl,hg.trans gy,λx hx=>?_,zF,zK⟩
   rw[tk1 hlt'] at hx
   rcases List.mem_append.1 hx with hx|hx
   ·exact hall x hx
   ·rw[List.mem_singleton.1 hx,eN];exact Decidable.not_not.1 hno
 ·obtain rfl : k=T.F.length:=by omega
  rw[List.take_length] at hall
  refine V.exit ?_
  refine zX ?_
  refine V.nil (Or.inr ⟨by simp,?_⟩)
  refine zX ?_
  refine zS ?_
  refine V.l0 ?_
  refine zS ?_
  refine V.ret (V.rets rfl (Lv.retG (by simp +contextual (disch:=first|omega|simp only[nx];omega) only[D1,cells_alloc_at,cells_alloc_ne,cells_set_at,cells_set_ne,yres,yres1,yresL,qA,qB,qC,D5,hF,hA,↓reduceIte,qD,qE];rfl) ?_ ?_))
  ·exact gX
  ·exact congrArg _ (decide_eq_true (p:=hol T N) hall).symm
theorem mk_row (H : Heap) (g : Nat) (hg : g<=1048576) : ymakeSlice 3 8 [I 0] H (I g) (I g)=some (.slice (some ⟨H.next,0,none⟩) g g,H.alloc (.cells ⟨Li (List.replicate g (0 : Int))⟩ 3 true)):=by
 have e48 : (2 : Nat) ^ 48=281474976710656:=by decide
 have ez : zeros ⟨[I 0]⟩ ((g : Int).toNat*[I 0].length)=⟨Li (List.replicate g (0 : Int))⟩:=by
  apply Array.toList_inj.1
  simp only[zeros,Array.toList_map,Array.toList_range,Li,List.map_replicate,List.length_cons,List.length_nil]
  apply List.ext_getElem
  ·simp
  ·intro j h1 h2
   simp[Nat.mod_one]
 simp only[ymakeSlice]
 rw[if_pos ⟨by omega,by omega,by omega,by omega⟩,ez]
 simp
theorem inb_rep (n m : Nat) : (Li (List.replicate n (0 : Int))).all (inBound m 2)=true:=by
 simp[Li,inBound]
def rsm (N : List (List Int)) : List Int:=N.map sm
theorem f54_ok {H : Heap} {y : Value} {N : List (List Int)} {n : Nat} (hy : Nest RI H y N) (h0 : 0<N.length) (h8 : N.length<=8) (hr : ∀ row∈N,row.length=n/\∀ v∈row,0<=v/\v<=20000) (hn : n<=4) : F Try.prog 54 ⟨[y]⟩ H (λw X=>Grow H X/\∃ u v,w=.tuple ⟨[u,v,I (sm (rsm N))]⟩/\LS X u (rsm N)/\LS X v ((List.range n).map (due N))):=by
 have hln : ∀ X,ylen 0 X y=some (I N.length):=hy.len
 obtain⟨p,u,hp,hu⟩:=hy.at ri h0
 obtain⟨hu1,hu2⟩:=hu H (.refl _)
 have hp0 : yindexAddr none 1 y (I 0)=some p:=hp .i64
 have hul:=hu2.len
 rw[(hr _ (List.getElem_mem h0)).1] at hul
 have mk1:=λX=>mk_row X N.length (by omega)
 have mk2:=λX=>mk_row X n (by omega)
 refine F.entryL rfl dg54 do54 de54 rfl (by kernel_rfl) ?_
 simp only[sets]
 refine V.re [(0,y)] (N:=71) zE zY ?_
 intro t hF hA
 simp only[Kn,and_true] at hA
 refine zS ?_
 refine V.l0 ?_
 refine zS ?_
 have zf:=aI @hln<|aI @hp0<|aI @hu1<|aI @hul<|aI @mk1<|@mk2
 refine V.dz ?_ ?_ rfl ?_
 ·exact zM
 ·simp only[dcAll,dcOk,wantD,List.cons_append,List.nil_append,true_and,and_true]
  (repeat' first|exact (λ_=>⟨_,_,_,rfl,rfl,rfl,(by simp only[D5,hF,hA,↓reduceIte,qD,qE];first|(simp[inBound];done)|(simp only[inBound,decide_eq_true_eq,nx];omega)),λ_=>⟨_,_,_,cells_alloc _ _ _ _,inb_rep _ _⟩⟩)|exact (λ_=>⟨_,_,_,rfl,rfl,rfl,(by simp only[D5,hF,hA,↓reduceIte,qD,qE];first|(simp[inBound];done)|(simp only[inBound,decide_eq_true_eq,nx];omega)),λh=>absurd h (by decide)⟩)|apply And.intro)
 refine V.heap (λX=>∃ col,Grow H X/\H.next+2<=X.next/\OL H.next col 0 X (.slice (some ⟨H.next,0,none⟩) N.length N.length) (List.replicate N.length 0)/\OL H.next col 1 X (.slice (some ⟨H.next+1,0,none⟩) n n) (List.replicate n 0)) ?_ ?_
 ·refine⟨λi=>if i=H.next then 0 else 1,?_,?_,?_,?_⟩
  ·exact zW
  ·simp only[nx];omega
  ·refine .inr ⟨H.next,Nat.le_refl _,?_,by simp,by simp,?_⟩
   ·simp only[nx];omega
   ·rw[cells_alloc_ne _ _ (by simp only[nx];omega)]
    exact cells_alloc _ _ _ _
  ·refine .inr ⟨H.next+1,by omega,?_,by simp,by simp,?_⟩
   ·simp only[nx];omega
   ·exact cells_alloc (H.alloc _) _ _ _
 rintro H1 ⟨col,g1,n1,o1,o2⟩
 have rz : ∀ k,k<=N.length->(rsm (N.take k)++List.replicate (N.length-k) 0).length=N.length:=by
  intro k hk;simp[rsm];omega
 refine zS ?_
 refine V.l0 ?_
 refine zS ?_
 generalize hu0 : Value.slice (some ⟨H.next,0,none⟩) N.length N.length=vr at *
 generalize hv0 : Value.slice (some ⟨H.next+1,0,none⟩) n n=vc at *
 refine V.loop (λz t m X=>∃ (k : Nat) (col : Nat->Nat),k<=N.length/\z=N.length-k/\m=[]/\Grow H X/\OL H.next col 0 X vr (rsm (N.take k)++List.replicate (N.length-k) 0)/\OL H.next col 1 X vc ((List.range n).map (due (N.take k)))/\Full 71 t/\Kn [(0,y),(5,vr),(6,vc),(7,I (sm (rsm (N.take k)))),(8,I k)] t) N.length ?_ ?_
 ·refine⟨0,col,by omega,by omega,rfl,g1,?_,?_,zF,zK⟩
  ·exact o1
  ·have e : (List.range n).map (due (N.take 0))=List.replicate n 0:=by
    apply List.ext_getElem
    ·simp
    ·intro i h1 h2;simp[due,sm]
   rw[e];exact o2
 clear hF hA
 rintro z t m X ⟨k,col,hk,rfl,rfl,hg,o1,o2,hF,hA⟩
 simp only[Kn,and_true] at hA
 refine zS ?_
 have zf:=@hln
 refine V.lz ?_
 refine zS ?_
 refine V.condP zP (λhlt=>?_) (λhlt=>?_)
 ·have hlt' : k<N.length:=by omega
  obtain⟨p,u,hp,hu⟩:=hy.at ri hlt'
  obtain⟨hu1,hu2⟩:=hu X hg
  have hpk:=hp .i64
  have hrk:=hr _ (List.getElem_mem hlt')
  have hul:=hu2.len
  rw[hrk.1] at hul
  refine zS ?_
  refine V.l0 ?_
  refine zS ?_
  refine V.loop (λz t m Y=>∃ (j : Nat) (col : Nat->Nat),j<=n/\z=n-j/\m=[]/\Grow H Y/\OL H.next col 0 Y vr ((rsm (N.take k)++List.replicate (N.length-k) 0).set k (sm ((N[k]).take j)))/\OL H.next col 1 Y vc ((List.range n).map (pl (due (N.take k)) ((N[k]).take j)))/\Full 71 t/\Kn [(0,y),(5,vr),(6,vc),(7,I (sm (rsm (N.take k))+sm ((N[k]).take j))),(8,I k),(9,I j)] t) n ?_ ?_
  ·refine⟨0,col,by omega,by omega,rfl,hg,?_,?_,?_⟩
   ·have e : (rsm (N.take k)++List.replicate (N.length-k) 0).set k (sm ((N[k]).take 0))=rsm (N.take k)++List.replicate (N.length-k) 0:=by
     apply List.ext_getElem
     ·simp
     ·intro i h1 h2
      rw[List.getElem_set]
      split
      ·rename_i e
       subst e
       rw[List.getElem_append_right (by simp[rsm];omega)]
       simp[sm]
      ·rfl
    rw[e];exact o1
   ·rw[List.take_zero,pl_nil];exact o2
   ·rw[List.take_zero,sm_nil,Int.add_zero]
    exact⟨zF,zK⟩
  clear hF hA
  rintro z t m Y ⟨j,col,hj,rfl,rfl,hgY,o1,o2,hF,hA⟩
  simp only[Kn,and_true] at hA
  obtain⟨hu1,hu2⟩:=hu Y hgY
  refine zS ?_
  have zf:=aI @hpk<|aI @hu1<|@hul
  refine V.lz ?_
  refine zS ?_
  refine V.condP zP (λhltj=>?_) (λhltj=>?_)
  ·have hj1 : j<(N[k]).length:=by omega
   have hjn : j<n:=by omega
   have hvj:=hrk.2 _ (List.getElem_mem hj1)
   have hst:=sm_take hj1
   have hsb:=sm_bound (c:=20000) (l:=(N[k]).take j) (λv hv=>hrk.2 v (List.mem_of_mem_take hv))
   have hlj : ((N[k]).take j).length=j:=by rw[List.length_take];omega
   rw[hlj] at hsb
   have hRb:=sm_bound (c:=80000) (l:=rsm (N.take k)) (λv hv=>by
    obtain⟨r,hr',rfl⟩:=List.mem_map.1 hv
    have hq:=hr r (List.mem_of_mem_take hr')
    have:=sm_bound hq.2
    omega)
   have hRl : (rsm (N.take k)).length=k:=by simp[rsm];omega
   rw[hRl] at hRb
   have hdb:=due_bd (C:=N.take k) (λr hr'=>(hr r (List.mem_of_mem_take hr')).2) j
   have hlk : (N.take k).length=k:=by rw[List.length_take];omega
   rw[hlk] at hdb
   -- the rows' sums
   obtain⟨w,hw,hww⟩:=hu2.at hj1
   have hw1:=hww Y (.refl _)
   have l1 : k<((rsm (N.take k)++List.replicate (N.length-k) 0).set k (sm ((N[k]).take j))).length:=by rw[List.length_set,rz k hk];exact hlt'
   have v1 : ((rsm (N.take k)++List.replicate (N.length-k) 0).set k (sm ((N[k]).take j))).getD k 0=sm ((N[k]).take j):=by
    rw[<- gD l1,List.getElem_set_self]
   obtain⟨b,b1,b2,b3,b4,b5,b6⟩:=OL.set o1 l1 (sm ((N[k]).take j)+(N[k])[j])
   have e1 : ((rsm (N.take k)++List.replicate (N.length-k) 0).set k (sm ((N[k]).take j))).set k (sm ((N[k]).take j)+(N[k])[j])=(rsm (N.take k)++List.replicate (N.length-k) 0).set k (sm ((N[k]).take (j+1))):=by rw[List.set_set,hst]
   have a1:=Li_atD l1
   rw[v1] at a1
   have c1 : k<(Li ((rsm (N.take k)++List.replicate (N.length-k) 0).set k (sm ((N[k]).take j)))).length:=by rw[Li_len];exact l1
   have ix1 : yindexAddr none 1 vr (I (k : Nat))=some (.pointer (some ⟨b,k,none⟩)):=by rw[b1];exact own_idx l1
   rw[e1] at b5
   have o2':=Oc.st o2 b6 (by decide)
   generalize hL1 : Li ((rsm (N.take k)++List.replicate (N.length-k) 0).set k (sm ((N[k]).take j)))=L1 at b4 b5 b6 o2' a1 c1
   have g1':=hgY.set b2 (.cells ⟨L1.set k (I (sm ((N[k]).take j)+(N[k])[j]))⟩ 3 true)
   obtain⟨X1,hX1⟩ : ∃ X1,X1=Y.set b (.cells ⟨L1.set k (I (sm ((N[k]).take j)+(N[k])[j]))⟩ 3 true):=⟨_,rfl⟩
   rw[<- hX1] at b5 o2' g1'
   obtain⟨hu1x,hu2x⟩:=hu X1 g1'
   have hw1x : yload1 X1 w=some (I (N[k])[j]):=by
    obtain⟨w',hw',hww'⟩:=hu2x.at hj1
    rw[hw] at hw'
    cases hw'
    exact hww' X1 (.refl _)
   -- the columns' sums
   have l2 : j<((List.range n).map (pl (due (N.take k)) ((N[k]).take j))).length:=by simpa using hjn
   have v2 : ((List.range n).map (pl (due (N.take k)) ((N[k]).take j))).getD j 0=due (N.take k) j:=by
    rw[<- gD l2,List.getElem_map,List.getElem_range]
    unfold pl
    rw[List.getD_eq_getElem?_getD,List.getElem?_take,if_neg (by omega)];simp
   obtain⟨d,d1,d2,d3,d4,d5,d6⟩:=OL.set o2' l2 (due (N.take k) j+(N[k])[j])
   have e2 : ((List.range n).map (pl (due (N.take k)) ((N[k]).take j))).set j (due (N.take k) j+(N[k])[j])=(List.range n).map (pl (due (N.take k)) ((N[k]).take (j+1))):=by
    apply List.ext_getElem
    ·simp
    ·intro i h1 h2
     have hin : i<n:=by simpa using h2
     rw[List.getElem_set,List.getElem_map,List.getElem_range,List.getElem_map,List.getElem_range,pl_take hj1 i]
     by_cases e : j=i
     ·subst e
      rw[if_pos rfl,if_pos rfl]
      rw[<- v2,<- gD l2,List.getElem_map,List.getElem_range]
     ·rw[if_neg e,if_neg (λh=>e h.symm)]
   have a2:=Li_atD l2
   rw[v2] at a2
   have c2 : j<(Li ((List.range n).map (pl (due (N.take k)) ((N[k]).take j)))).length:=by rw[Li_len];exact l2
   have ix2 : yindexAddr none 1 vc (I (j : Nat))=some (.pointer (some ⟨d,j,none⟩)):=by rw[d1];exact own_idx l2
   rw[e2] at d5
   have o1':=Oc.st b5 d6 (by decide)
   generalize hL2 : Li ((List.range n).map (pl (due (N.take k)) ((N[k]).take j)))=L2 at d4 d5 d6 o1' a2 c2
   have g2':=g1'.set d2 (.cells ⟨L2.set j (I (due (N.take k) j+(N[k])[j]))⟩ 3 true)
   obtain⟨X2,hX2⟩ : ∃ X2,X2=X1.set d (.cells ⟨L2.set j (I (due (N.take k) j+(N[k])[j]))⟩ 3 true):=⟨_,rfl⟩
   rw[<- hX2] at d5 o1' g2'
   obtain⟨hu1y,hu2y⟩:=hu X2 g2'
   have hw1y : yload1 X2 w=some (I (N[k])[j]):=by
    obtain⟨w',hw',hww'⟩:=hu2y.at hj1
    rw[hw] at hw'
    cases hw'
    exact hww' X2 (.refl _)
   refine zS ?_
   have zf:=aI @ix1<|aI @b4<|aI @a1<|aI @c1<|aI @arr_get<|aI @hpk<|aI @hu1<|aI @hw<|@hw1
   refine V.dz ?_ ?_ rfl ?_
   ·exact zM
   ·simp only[dcAll,dcOk,wantD,List.cons_append,List.nil_append,true_and,and_true]
   rw[<- hX1]
   refine zS ?_
   have zf:=aI @ix2<|aI @d4<|aI @a2<|aI @c2<|aI @arr_get<|aI @hpk<|aI @hu1x<|aI @hw<|@hw1x
   refine V.dz ?_ ?_ rfl ?_
   ·exact zM
   ·simp only[dcAll,dcOk,wantD,List.cons_append,List.nil_append,true_and,and_true]
   rw[<- hX2]
   refine zS ?_
   have zf:=aI @hpk<|aI @hu1y<|aI @hw<|@hw1y
   refine V.lz ?_
   refine zS ?_
   refine V.l0 ?_
   refine V.nil (Or.inl ⟨rfl,n-(j+1),by omega,?_⟩)
   have e3 : sm (rsm (N.take k))+sm ((N[k]).take j)+(N[k])[j]=sm (rsm (N.take k))+sm ((N[k]).take (j+1)):=by omega
   refine⟨j+1,col,by omega,rfl,rfl,g2',o1',d5,?_⟩
   rw[<- e3]
   exact⟨zF,zK⟩
  ·obtain rfl : j=n:=by omega
   have e0 : (N[k]).take j=N[k]:=List.take_of_length_le (by omega)
   rw[e0] at o1 o2 hA
   have e1 : (rsm (N.take k)++List.replicate (N.length-k) 0).set k (sm N[k])=rsm (N.take (k+1))++List.replicate (N.length-(k+1)) 0:=by
    have hRl : (rsm (N.take k)).length=k:=by simp[rsm];omega
    have e4 : N.length-k=(N.length-(k+1))+1:=by omega
    rw[e4,List.replicate_succ,tk1 hlt']
    unfold rsm at hRl ⊢
    rw[List.map_append,List.set_append_right _ _ (by omega),hRl,Nat.sub_self]
    simp
   have e2 : sm (rsm (N.take k))+sm N[k]=sm (rsm (N.take (k+1))):=by
    rw[tk1 hlt'];unfold rsm;rw[List.map_append,sm_app];simp[sm]
   rw[e1] at o1
   rw[<- due_take hlt'] at o2
   rw[e2] at hA
   refine V.exit ?_
   refine zX ?_
   refine V.nil (Or.inr ⟨by simp,?_⟩)
   refine zX ?_
   refine zS ?_
   refine V.l0 ?_
   refine V.nil (Or.inl ⟨rfl,N.length-(k+1),by omega,?_⟩)
   exact⟨k+1,col,hlt',rfl,rfl,hgY,o1,o2,zF,zK⟩
 ·obtain rfl : k=N.length:=by omega
  rw[List.take_length,Nat.sub_self,List.replicate_zero,List.append_nil] at o1
  rw[List.take_length] at o2 hA
  refine V.exit ?_
  refine zX ?_
  refine V.nil (Or.inr ⟨by simp,?_⟩)
  refine zX ?_
  refine zS ?_
  refine V.l0 ?_
  refine zS ?_
  refine V.ret (V.rets rfl (Lv.retF (by simp +contextual (disch:=first|omega|simp only[nx];omega) only[D1,cells_alloc_at,cells_alloc_ne,cells_set_at,cells_set_ne,yres,yres1,yresL,qA,qB,qC,D5,hF,hA,↓reduceIte,qD,qE];rfl) ?_))
  exact⟨hg,_,_,rfl,o1.ls,o2.ls⟩
end Go.Xe.TRX
end
