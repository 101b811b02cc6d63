/- What the functions of the layer round come to: a board. Conditions: none. -/
import Derived.Test.YtimnlnfpblomnaaTSL
noncomputable section
namespace Go.Xe.TRX
open Go Go.Xe Go.Proofs
open Nat renaming reduceLeDiff ->qA, reduceSub ->qB, reduceAdd ->qC, reduceEqDiff ->qD, reduceLT ->qE
open Int renaming reduceNegSucc ->qF, reduceEq ->qG
open Go.Xe.V renaming seq ->sA, block ->sB, scope ->sC, skip ->sD, close ->sE
open Go.Xe renaming pth ->P
open Go.Xe.Rnd
set_option maxRecDepth 100000
set_option maxHeartbeats 3200000
set_option linter.unusedSimpArgs false
def d74 : FCode:=(.seq (.run (.go (.box 87 (tm 0)) (P 2)::
.go (.alloc 87 [(.int .i64 (.ofNat 0)),(.int .i64 (.ofNat 0)),(.int .i64 (.ofNat 0)),(.int .i64 (.ofNat 0))]) (P 4)::
[])) (.seq (.seq (.run (.go (.move (tm 1)) (P 7)::
.go (.len 0 (tm 7)) (P 8)::
.go (.move (.con (.int .i64 (.ofNat 0)))) (P 9)::
[])) (.block 0 (.loop (.seq (.run (.go (.bin .lss 3 (tm 9) (tm 8)) (P 10)::
[])) (.seq (.cond (tm 10) .skip (.exit 0)) (.seq (.block 1 (.seq (.run (.go (.move (tm 9)) (P 11)::
.go (.indexAddr none 1 (tm 7) (tm 9)) (P 12)::
.go (.load1 (tm 12)) (P 13)::
.go (.move (tm 11)) (P 5)::
.go (.move (tm 13)) (P 6)::
[])) (.run (.go (.move (tm 5)) (P 14)::
.go (.indexAddr (some 4) 1 (tm 2) (tm 14)) (P 15)::
.go (.load1 (tm 15)) (P 16)::
.go (.move (tm 6)) (P 17)::
.go (.bin .add 3 (tm 16) (tm 17)) (P 18)::
.go (.indexAddr (some 4) 1 (tm 2) (tm 14)) (P 19)::
.un (.store 1 (tm 19) (tm 18))::
[])))) (.run (.go (.bin .add 3 (tm 9) (.con (.int .i64 (.ofNat 1)))) (P 20)::
.go (.move (tm 20)) (P 9)::
[])))))))) (.seq (.run (.go (.loadN 4 (tm 2)) (P 21)::
.un (.store 4 (tm 4) (tm 21))::
[])) .ret)))
theorem de74 : @compF Try.prog (Gl.none Try.prog) Try.f74 2=.mk d74 (mkTT 22) [(P 0),(P 1)] [.many (P 4) 4]:=by kernel_rfl
theorem dg74 : Try.prog.funcs[74]?=some Try.f74:=Try.func74
theorem do74 : okF Try.prog Try.f74=true:=by kernel_rfl
def d73 : FCode:=(.seq (.run (.go (.move (.con (.slice none 0 0))) (P 0)::
[])) (.seq (.run (.go (.build [.nilFunc] [(0,1,(.con (.func (.func 82) ⟨[]⟩ ⟨[]⟩)))]) (P 1)::
.go (.build [.nilFunc] [(0,1,(.con (.func (.func 83) ⟨[]⟩ ⟨[]⟩)))]) (P 2)::
.go (.buildSlice 121 2 [.nilFunc,.nilFunc] [(0,1,(tm 1)),(1,1,(tm 2))]) (P 3)::
.go (.move (tm 3)) (P 0)::
[])) .ret))
theorem de73 : @compF Try.prog (Gl.none Try.prog) Try.f73 0=.mk d73 (mkTT 4) [] [.tmp (P 0)]:=by kernel_rfl
theorem dg73 : Try.prog.funcs[73]?=some Try.f73:=Try.func73
theorem do73 : okF Try.prog Try.f73=true:=by kernel_rfl
def d50 : FCode:=(.seq (.run (.go (.box 33 (tm 0)) (P 1)::
.go (.alloc 89 [(.int .i64 (.ofNat 0)),(.slice none 0 0),(.slice none 0 0),(.slice none 0 0),(.int .i64 (.ofNat 0)),(.int .i64 (.ofNat 0)),(.int .i64 (.ofNat 0)),(.int .i64 (.ofNat 0))]) (P 2)::
[])) (.seq (.draw 5 (.go (.loadN 3 (tm 1)) (P 6)::
.go (.call (.con (.func (.func 73) ⟨[]⟩ ⟨[]⟩)) []) (P 7)::
.go (.build [(.int .i64 (.ofNat 0)),(.slice none 0 0),(.slice none 0 0),(.slice none 0 0),(.int .i64 (.ofNat 0)),(.int .i64 (.ofNat 0)),(.int .i64 (.ofNat 0)),(.int .i64 (.ofNat 0))] [(0,3,(tm 6)),(3,1,(tm 7))]) (P 8)::
.go (.alloc 89 [(.int .i64 (.ofNat 0)),(.slice none 0 0),(.slice none 0 0),(.slice none 0 0),(.int .i64 (.ofNat 0)),(.int .i64 (.ofNat 0)),(.int .i64 (.ofNat 0)),(.int .i64 (.ofNat 0))]) (P 3)::
.un (.store 8 (tm 3) (tm 8))::
[]) [.rd none (.loadN 3 (tm 1)) (some (P 6)) [2],.ok,.ok,.nw none (some (P 3)) 3 true,.ok]) (.seq (.seq (.run (.go (.fieldAddr 1 (tm 1)) (P 9)::
.go (.load1 (tm 9)) (P 10)::
.go (.len 0 (tm 10)) (P 11)::
.go (.move (.con (.int .i64 (.ofNat 0)))) (P 12)::
[])) (.block 0 (.loop (.seq (.run (.go (.bin .lss 3 (tm 12) (tm 11)) (P 13)::
[])) (.seq (.cond (tm 13) .skip (.exit 0)) (.seq (.block 1 (.seq (.run (.go (.indexAddr none 1 (tm 10) (tm 12)) (P 14)::
.go (.load1 (tm 14)) (P 15)::
.go (.move (tm 15)) (P 5)::
[])) (.run (.go (.fieldAddr 4 (tm 3)) (P 16)::
.go (.loadN 4 (tm 16)) (P 17)::
.go (.move (tm 5)) (P 18)::
.go (.call (.con (.func (.func 74) ⟨[]⟩ ⟨[]⟩)) [(tm 17),(tm 18)]) (P 19)::
.go (.fieldAddr 4 (tm 3)) (P 20)::
.un (.store 4 (tm 20) (tm 19))::
[])))) (.run (.go (.bin .add 3 (tm 12) (.con (.int .i64 (.ofNat 1)))) (P 21)::
.go (.move (tm 21)) (P 12)::
[])))))))) (.seq (.run (.go (.loadN 8 (tm 3)) (P 22)::
.un (.store 8 (tm 2) (tm 22))::
[])) .ret))))
theorem de50 : @compF Try.prog (Gl.none Try.prog) Try.f50 1=.mk d50 (mkTT 23) [(P 0)] [.many (P 2) 8]:=by kernel_rfl
theorem dg50 : Try.prog.funcs[50]?=some Try.f50:=Try.func50
theorem do50 : okF Try.prog Try.f50=true:=by kernel_rfl
def d86 : FCode:=(.seq (.run (.go (.box 33 (tm 0)) (P 3)::
.go (.move (.con (.bool false))) (P 6)::
[])) (.scope (.seq (.run (.go (.move (.con (.bool true))) (P 7)::
[])) (.seq .skip (.seq (.seq (.run (.go (.move (tm 2)) (P 12)::
.go (.len 0 (tm 12)) (P 13)::
.go (.move (.con (.int .i64 (.ofNat 0)))) (P 14)::
[])) (.block 0 (.loop (.seq (.run (.go (.bin .lss 3 (tm 14) (tm 13)) (P 15)::
[])) (.seq (.cond (tm 15) .skip (.exit 0)) (.seq (.block 1 (.seq (.run (.go (.move (tm 14)) (P 16)::
.go (.indexAddr none 1 (tm 12) (tm 14)) (P 17)::
.go (.load1 (tm 17)) (P 18)::
.go (.move (tm 16)) (P 8)::
.go (.move (tm 18)) (P 9)::
[])) (.seq (.run (.go (.fieldAddr 2 (tm 3)) (P 19)::
.go (.load1 (tm 19)) (P 20)::
.go (.len 0 (tm 20)) (P 21)::
.go (.move (.con (.int .i64 (.ofNat 0)))) (P 22)::
[])) (.block 2 (.loop (.seq (.run (.go (.bin .lss 3 (tm 22) (tm 21)) (P 23)::
[])) (.seq (.cond (tm 23) .skip (.exit 2)) (.seq (.block 3 (.seq (.run (.go (.indexAddr none 3 (tm 20) (tm 22)) (P 24)::
.go (.loadN 3 (tm 24)) (P 25)::
.go (.alloc 83 [(.int .i64 (.ofNat 0)),(.int .i64 (.ofNat 0)),(.int .i64 (.ofNat 0))]) (P 11)::
.un (.store 3 (tm 11) (tm 25))::
[])) (.seq (.run (.go (.fieldAddr 0 (tm 11)) (P 26)::
.go (.load1 (tm 26)) (P 27)::
.go (.move (tm 1)) (P 28)::
.go (.bin .eql 3 (tm 27) (tm 28)) (P 29)::
.go (.move (tm 29)) (P 30)::
.gd (P 30) true (.fieldAddr 1 (tm 11)) (P 31)::
.gd (P 30) true (.load1 (tm 31)) (P 32)::
.gd (P 30) true (.move (tm 8)) (P 33)::
.gd (P 30) true (.bin .eql 3 (tm 32) (tm 33)) (P 34)::
.go (.pick (tm 30) (tm 34) (.con (.bool false))) (P 35)::
.go (.move (tm 35)) (P 36)::
.gd (P 36) true (.fieldAddr 2 (tm 11)) (P 37)::
.gd (P 36) true (.load1 (tm 37)) (P 38)::
.gd (P 36) true (.move (tm 9)) (P 39)::
.gd (P 36) true (.bin .neq 3 (tm 38) (tm 39)) (P 40)::
.go (.pick (tm 36) (tm 40) (.con (.bool false))) (P 41)::
[])) (.cond (tm 41) (.seq (.run (.go (.move (.con (.bool false))) (P 7)::
[])) (.exit 0)) .skip)))) (.run (.go (.bin .add 3 (tm 22) (.con (.int .i64 (.ofNat 1)))) (P 42)::
.go (.move (tm 42)) (P 22)::
[])))))))))) (.run (.go (.bin .add 3 (tm 14) (.con (.int .i64 (.ofNat 1)))) (P 43)::
.go (.move (tm 43)) (P 14)::
[])))))))) (.seq (.run (.go (.move (tm 7)) (P 44)::
.go (.move (tm 44)) (P 6)::
[])) .ret))))))
theorem de86 : @compF Try.prog (Gl.none Try.prog) Try.f86 3=.mk d86 (mkTT 45) [(P 0),(P 1),(P 2)] [.tmp (P 6)]:=by kernel_rfl
theorem dg86 : Try.prog.funcs[86]?=some Try.f86:=Try.func86
theorem do86 : okF Try.prog Try.f86=true:=by kernel_rfl
def pl (d : Nat->Int) (row : List Int) : Nat->Int:=λi=>d i+row.getD i 0
theorem Q4_at {d : Nat->Int} {i : Nat} (h : i<4) : (Q4 d)[i]?=some (I (d i)):=by
 rcases (show i=0\/i=1\/i=2\/i=3 by omega) with rfl|rfl|rfl|rfl<;>rfl
theorem Q4_set {d e : Nat->Int} {i : Nat} {x : Int} (h : i<4) (he : ∀ j,e j=if j=i then x else d j) : (Q4 d).set i (I x)=Q4 e:=by
 rcases (show i=0\/i=1\/i=2\/i=3 by omega) with rfl|rfl|rfl|rfl<;>simp[Q4,he]
theorem pl_nil (d : Nat->Int) : pl d []=d:=by funext i;simp[pl]
theorem pl_take {d : Nat->Int} {row : List Int} {k : Nat} (h : k<row.length) (j : Nat) : pl d (row.take (k+1)) j=if j=k then pl d (row.take k) k+row[k] else pl d (row.take k) j:=by
 unfold pl
 have e1 : (row.take (k+1)).getD j 0=if j<k+1 then row.getD j 0 else 0:=by
  simp only[List.getD_eq_getElem?_getD,List.getElem?_take]
  split<;>rfl
 have e2 : ∀ j,(row.take k).getD j 0=if j<k then row.getD j 0 else 0:=by
  intro j
  simp only[List.getD_eq_getElem?_getD,List.getElem?_take]
  split<;>rfl
 rw[e1,e2,e2]
 by_cases e : j=k
 ·subst e
  rw[if_pos (by omega),if_pos rfl,if_neg (by omega),<- gD h];omega
 ·rw[if_neg e]
  by_cases hj : j<k
  ·rw[if_pos (by omega),if_pos hj]
  ·rw[if_neg (by omega),if_neg hj]
theorem idx4 {p o k : Nat} (h : k<4) : yindexAddr (some 4) 1 (.pointer (some ⟨p,o,none⟩)) (I (k : Nat))=some (.pointer (some ⟨p,o+k,none⟩)):=by
 simp only[yindexAddr]
 rw[if_pos ⟨by omega,by omega⟩]
 simp
theorem f74_ok {H : Heap} {y : Value} {row : List Int} {d : Nat->Int} (hy : RI H y row) (hn : row.length<=4) (hb : ∀ v∈row,0<=v/\v<=20000) (hd : ∀ i,0<=d i/\d i<=1000000) : Gives Try.prog 74 [.agg ⟨Q4 d⟩,y] H (.agg ⟨Q4 (pl d row)⟩):=by
 have hl:=hy.len
 refine F.entryL rfl dg74 do74 de74 rfl (by kernel_rfl) ?_
 simp only[sets]
 refine V.re [(0,.agg ⟨Q4 d⟩),(1,y)] (N:=22) zE zY ?_
 intro t hF hA
 simp only[Kn,and_true] at hA
 refine zS ?_
 refine V.l0 ?_
 refine V.heap (λX=>Grow H X/\Bx X H.next (Q4 d) 87/\Bx X (H.next+1) [I 0,I 0,I 0,I 0] 87/\H.next+2<=X.next) ⟨?_,?_,?_,?_⟩ ?_
 ·exact zW
 ·exact zB
 ·exact zB
 ·simp only[nx];omega
 rintro H1 ⟨g1,b1,c1,n1⟩
 refine zS ?_
 have zf:=@hl
 refine V.lz ?_
 refine zS ?_
 refine V.loop (λz t m X=>∃ (k : Nat),k<=row.length/\z=row.length-k/\m=[]/\Grow H X/\Bx X H.next (Q4 (pl d (row.take k))) 87/\Bx X (H.next+1) [I 0,I 0,I 0,I 0] 87/\Full 22 t/\Kn [(2,PT H.next),(4,PT (H.next+1)),(7,y),(8,I row.length),(9,I k)] t) row.length ?_ ?_
 ·refine⟨0,by omega,by omega,rfl,g1,?_,c1,zF,zK⟩
  rw[List.take_zero,pl_nil]
  exact b1
 clear hF hA
 rintro z t m X ⟨k,hk,rfl,rfl,hg,bX,cX,hF,hA⟩
 simp only[Kn,and_true] at hA
 refine zS ?_
 refine V.l0 ?_
 refine zS ?_
 refine V.condP zP (λhlt=>?_) (λhlt=>?_)
 ·have hlt' : k<row.length:=by omega
  have hk4 : k<4:=by omega
  obtain⟨p,hp,hx⟩:=hy.at hlt'
  have hx1:=hx X hg
  have hbk:=hb _ (List.getElem_mem hlt')
  have ix : yindexAddr (some 4) 1 (PT H.next) (I (k : Nat))=some (.pointer (some ⟨H.next,k,none⟩)):=by
   have:=idx4 (p:=H.next) (o:=0) hk4
   rwa [Nat.zero_add] at this
  have hdk:=hd k
  have e0 : pl d (row.take k) k=d k:=by
   unfold pl
   rw[List.getD_eq_getElem?_getD,List.getElem?_take,if_neg (by omega)];simp
  have lat:=Q4_at (d:=pl d (row.take k)) hk4
  have lset:=Q4_set (d:=pl d (row.take k)) (e:=pl d (row.take (k+1))) (x:=pl d (row.take k) k+row[k]) hk4 (pl_take hlt')
  have l4 : k<(Q4 (pl d (row.take k))).length:=by simpa using hk4
  have bX2:=bX.2
  generalize hD : Q4 (pl d (row.take k))=DD at bX bX2 lat lset l4
  have lbx:=bX.1
  refine zS ?_
  have zf:=aI @hp<|@hx1
  refine V.lz ?_
  refine zS ?_
  have zf:=aI @ix<|aI @bX2<|aI @lat<|aI @l4<|@arr_get
  refine V.lz ?_
  refine zS ?_
  refine V.l0 ?_
  rw[lset]
  refine V.nil (Or.inl ⟨rfl,row.length-(k+1),by omega,?_⟩)
  refine⟨k+1,hlt',rfl,rfl,hg.set (Nat.le_refl _) _,⟨by simpa using lbx,cells_set _ _ _ _ _⟩,cX.set (by omega) _,zF,zK⟩
 ·obtain rfl : k=row.length:=by omega
  rw[List.take_length] at bX
  have lc:=cX.1
  refine V.exit ?_
  refine zX ?_
  refine V.nil (Or.inr ⟨by simp,?_⟩)
  refine zX ?_
  refine zS ?_
  have zf:=aI bX.2<|cX.2
  refine V.lz ?_
  refine zS ?_
  refine V.ret (V.rets rfl (Lv.retG (by simp +contextual (disch:=first|omega|simp only[nx];omega) only[D1,cells_alloc_at,cells_alloc_ne,cells_set_at,cells_set_ne,yres,yres1,yresL,qA,qB,qC,D5,hF,hA,↓reduceIte,qD,qE,cells_set];rfl) ?_ ?_))
  ·exact hg.set (by omega) _
  ·rfl
theorem sides_sw {X : Heap} {p : Nat} (b : Bx X p [fn82,fn83] 121) : Sw 1 X (.slice (some ⟨p,0,none⟩) 2 2) [[fn82],[fn83]]:=Sw.flat (w:=1) (l:=[[fn82],[fn83]]) b.1 b.2 (by simp) (by simp)
theorem f73_ok (H : Heap) : F Try.prog 73 ⟨[]⟩ H (λv X=>Grow H X/\∃ p,v=.slice (some ⟨p,0,none⟩) 2 2/\H.next<=p/\Bx X p [fn82,fn83] 121):=by
 refine F.entryL rfl dg73 do73 de73 rfl (by kernel_rfl) ?_
 simp only[sets]
 refine V.re [] (N:=4) zE zY ?_
 intro t hF hA
 refine zS ?_
 refine V.l0 ?_
 refine zS ?_
 have zf:=@ok1_func
 refine V.lz ?_
 refine V.heap (λX=>Grow H X/\Bx X H.next [fn82,fn83] 121) ⟨?_,?_⟩ ?_
 ·exact zW
 ·exact zB
 rintro X ⟨g1,b1⟩
 refine zS ?_
 refine V.ret (V.rets rfl (Lv.retF (by simp +contextual (disch:=first|omega|simp only[nx];omega) only[D1,cells_alloc_at,cells_alloc_ne,cells_set_at,cells_set_ne,yres,yres1,yresL,qA,qB,qC,D5,hF,hA,↓reduceIte,qD,qE];rfl) ?_))
 exact⟨g1,_,rfl,Nat.le_refl _,b1⟩
def due (C : List (List Int)) : Nat->Int:=λi=>sm (C.map λr=>r.getD i 0)
theorem due_nil : due []=λ_=>0:=rfl
theorem due_take {C : List (List Int)} {k : Nat} (h : k<C.length) : due (C.take (k+1))=pl (due (C.take k)) C[k]:=by
 funext i
 unfold due pl
 rw[tk1 h,List.map_append,sm_app]
 simp[sm]
theorem due_bd {C : List (List Int)} (h : ∀ r∈C,∀ v∈r,0<=v/\v<=20000) (i : Nat) : 0<=due C i/\due C i<=C.length*20000:=by
 have:=sm_bound (c:=20000) (l:=C.map λr=>r.getD i 0) (λx hx=>by
  obtain⟨r,hr,rfl⟩:=List.mem_map.1 hx
  by_cases hi : i<r.length
  ·exact h r hr _ (getD_mem hi)
  ·rw[List.getD_eq_getElem?_getD,List.getElem?_eq_none (by omega)];simp)
 rwa [List.length_map] at this
theorem f50_ok {H : Heap} {c f : Value} {T : Tb} (h : TV H c f T) (hn : T.C.length<=5) (hC : ∀ r∈T.C,r.length<=4/\∀ v∈r,0<=v/\v<=20000) : F Try.prog 50 ⟨[.agg ⟨[I T.b,c,f]⟩]⟩ H (λv X=>Grow H X/\∃ s,v=.agg ⟨bl T.b c f s (due T.C)⟩/\BV X c f s T):=by
 obtain⟨pc,nc,cc,ec⟩:=h.c.isS
 obtain⟨pf,nf,cf,ef⟩:=h.f.isS
 have vv : vEq 3 (.agg ⟨[I T.b,c,f]⟩) (.agg ⟨[I T.b,c,f]⟩)=true:=by rw[ec,ef];simp[vEq,vEq0,all2]
 have okc:=(sl1 h.c.isS).1
 have okf:=(sl1 h.f.isS).1
 have hlc : ∀ X,ylen 0 X c=some (I T.C.length):=h.c.len
 refine F.entryL rfl dg50 do50 de50 rfl (by kernel_rfl) ?_
 simp only[sets]
 refine V.re [(0,.agg ⟨[I T.b,c,f]⟩)] (N:=23) zE zY ?_
 intro t hF hA
 simp only[Kn,and_true] at hA
 refine zS ?_
 refine V.l0 ?_
 refine V.heap (λX=>Grow H X/\Bx X H.next [I T.b,c,f] 33/\Bx X (H.next+1) [I 0,.slice none 0 0,.slice none 0 0,.slice none 0 0,I 0,I 0,I 0,I 0] 89/\H.next+2<=X.next) ⟨?_,?_,?_,?_⟩ ?_
 ·exact zW
 ·exact zB
 ·exact zB
 ·simp only[nx];omega
 rintro H1 ⟨g1,b1,c1,n1⟩
 refine zS ?_
 refine V.draw ?_
 have zf:=b1.2
 refine VD.nz 1 ?_
 simp only[ds]
 refine VD.callR zA (f73_ok _) zA (λs H2 ⟨g2,ps,hse,hps,bs2⟩=>?_)
 have hs2 : Sw 1 H2 s [[fn82],[fn83]]:=by rw[hse];exact sides_sw bs2
 have b2:=b1.grow g2
 have c2:=c1.grow g2
 have oks:=(sl1 hs2.isS).1
 have qs:=(sl1 hs2.isS).2.1
 have m2:=g2.1
 have zf:=aI @okc<|aI @okf<|aI @oks<|@qs
 refine VD.dz ?_ ?_ rfl ?_
 ·exact zM
 ·simp only[dcAll,dcOk,wantD,List.cons_append,List.nil_append,true_and,and_true]
  have zf:=aI b1.2<|b2.2
  exact⟨zR,λ_=>⟨_,_,_,rfl,rfl,rfl,(by simp only[D5,hF,hA,↓reduceIte,qD,qE];simp[inBound]),λ_=>⟨_,_,_,cells_alloc _ _ _ _,(by first|exact An_inb|rfl)⟩⟩⟩
 refine V.heap (λX=>Grow H2 X/\Bx X H2.next (bl T.b c f s (λ_=>0)) 89) ⟨?_,?_⟩ ?_
 ·exact zW
 ·exact zB
 rintro H3 ⟨g3,e3⟩
 have b3:=b2.grow g3
 have c3:=c2.grow g3
 refine zS ?_
 have zf:=aI b3.2<|@hlc
 refine V.lz ?_
 refine zS ?_
 refine V.loop (λz t m X=>∃ (k : Nat),k<=T.C.length/\z=T.C.length-k/\m=[]/\Grow H2 X/\Bx X H2.next (bl T.b c f s (due (T.C.take k))) 89/\Full 23 t/\Kn [(1,PT H.next),(2,PT (H.next+1)),(3,PT H2.next),(10,c),(11,I T.C.length),(12,I k)] t) T.C.length ?_ ?_
 ·exact⟨0,by omega,by omega,rfl,g3,e3,zF,zK⟩
 clear hF hA
 rintro z t m X ⟨k,hk,rfl,rfl,hg,eX,hF,hA⟩
 simp only[Kn,and_true] at hA
 have gX:=(g1.trans g2).trans hg
 refine zS ?_
 refine V.l0 ?_
 refine zS ?_
 refine V.condP zP (λhlt=>?_) (λhlt=>?_)
 ·have hlt' : k<T.C.length:=by omega
  obtain⟨p,u,hp,hu⟩:=h.c.at ri hlt'
  obtain⟨hu1,hu2⟩:=hu X gX
  have hpk:=hp .i64
  have hCk:=hC _ (List.getElem_mem hlt')
  have hdb : ∀ i,0<=due (T.C.take k) i/\due (T.C.take k) i<=1000000:=λi=>by
   have:=due_bd (C:=T.C.take k) (λr hr=>(hC r (List.mem_of_mem_take hr)).2) i
   rw[List.length_take] at this
   omega
  refine zS ?_
  have zf:=aI @hpk<|@hu1
  refine V.lz ?_
  refine zS ?_
  refine V.run ?_
  have zf:=eX.2
  refine VI.sz 3 ?_
  simp only[ds]
  refine VI.callA rfl (f74_ok hu2 hCk.1 hCk.2 hdb) zA (λY gy=>?_)
  have eY:=eX.grow gy
  have ly:=eY.1
  rw[<- due_take hlt']
  have zf:=eY.2
  refine VI.lz ?_
  refine zS ?_
  refine V.l0 ?_
  refine V.nil (Or.inl ⟨rfl,T.C.length-(k+1),by omega,?_⟩)
  exact⟨k+1,hlt',rfl,rfl,(hg.trans gy).set (Nat.le_refl _) _,⟨by simpa using ly,cells_set _ _ _ _ _⟩,zF,zK⟩
 ·obtain rfl : k=T.C.length:=by omega
  rw[List.take_length] at eX
  have cX:=c2.grow hg
  have lc:=cX.1
  have le:=eX.1
  refine V.exit ?_
  refine zX ?_
  refine V.nil (Or.inr ⟨by simp,?_⟩)
  refine zX ?_
  refine zS ?_
  have zf:=aI eX.2<|aI cX.2<|aI @okc<|aI @okf<|@oks
  refine V.lz ?_
  refine zS ?_
  refine V.ret (V.rets rfl (Lv.retF (by simp +contextual (disch:=first|omega|simp only[nx];omega) only[D1,cells_alloc_at,cells_alloc_ne,cells_set_at,cells_set_ne,yres,yres1,yresL,qA,qB,qC,D5,hF,hA,↓reduceIte,qD,qE,cells_set];rfl) ?_))
  have gF:=gX.set (i:=H.next+1) (by omega) (.cells ⟨bl T.b c f s (due T.C)⟩ 89 true)
  refine⟨gF,s,rfl,h.grow gF,?_⟩
  rw[hse]
  exact sides_sw ((bs2.grow hg).set (by omega) _)
def kp (T : Tb) (r : Int) (row : List Int) : Prop:=∀ k (hk : k<row.length),∀ x∈T.F,x.1=r->x.2.1=k->x.2.2=row[k]
instance (T : Tb) (r : Int) (row : List Int) : Decidable (kp T r row):=by unfold kp;infer_instance
theorem f86_ok {H : Heap} {c f y : Value} {T : Tb} {r : Int} {row : List Int} (h : TV H c f T) (hy : RI H y row) (n1 : T.F.length<=1048576) (n2 : row.length<=1048576) : Gives Try.prog 86 [.agg ⟨[I T.b,c,f]⟩,I r,y] H (.bool (decide (kp T r row))):=by
 have hlf:=h.fl
 have hl:=hy.len
 refine F.entryL rfl dg86 do86 de86 rfl (by kernel_rfl) ?_
 simp only[sets]
 refine V.re [(0,.agg ⟨[I T.b,c,f]⟩),(1,I r),(2,y)] (N:=45) zE zY ?_
 intro t hF hA
 simp only[Kn,and_true] at hA
 refine zS ?_
 refine V.l0 ?_
 refine V.heap (λX=>Grow H X/\Bx X H.next [I T.b,c,f] 33) ⟨?_,?_⟩ ?_
 ·exact zW
 ·exact zB
 rintro H1 ⟨g1,b1⟩
 refine zS ?_
 refine V.l0 ?_
 refine zS ?_
 have zf:=@hl
 refine V.lz ?_
 refine zS ?_
 refine V.loop (λz t m X=>∃ (k : Nat),k<=row.length/\z=row.length-k/\m=[]/\Grow H1 X/\(∀ j (hj : j<row.length),j<k->∀ x∈T.F,x.1=r->x.2.1=j->x.2.2=row[j])/\Full 45 t/\Kn [(1,I r),(3,PT H.next),(7,.bool true),(12,y),(13,I row.length),(14,I k)] t) row.length ?_ ?_
 ·exact⟨0,by omega,by omega,rfl,.refl _,λj _ hj=>by omega,zF,zK⟩
 clear hF hA
 rintro z t m X ⟨k,hk,rfl,rfl,hg,hall,hF,hA⟩
 simp only[Kn,and_true] at hA
 have bX:=b1.grow hg
 have gX:=g1.trans hg
 refine zS ?_
 refine V.l0 ?_
 refine zS ?_
 refine V.condP zP (λhlt=>?_) (λhlt=>?_)
 ·have hlt' : k<row.length:=by omega
  obtain⟨p,hp,hx⟩:=hy.at hlt'
  have hx1:=hx X gX
  refine zS ?_
  have zf:=aI @hp<|@hx1
  refine V.lz ?_
  refine zS ?_
  have zf:=aI bX.2<|@hlf
  refine V.lz ?_
  refine zS ?_
  refine V.loop (λz t m Y=>∃ (i : Nat),i<=T.F.length/\z=T.F.length-i/\m=[]/\Grow H1 Y/\(∀ x∈T.F.take i,x.1=r->x.2.1=k->x.2.2=row[k])/\Full 45 t/\Kn [(1,I r),(3,PT H.next),(7,.bool true),(8,I k),(9,I row[k]),(12,y),(13,I row.length),(14,I k),(20,f),(21,I T.F.length),(22,I i)] t) T.F.length ?_ ?_
  ·exact⟨0,by omega,by omega,rfl,hg,by simp,zF,zK⟩
  clear hF hA
  rintro z t m Y ⟨i,hi,rfl,rfl,hgY,hallI,hF,hA⟩
  simp only[Kn,and_true] at hA
  refine zS ?_
  refine V.l0 ?_
  refine zS ?_
  refine V.condP zP (λhlt2=>?_) (λhlt2=>?_)
  ·have hi' : i<T.F.length:=by omega
   obtain⟨q,hq,hxx⟩:=h.fat hi'
   have hq1:=hxx Y (g1.trans hgY)
   refine zS ?_
   have zf:=aI @hq<|@hq1
   refine V.lz ?_
   refine V.heap (λZ=>Grow Y Z/\Bx Z Y.next (r3 T.F[i]) 83) ⟨?_,?_⟩ ?_
   ·exact zW
   ·exact zB
   rintro Z ⟨gz,bz⟩
   refine zS ?_
   have zf:=bz.2
   refine V.lz ?_
   refine zS ?_
   refine V.condP zP (λhbad=>?_) (λhbad=>?_)
   ·refine zS ?_
    refine V.l0 ?_
    refine V.exit ?_
    refine V.out (by decide) ?_
    refine V.pass ?_
    refine V.nil (Or.inr ⟨by simp,?_⟩)
    refine V.out (by decide) ?_
    refine V.out (by decide) ?_
    refine V.pass ?_
    refine V.nil (Or.inr ⟨by simp,?_⟩)
    refine V.here ?_
    refine zS ?_
    refine V.l0 ?_
    refine zS ?_
    refine V.ret (V.rets rfl (Lv.retG (by simp +contextual (disch:=first|omega|simp only[nx];omega) only[D1,cells_alloc_at,cells_alloc_ne,cells_set_at,cells_set_ne,yres,yres1,yresL,qA,qB,qC,D5,hF,hA,↓reduceIte,qD,qE];rfl) ?_ ?_))
    ·exact (g1.trans hgY).trans gz
    ·refine congrArg _ (decide_eq_false (λhh=>?_)).symm
     exact hbad.2 (hh k hlt' _ (List.getElem_mem hi') hbad.1.1 hbad.1.2)
   ·refine zS ?_
    refine V.l0 ?_
    refine V.nil (Or.inl ⟨rfl,T.F.length-(i+1),by omega,?_⟩)
    refine⟨i+1,hi',rfl,rfl,hgY.trans gz,?_,zF,zK⟩
    intro x hx e1 e2
    rw[tk1 hi'] at hx
    rcases List.mem_append.1 hx with hx|hx
    ·exact hallI x hx e1 e2
    ·rw[List.mem_singleton.1 hx] at e1 e2 ⊢
     exact Decidable.not_not.1 (λhh=>hbad ⟨⟨e1,e2⟩,hh⟩)
  ·obtain rfl : i=T.F.length:=by omega
   rw[List.take_length] at hallI
   refine V.exit ?_
   refine zX ?_
   refine V.nil (Or.inr ⟨by simp,?_⟩)
   refine zX ?_
   refine zS ?_
   refine V.l0 ?_
   refine V.nil (Or.inl ⟨rfl,row.length-(k+1),by omega,?_⟩)
   refine⟨k+1,hlt',rfl,rfl,hgY,?_,zF,zK⟩
   intro j hj hjk
   by_cases e : j=k
   ·subst e;exact hallI
   ·exact hall j hj (by omega)
 ·obtain rfl : k=row.length:=by omega
  refine V.exit ?_
  refine zX ?_
  refine V.nil (Or.inr ⟨by simp,?_⟩)
  refine zX ?_
  refine zS ?_
  refine V.l0 ?_
  refine zS ?_
  refine V.ret (V.rets rfl (Lv.retG (by simp +contextual (disch:=first|omega|simp only[nx];omega) only[D1,cells_alloc_at,cells_alloc_ne,cells_set_at,cells_set_ne,yres,yres1,yresL,qA,qB,qC,D5,hF,hA,↓reduceIte,qD,qE];rfl) ?_ ?_))
  ·exact gX
  ·exact congrArg _ (decide_eq_true (λj hj=>hall j hj hj)).symm
end Go.Xe.TRX
end
