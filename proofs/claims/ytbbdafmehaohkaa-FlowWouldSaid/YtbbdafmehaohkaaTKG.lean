/- Counts around a truth: the program of the statements. Conditions: none. -/
import Derived.Test.YtbbdafmehaohkaaTKF
-- MOD TF
namespace Go.Xe.TFX
open Go Go.Xe Go.Proofs
open Nat renaming reduceLeDiff → qA, reduceSub → qB, reduceAdd → qC, reduceEqDiff → qD, reduceLT → qE
open Int renaming reduceNegSucc → qF, reduceEq → qG
open Go.Xe.V renaming seq → sA, block → sB, scope → sC, skip → sD, close → sE
open Go.Xe renaming pth → P
open Go.Xe.Flw
set_option maxRecDepth 100000
set_option maxHeartbeats 3200000
set_option linter.unusedSimpArgs false
noncomputable def d90 : FCode:=(.seq (.run (.go (.box 25 (tm 0)) (P 4)::
.go (.alloc 25 [(.slice none 0 0),(.slice none 0 0),(.slice none 0 0),(.slice none 0 0)]) (P 8)::
[])) (.seq (.run (.go (.loadN 4 (tm 4)) (P 15)::
.go (.alloc 25 [(.slice none 0 0),(.slice none 0 0),(.slice none 0 0),(.slice none 0 0)]) (P 9)::
.un (.store 4 (tm 9) (tm 15))::
[])) (.seq (.run (.go (.fieldAddr 0 (tm 9)) (P 16)::
.un (.store 1 (tm 16) (.con (.slice none 0 0)))::
[])) (.seq (.seq (.run (.go (.move (.con (.int .i64 (.ofNat 0)))) (P 10)::
[])) (.block 0 (.loop (.seq (.seq (.run (.go (.move (tm 10)) (P 17)::
.go (.fieldAddr 0 (tm 4)) (P 18)::
.go (.load1 (tm 18)) (P 19)::
.go (.len 0 (tm 19)) (P 20)::
.go (.bin .lss 3 (tm 17) (tm 20)) (P 21)::
[])) (.cond (tm 21) .skip (.exit 0))) (.seq (.block 1 (.seq (.run (.go (.move (.con (.slice none 0 0))) (P 11)::
[])) (.seq (.seq (.run (.go (.move (.con (.int .i64 (.ofNat 0)))) (P 12)::
[])) (.block 2 (.loop (.seq (.seq (.run (.go (.move (tm 12)) (P 24)::
.go (.loadN 4 (tm 4)) (P 25)::
.go (.call (.con (.func (.func 34) ⟨[]⟩ ⟨[]⟩)) [tm 25]) (P 26)::
.go (.bin .lss 3 (tm 24) (tm 26)) (P 27)::
[])) (.cond (tm 27) .skip (.exit 2))) (.seq (.block 3 (.seq (.draw 16 (.go (.move (tm 1)) (P 30)::
.go (.move (tm 10)) (P 31)::
.go (.indexAddr none 1 (tm 30) (tm 31)) (P 32)::
.go (.load1 (tm 32)) (P 33)::
.go (.move (tm 12)) (P 34)::
.go (.indexAddr none 1 (tm 33) (tm 34)) (P 35)::
.go (.load1 (tm 35)) (P 36)::
.go (.move (tm 2)) (P 37)::
.go (.move (tm 10)) (P 38)::
.go (.bin .mul 3 (.con (.int .i64 (.ofNat 4))) (tm 38)) (P 39)::
.go (.move (tm 12)) (P 40)::
.go (.bin .add 3 (tm 39) (tm 40)) (P 41)::
.go (.bin .add 3 (tm 41) (.con (.int .i64 (.ofNat 2)))) (P 42)::
.go (.call (.con (.func (.func 92) ⟨[]⟩ ⟨[]⟩)) [(tm 37),(tm 42)]) (P 43)::
.go (.move (tm 36)) (P 13)::
.go (.move (tm 43)) (P 14)::
[]) [.ok,.ok,.ok,.rd none (.load1 (tm 32)) (some (P 33)) [14],.ok,.ok,.rd none (.load1 (tm 35)) (some (P 36)) [14],.ok,.ok,.ok,.ok,.ok,.ok,.ok,.ok,.ok]) (.seq (.seq (.run (.go (.move (tm 3)) (P 44)::
.go (.move (tm 10)) (P 45)::
.go (.bin .mul 3 (.con (.int .i64 (.ofNat 4))) (tm 45)) (P 46)::
.go (.move (tm 12)) (P 47)::
.go (.bin .add 3 (tm 46) (tm 47)) (P 48)::
.go (.conv .u64 (tm 48)) (P 49)::
.go (.bin .shr 97 (tm 44) (tm 49)) (P 50)::
.go (.bin .rem 97 (tm 50) (.con (.int .u16 (.ofNat 2)))) (P 51)::
.go (.bin .eql 97 (tm 51) (.con (.int .u16 (.ofNat 1)))) (P 52)::
[])) (.cond (tm 52) (.run (.go (.move (tm 13)) (P 53)::
.go (.move (tm 14)) (P 54)::
.go (.bin .rem 3 (tm 54) (.con (.int .i64 (.ofNat 70)))) (P 55)::
.go (.bin .add 3 (.con (.int .i64 (.ofNat 11))) (tm 55)) (P 56)::
.go (.bin .add 3 (tm 53) (tm 56)) (P 57)::
.go (.move (tm 57)) (P 13)::
[])) .skip)) (.run (.go (.move (tm 11)) (P 58)::
.go (.move (tm 13)) (P 59)::
.go (.move (tm 14)) (P 60)::
.go (.bin .rem 3 (tm 60) (.con (.int .i64 (.ofNat 7)))) (P 61)::
.go (.bin .sub 3 (tm 59) (tm 61)) (P 62)::
.go (.mm true [(.con (.int .i64 (.ofNat 0))),(tm 62)]) (P 63)::
.go (.move (tm 13)) (P 64)::
.go (.move (tm 14)) (P 65)::
.go (.bin .quo 3 (tm 65) (.con (.int .i64 (.ofNat 8)))) (P 66)::
.go (.bin .rem 3 (tm 66) (.con (.int .i64 (.ofNat 7)))) (P 67)::
.go (.bin .add 3 (tm 64) (tm 67)) (P 68)::
.go (.build [(.int .i64 (.ofNat 0)),(.int .i64 (.ofNat 0))] [(0,1,(tm 63)),(1,1,(tm 68))]) (P 69)::
.go (.buildSlice 62 1 [(.int .i64 (.ofNat 0)),(.int .i64 (.ofNat 0))] [(0,2,(tm 69))]) (P 70)::
.go (.append 62 2 16 (tm 58) (tm 70)) (P 71)::
.go (.move (tm 71)) (P 11)::
[]))))) (.run (.go (.move (tm 12)) (P 28)::
.go (.bin .add 3 (tm 28) (.con (.int .i64 (.ofNat 1)))) (P 29)::
.go (.move (tm 29)) (P 12)::
[]))))))) (.run (.go (.fieldAddr 0 (tm 9)) (P 72)::
.go (.load1 (tm 72)) (P 73)::
.go (.move (tm 11)) (P 74)::
.go (.buildSlice 23 1 [(.slice none 0 0)] [(0,1,(tm 74))]) (P 75)::
.go (.append 23 1 24 (tm 73) (tm 75)) (P 76)::
.go (.fieldAddr 0 (tm 9)) (P 77)::
.un (.store 1 (tm 77) (tm 76))::
[]))))) (.run (.go (.move (tm 10)) (P 22)::
.go (.bin .add 3 (tm 22) (.con (.int .i64 (.ofNat 1)))) (P 23)::
.go (.move (tm 23)) (P 10)::
[]))))))) (.seq (.run (.go (.loadN 4 (tm 9)) (P 78)::
.un (.store 4 (tm 8) (tm 78))::
[])) .ret)))))
theorem de90 : @compF Try.prog (Gl.none Try.prog) Try.f90 4=.mk d90 (mkTT 79) [(P 0),(P 1),(P 2),(P 3)] [.many (P 8) 4]:=by kernel_rfl
theorem dg90 : Try.prog.funcs[90]?=some Try.f90:=Try.func90
theorem do90 : okF Try.prog Try.f90=true:=by kernel_rfl
def sh2 (b : Int) (m : Nat) : Int:=b.fdiv (2 ^ min m 16)
theorem shr_u16 {ty : TypeId} {b : Int} {m : Nat} : xbinOp Try.prog .shr ty (.int .u16 b) (.int .u64 (m : Int))=some (.int .u16 (sh2 b m)):=by
 have h : ¬ ((m : Int)<0):=by omega
 simp only[xbinOp,xbin]
 rw[if_neg h,Int.toNat_natCast]
 rfl
def bt (b : Int) (m : Nat) : Prop:=(sh2 b m).tmod 2=1
instance (b : Int) (m : Nat) : Decidable (bt b m):=by unfold bt;infer_instance
def cnn (S : List (List Int)) (ws : List Int) (b : Int) (c g : Nat) : Int:=if bt b (4*c+g) then (S.getD c []).getD g 0+(11+wd ws (4*c+g+2)%70) else (S.getD c []).getD g 0
def cnr (S : List (List Int)) (ws : List Int) (b : Int) (c g : Nat) : R2:=(max 0 (cnn S ws b c g-wd ws (4*c+g+2)%7),cnn S ws b c g+wd ws (4*c+g+2)/8%7)
def cT (T : Tb) (S : List (List Int)) (ws : List Int) (b : Int) : Tb:=⟨(List.range T.C.length).map fun c=>(List.range (grp T)).map (cnr S ws b c),T.B,T.Rt,T.N⟩
def cro (S : List (List Int)) (ws : List Int) (b : Int) (c k : Nat) : List R2:=(List.range k).map (cnr S ws b c)
theorem wrap_u' {n : Int} (h : 0≤n) (h2 : n<18446744073709551616) : IntKind.u64.wrap n=n:=by
 have : IntKind.u64.wrap n=n%18446744073709551616:=by
  simp only[IntKind.wrap]
  rfl
 rw[this]
 omega
theorem cro_s (S : List (List Int)) (ws : List Int) (b : Int) (c k : Nat) : rcell (cro S ws b c (k+1))=((rcell (cro S ws b c k)).1+1,(rcell (cro S ws b c k)).2++r2 (cnr S ws b c k)):=by
 have e : cro S ws b c (k+1)=cro S ws b c k++[cnr S ws b c k]:=by unfold cro;rw[List.range_succ,List.map_append];rfl
 rw[e,rcell_s]
theorem f90_ok {H : Heap} {c b r n s x : Value} {T : Tb} {S : List (List Int)} {ws : List Int} {bits : Int} (h : TV H c b r n T) (hS : Nest RI H s S) (hw : WS H x ws) (hK : T.C.length≤4) (hG : grp T≤4) (hl : T.C.length≤S.length) (hl2 : ∀ row∈S,row.length=grp T) (hb : ∀ k g : Nat,-2000000≤(S.getD k []).getD g 0∧(S.getD k []).getD g 0≤2000000) : F Try.prog 90 ⟨[.agg ⟨[c,b,r,n]⟩,s,x,.int .u16 bits]⟩ H (fun w X=>Grow H X∧∃ c',w=.agg ⟨[c',b,r,n]⟩∧LocP H.next X (fun Y=>Nest RS Y c' (cT T S ws bits).C)):=by
 have k1:=(sl1 h.c.isS).1
 have k2:=(sl1 (rp.sl h.b)).1
 have k3:=(sl1 (rp.sl h.r)).1
 have k4:=(sl1 (rp.sl h.n)).1
 obtain⟨cp,cn',cc,rfl⟩:=h.c.isS
 have hcl:=h.c.len
 obtain⟨b1,b2,b3,rfl⟩:=rp.sl h.b
 obtain⟨r1,r2',r3,rfl⟩:=rp.sl h.r
 obtain⟨n1,n2,n3,rfl⟩:=rp.sl h.n
 generalize Value.slice b1 b2 b3=b at *
 generalize Value.slice r1 r2' r3=r at *
 generalize Value.slice n1 n2 n3=n at *
 generalize Value.slice cp cn' cc=c at *
 refine F.entryL rfl dg90 do90 de90 rfl (by kernel_rfl) ?_
 simp only[sets]
 refine V.re [(0,.agg ⟨[c,b,r,n]⟩),(1,s),(2,x),(3,.int .u16 bits)] (N:=79) zE zY ?_
 intro t hF hA
 simp only[Kn,and_true] at hA
 refine zS ?_
 refine V.l0 ?_
 refine zS ?_
 have zf:=And.intro @k1<|And.intro @k2<|And.intro @k3<|@k4
 refine V.lz ?_
 refine V.heap (fun X=>Grow H X∧Bx X H.next [c,b,r,n] 25∧Bx X (H.next+1) [.slice none 0 0,.slice none 0 0,.slice none 0 0,.slice none 0 0] 25∧Bx X (H.next+2) [c,b,r,n] 25) ⟨?_,?_,?_,?_⟩ ?_
 ·exact zW
 ·exact zB
 ·exact zB
 ·exact zB
 rintro H1 ⟨g1,t1,q1,x1⟩
 have nx1:=x1.1
 refine zS ?_
 have zf:=x1.2
 refine V.lz ?_
 refine zS ?_
 refine V.l0 ?_
 refine zS ?_
 refine V.loop (fun w t m X=>∃ (k : Nat) (col : Nat→Nat) (c' : Value) (vs : List Value),k≤T.C.length∧w=T.C.length-k∧m=[]∧Grow H X∧H.next+3≤X.next∧Bx X H.next [c,b,r,n] 25∧Bx X (H.next+1) [.slice none 0 0,.slice none 0 0,.slice none 0 0,.slice none 0 0] 25∧Bx X (H.next+2) [c',b,r,n] 25∧Oc (H.next+3) col 0 X 23 c' vs.length vs∧Rws (H.next+3) col (fun k=>1+k) X 62 vs (((List.range k).map fun j=>cro S ws bits j (grp T)).map rcell)∧Full 79 t∧Kn [(1,s),(2,x),(3,.int .u16 bits),(4,PT H.next),(8,PT (H.next+1)),(9,PT (H.next+2)),(10,I k)] t) T.C.length ?_ ?_
 ·exact⟨0,fun _=>0,_,[],by omega,by omega,rfl,g1.set (by omega) _,by simp only[Heap.next_set];omega,t1.set (by omega) _,q1.set (by omega) _,⟨by simp only[Heap.next_set];exact nx1,cells_set _ _ _ _ _⟩,.nil,⟨rfl,fun k x r hx=>by simp at hx⟩,zF,zK⟩
 clear hF hA
 rintro w t m X ⟨k,col,c',vs,hk,rfl,rfl,hg,hnX,tX,qX,xX,oc,rw',hF,hA⟩
 simp only[Kn,and_true] at hA
 have hcl':=hcl X
 refine zS ?_
 have zf:=And.intro tX.2<|@hcl'
 refine V.lz ?_
 refine zS ?_
 refine V.condP zP (fun hlt=>?_) (fun hlt=>?_)
 ·have hk' : k<T.C.length:=by omega
  have hvl : vs.length=k:=by rw[rw'.1];simp
  refine zS ?_
  refine V.l0 ?_
  refine zS ?_
  refine V.l0 ?_
  refine zS ?_
  refine V.loop (fun w t m Y=>∃ (g : Nat) (col : Nat→Nat) (row : Value),g≤grp T∧w=grp T-g∧m=[]∧Grow H Y∧H.next+3≤Y.next∧Bx Y H.next [c,b,r,n] 25∧Bx Y (H.next+1) [.slice none 0 0,.slice none 0 0,.slice none 0 0,.slice none 0 0] 25∧Bx Y (H.next+2) [c',b,r,n] 25∧Oc (H.next+3) col 0 Y 23 c' vs.length vs∧Rws (H.next+3) col (fun k=>1+k) Y 62 vs (((List.range k).map fun j=>cro S ws bits j (grp T)).map rcell)∧Oc (H.next+3) col (1+k) Y 62 row (rcell (cro S ws bits k g)).1 (rcell (cro S ws bits k g)).2∧Full 79 t∧Kn [(1,s),(2,x),(3,.int .u16 bits),(4,PT H.next),(8,PT (H.next+1)),(9,PT (H.next+2)),(10,I k),(11,row),(12,I g)] t) (grp T) ?_ ?_
  ·exact⟨0,col,_,by omega,by omega,rfl,hg,hnX,tX,qX,xX,oc,rw',.nil,zF,zK⟩
  clear hF hA hg hnX tX qX xX oc rw'
  rintro w t m Y ⟨g,col,row,hgl,rfl,rfl,hg,hnX,tX,qX,xX,oc,rw',orow,hF,hA⟩
  simp only[Kn,and_true] at hA
  refine zS ?_
  refine V.run ?_
  have zf:=tX.2
  refine VI.sz 2 ?_
  simp only[ds]
  refine VI.callA rfl (f34_ok (h.grow hg)) zA (fun Y1 gy1=>?_)
  refine VI.l0 ?_
  refine zS ?_
  refine V.condP zP (fun hlt2=>?_) (fun hlt2=>?_)
  ·have hg' : g<grp T:=by omega
   have hg1:=hg.trans gy1
   have hsk : k<S.length:=by omega
   have hrl:=hl2 _ (List.getElem_mem hsk)
   have hgl' : g<(S[k]).length:=by omega
   obtain⟨p,y,hp,hy⟩:=hS.at ri hsk
   obtain⟨hy1,hy2⟩:=hy Y1 hg1
   have hp':=hp .i64
   obtain⟨p2,hq,hq2⟩:=hy2.at hgl'
   have hq3:=hq2 Y1 (.refl _)
   have hbb:=hb k g
   have e1 : (S.getD k []).getD g 0=(S[k])[g]:=by rw[getD_nest hsk,gd hgl']
   rw[e1] at hbb
   have vy:=(sl1 (ri.sl hy2)).2.2.1
   refine zS ?_
   refine V.draw ?_
   have zf:=And.intro @hp'<|And.intro @hy1<|And.intro @hq<|@hq3
   refine VD.nz 9 ?_
   simp only[ds]
   have zf:=And.intro @hp'<|And.intro @hy1<|And.intro @hq<|@hq3
   refine VD.nz 4 ?_
   simp only[ds]
   refine VD.callA zA (f92_ok (hw.grow hg1) (a:=4*(k : Int)+g+2) (k:=4*k+g+2) (by omega)) zA (fun Y2 gy2=>?_)
   have hy3:=(hy Y2 (hg1.trans gy2)).1
   have hq4:=hq2 Y2 gy2
   have m2:=gy2.1
   refine VD.d0 ?_ ?_ rfl ?_
   ·exact zM
   ·simp only[dcAll,dcOk,wantD,List.cons_append,List.nil_append,true_and,and_true]
    have zf:=And.intro @hy1<|And.intro @hy3<|And.intro @hq3<|@hq4
    exact⟨zR,zR⟩
   have gyy:=gy1.trans gy2
   have hg2:=hg.trans gyy
   have tX:=tX.grow gyy
   have qX:=qX.grow gyy
   have xX:=xX.grow gyy
   have oc:=oc.grow gyy
   have rw':=rw'.grow gyy
   have orow:=orow.grow gyy
   have hnX : H.next+3≤Y2.next:=Nat.le_trans hnX gyy.1
   obtain⟨wb1,wb2⟩:=wd_bd hw.bd (4*k+g+2)
   generalize hw0 : wd ws (4*k+g+2)=w at *
   have hcl2 : (rcell (cro S ws bits k g)).1=g:=by simp[rcell,cro]
   have eu : IntKind.u64.wrap (4*(k : Int)+g)=((4*k+g : Nat) : Int):=by rw[wrap_u' (by omega) (by omega)];omega
   have hsh:=fun ty=>shr_u16 (ty:=ty) (b:=bits) (m:=4*k+g)
   have et1 : w.tmod 70=w%70:=Int.tmod_eq_emod_of_nonneg wb1
   have et2 : w.tmod 7=w%7:=Int.tmod_eq_emod_of_nonneg wb1
   have et3 : w.tdiv 8=w/8:=Int.tdiv_eq_ediv_of_nonneg wb1
   have et4 : (w/8).tmod 7=w/8%7:=Int.tmod_eq_emod_of_nonneg (by omega)
   refine zS ?_
   have zf:=And.intro @eu<|@hsh
   refine V.lz ?_
   refine zS ?_
   refine V.condP zP (fun hb1=>?_) (fun hb1=>?_)
   ·have hbt : bt bits (4*k+g):=hb1
    have ecn : cnn S ws bits k g=(S[k])[g]+(11+w%70):=by unfold cnn;rw[if_pos hbt,hw0,e1]
    have ecr : cnr S ws bits k g=(max 0 ((S[k])[g]+(11+w%70)-w%7),(S[k])[g]+(11+w%70)+w/8%7):=by unfold cnr;rw[ecn,hw0]
    have emx : (if (S[k])[g]+(11+w%70)-w%7 > 0 then (S[k])[g]+(11+w%70)-w%7 else 0)=max 0 ((S[k])[g]+(11+w%70)-w%7):=by split<;>omega
    obtain⟨u,Y3,a1,a2,a3,a4,a5,a6,pp,a7,a8⟩:=Oc.push (bytes:=16) (w:=2) (x:=r2 (cnr S ws bits k g)) (by decide) orow (by omega) (rcell_w _) rfl rfl (by omega) (by omega)
    rw[ecr] at a1
    refine zS ?_
    have zf:=@et1
    refine V.lz ?_
    refine zS ?_
    have zf:=And.intro @et2<|And.intro @et3<|And.intro @et4<|And.intro @emx<|@a1
    refine V.lz ?_
    refine zS ?_
    refine V.l0 ?_
    refine V.nil (Or.inl ⟨rfl,grp T-(g+1),by omega,?_⟩)
    refine⟨g+1,_,u,hg',rfl,rfl,a4.grow hg2 (by omega),by omega,a4.bx tX (by omega),a4.bx qX (by omega),a4.bx xX (by omega),oc.st a3 (by show ¬ (_=_);omega),rw'.st a3 (fun j hj=>by rw[List.length_map,List.length_map,List.length_range] at hj;show ¬ (_=_);omega),?_,zF,zK⟩
    rw[cro_s]
    exact a2
   ·have hbt : ¬ bt bits (4*k+g):=hb1
    have ecn : cnn S ws bits k g=(S[k])[g]:=by unfold cnn;rw[if_neg hbt,e1]
    have ecr : cnr S ws bits k g=(max 0 ((S[k])[g]-w%7),(S[k])[g]+w/8%7):=by unfold cnr;rw[ecn,hw0]
    have emx : (if (S[k])[g]-w%7 > 0 then (S[k])[g]-w%7 else 0)=max 0 ((S[k])[g]-w%7):=by split<;>omega
    obtain⟨u,Y3,a1,a2,a3,a4,a5,a6,pp,a7,a8⟩:=Oc.push (bytes:=16) (w:=2) (x:=r2 (cnr S ws bits k g)) (by decide) orow (by omega) (rcell_w _) rfl rfl (by omega) (by omega)
    rw[ecr] at a1
    refine zS ?_
    have zf:=And.intro @et2<|And.intro @et3<|And.intro @et4<|And.intro @emx<|@a1
    refine V.lz ?_
    refine zS ?_
    refine V.l0 ?_
    refine V.nil (Or.inl ⟨rfl,grp T-(g+1),by omega,?_⟩)
    refine⟨g+1,_,u,hg',rfl,rfl,a4.grow hg2 (by omega),by omega,a4.bx tX (by omega),a4.bx qX (by omega),a4.bx xX (by omega),oc.st a3 (by show ¬ (_=_);omega),rw'.st a3 (fun j hj=>by rw[List.length_map,List.length_map,List.length_range] at hj;show ¬ (_=_);omega),?_,zF,zK⟩
    rw[cro_s]
    exact a2
  ·obtain rfl : g=grp T:=by omega
   have hg1:=hg.trans gy1
   have tX:=tX.grow gy1
   have qX:=qX.grow gy1
   have xX:=xX.grow gy1
   have oc:=oc.grow gy1
   have rw':=rw'.grow gy1
   have orow:=orow.grow gy1
   have m1:=gy1.1
   have lx:=xX.1
   obtain⟨rp',rn',rc',rfl⟩:=orow.slice
   obtain⟨cp2,cn2,cc2,rfl⟩:=oc.slice
   have hcl2 : (rcell (cro S ws bits k (grp T))).1=grp T:=by simp[rcell,cro]
   obtain⟨u,Y3,a1,a2,a3,a4,a5,a6,pp,a7,a8⟩:=Oc.push (bytes:=24) (w:=1) (x:=[.slice rp' rn' rc']) (by decide) oc (by omega) (by simp) rfl rfl (by omega) (by omega)
   subst a7
   have x3:=a4.bx xX (by omega)
   have lx3:=x3.1
   have hll : (((List.range k).map fun j=>cro S ws bits j (grp T)).map rcell).length=k:=by simp
   have hr3:=(rw'.st a3 (fun j _=>by show ¬ (_=_);omega)).push (u:=.slice rp' rn' rc') (m:=(rcell (cro S ws bits k (grp T))).1) (cs':=(rcell (cro S ws bits k (grp T))).2) (by rw[hll];exact orow.st a3 (by show ¬ (_=_);omega))
   have er : ((List.range (k+1)).map fun j=>cro S ws bits j (grp T)).map rcell=((List.range k).map fun j=>cro S ws bits j (grp T)).map rcell++[((rcell (cro S ws bits k (grp T))).1,(rcell (cro S ws bits k (grp T))).2)]:=by
    rw[List.range_succ,List.map_append,List.map_append]
    rfl
   rw[← er] at hr3
   refine V.exit ?_
   refine zX ?_
   refine V.nil (Or.inr ⟨by simp,?_⟩)
   refine zX ?_
   refine zS ?_
   have zf:=And.intro xX.2<|And.intro x3.2<|@a1
   refine V.lz ?_
   refine zS ?_
   refine V.l0 ?_
   refine V.nil (Or.inl ⟨rfl,T.C.length-(k+1),by omega,?_⟩)
   refine⟨k+1,_,_,_,hk',rfl,rfl,(a4.grow hg1 (by omega)).set (by omega) _,by simp only[Heap.next_set];omega,(a4.bx tX (by omega)).set (by omega) _,(a4.bx qX (by omega)).set (by omega) _,⟨by simp only[Heap.next_set];exact lx3,cells_set _ _ _ _ _⟩,?_,hr3.put (by omega) _,zF,zK⟩
   have:=a2.put (i:=H.next+2) (by omega) (.cells ⟨[.slice (some ⟨pp,0,none⟩) (vs.length+1) (vs.length+1),b,r,n]⟩ 25 true)
   simpa using this
 ·obtain rfl : k=T.C.length:=by omega
  have lx:=xX.1
  have lq:=qX.1
  obtain⟨cp2,cn2,cc2,rfl⟩:=oc.slice
  refine V.exit ?_
  refine zX ?_
  refine V.nil (Or.inr ⟨by simp,?_⟩)
  refine zX ?_
  refine zS ?_
  have zf:=And.intro xX.2<|And.intro qX.2<|And.intro @k2<|And.intro @k3<|@k4
  refine V.lz ?_
  refine zS ?_
  refine V.ret (V.rets rfl (Lv.retF (by simp +contextual (disch:=first|omega|simp only[nx];omega) only[D1,cells_alloc_at,cells_alloc_ne,cells_set_at,cells_set_ne,yres,yres1,yresL,qA,qB,qC,D5,hF,hA,↓reduceIte,qD,qE,cells_set];rfl) ?_))
  refine⟨hg.set (by omega) _,_,rfl,?_⟩
  intro Y hn hkk
  have o1:=(oc.put (i:=H.next+1) (by omega) (.cells ⟨[.slice cp2 cn2 cc2,b,r,n]⟩ 25 true)).loc hn (fun i hi hx=>hkk i (by omega) hx)
  have o2:=(rw'.put (i:=H.next+1) (by omega) (.cells ⟨[.slice cp2 cn2 cc2,b,r,n]⟩ 25 true)).loc hn (fun i hi hx=>hkk i (by omega) hx)
  refine o2.nest (R:=RS) rcell (o1.o (H0:=H) (by omega)).sl (fun j x0 rr hr hx=>?_)
  have h1 : Oc (H.next+3) col (1+j) Y 62 x0 (rr.map r2).length (rr.map r2).flatten:=by rw[List.length_map];exact hx
  exact (h1.w (H0:=H) (w:=2) (by omega)).sw (RS_len rr)
end Go.Xe.TFX
