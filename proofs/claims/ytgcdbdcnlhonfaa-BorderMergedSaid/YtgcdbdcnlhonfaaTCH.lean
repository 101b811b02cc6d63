/- What the functions of the layer border come to: numbers are carried. Conditions: none. -/
import Derived.Test.YtgcdbdcnlhonfaaTCG
-- MOD TB
namespace Go.Xe.TBX
open Go Go.Xe Go.Proofs
open Nat renaming reduceLeDiff → qA, reduceSub → qB, reduceAdd → qC, reduceEqDiff → qD, reduceLT → qE
open Int renaming reduceNegSucc → qF, reduceEq → qG
open Go.Xe.V renaming seq → sA, block → sB, scope → sC, skip → sD, close → sE
open Go.Xe renaming pth → P
open Go.Xe.Rnd
open Go.Xe.Sea (adl adl_1 adl_at mem_adl pix pix_at pix_adl adl_len)
set_option maxRecDepth 100000
set_option maxHeartbeats 3200000
set_option linter.unusedSimpArgs false
noncomputable def d58 : FCode:=(.seq (.run (.go (.box 96 (tm 0)) (P 1)::
.go (.move (.con (.slice none 0 0))) (P 2)::
.go (.move (.con (.slice none 0 0))) (P 3)::
[])) (.seq (.draw 11 (.go (.fieldAddr 0 (tm 1)) (P 14)::
.go (.fieldAddr 2 (tm 14)) (P 15)::
.go (.load1 (tm 15)) (P 16)::
.go (.len 0 (tm 16)) (P 17)::
.go (.fieldAddr 0 (tm 1)) (P 19)::
.go (.fieldAddr 1 (tm 19)) (P 20)::
.go (.load1 (tm 20)) (P 21)::
.go (.makeSlice 3 1 8 [(.int .i64 (.ofNat 0))] (tm 17) (tm 17)) (P 18)::
.go (.makeSlice 3 1 8 [(.int .i64 (.ofNat 0))] (tm 21) (tm 21)) (P 22)::
.go (.move (tm 18)) (P 2)::
.go (.move (tm 22)) (P 3)::
[]) [.ok,.ok,.ok,.ok,.nw none (some (P 18)) 7 true,.ok,.ok,.ok,.nw none (some (P 22)) 8 true,.nw none (some (P 2)) 9 false,.nw none (some (P 3)) 10 false]) (.seq (.seq (.run (.go (.fieldAddr 0 (tm 1)) (P 23)::
.go (.fieldAddr 0 (tm 23)) (P 24)::
.go (.load1 (tm 24)) (P 25)::
.go (.len 0 (tm 25)) (P 26)::
.go (.move (.con (.int .i64 (.ofNat 0)))) (P 27)::
[])) (.block 0 (.loop (.seq (.run (.go (.bin .lss 3 (tm 27) (tm 26)) (P 28)::
[])) (.seq (.cond (tm 28) .skip (.exit 0)) (.seq (.block 1 (.seq (.run (.go (.move (tm 27)) (P 29)::
.go (.indexAddr none 1 (tm 25) (tm 27)) (P 30)::
.go (.load1 (tm 30)) (P 31)::
.go (.move (tm 29)) (P 4)::
.go (.move (tm 31)) (P 5)::
[])) (.seq (.run (.go (.loadN 21 (tm 1)) (P 32)::
.go (.fieldAddr 4 (tm 1)) (P 33)::
.go (.loadN 8 (tm 33)) (P 34)::
.go (.move (tm 4)) (P 35)::
.go (.call (.con (.func (.func 94) ⟨[]⟩ ⟨[]⟩)) [(tm 32),(tm 34),(tm 35)]) (P 36)::
.go (.call (.con (.func (.func 93) ⟨[]⟩ ⟨[]⟩)) [tm 36]) (P 37)::
.go (.move (tm 37)) (P 6)::
[])) (.seq (.run (.go (.move (.con (.slice none 0 0))) (P 7)::
[])) (.seq (.seq (.run (.go (.move (tm 6)) (P 38)::
.go (.len 0 (tm 38)) (P 39)::
.go (.move (.con (.int .i64 (.ofNat 0)))) (P 40)::
[])) (.block 2 (.loop (.seq (.run (.go (.bin .lss 3 (tm 40) (tm 39)) (P 41)::
[])) (.seq (.cond (tm 41) .skip (.exit 2)) (.seq (.block 3 (.seq (.run (.go (.indexAddr none 1 (tm 38) (tm 40)) (P 42)::
.go (.load1 (tm 42)) (P 43)::
.go (.move (tm 43)) (P 9)::
[])) (.run (.go (.move (tm 7)) (P 44)::
.go (.fieldAddr 0 (tm 1)) (P 45)::
.go (.fieldAddr 2 (tm 45)) (P 46)::
.go (.load1 (tm 46)) (P 47)::
.go (.move (tm 9)) (P 48)::
.go (.indexAddr none 5 (tm 47) (tm 48)) (P 49)::
.go (.fieldAddr 2 (tm 49)) (P 50)::
.go (.load1 (tm 50)) (P 51)::
.go (.buildSlice 3 1 [(.int .i64 (.ofNat 0))] [(0,1,(tm 51))]) (P 52)::
.go (.append 3 1 8 (tm 44) (tm 52)) (P 53)::
.go (.move (tm 53)) (P 7)::
[])))) (.run (.go (.bin .add 3 (tm 40) (.con (.int .i64 (.ofNat 1)))) (P 54)::
.go (.move (tm 54)) (P 40)::
[])))))))) (.seq (.run (.go (.move (tm 7)) (P 56)::
.go (.move (tm 5)) (P 57)::
.go (.call (.con (.func (.func 54) ⟨[]⟩ ⟨[]⟩)) [(tm 56),(tm 57)]) (P 58)::
.go (.move (tm 58)) (P 55)::
.go (.extract (tm 55) 0) (P 59)::
.go (.extract (tm 55) 1) (P 60)::
.go (.move (tm 59)) (P 10)::
.go (.move (tm 60)) (P 11)::
[])) (.seq (.run (.go (.move (tm 10)) (P 61)::
.go (.len 0 (tm 61)) (P 62)::
.go (.move (.con (.int .i64 (.ofNat 0)))) (P 63)::
[])) (.block 4 (.loop (.seq (.run (.go (.bin .lss 3 (tm 63) (tm 62)) (P 64)::
[])) (.seq (.cond (tm 64) .skip (.exit 4)) (.seq (.block 5 (.seq (.run (.go (.move (tm 63)) (P 65)::
.go (.indexAddr none 1 (tm 61) (tm 63)) (P 66)::
.go (.load1 (tm 66)) (P 67)::
.go (.move (tm 65)) (P 12)::
.go (.move (tm 67)) (P 13)::
[])) (.seq (.run (.go (.move (tm 2)) (P 68)::
.go (.move (tm 6)) (P 69)::
.go (.move (tm 12)) (P 70)::
.go (.indexAddr none 1 (tm 69) (tm 70)) (P 71)::
.go (.load1 (tm 71)) (P 72)::
.go (.move (tm 13)) (P 73)::
.go (.indexAddr none 1 (tm 68) (tm 72)) (P 74)::
.un (.store 1 (tm 74) (tm 73))::
[])) (.run (.go (.move (tm 3)) (P 75)::
.go (.move (tm 6)) (P 76)::
.go (.move (tm 12)) (P 77)::
.go (.indexAddr none 1 (tm 76) (tm 77)) (P 78)::
.go (.load1 (tm 78)) (P 79)::
.go (.fieldAddr 12 (tm 1)) (P 80)::
.go (.indexAddr (some 8) 1 (tm 80) (tm 79)) (P 81)::
.go (.load1 (tm 81)) (P 82)::
.go (.indexAddr none 1 (tm 75) (tm 82)) (P 83)::
.go (.load1 (tm 83)) (P 84)::
.go (.move (tm 13)) (P 85)::
.go (.bin .add 3 (tm 84) (tm 85)) (P 86)::
.go (.indexAddr none 1 (tm 75) (tm 82)) (P 87)::
.un (.store 1 (tm 87) (tm 86))::
[]))))) (.run (.go (.bin .add 3 (tm 63) (.con (.int .i64 (.ofNat 1)))) (P 88)::
.go (.move (tm 88)) (P 63)::
[])))))))))))))) (.run (.go (.bin .add 3 (tm 27) (.con (.int .i64 (.ofNat 1)))) (P 89)::
.go (.move (tm 89)) (P 27)::
[])))))))) (.seq (.run (.go (.move (tm 2)) (P 90)::
.go (.move (tm 3)) (P 91)::
.go (.move (tm 90)) (P 2)::
.go (.move (tm 91)) (P 3)::
[])) .ret))))
theorem de58 : @compF Try.prog (Gl.none Try.prog) Try.f58 1=.mk d58 (mkTT 92) [(P 0)] [.tmp (P 2),.tmp (P 3)]:=by kernel_rfl
theorem dg58 : Try.prog.funcs[58]?=some Try.f58:=Try.func58
theorem do58 : okF Try.prog Try.f58=true:=by kernel_rfl
noncomputable def d20 : FCode:=(.seq (.run (.go (.box 34 (tm 0)) (P 1)::
.go (.move (.con (.slice none 0 0))) (P 2)::
.go (.move (.con (.slice none 0 0))) (P 3)::
.go (.move (.con (.int .i64 (.ofNat 0)))) (P 4)::
[])) (.seq (.seq (.run (.go (.loadN 4 (tm 1)) (P 6)::
.go (.call (.con (.func (.func 18) ⟨[]⟩ ⟨[]⟩)) [tm 6]) (P 7)::
.go (.move (tm 7)) (P 5)::
[])) (.seq (.run (.go (.move (tm 5)) (P 8)::
.go (.bin .neq 29 (tm 8) (.con (.int .i64 (.ofNat 0)))) (P 9)::
[])) (.cond (tm 9) (.seq (.run (.go (.move (tm 5)) (P 10)::
.go (.move (.con (.slice none 0 0))) (P 2)::
.go (.move (.con (.slice none 0 0))) (P 3)::
.go (.move (tm 10)) (P 4)::
[])) .ret) .skip))) (.seq (.run (.go (.loadN 4 (tm 1)) (P 12)::
.go (.call (.con (.func (.func 57) ⟨[]⟩ ⟨[]⟩)) [tm 12]) (P 13)::
.go (.call (.con (.func (.func 58) ⟨[]⟩ ⟨[]⟩)) [tm 13]) (P 14)::
.go (.move (tm 14)) (P 11)::
.go (.extract (tm 11) 0) (P 15)::
.go (.extract (tm 11) 1) (P 16)::
.go (.move (tm 15)) (P 2)::
.go (.move (tm 16)) (P 3)::
[])) (.seq (.run (.go (.move (tm 2)) (P 17)::
.go (.move (tm 3)) (P 18)::
.go (.move (tm 17)) (P 2)::
.go (.move (tm 18)) (P 3)::
.go (.move (.con (.int .i64 (.ofNat 0)))) (P 4)::
[])) .ret))))
theorem de20 : @compF Try.prog (Gl.none Try.prog) Try.f20 1=.mk d20 (mkTT 19) [(P 0)] [.tmp (P 2),.tmp (P 3),.tmp (P 4)]:=by kernel_rfl
theorem dg20 : Try.prog.funcs[20]?=some Try.f20:=Try.func20
theorem do20 : okF Try.prog Try.f20=true:=by kernel_rfl
theorem f58_ok {H : Heap} {o s j : Value} {M : BM} {Nn mi : Nat} (h : MV H o s j M) (G : VM M) (hN : M.N=Nn) : F Try.prog 58 ⟨[.agg ⟨ac o s j (Nn : Int) (oldF M) (newF M) (MPm mi)⟩]⟩ H (fun w X=>Grow H X∧∃ y1 y2,w=.tuple ⟨[y1,y2]⟩∧LS X y1 (fl M.S.length (shr M))∧LS X y2 (fl Nn fun k : Nat=>sF M.S.length (newF M) (shr M) (k : Int))):=by
 have hl:=h.s.len
 have hlo:=h.o.len
 have hS8:=G.s8
 have hO4:=G.o4
 have hN4:=G.n
 obtain⟨po,no,co,rfl⟩:=h.o.s.isS
 obtain⟨ps,ns,cs,rfl⟩:=h.s.isS
 obtain⟨pj,nj,cj,rfl⟩:=h.j.isS
 refine F.entryL rfl dg58 do58 de58 rfl (by kernel_rfl) ?_
 simp only[sets]
 refine V.re [(0,.agg ⟨ac (.slice po no co) (.slice ps ns cs) (.slice pj nj cj) (Nn : Int) (oldF M) (newF M) (MPm mi)⟩)] (N:=92) zE zY ?_
 intro t hF hA
 simp only[Kn,and_true] at hA
 refine zS ?_
 refine V.l0 ?_
 refine V.heap (fun X=>Grow H X∧Bx X H.next (ac (.slice po no co) (.slice ps ns cs) (.slice pj nj cj) (Nn : Int) (oldF M) (newF M) (MPm mi)) 96) ⟨?_,?_⟩ ?_
 ·exact zW
 ·exact zB
 rintro H1 ⟨g1,b1⟩
 have n1:=b1.1
 refine zS ?_
 have mk1:=mk_row H1 M.S.length (by omega)
 have mk2:=mk_row (H1.alloc (.cells ⟨Li (fl M.S.length fun _=>0)⟩ 3 true)) Nn (by omega)
 have ib1:=fun m=>inb_fl M.S.length m fun _=>0
 have ib2:=fun m=>inb_fl Nn m fun _=>0
 have zf:=And.intro b1.2<|And.intro @AC<|And.intro @hl<|And.intro @mk1<|@mk2
 refine V.dz ?_ ?_ rfl ?_
 ·exact zM
 ·simp only[dcAll,dcOk,wantD,List.cons_append,List.nil_append,true_and,and_true]
  exact⟨fun _=>⟨_,_,_,rfl,rfl,rfl,(by simp only[D5,hF,hA,↓reduceIte,qD,qE];simp[inBound]<;>exact decide_eq_true (by omega)),fun _=>⟨_,_,_,cells_alloc _ _ _ _,ib1 _⟩⟩,fun _=>⟨_,_,_,rfl,rfl,rfl,(by simp only[D5,hF,hA,↓reduceIte,qD,qE];simp[inBound]<;>exact decide_eq_true (by omega)),fun _=>⟨_,_,_,cells_alloc _ _ _ _,ib2 _⟩⟩,fun _=>⟨_,_,_,rfl,rfl,rfl,(by simp only[D5,hF,hA,↓reduceIte,qD,qE];simp[inBound]<;>exact decide_eq_true (by omega)),fun k=>by cases k⟩,fun _=>⟨_,_,_,rfl,rfl,rfl,(by simp only[D5,hF,hA,↓reduceIte,qD,qE];simp[inBound]<;>exact decide_eq_true (by omega)),fun k=>by cases k⟩⟩
 refine V.heap (fun X=>Grow H X∧Bx X H.next (ac (.slice po no co) (.slice ps ns cs) (.slice pj nj cj) (Nn : Int) (oldF M) (newF M) (MPm mi)) 96∧Bx X H1.next (Li (fl M.S.length (ownS M 0 0))) 3∧Bx X (H1.next+1) (Li (fl Nn fun k : Nat=>sF M.S.length (newF M) (ownS M 0 0) (k : Int))) 3) ⟨?_,?_,?_,?_⟩ ?_
 ·exact zW
 ·exact (b1.alloc _).alloc _
 ·rw[ownS_0 G];exact (Bx.new _ _ _).alloc _
 ·rw[ownS_0 G]
  simp only[sF_0]
  exact Bx.new _ _ _
 rintro H2 ⟨g2,b2,c2,d2⟩
 refine zS ?_
 have zf:=And.intro b2.2<|And.intro @AC<|@hlo
 refine V.lz ?_
 refine zS ?_
 refine V.loop (fun z t mm X=>∃ (d : Nat),d≤M.O.length∧z=M.O.length-d∧mm=[]∧Grow H X∧Bx X H.next (ac (.slice po no co) (.slice ps ns cs) (.slice pj nj cj) (Nn : Int) (oldF M) (newF M) (MPm mi)) 96∧Bx X H1.next (Li (fl M.S.length (ownS M d 0))) 3∧Bx X (H1.next+1) (Li (fl Nn fun k : Nat=>sF M.S.length (newF M) (ownS M d 0) (k : Int))) 3∧Full 92 t∧Kn [(1,PT H.next),(2,.slice (some ⟨H1.next,0,none⟩) M.S.length M.S.length),(3,.slice (some ⟨H1.next+1,0,none⟩) Nn Nn),(25,.slice po no co),(26,I M.O.length),(27,I d)] t) M.O.length ?_ ?_
 ·exact⟨0,by omega,by omega,rfl,g2,b2,c2,d2,zF,zK⟩
 clear hF hA g2 b2 c2 d2
 rintro z t mm X ⟨d,hd,rfl,rfl,gX,bX,cX,dX,hF,hA⟩
 simp only[Kn,and_true] at hA
 refine zS ?_
 refine V.l0 ?_
 refine zS ?_
 refine V.condP zP (fun hlt=>?_) (fun hlt=>?_)
 ·have hlt' : d<M.O.length:=by omega
  obtain⟨lp,lp1,lp2⟩:=h.o.at hlt'
  have lp3:=lp2 X gX
  have nX:=dX.1
  have ot:=G.ot hlt'
  obtain⟨tt,htt⟩ : ∃ tt,tt=M.O[d]:=⟨_,rfl⟩
  have hde:=G.de0 hlt'
  have hdE:=G.dshE hlt'
  have hdl:=G.dsh_len hlt'
  have hdb:=G.dsh_bd hlt'
  rw[← htt] at lp3 hde hdE
  refine zS ?_
  have zf:=And.intro @lp1<|@lp3
  refine V.lz ?_
  refine zS ?_
  refine V.run ?_
  have zf:=And.intro bX.2<|@AC
  refine VI.sz 4 ?_
  simp only[ds]
  refine VI.callR zA (f94_ok (cs:=ac (.slice po no co) (.slice ps ns cs) (.slice pj nj cj) (Nn : Int) (oldF M) (newF M) (MPm mi)) (f:=oldF M) (d:=(d : Int))) zA (fun w3 H3 ⟨hw3,g3,b3,c3,d3⟩=>?_)
  subst hw3
  have hD : ∀ i,(i=X.next∨i=X.next+1∨i=X.next+2)→i<H3.next:=fun i hi=>by
   have:=b3.1
   have:=c3.1
   have:=d3.1
   omega
  have hit:=f113_iter hS8 hl b3 c3 d3
  refine VI.callR zA (f93_ok hit hD) zA (fun w4 H4 ⟨g4,q4⟩=>?_)
  obtain⟨p4,n4',c4,rfl⟩:=q4.slice
  have q4 : Ow H3 H4 3 (.slice p4 n4' c4) (Li (ixl (vd M d))):=q4
  have l4:=(ow_ls q4).len
  rw[ixl_len] at l4
  refine VI.l0 ?_
  have g34:=g3.trans g4
  have gH4:=gX.trans g34
  have b4:=bX.grow g34
  have c4':=cX.grow g34
  have d4:=dX.grow g34
  refine zS ?_
  refine V.l0 ?_
  refine zS ?_
  have zf:=@l4
  refine V.lz ?_
  refine zS ?_
  refine V.loop (fun z t mm Y=>∃ (k : Nat) (w : Value),k≤(adl (vd M d) 8).length∧z=(adl (vd M d) 8).length-k∧mm=[]∧Grow H4 Y∧isS w∧Ow H4 Y 3 w (Li (wsl M d k))∧Full 92 t∧Kn [(1,PT H.next),(2,.slice (some ⟨H1.next,0,none⟩) M.S.length M.S.length),(3,.slice (some ⟨H1.next+1,0,none⟩) Nn Nn),(25,.slice po no co),(26,I M.O.length),(27,I d),(5,I tt),(6,.slice p4 n4' c4),(7,w),(38,.slice p4 n4' c4),(39,I (adl (vd M d) 8).length),(40,I k)] t) (adl (vd M d) 8).length ?_ ?_
  ·exact⟨0,.slice none 0 0,by omega,by omega,rfl,.refl _,⟨_,_,_,rfl⟩,.nil,zF,zK⟩
  clear hF hA
  rintro z t mm Y ⟨k,w,hk,rfl,rfl,gY,hw,ow,hF,hA⟩
  obtain⟨pw,nw',cw,rfl⟩:=hw
  simp only[Kn,and_true] at hA
  have bY:=b4.grow gY
  have hal:=adl_len (v:=vd M d) 8
  refine zS ?_
  refine V.l0 ?_
  refine zS ?_
  refine V.condP zP (fun hlk=>?_) (fun hlk=>?_)
  ·have hk' : k<(adl (vd M d) 8).length:=by omega
   obtain⟨ip,ip1,ip2⟩:=(ow_ls q4).at (k:=k) (by rw[ixl_len];exact hk')
   have ip3:=ip2 Y gY
   rw[ixl_at] at ip3
   have px:=pix_vd hk'
   obtain⟨p,hp⟩ : ∃ p,p=pix (vd M d) k:=⟨_,rfl⟩
   rw[← hp] at px ip3
   obtain⟨si,so',h1,h2⟩:=h.s.at px.1
   have h3:=(h2 Y (gH4.trans gY)).2.2.2.1
   rw[← wF_at px.1] at h3
   have hwl : (wsl M d k).length≤8:=by
    unfold wsl
    rw[List.length_map,List.length_take]
    omega
   obtain⟨u,Z,a1,a2,a3,a4,a5,_,a7,_⟩:=ow.push (bytes:=8) (r:=[I (wF M p)]) gY rfl (by simp) (by rw[Li_len];simp;omega) (by rw[Li_len];simp;omega)
   replace a1 : yappend 3 1 8 (Y.alloc (.cells ⟨[I (wF M p)]⟩ 3 true)) (.slice pw nw' cw) (.slice (some ⟨Y.next,0,none⟩) 1 1)=some (u,Z):=a1
   obtain⟨pu,nu,cu,rfl⟩:=a2.slice
   refine zS ?_
   have zf:=And.intro @ip1<|@ip3
   refine V.lz ?_
   refine zS ?_
   have zf:=And.intro bY.2<|And.intro @AC<|And.intro @h1<|And.intro @h3<|@a1
   refine V.lz ?_
   refine zS ?_
   refine V.l0 ?_
   refine V.nil (Or.inl ⟨rfl,(adl (vd M d) 8).length-(k+1),by omega,?_⟩)
   refine⟨k+1,_,hk',rfl,rfl,a3,⟨_,_,_,rfl⟩,?_,zF,zK⟩
   have e : Li (wsl M d (k+1))=Li (wsl M d k)++[I (wF M p)]:=by rw[wsl_1 hk',← hp];simp[Li]
   rw[e]
   exact a2
  obtain rfl : k=(adl (vd M d) 8).length:=by omega
  rw[wsl_end] at ow
  have hwl:=wsa_len (M:=M) (d:=d)
  refine V.exit ?_
  refine zX ?_
  refine V.nil (Or.inr ⟨by simp,?_⟩)
  refine zX ?_
  refine zS ?_
  refine V.run ?_
  refine VI.s0 2 ?_
  simp only[ds]
  refine VI.callR zA (f54_ok tt (ow_ls ow) (by omega)) zA (fun w5 H5 ⟨g5,q5⟩=>?_)
  rcases q5 with⟨q5,_⟩|⟨_,v5,rfl,q5⟩
  ·exact absurd hde q5
  obtain⟨p5,n5,c5,rfl⟩:=q5.slice
  rw[hdE] at q5
  have l5:=(ow_ls q5).len
  rw[hdl] at l5
  refine VI.l0 ?_
  have g45:=gY.trans g5
  have gH5:=gH4.trans g45
  have b5:=b4.grow g45
  have c5':=c4'.grow g45
  have d5:=d4.grow g45
  have q45:=q4.keep g45
  have m34:=g3.1
  have m4:=g4.1
  have m5:=g45.1
  have mY:=gY.1
  refine zS ?_
  have zf:=@l5
  refine V.lz ?_
  refine zS ?_
  refine V.loop (fun z t mm Z=>∃ (k : Nat),k≤(adl (vd M d) 8).length∧z=(adl (vd M d) 8).length-k∧mm=[]∧Grow H Z∧Ow H3 Z 3 (.slice p4 n4' c4) (Li (ixl (vd M d)))∧Ow Y Z 3 (.slice p5 n5 c5) (Li (dsh M d))∧Bx Z H.next (ac (.slice po no co) (.slice ps ns cs) (.slice pj nj cj) (Nn : Int) (oldF M) (newF M) (MPm mi)) 96∧Bx Z H1.next (Li (fl M.S.length (ownS M d k))) 3∧Bx Z (H1.next+1) (Li (fl Nn fun q : Nat=>sF M.S.length (newF M) (ownS M d k) (q : Int))) 3∧Full 92 t∧Kn [(1,PT H.next),(2,.slice (some ⟨H1.next,0,none⟩) M.S.length M.S.length),(3,.slice (some ⟨H1.next+1,0,none⟩) Nn Nn),(25,.slice po no co),(26,I M.O.length),(27,I d),(6,.slice p4 n4' c4),(61,.slice p5 n5 c5),(62,I (adl (vd M d) 8).length),(63,I k)] t) (adl (vd M d) 8).length ?_ ?_
  ·exact⟨0,by omega,by omega,rfl,gH5,q45,q5,b5,c5',d5,zF,zK⟩
  clear hF hA gH5 q45 b5 c5' d5
  rintro z t mm Z ⟨k,hk,rfl,rfl,gZ,qi,qs,bZ,cZ,dZ,hF,hA⟩
  simp only[Kn,and_true] at hA
  refine zS ?_
  refine V.l0 ?_
  refine zS ?_
  refine V.condP zP (fun hlk=>?_) (fun hlk=>?_)
  ·have hk' : k<(adl (vd M d) 8).length:=by omega
   obtain⟨ip,ip1,ip2⟩:=(ow_ls qi).at (k:=k) (by rw[ixl_len];exact hk')
   have ip3:=ip2 Z (.refl _)
   rw[ixl_at] at ip3
   obtain⟨sp,sp1,sp2⟩:=(ow_ls qs).at (k:=k) (by rw[hdl];exact hk')
   have sp3:=sp2 Z (.refl _)
   have px:=pix_vd hk'
   obtain⟨os1,os2⟩:=ownS_1 hS8 hk'
   have hsx:=shr_pix hk'
   have hgd : (dsh M d).getD k 0=(dsh M d)[k]'(by rw[hdl];exact hk'):=by simp[hdl,hk']
   rw[hgd] at hsx
   rw[← hsx] at sp3
   obtain⟨p,hp⟩ : ∃ p,p=pix (vd M d) k:=⟨_,rfl⟩
   rw[← hp] at px ip3 sp3 os1 os2
   obtain⟨x,hx⟩ : ∃ x,x=shr M p:=⟨_,rfl⟩
   have xb:=G.shr_bd px.1
   rw[← hx] at sp3 os1 xb
   have hnw:=G.new px.1
   obtain⟨e,he⟩ : ∃ e : Nat,newF M p=e:=⟨(newF M p).toNat,by omega⟩
   have heN : e<Nn:=by omega
   obtain⟨ow',how⟩ : ∃ ow' : Nat→Int,ow'=ownS M d k:=⟨_,rfl⟩
   have ob : ∀ i,i<M.S.length→0≤ow' i∧ow' i≤10000:=fun i _=>by rw[how];exact ownS_bd G
   rw[← how] at cZ dZ os1 os2
   have sb:=sF_bd (g:=newF M) (k:=(e : Int)) (by omega) ob
   obtain⟨sf,hsf⟩ : ∃ sf : Nat→Int,sf=fun q : Nat=>sF M.S.length (newF M) ow' (q : Int):=⟨_,rfl⟩
   have sfe : sf e=sF M.S.length (newF M) ow' (e : Int):=by rw[hsf]
   rw[← hsf] at dZ
   rw[← sfe] at sb
   have i1:=own_idx (y:=H1.next) (n:=M.S.length) (c:=M.S.length) px.1
   have i2:=own_idx (y:=H1.next+1) (n:=Nn) (c:=Nn) heN
   have i3:=idx_arr (len:=8) (i:=H.next) (o:=12) (kd:=.i64) (show p<8 by omega)
   have lp : p<(Li (fl M.S.length ow')).length:=by rw[Li_fl_len];exact px.1
   have le : e<(Li (fl Nn sf)).length:=by rw[Li_fl_len];exact heN
   have ge:=fl_get (g:=sf) heN
   have gg:=ac_g (o:=.slice po no co) (s:=.slice ps ns cs) (j:=.slice pj nj cj) (N:=(Nn : Int)) (f:=oldF M) (g:=newF M) (m:=MPm mi) (show p<8 by omega)
   rw[he] at gg
   have nZ1:=cZ.1
   have nZ2:=dZ.1
   have nZ3:=bZ.1
   refine zS ?_
   have zf:=And.intro @sp1<|@sp3
   refine V.lz ?_
   refine zS ?_
   have zf:=And.intro @ip1<|And.intro @ip3<|And.intro @i1<|And.intro cZ.2<|And.intro @lp<|@fl_set
   refine V.lz ?_
   refine V.heap (fun T=>Grow H T∧Ow H3 T 3 (.slice p4 n4' c4) (Li (ixl (vd M d)))∧Ow Y T 3 (.slice p5 n5 c5) (Li (dsh M d))∧Bx T H.next (ac (.slice po no co) (.slice ps ns cs) (.slice pj nj cj) (Nn : Int) (oldF M) (newF M) (MPm mi)) 96∧Bx T H1.next (Li (fl M.S.length (ownS M d (k+1)))) 3∧Bx T (H1.next+1) (Li (fl Nn sf)) 3) ⟨?_,?_,?_,?_,?_,?_⟩ ?_
   ·exact gZ.set (by omega) _
   ·exact qi.growS (U:=(·=H1.next)) (GrowS.setAt Z H1.next _) (fun i (hi : H3.next≤i)=>by omega) (Nat.le_refl _)
   ·exact qs.growS (U:=(·=H1.next)) (GrowS.setAt Z H1.next _) (fun i (hi : Y.next≤i)=>by omega) (Nat.le_refl _)
   ·exact bZ.set (by omega) _
   ·rw[os1];exact Bx.put cZ.1 _ _
   ·exact dZ.set (by omega) _
   rintro Z1 ⟨gZ,qi,qs,bZ,cZ,dZ⟩
   have ip3:=((ow_ls qi).at (k:=k) (by rw[ixl_len];exact hk'))
   obtain⟨ip',ip1',ip2'⟩:=ip3
   rw[ip1] at ip1'
   cases ip1'
   have ip3:=ip2' Z1 (.refl _)
   rw[ixl_at,← hp] at ip3
   refine zS ?_
   have zf:=And.intro @ip1<|And.intro @ip3<|And.intro @i3<|And.intro bZ.2<|And.intro @AC<|And.intro @gg<|And.intro @i2<|And.intro dZ.2<|And.intro @le<|And.intro @ge<|@fl_set
   refine V.lz ?_
   refine zS ?_
   refine V.l0 ?_
   refine V.nil (Or.inl ⟨rfl,(adl (vd M d) 8).length-(k+1),by omega,?_⟩)
   refine⟨k+1,hk',rfl,rfl,gZ.set (by omega) _,?_,?_,bZ.set (by omega) _,cZ.set (by omega) _,?_,zF,zK⟩
   ·exact qi.growS (U:=(·=H1.next+1)) (GrowS.setAt Z1 (H1.next+1) _) (fun i (hi : H3.next≤i)=>by omega) (Nat.le_refl _)
   ·exact qs.growS (U:=(·=H1.next+1)) (GrowS.setAt Z1 (H1.next+1) _) (fun i (hi : Y.next≤i)=>by omega) (Nat.le_refl _)
   ·have ee : (fun q : Nat=>sF M.S.length (newF M) (ownS M d (k+1)) (q : Int))=fun q : Nat=>if q=e then sf e+x else sf q:=by
     funext q
     rw[os1,sF_upd os2 px.1,he,sfe,hsf]
     dsimp only
     by_cases c : q=e
     ·subst c;rw[if_pos rfl,if_pos rfl]
     ·rw[if_neg (fun k=>c (by omega)),if_neg c];omega
    rw[ee]
    exact Bx.put dZ.1 _ _
  ·obtain rfl : k=(adl (vd M d) 8).length:=by omega
   rw[ownS_d G] at cZ dZ
   refine V.exit ?_
   refine zX ?_
   refine V.nil (Or.inr ⟨by simp,?_⟩)
   refine zX ?_
   refine zS ?_
   refine V.l0 ?_
   refine V.nil (Or.inl ⟨rfl,M.O.length-(d+1),by omega,?_⟩)
   exact⟨d+1,hlt',rfl,rfl,gZ,bZ,cZ,dZ,zF,zK⟩
 ·obtain rfl : d=M.O.length:=by omega
  have e1 : fl M.S.length (ownS M M.O.length 0)=fl M.S.length (shr M):=fl_cong fun i hi=>ownS_end G hi
  have e2 : (fun q : Nat=>sF M.S.length (newF M) (ownS M M.O.length 0) (q : Int))=fun q : Nat=>sF M.S.length (newF M) (shr M) (q : Int):=by
   funext q
   exact sF_cong fun i hi=>ownS_end G hi
  rw[e1] at cX
  rw[e2] at dX
  refine V.exit ?_
  refine zX ?_
  refine V.nil (Or.inr ⟨by simp,?_⟩)
  refine zX ?_
  refine zS ?_
  refine V.l0 ?_
  refine zS ?_
  refine V.ret (V.rets rfl (Lv.retF (by simp +contextual (disch:=first|omega|simp only[nx];omega) only[D1,cells_alloc_at,cells_alloc_ne,cells_set_at,cells_set_ne,yres,yres1,yresL,qA,qB,qC,D5,hF,hA,↓reduceIte,qD,qE];rfl) ?_))
  exact⟨gX,_,_,rfl,ls_box cX (fl_len _ _),ls_box dX (fl_len _ _)⟩
theorem f20_ok {H : Heap} {o s j : Value} {M : BM} (h : MV H o s j M) : F Try.prog 20 ⟨[.agg ⟨mc o s j M.N⟩]⟩ H (fun w X=>Grow H X∧((fltM M≠0∧w=.tuple ⟨[.slice none 0 0,.slice none 0 0,I (fltM M)]⟩)∨(fltM M=0∧VM M∧∃ y1 y2,w=.tuple ⟨[y1,y2,I 0]⟩∧LS X y1 (fl M.S.length (shr M))∧LS X y2 (fl M.N.toNat fun k : Nat=>sF M.S.length (newF M) (shr M) (k : Int))))):=by
 obtain⟨po,no,co,rfl⟩:=h.o.s.isS
 obtain⟨ps,ns,cs,rfl⟩:=h.s.isS
 obtain⟨pj,nj,cj,rfl⟩:=h.j.isS
 refine F.entryL rfl dg20 do20 de20 rfl (by kernel_rfl) ?_
 simp only[sets]
 refine V.re [(0,.agg ⟨mc (.slice po no co) (.slice ps ns cs) (.slice pj nj cj) M.N⟩)] (N:=19) zE zY ?_
 intro t hF hA
 simp only[Kn,and_true] at hA
 refine zS ?_
 refine V.l0 ?_
 refine V.heap (fun X=>Grow H X∧Bx X H.next (mc (.slice po no co) (.slice ps ns cs) (.slice pj nj cj) M.N) 34) ⟨?_,?_⟩ ?_
 ·exact zW
 ·exact zB
 rintro H1 ⟨g1,b1⟩
 refine zS ?_
 refine V.run ?_
 have zf:=b1.2
 refine VI.sz 1 ?_
 simp only[ds]
 refine VI.callA rfl (f18_ok (h.grow g1)) zA (fun H2 g2=>?_)
 have b2:=b1.grow g2
 have g12:=g1.trans g2
 refine VI.l0 ?_
 refine zS ?_
 refine V.l0 ?_
 refine zS ?_
 refine V.condP zP (fun hf=>?_) (fun hf=>?_)
 ·refine zS ?_
  refine V.l0 ?_
  refine zS ?_
  refine V.ret (V.rets rfl (Lv.retF (by simp +contextual (disch:=first|omega|simp only[nx];omega) only[D1,cells_alloc_at,cells_alloc_ne,cells_set_at,cells_set_ne,yres,yres1,yresL,qA,qB,qC,D5,hF,hA,↓reduceIte,qD,qE];rfl) ?_))
  exact⟨g12,.inl ⟨hf,rfl⟩⟩
 ·have h0:=Decidable.not_not.1 hf
  obtain⟨hf1,hf2⟩:=fltM_0.1 h0
  have G:=VM.of hf1 hf2
  have hn:=G.n
  obtain⟨Nn,hNn⟩ : ∃ Nn : Nat,M.N=Nn:=⟨M.N.toNat,by omega⟩
  have eN : M.N.toNat=Nn:=by omega
  rw[eN]
  have hj20:=G.j20
  refine zS ?_
  refine V.run ?_
  have zf:=b2.2
  refine VI.sz 1 ?_
  simp only[ds]
  refine VI.callR zA (f57_ok (h.grow g12) G.s8 G.j (by omega)) zA (fun w3 H3 ⟨g3,mi,hw3,_⟩=>?_)
  have g13:=g12.trans g3
  rw[hNn] at hw3
  subst hw3
  refine VI.callR zA (f58_ok (h.grow g13) G hNn) zA (fun w4 H4 ⟨g4,y1,y2,hw4,q1,q2⟩=>?_)
  subst hw4
  have k1:=q1.s.isS
  have k2:=q2.s.isS
  obtain⟨p1,n1,c1,rfl⟩:=k1
  obtain⟨p2,n2,c2,rfl⟩:=k2
  refine VI.l0 ?_
  refine zS ?_
  refine V.l0 ?_
  refine zS ?_
  refine V.ret (V.rets rfl (Lv.retF (by simp +contextual (disch:=first|omega|simp only[nx];omega) only[D1,cells_alloc_at,cells_alloc_ne,cells_set_at,cells_set_ne,yres,yres1,yresL,qA,qB,qC,D5,hF,hA,↓reduceIte,qD,qE];rfl) ?_))
  exact⟨g13.trans g4,.inr ⟨h0,G,_,_,rfl,q1,q2⟩⟩
end Go.Xe.TBX
