/- What the functions of the layer border come to: the bounds, as the reference has them. Conditions: none. -/
import Derived.Test.YtgcdbdcnlhonfaaTCR
-- MOD TB
namespace Go.Xe.TBX
open Go Go.Xe Go.Proofs
open Nat renaming reduceLeDiff → qA, reduceSub → qB, reduceAdd → qC, reduceEqDiff → qD, reduceLT → qE
open Int renaming reduceNegSucc → qF, reduceEq → qG
open Go.Xe.V renaming seq → sA, block → sB, scope → sC, skip → sD, close → sE
open Go.Xe renaming pth → P
open Go.Xe.Rnd
open Go.Xe.Sea (adl adl_1 adl_at mem_adl pix pix_at pix_adl adl_len)
set_option maxRecDepth 100000
set_option maxHeartbeats 3200000
set_option linter.unusedSimpArgs false
noncomputable def d33 : FCode:=(.seq (.run (.go (.box 26 (tm 0)) (P 2)::
.go (.move (.con (.slice none 0 0))) (P 4)::
[])) (.seq (.run (.go (.fieldAddr 2 (tm 2)) (P 6)::
.go (.load1 (tm 6)) (P 7)::
.go (.len 0 (tm 7)) (P 8)::
.go (.makeSlice 3 1 8 [(.int .i64 (.ofNat 0))] (tm 8) (tm 8)) (P 9)::
.go (.move (tm 9)) (P 5)::
[])) (.seq (.run (.go (.move (tm 5)) (P 10)::
.go (.move (tm 1)) (P 11)::
.go (.indexAddr none 1 (tm 10) (tm 11)) (P 12)::
.un (.store 1 (tm 12) (.con (.int .i64 (.ofNat 1))))::
[])) (.seq (.run (.go (.move (tm 5)) (P 13)::
.go (.move (tm 13)) (P 4)::
[])) .ret))))
theorem de33 : @compF Try.prog (Gl.none Try.prog) Try.f33 2=.mk d33 (mkTT 14) [(P 0),(P 1)] [.tmp (P 4)]:=by kernel_rfl
theorem dg33 : Try.prog.funcs[33]?=some Try.f33:=Try.func33
theorem do33 : okF Try.prog Try.f33=true:=by kernel_rfl
noncomputable def d32 : FCode:=(.seq (.run (.go (.box 26 (tm 0)) (P 4)::
.go (.alloc 50 [(.int .i64 (.ofNat 0)),(.int .i64 (.ofNat 0))]) (P 8)::
[])) (.seq (.run (.go (.alloc 50 [(.int .i64 (.ofNat 0)),(.int .i64 (.ofNat 0))]) (P 9)::
.go (.alloc 50 [(.int .i64 (.ofNat 0)),(.int .i64 (.ofNat 0))]) (P 10)::
[])) (.seq (.seq (.run (.go (.move (.con (.int .i64 (.ofNat 0)))) (P 11)::
[])) (.block 0 (.loop (.seq (.seq (.run (.go (.move (tm 11)) (P 13)::
.go (.fieldAddr 2 (tm 4)) (P 14)::
.go (.load1 (tm 14)) (P 15)::
.go (.len 0 (tm 15)) (P 16)::
.go (.bin .lss 3 (tm 13) (tm 16)) (P 17)::
[])) (.cond (tm 17) .skip (.exit 0))) (.seq (.block 1 (.seq (.run (.go (.fieldAddr 2 (tm 4)) (P 20)::
.go (.load1 (tm 20)) (P 21)::
.go (.move (tm 11)) (P 22)::
.go (.indexAddr none 5 (tm 21) (tm 22)) (P 23)::
.go (.loadN 5 (tm 23)) (P 24)::
.go (.alloc 54 [(.int .i64 (.ofNat 0)),(.int .i64 (.ofNat 0)),(.int .i64 (.ofNat 0)),(.int .i64 (.ofNat 0)),(.int .i64 (.ofNat 0))]) (P 12)::
.un (.store 5 (tm 12) (tm 24))::
[])) (.seq (.seq (.run (.go (.fieldAddr 0 (tm 12)) (P 25)::
.go (.load1 (tm 25)) (P 26)::
.go (.move (tm 2)) (P 27)::
.go (.bin .neq 3 (tm 26) (tm 27)) (P 28)::
[])) (.cond (tm 28) (.exit 1) .skip)) (.seq (.run (.go (.move (tm 1)) (P 29)::
.go (.move (tm 11)) (P 30)::
.go (.indexAddr none 1 (tm 29) (tm 30)) (P 31)::
.go (.load1 (tm 31)) (P 32)::
.go (.move (tm 3)) (P 33)::
.go (.bin .eql 3 (tm 32) (tm 33)) (P 34)::
[])) (.cond (tm 34) (.run (.go (.fieldAddr 0 (tm 9)) (P 35)::
.go (.load1 (tm 35)) (P 36)::
.go (.fieldAddr 3 (tm 12)) (P 37)::
.go (.fieldAddr 0 (tm 37)) (P 38)::
.go (.load1 (tm 38)) (P 39)::
.go (.bin .add 3 (tm 36) (tm 39)) (P 40)::
.go (.fieldAddr 1 (tm 9)) (P 41)::
.go (.load1 (tm 41)) (P 42)::
.go (.fieldAddr 3 (tm 12)) (P 43)::
.go (.fieldAddr 1 (tm 43)) (P 44)::
.go (.load1 (tm 44)) (P 45)::
.go (.bin .add 3 (tm 42) (tm 45)) (P 46)::
.go (.build [(.int .i64 (.ofNat 0)),(.int .i64 (.ofNat 0))] [(0,1,(tm 40)),(1,1,(tm 46))]) (P 47)::
.un (.store 2 (tm 9) (tm 47))::
[])) (.run (.go (.fieldAddr 0 (tm 10)) (P 48)::
.go (.load1 (tm 48)) (P 49)::
.go (.fieldAddr 3 (tm 12)) (P 50)::
.go (.fieldAddr 0 (tm 50)) (P 51)::
.go (.load1 (tm 51)) (P 52)::
.go (.bin .add 3 (tm 49) (tm 52)) (P 53)::
.go (.fieldAddr 1 (tm 10)) (P 54)::
.go (.load1 (tm 54)) (P 55)::
.go (.fieldAddr 3 (tm 12)) (P 56)::
.go (.fieldAddr 1 (tm 56)) (P 57)::
.go (.load1 (tm 57)) (P 58)::
.go (.bin .add 3 (tm 55) (tm 58)) (P 59)::
.go (.build [(.int .i64 (.ofNat 0)),(.int .i64 (.ofNat 0))] [(0,1,(tm 53)),(1,1,(tm 59))]) (P 60)::
.un (.store 2 (tm 10) (tm 60))::
[]))))))) (.run (.go (.move (tm 11)) (P 18)::
.go (.bin .add 3 (tm 18) (.con (.int .i64 (.ofNat 1)))) (P 19)::
.go (.move (tm 19)) (P 11)::
[]))))))) (.seq (.draw 24 (.go (.fieldAddr 0 (tm 9)) (P 61)::
.go (.load1 (tm 61)) (P 62)::
.go (.fieldAddr 0 (tm 4)) (P 63)::
.go (.load1 (tm 63)) (P 64)::
.go (.move (tm 2)) (P 65)::
.go (.indexAddr none 1 (tm 64) (tm 65)) (P 66)::
.go (.load1 (tm 66)) (P 67)::
.go (.fieldAddr 1 (tm 10)) (P 68)::
.go (.load1 (tm 68)) (P 69)::
.go (.bin .sub 3 (tm 67) (tm 69)) (P 70)::
.go (.mm true [(tm 62),(tm 70)]) (P 71)::
.go (.fieldAddr 1 (tm 9)) (P 72)::
.go (.load1 (tm 72)) (P 73)::
.go (.fieldAddr 0 (tm 4)) (P 74)::
.go (.load1 (tm 74)) (P 75)::
.go (.move (tm 2)) (P 76)::
.go (.indexAddr none 1 (tm 75) (tm 76)) (P 77)::
.go (.load1 (tm 77)) (P 78)::
.go (.fieldAddr 0 (tm 10)) (P 79)::
.go (.load1 (tm 79)) (P 80)::
.go (.bin .sub 3 (tm 78) (tm 80)) (P 81)::
.go (.mm false [(tm 73),(tm 81)]) (P 82)::
.go (.build [(.int .i64 (.ofNat 0)),(.int .i64 (.ofNat 0))] [(0,1,(tm 71)),(1,1,(tm 82))]) (P 83)::
.un (.store 2 (tm 8) (tm 83))::
[]) [.ok,.ok,.ok,.ok,.ok,.ok,.ok,.ok,.ok,.ok,.ok,.ok,.ok,.ok,.ok,.ok,.ok,.ok,.ok,.ok,.ok,.ok,.ok,.ok]) .ret))))
theorem de32 : @compF Try.prog (Gl.none Try.prog) Try.f32 4=.mk d32 (mkTT 84) [(P 0),(P 1),(P 2),(P 3)] [.many (P 8) 2]:=by kernel_rfl
theorem dg32 : Try.prog.funcs[32]?=some Try.f32:=Try.func32
theorem do32 : okF Try.prog Try.f32=true:=by kernel_rfl
theorem f33_ok {H : Heap} {o s j : Value} {M : BM} {i : Nat} (h : MV H o s j M) (hS : M.S.length≤8) (hi : i<M.S.length) : F Try.prog 33 ⟨[.agg ⟨mc o s j M.N⟩,I i]⟩ H (fun w X=>Grow H X∧LS X w (fl M.S.length fun k=>if k=i then 1 else 0)):=by
 have hl:=h.s.len
 obtain⟨po,no,co,rfl⟩:=h.o.s.isS
 obtain⟨ps,ns,cs,rfl⟩:=h.s.isS
 obtain⟨pj,nj,cj,rfl⟩:=h.j.isS
 refine F.entryL rfl dg33 do33 de33 rfl (by kernel_rfl) ?_
 simp only[sets]
 refine V.re [(0,.agg ⟨mc (.slice po no co) (.slice ps ns cs) (.slice pj nj cj) M.N⟩),(1,I i)] (N:=14) zE zY ?_
 intro t hF hA
 simp only[Kn,and_true] at hA
 refine zS ?_
 refine V.l0 ?_
 refine V.heap (fun X=>Grow H X∧Bx X H.next (mc (.slice po no co) (.slice ps ns cs) (.slice pj nj cj) M.N) 26) ⟨?_,?_⟩ ?_
 ·exact zW
 ·exact zB
 rintro H1 ⟨g1,b1⟩
 have n1:=g1.1
 have mk1:=mk_row H1 M.S.length (by omega)
 refine zS ?_
 have zf:=And.intro b1.2<|And.intro @hl<|@mk1
 refine V.lz ?_
 refine V.heap (fun X=>Grow H X∧Bx X H1.next (Li (fl M.S.length fun _=>0)) 3) ⟨?_,?_⟩ ?_
 ·exact zW
 ·exact Bx.new _ _ _
 rintro H2 ⟨g2,c2⟩
 have ix:=own_idx (y:=H1.next) (n:=M.S.length) (c:=M.S.length) hi
 have le : i<(Li (fl M.S.length fun _=>0)).length:=by rw[Li_fl_len];exact hi
 refine zS ?_
 have zf:=And.intro @ix<|And.intro c2.2<|And.intro @le<|@fl_set
 refine V.lz ?_
 refine V.heap (fun X=>Grow H X∧Bx X H1.next (Li (fl M.S.length fun k=>if k=i then 1 else 0)) 3) ⟨?_,?_⟩ ?_
 ·exact g2.set (by omega) _
 ·exact Bx.put c2.1 _ _
 rintro H3 ⟨g3,c3⟩
 refine zS ?_
 refine V.l0 ?_
 refine zS ?_
 refine V.ret (V.rets rfl (Lv.retF (by simp +contextual (disch:=first|omega|simp only[nx];omega) only[D1,cells_alloc_at,cells_alloc_ne,cells_set_at,cells_set_ne,yres,yres1,yresL,qA,qB,qC,D5,hF,hA,↓reduceIte,qD,qE];rfl) ?_))
 exact⟨g3,ls_box c3 (fl_len _ _)⟩
abbrev pk (l : List Int) (x : Int) : Nat→Prop:=fun i=>l.getD i 0=x
theorem f32_ok {H : Heap} {o s j x : Value} {M : BM} {l : List Int} {d : Nat} {want : Int} (h : MV H o s j M) (G : VM M) (hx : LS H x l) (hn : l.length=M.S.length) (hd : d<M.O.length) : Gives Try.prog 32 [.agg ⟨mc o s j M.N⟩,x,I d,I want] H (.agg ⟨A2 (rgL M d (pk l want)) (rgH M d (pk l want))⟩):=by
 have hl:=h.s.len
 have hS8:=G.s8
 obtain⟨po,no,co,rfl⟩:=h.o.s.isS
 obtain⟨ps,ns,cs,rfl⟩:=h.s.isS
 obtain⟨pj,nj,cj,rfl⟩:=h.j.isS
 obtain⟨px,nx',cx,rfl⟩:=hx.s.isS
 refine F.entryL rfl dg32 do32 de32 rfl (by kernel_rfl) ?_
 simp only[sets]
 refine V.re [(0,.agg ⟨mc (.slice po no co) (.slice ps ns cs) (.slice pj nj cj) M.N⟩),(1,.slice px nx' cx),(2,I d),(3,I want)] (N:=84) zE zY ?_
 intro t hF hA
 simp only[Kn,and_true] at hA
 refine zS ?_
 refine V.l0 ?_
 refine zS ?_
 refine V.l0 ?_
 refine V.heap (fun X=>Grow H X∧Bx X H.next (mc (.slice po no co) (.slice ps ns cs) (.slice pj nj cj) M.N) 26∧Bx X (H.next+1) (A2 0 0) 50∧Bx X (H.next+2) (A2 0 0) 50∧Bx X (H.next+3) (A2 0 0) 50) ⟨?_,?_,?_,?_,?_⟩ ?_
 ·exact zW
 ·exact zB
 ·exact zB
 ·exact zB
 ·exact zB
 rintro H1 ⟨g1,b1,t1,c1,d1⟩
 refine zS ?_
 refine V.l0 ?_
 refine zS ?_
 refine V.loop (fun z t mm X=>∃ (k : Nat),k≤M.S.length∧z=M.S.length-k∧mm=[]∧Grow H X∧Bx X H.next (mc (.slice po no co) (.slice ps ns cs) (.slice pj nj cj) M.N) 26∧Bx X (H.next+1) (A2 0 0) 50∧Bx X (H.next+2) (A2 (pS k (fun i=>oldF M i=d∧pk l want i) (loF M)) (pS k (fun i=>oldF M i=d∧pk l want i) (hiF M))) 50∧Bx X (H.next+3) (A2 (pS k (fun i=>oldF M i=d∧¬ pk l want i) (loF M)) (pS k (fun i=>oldF M i=d∧¬ pk l want i) (hiF M))) 50∧Full 84 t∧Kn [(1,.slice px nx' cx),(2,I d),(3,I want),(4,PT H.next),(8,PT (H.next+1)),(9,PT (H.next+2)),(10,PT (H.next+3)),(11,I k)] t) M.S.length ?_ ?_
 ·exact⟨0,by omega,by omega,rfl,g1,b1,t1,c1,d1,zF,zK⟩
 clear hF hA g1 b1 t1 c1 d1
 rintro z t mm X ⟨k,hk,rfl,rfl,gX,bX,tX,cX,dX,hF,hA⟩
 simp only[Kn,and_true] at hA
 obtain⟨L1,hL1⟩ : ∃ z,z=pS k (fun i=>oldF M i=d∧pk l want i) (loF M):=⟨_,rfl⟩
 obtain⟨T1,hT1⟩ : ∃ z,z=pS k (fun i=>oldF M i=d∧pk l want i) (hiF M):=⟨_,rfl⟩
 obtain⟨L0,hL0⟩ : ∃ z,z=pS k (fun i=>oldF M i=d∧¬ pk l want i) (loF M):=⟨_,rfl⟩
 obtain⟨T0,hT0⟩ : ∃ z,z=pS k (fun i=>oldF M i=d∧¬ pk l want i) (hiF M):=⟨_,rfl⟩
 rw[← hL1,← hT1] at cX
 rw[← hL0,← hT0] at dX
 refine zS ?_
 have zf:=And.intro bX.2<|@hl
 refine V.lz ?_
 refine zS ?_
 refine V.condP zP (fun hlt=>?_) (fun hlt=>?_)
 ·have hlt' : k<M.S.length:=by omega
  have eL1:=pS_1 (n:=k) (P:=fun i=>oldF M i=d∧pk l want i) (f:=loF M)
  have eT1:=pS_1 (n:=k) (P:=fun i=>oldF M i=d∧pk l want i) (f:=hiF M)
  have eL0:=pS_1 (n:=k) (P:=fun i=>oldF M i=d∧¬ pk l want i) (f:=loF M)
  have eT0:=pS_1 (n:=k) (P:=fun i=>oldF M i=d∧¬ pk l want i) (f:=hiF M)
  have bL1:=pS_bd (n:=k) (P:=fun i=>oldF M i=d∧pk l want i) (f:=loF M) (c:=10000) (by omega) (fun i hi=>G.lb (by omega))
  have bT1:=pS_bd (n:=k) (P:=fun i=>oldF M i=d∧pk l want i) (f:=hiF M) (c:=10000) (by omega) (fun i hi=>G.hb (by omega))
  have bL0:=pS_bd (n:=k) (P:=fun i=>oldF M i=d∧¬ pk l want i) (f:=loF M) (c:=10000) (by omega) (fun i hi=>G.lb (by omega))
  have bT0:=pS_bd (n:=k) (P:=fun i=>oldF M i=d∧¬ pk l want i) (f:=hiF M) (c:=10000) (by omega) (fun i hi=>G.hb (by omega))
  rw[← hL1] at eL1 bL1
  rw[← hT1] at eT1 bT1
  rw[← hL0] at eL0 bL0
  rw[← hT0] at eT0 bT0
  obtain⟨si,so',h1,h2⟩:=h.s.at hlt'
  have h3:=(h2 X gX).1
  obtain⟨st,hst⟩ : ∃ st,st=M.S[k]:=⟨_,rfl⟩
  have eo : oldF M k=st.old:=by rw[oldF_at hlt',hst]
  have elo : loF M k=st.lo:=by rw[loF_at hlt',hst]
  have ehi : hiF M k=st.hi:=by rw[hiF_at hlt',hst]
  have hlh:=G.lh hlt'
  rw[elo,ehi] at hlh
  rw[← hst] at h3
  rw[eo,elo] at eL1 eL0
  rw[eo,ehi] at eT1 eT0
  refine zS ?_
  have zf:=And.intro bX.2<|And.intro @h1<|@h3
  refine V.lz ?_
  refine V.heap (fun Y=>Grow X Y∧Bx Y X.next (s5 st) 54) ⟨?_,?_⟩ ?_
  ·exact ((Grow.refl X).alloc _).set (Nat.le_refl _) _
  ·exact Bx.put (by simp only[Heap.next_alloc];omega) _ _
  rintro X1 ⟨gx,sx⟩
  have bX1:=bX.grow gx
  have tX1:=tX.grow gx
  have cX1:=cX.grow gx
  have dX1:=dX.grow gx
  have gX1:=gX.trans gx
  have nd:=dX1.1
  have nx1:=dX.1
  refine zS ?_
  have zf:=sx.2
  refine V.lz ?_
  refine zS ?_
  refine V.condP zP (fun hne=>?_) (fun hne=>?_)
  ·rw[if_neg (fun hh=>hne hh.1),Int.add_zero] at eL1 eT1
   rw[if_neg (fun hh=>hne hh.1),Int.add_zero] at eL0 eT0
   refine V.exit ?_
   (repeat first|refine V.here ?_|refine V.out (by decide) ?_|refine V.pass ?_)
   refine zS ?_
   refine V.l0 ?_
   refine V.nil (Or.inl ⟨rfl,M.S.length-(k+1),by omega,?_⟩)
   refine⟨k+1,hlt',rfl,rfl,gX1,bX1,tX1,?_,?_,zF,zK⟩
   ·rw[eL1,eT1];exact cX1
   ·rw[eL0,eT0];exact dX1
  have heq : st.old=d:=Decidable.not_not.1 hne
  obtain⟨lp,lp1,lp2⟩:=hx.at (k:=k) (by omega)
  have lp3:=lp2 X1 gX1
  rw[gD (by omega)] at lp3
  refine zS ?_
  have zf:=And.intro @lp1<|@lp3
  refine V.lz ?_
  refine zS ?_
  refine V.condP zP (fun hP=>?_) (fun hP=>?_)
  ·rw[if_pos ⟨heq,hP⟩] at eL1 eT1
   rw[if_neg (fun hh=>hh.2 hP),Int.add_zero] at eL0 eT0
   refine zS ?_
   have zf:=And.intro cX1.2<|sx.2
   refine V.lz ?_
   refine zS ?_
   refine V.l0 ?_
   refine V.nil (Or.inl ⟨rfl,M.S.length-(k+1),by omega,?_⟩)
   refine⟨k+1,hlt',rfl,rfl,gX1.set (by omega) _,bX1.set (by omega) _,tX1.set (by omega) _,?_,?_,zF,zK⟩
   ·rw[eL1,eT1]
    exact Bx.put cX1.1 _ _
   ·rw[eL0,eT0]
    exact dX1.set (by omega) _
  ·rw[if_neg (fun hh=>hP hh.2),Int.add_zero] at eL1 eT1
   rw[if_pos ⟨heq,hP⟩] at eL0 eT0
   refine zS ?_
   have zf:=And.intro dX1.2<|sx.2
   refine V.lz ?_
   refine zS ?_
   refine V.l0 ?_
   refine V.nil (Or.inl ⟨rfl,M.S.length-(k+1),by omega,?_⟩)
   refine⟨k+1,hlt',rfl,rfl,gX1.set (by omega) _,bX1.set (by omega) _,tX1.set (by omega) _,?_,?_,zF,zK⟩
   ·rw[eL1,eT1]
    exact cX1.set (by omega) _
   ·rw[eL0,eT0]
    exact Bx.put dX1.1 _ _
 ·obtain rfl : k=M.S.length:=by omega
  have hL1' : L1=qL M d (pk l want):=hL1
  have hT1' : T1=qH M d (pk l want):=hT1
  have hL0' : L0=qL M d (fun i=>¬ pk l want i):=hL0
  have hT0' : T0=qH M d (fun i=>¬ pk l want i):=hT0
  have bL1:=qL_bd G (d:=d) (P:=pk l want)
  have bT1:=qH_bd G (d:=d) (P:=pk l want)
  have bL0:=qL_bd G (d:=d) (P:=fun i=>¬ pk l want i)
  have bT0:=qH_bd G (d:=d) (P:=fun i=>¬ pk l want i)
  obtain⟨tt,htt⟩ : ∃ z,z=M.O.getD d 0:=⟨_,rfl⟩
  have rL : rgL M d (pk l want)=if L1<tt-T0 then tt-T0 else L1:=by unfold rgL;rw[hL1',htt,hT0']
  have rH : rgH M d (pk l want)=if tt-L0<T1 then tt-L0 else T1:=by rw[rgH_min,hT1',htt,hL0'];split<;>omega
  rw[← hL1'] at bL1
  rw[← hT1'] at bT1
  rw[← hL0'] at bL0
  rw[← hT0'] at bT0
  obtain⟨lp,lp1,lp2⟩:=h.o.at hd
  have lp3:=lp2 X gX
  have ot:=G.ot hd
  rw[← ot.1,← htt] at lp3
  have tb : 0≤tt∧tt≤10000:=by rw[htt,ot.1];exact ot.2
  obtain⟨ml,hml⟩ : ∃ z,(if L1<tt-T0 then tt-T0 else L1)=z:=⟨_,rfl⟩
  obtain⟨mh,hmh⟩ : ∃ z,(if tt-L0<T1 then tt-L0 else T1)=z:=⟨_,rfl⟩
  have q3:=tX.1
  rw[rL,rH,hml,hmh]
  refine V.exit ?_
  refine zX ?_
  refine V.nil (Or.inr ⟨by simp,?_⟩)
  refine zX ?_
  refine zS ?_
  have zf:=And.intro cX.2<|And.intro dX.2<|And.intro tX.2<|And.intro bX.2<|And.intro @lp1<|And.intro @lp3<|And.intro @hml<|@hmh
  refine V.dz ?_ ?_ rfl ?_
  ·exact zM
  ·simp only[dcAll,dcOk,wantD,List.cons_append,List.nil_append,true_and,and_true]
  refine V.heap (fun Z=>Grow H Z∧Bx Z (H.next+1) (A2 ml mh) 50) ⟨?_,?_⟩ ?_
  ·exact gX.set (by omega) _
  ·exact Bx.put tX.1 _ _
  rintro Z ⟨gZ,bZ⟩
  refine zS ?_
  refine V.ret (V.rets rfl (Lv.retG (by simp +contextual (disch:=first|omega|simp only[nx];omega) only[D1,cells_alloc_at,cells_alloc_ne,cells_set_at,cells_set_ne,yres,yres1,yresL,qA,qB,qC,D5,hF,hA,↓reduceIte,qD,qE,bZ.2];rfl) ?_ ?_))
  ·exact gZ
  ·rfl
end Go.Xe.TBX
