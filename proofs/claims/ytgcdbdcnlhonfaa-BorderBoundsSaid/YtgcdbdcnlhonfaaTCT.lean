/- BorderBounds: the bounds are those of the reference. Conditions: none. -/
import Derived.Test.YtgcdbdcnlhonfaaTCS
-- MOD TB
namespace Go.Xe.TBX
open Go Go.Xe Go.Proofs
open Nat renaming reduceLeDiff → qA, reduceSub → qB, reduceAdd → qC, reduceEqDiff → qD, reduceLT → qE
open Int renaming reduceNegSucc → qF, reduceEq → qG
open Go.Xe.V renaming seq → sA, block → sB, scope → sC, skip → sD, close → sE
open Go.Xe renaming pth → P
open Go.Xe.Rnd
open Go.Xe.Sea (adl adl_1 adl_at mem_adl pix pix_at pix_adl adl_len)
set_option maxRecDepth 100000
set_option maxHeartbeats 3200000
set_option linter.unusedSimpArgs false
noncomputable def d34 : FCode:=(.seq (.run (.go (.box 26 (tm 0)) (P 3)::
.go (.alloc 50 [(.int .i64 (.ofNat 0)),(.int .i64 (.ofNat 0))]) (P 6)::
[])) (.seq (.run (.go (.alloc 50 [(.int .i64 (.ofNat 0)),(.int .i64 (.ofNat 0))]) (P 7)::
[])) (.seq (.seq (.run (.go (.move (.con (.int .i64 (.ofNat 0)))) (P 8)::
[])) (.block 0 (.loop (.seq (.seq (.run (.go (.move (tm 8)) (P 10)::
.go (.fieldAddr 0 (tm 3)) (P 11)::
.go (.load1 (tm 11)) (P 12)::
.go (.len 0 (tm 12)) (P 13)::
.go (.bin .lss 3 (tm 10) (tm 13)) (P 14)::
[])) (.cond (tm 14) .skip (.exit 0))) (.seq (.block 1 (.seq (.run (.go (.loadN 4 (tm 3)) (P 17)::
.go (.move (tm 1)) (P 18)::
.go (.move (tm 8)) (P 19)::
.go (.move (tm 2)) (P 20)::
.go (.call (.con (.func (.func 32) ⟨[]⟩ ⟨[]⟩)) [(tm 17),(tm 18),(tm 19),(tm 20)]) (P 21)::
.go (.alloc 50 [(.int .i64 (.ofNat 0)),(.int .i64 (.ofNat 0))]) (P 9)::
.un (.store 2 (tm 9) (tm 21))::
[])) (.run (.go (.fieldAddr 0 (tm 7)) (P 22)::
.go (.load1 (tm 22)) (P 23)::
.go (.fieldAddr 0 (tm 9)) (P 24)::
.go (.load1 (tm 24)) (P 25)::
.go (.bin .add 3 (tm 23) (tm 25)) (P 26)::
.go (.fieldAddr 1 (tm 7)) (P 27)::
.go (.load1 (tm 27)) (P 28)::
.go (.fieldAddr 1 (tm 9)) (P 29)::
.go (.load1 (tm 29)) (P 30)::
.go (.bin .add 3 (tm 28) (tm 30)) (P 31)::
.go (.build [(.int .i64 (.ofNat 0)),(.int .i64 (.ofNat 0))] [(0,1,(tm 26)),(1,1,(tm 31))]) (P 32)::
.un (.store 2 (tm 7) (tm 32))::
[])))) (.run (.go (.move (tm 8)) (P 15)::
.go (.bin .add 3 (tm 15) (.con (.int .i64 (.ofNat 1)))) (P 16)::
.go (.move (tm 16)) (P 8)::
[]))))))) (.seq (.run (.go (.loadN 2 (tm 7)) (P 33)::
.un (.store 2 (tm 6) (tm 33))::
[])) .ret))))
theorem de34 : @compF Try.prog (Gl.none Try.prog) Try.f34 3=.mk d34 (mkTT 34) [(P 0),(P 1),(P 2)] [.many (P 6) 2]:=by kernel_rfl
theorem dg34 : Try.prog.funcs[34]?=some Try.f34:=Try.func34
theorem do34 : okF Try.prog Try.f34=true:=by kernel_rfl
noncomputable def d35 : FCode:=(.seq (.run (.go (.move (.con (.bool false))) (P 4)::
[])) (.seq (.seq (.run (.go (.move (tm 0)) (P 6)::
.go (.len 0 (tm 6)) (P 7)::
.go (.move (tm 1)) (P 8)::
.go (.len 0 (tm 8)) (P 9)::
.go (.bin .neq 3 (tm 7) (tm 9)) (P 10)::
[])) (.cond (tm 10) (.seq (.run (.go (.move (.con (.bool false))) (P 4)::
[])) .ret) .skip)) (.seq (.seq (.run (.go (.move (.con (.int .i64 (.ofNat 0)))) (P 5)::
[])) (.block 0 (.loop (.seq (.seq (.run (.go (.move (tm 5)) (P 11)::
.go (.move (tm 0)) (P 12)::
.go (.len 0 (tm 12)) (P 13)::
.go (.bin .lss 3 (tm 11) (tm 13)) (P 14)::
[])) (.cond (tm 14) .skip (.exit 0))) (.seq (.block 1 (.seq (.draw 10 (.go (.move (tm 0)) (P 17)::
.go (.move (tm 5)) (P 18)::
.go (.indexAddr none 2 (tm 17) (tm 18)) (P 19)::
.go (.loadN 2 (tm 19)) (P 20)::
.go (.move (tm 1)) (P 21)::
.go (.move (tm 5)) (P 22)::
.go (.indexAddr none 2 (tm 21) (tm 22)) (P 23)::
.go (.loadN 2 (tm 23)) (P 24)::
.go (.call (.con (.func (.func 40) ⟨[]⟩ ⟨[]⟩)) [tm 24]) (P 25)::
.go (.bin .neq 62 (tm 20) (tm 25)) (P 26)::
[]) [.ok,.ok,.ok,.rd none (.loadN 2 (tm 19)) (some (P 20)) [9],.ok,.ok,.ok,.ok,.ok,.ok]) (.cond (tm 26) (.seq (.run (.go (.move (.con (.bool false))) (P 4)::
[])) .ret) .skip))) (.run (.go (.move (tm 5)) (P 15)::
.go (.bin .add 3 (tm 15) (.con (.int .i64 (.ofNat 1)))) (P 16)::
.go (.move (tm 16)) (P 5)::
[]))))))) (.seq (.run (.go (.move (.con (.bool true))) (P 4)::
[])) .ret))))
theorem de35 : @compF Try.prog (Gl.none Try.prog) Try.f35 2=.mk d35 (mkTT 27) [(P 0),(P 1)] [.tmp (P 4)]:=by kernel_rfl
theorem dg35 : Try.prog.funcs[35]?=some Try.f35:=Try.func35
theorem do35 : okF Try.prog Try.f35=true:=by kernel_rfl
noncomputable def d30 : FCode:=(.seq (.run (.go (.box 26 (tm 0)) (P 2)::
.go (.move (.con (.bool false))) (P 4)::
[])) (.seq (.seq (.run (.go (.move (tm 1)) (P 8)::
.go (.len 0 (tm 8)) (P 9)::
.go (.fieldAddr 2 (tm 2)) (P 10)::
.go (.load1 (tm 10)) (P 11)::
.go (.len 0 (tm 11)) (P 12)::
.go (.bin .neq 3 (tm 9) (tm 12)) (P 13)::
[])) (.cond (tm 13) (.seq (.run (.go (.move (.con (.bool false))) (P 4)::
[])) .ret) .skip)) (.seq (.run (.go (.fieldAddr 0 (tm 2)) (P 14)::
.go (.load1 (tm 14)) (P 15)::
.go (.len 0 (tm 15)) (P 16)::
.go (.makeSlice 3 1 8 [(.int .i64 (.ofNat 0))] (tm 16) (tm 16)) (P 17)::
.go (.move (tm 17)) (P 5)::
[])) (.seq (.seq (.run (.go (.move (.con (.int .i64 (.ofNat 0)))) (P 6)::
[])) (.block 0 (.loop (.seq (.seq (.run (.go (.move (tm 6)) (P 18)::
.go (.move (tm 1)) (P 19)::
.go (.len 0 (tm 19)) (P 20)::
.go (.bin .lss 3 (tm 18) (tm 20)) (P 21)::
[])) (.cond (tm 21) .skip (.exit 0))) (.seq (.block 1 (.seq (.seq (.draw 20 (.go (.move (tm 1)) (P 24)::
.go (.move (tm 6)) (P 25)::
.go (.indexAddr none 1 (tm 24) (tm 25)) (P 26)::
.go (.load1 (tm 26)) (P 27)::
.go (.fieldAddr 2 (tm 2)) (P 28)::
.go (.load1 (tm 28)) (P 29)::
.go (.move (tm 6)) (P 30)::
.go (.indexAddr none 5 (tm 29) (tm 30)) (P 31)::
.go (.fieldAddr 3 (tm 31)) (P 32)::
.go (.fieldAddr 0 (tm 32)) (P 33)::
.go (.load1 (tm 33)) (P 34)::
.go (.fieldAddr 2 (tm 2)) (P 35)::
.go (.load1 (tm 35)) (P 36)::
.go (.move (tm 6)) (P 37)::
.go (.indexAddr none 5 (tm 36) (tm 37)) (P 38)::
.go (.fieldAddr 3 (tm 38)) (P 39)::
.go (.fieldAddr 1 (tm 39)) (P 40)::
.go (.load1 (tm 40)) (P 41)::
.go (.call (.con (.func (.func 42) ⟨[]⟩ ⟨[]⟩)) [(tm 27),(tm 34),(tm 41)]) (P 42)::
.go (.un .not (tm 42)) (P 43)::
[]) [.ok,.ok,.ok,.ok,.ok,.ok,.ok,.ok,.ok,.ok,.ok,.ok,.ok,.ok,.ok,.ok,.ok,.ok,.ok,.ok]) (.cond (tm 43) (.seq (.run (.go (.move (.con (.bool false))) (P 4)::
[])) .ret) .skip)) (.draw 16 (.go (.move (tm 5)) (P 44)::
.go (.fieldAddr 2 (tm 2)) (P 45)::
.go (.load1 (tm 45)) (P 46)::
.go (.move (tm 6)) (P 47)::
.go (.indexAddr none 5 (tm 46) (tm 47)) (P 48)::
.go (.fieldAddr 0 (tm 48)) (P 49)::
.go (.load1 (tm 49)) (P 50)::
.go (.indexAddr none 1 (tm 44) (tm 50)) (P 51)::
.go (.load1 (tm 51)) (P 52)::
.go (.move (tm 1)) (P 53)::
.go (.move (tm 6)) (P 54)::
.go (.indexAddr none 1 (tm 53) (tm 54)) (P 55)::
.go (.load1 (tm 55)) (P 56)::
.go (.bin .add 3 (tm 52) (tm 56)) (P 57)::
.go (.indexAddr none 1 (tm 44) (tm 50)) (P 58)::
.un (.store 1 (tm 58) (tm 57))::
[]) [.ok,.ok,.ok,.ok,.ok,.ok,.ok,.ok,.ok,.ok,.ok,.ok,.ok,.ok,.ok,.ok]))) (.run (.go (.move (tm 6)) (P 22)::
.go (.bin .add 3 (tm 22) (.con (.int .i64 (.ofNat 1)))) (P 23)::
.go (.move (tm 23)) (P 6)::
[]))))))) (.seq (.seq (.run (.go (.move (.con (.int .i64 (.ofNat 0)))) (P 7)::
[])) (.block 2 (.loop (.seq (.seq (.run (.go (.move (tm 7)) (P 59)::
.go (.move (tm 5)) (P 60)::
.go (.len 0 (tm 60)) (P 61)::
.go (.bin .lss 3 (tm 59) (tm 61)) (P 62)::
[])) (.cond (tm 62) .skip (.exit 2))) (.seq (.block 3 (.seq (.draw 10 (.go (.move (tm 5)) (P 65)::
.go (.move (tm 7)) (P 66)::
.go (.indexAddr none 1 (tm 65) (tm 66)) (P 67)::
.go (.load1 (tm 67)) (P 68)::
.go (.fieldAddr 0 (tm 2)) (P 69)::
.go (.load1 (tm 69)) (P 70)::
.go (.move (tm 7)) (P 71)::
.go (.indexAddr none 1 (tm 70) (tm 71)) (P 72)::
.go (.load1 (tm 72)) (P 73)::
.go (.bin .neq 3 (tm 68) (tm 73)) (P 74)::
[]) [.ok,.ok,.ok,.ok,.ok,.ok,.ok,.ok,.ok,.ok]) (.cond (tm 74) (.seq (.run (.go (.move (.con (.bool false))) (P 4)::
[])) .ret) .skip))) (.run (.go (.move (tm 7)) (P 63)::
.go (.bin .add 3 (tm 63) (.con (.int .i64 (.ofNat 1)))) (P 64)::
.go (.move (tm 64)) (P 7)::
[]))))))) (.seq (.run (.go (.move (.con (.bool true))) (P 4)::
[])) .ret))))))
theorem de30 : @compF Try.prog (Gl.none Try.prog) Try.f30 2=.mk d30 (mkTT 75) [(P 0),(P 1)] [.tmp (P 4)]:=by kernel_rfl
theorem dg30 : Try.prog.funcs[30]?=some Try.f30:=Try.func30
theorem do30 : okF Try.prog Try.f30=true:=by kernel_rfl
theorem rg_cong {M : BM} {d : Nat} {P Q : Nat→Prop} [DecidablePred P] [DecidablePred Q] (h : ∀ i,i<M.S.length→(P i↔Q i)) : rgL M d P=rgL M d Q∧rgH M d P=rgH M d Q:=by
 have e1 : qL M d P=qL M d Q:=pS_cong fun i hi=>and_congr_right fun _=>h i hi
 have e2 : qH M d P=qH M d Q:=pS_cong fun i hi=>and_congr_right fun _=>h i hi
 have e3 : qL M d (fun i=>¬ P i)=qL M d (fun i=>¬ Q i):=pS_cong fun i hi=>and_congr_right fun _=>not_congr (h i hi)
 have e4 : qH M d (fun i=>¬ P i)=qH M d (fun i=>¬ Q i):=pS_cong fun i hi=>and_congr_right fun _=>not_congr (h i hi)
 rw[rgH_min,rgH_min]
 unfold rgL
 rw[e1,e2,e3,e4]
 exact⟨rfl,rfl⟩
theorem fl_gD {n i : Nat} {f : Nat→Int} (h : i<n) : (fl n f).getD i 0=f i:=by simp[fl,h]
theorem f34_ok {H : Heap} {o s j x : Value} {M : BM} {q : Nat} (h : MV H o s j M) (G : VM M) (hx : LS H x (fl M.S.length (newF M))) : Gives Try.prog 34 [.agg ⟨mc o s j M.N⟩,x,I q] H (.agg ⟨A2 (nwL M q) (nwH M q)⟩):=by
 have hlo:=h.o.len
 have hO4:=G.o4
 obtain⟨po,no,co,rfl⟩:=h.o.s.isS
 obtain⟨ps,ns,cs,rfl⟩:=h.s.isS
 obtain⟨pj,nj,cj,rfl⟩:=h.j.isS
 obtain⟨px,nx',cx,rfl⟩:=hx.s.isS
 refine F.entryL rfl dg34 do34 de34 rfl (by kernel_rfl) ?_
 simp only[sets]
 refine V.re [(0,.agg ⟨mc (.slice po no co) (.slice ps ns cs) (.slice pj nj cj) M.N⟩),(1,.slice px nx' cx),(2,I q)] (N:=34) zE zY ?_
 intro t hF hA
 simp only[Kn,and_true] at hA
 refine zS ?_
 refine V.l0 ?_
 refine zS ?_
 refine V.l0 ?_
 refine V.heap (fun X=>Grow H X∧Bx X H.next (mc (.slice po no co) (.slice ps ns cs) (.slice pj nj cj) M.N) 26∧Bx X (H.next+1) (A2 0 0) 50∧Bx X (H.next+2) (A2 (nkL M q 0) (nkH M q 0)) 50) ⟨?_,?_,?_,?_⟩ ?_
 ·exact zW
 ·exact zB
 ·exact zB
 ·have e : A2 (nkL M q 0) (nkH M q 0)=A2 0 0:=rfl
  rw[e]
  exact zB
 rintro H1 ⟨g1,b1,t1,c1⟩
 refine zS ?_
 refine V.l0 ?_
 refine zS ?_
 refine V.loop (fun z t mm X=>∃ (d : Nat),d≤M.O.length∧z=M.O.length-d∧mm=[]∧Grow H X∧Bx X H.next (mc (.slice po no co) (.slice ps ns cs) (.slice pj nj cj) M.N) 26∧Bx X (H.next+1) (A2 0 0) 50∧Bx X (H.next+2) (A2 (nkL M q d) (nkH M q d)) 50∧Full 34 t∧Kn [(1,.slice px nx' cx),(2,I q),(3,PT H.next),(6,PT (H.next+1)),(7,PT (H.next+2)),(8,I d)] t) M.O.length ?_ ?_
 ·exact⟨0,by omega,by omega,rfl,g1,b1,t1,c1,zF,zK⟩
 clear hF hA g1 b1 t1 c1
 rintro z t mm X ⟨d,hd,rfl,rfl,gX,bX,tX,cX,hF,hA⟩
 simp only[Kn,and_true] at hA
 refine zS ?_
 have zf:=And.intro bX.2<|@hlo
 refine V.lz ?_
 refine zS ?_
 refine V.condP zP (fun hlt=>?_) (fun hlt=>?_)
 ·have hlt' : d<M.O.length:=by omega
  have nb:=nk_bd G (q:=q) d hd
  have rb:=rg_bd G (d:=d) (P:=fun i=>newF M i=q) hlt'
  have eL:=nkL_1 (M:=M) (q:=q) (k:=d)
  have eH:=nkH_1 (M:=M) (q:=q) (k:=d)
  obtain⟨a1,ha1⟩ : ∃ z,z=nkL M q d:=⟨_,rfl⟩
  obtain⟨a2,ha2⟩ : ∃ z,z=nkH M q d:=⟨_,rfl⟩
  have f32':=f32_ok (want:=(q : Int)) (h.grow gX) G (hx.grow gX) (fl_len _ _) hlt'
  have rc:=rg_cong (M:=M) (d:=d) (P:=pk (fl M.S.length (newF M)) q) (Q:=fun i=>newF M i=q) (fun i hi=>by unfold pk;rw[fl_gD hi])
  rw[rc.1,rc.2] at f32'
  obtain⟨r1,hr1⟩ : ∃ z,z=rgL M d (fun i=>newF M i=q):=⟨_,rfl⟩
  obtain⟨r2,hr2⟩ : ∃ z,z=rgH M d (fun i=>newF M i=q):=⟨_,rfl⟩
  rw[← ha1] at eL cX nb
  rw[← ha2] at eH cX nb
  rw[← hr1] at eL rb f32'
  rw[← hr2] at eH rb f32'
  refine zS ?_
  refine V.run ?_
  have zf:=bX.2
  refine VI.sz 4 ?_
  simp only[ds]
  refine VI.callA rfl (f32') zA (fun Y k1=>?_)
  have gY:=gX.trans k1
  have bY:=bX.grow k1
  have tY:=tX.grow k1
  have cY:=cX.grow k1
  have nY:=cY.1
  refine VI.l0 ?_
  refine V.heap (fun Z=>Grow Y Z∧Bx Z Y.next (A2 r1 r2) 50) ⟨?_,?_⟩ ?_
  ·exact ((Grow.refl Y).alloc _).set (Nat.le_refl _) _
  ·exact Bx.put (by simp only[Heap.next_alloc];omega) _ _
  rintro Z ⟨gZ,sZ⟩
  have cZ:=cY.grow gZ
  have nZ:=cZ.1
  refine zS ?_
  have zf:=And.intro cZ.2<|sZ.2
  refine V.lz ?_
  refine zS ?_
  refine V.l0 ?_
  refine V.nil (Or.inl ⟨rfl,M.O.length-(d+1),by omega,?_⟩)
  refine⟨d+1,hlt',rfl,rfl,(gY.trans gZ).set (by omega) _,(bY.grow gZ).set (by omega) _,(tY.grow gZ).set (by omega) _,?_,zF,zK⟩
  rw[eL,eH]
  exact Bx.put cZ.1 _ _
 ·obtain rfl : d=M.O.length:=by omega
  have cX : Bx X (H.next+2) (A2 (nwL M q) (nwH M q)) 50:=cX
  have nt:=tX.1
  refine V.exit ?_
  refine zX ?_
  refine V.nil (Or.inr ⟨by simp,?_⟩)
  refine zX ?_
  refine zS ?_
  have zf:=And.intro cX.2<|tX.2
  refine V.lz ?_
  refine V.heap (fun Z=>Grow H Z∧Bx Z (H.next+1) (A2 (nwL M q) (nwH M q)) 50) ⟨?_,?_⟩ ?_
  ·exact gX.set (by omega) _
  ·exact Bx.put tX.1 _ _
  rintro Z ⟨gZ,bZ⟩
  refine zS ?_
  refine V.ret (V.rets rfl (Lv.retG (by simp +contextual (disch:=first|omega|simp only[nx];omega) only[D1,cells_alloc_at,cells_alloc_ne,cells_set_at,cells_set_ne,yres,yres1,yresL,qA,qB,qC,D5,hF,hA,↓reduceIte,qD,qE,bZ.2];rfl) ?_ ?_))
  ·exact gZ
  ·rfl
theorem f35_ok {H : Heap} {x y : Value} {R : List R2} (h1 : RS H x R) (h2 : RS H y R) (hn : R.length≤1048576) (hb : ∀ r∈R,(-1000000≤r.1∧r.1≤1000000)∧-1000000≤r.2∧r.2≤1000000) : Gives Try.prog 35 [x,y] H (.bool true):=by
 have hl1:=h1.len
 have hl2:=h2.len
 obtain⟨px,nx',cx,rfl⟩:=h1.isS
 obtain⟨py,ny',cy,rfl⟩:=h2.isS
 refine F.entryL rfl dg35 do35 de35 rfl (by kernel_rfl) ?_
 simp only[sets]
 refine V.re [(0,.slice px nx' cx),(1,.slice py ny' cy)] (N:=27) zE zY ?_
 intro t hF hA
 simp only[Kn,and_true] at hA
 refine zS ?_
 refine V.l0 ?_
 refine zS ?_
 have zf:=And.intro @hl1<|@hl2
 refine V.lz ?_
 refine zS ?_
 refine V.condP zP (fun hne=>?_) (fun hne=>?_)
 ·exact absurd trivial hne
 refine zS ?_
 refine V.l0 ?_
 refine zS ?_
 refine V.loop (fun z t m X=>∃ (k : Nat),k≤R.length∧z=R.length-k∧m=[]∧Grow H X∧Full 27 t∧Kn [(0,.slice px nx' cx),(1,.slice py ny' cy),(5,I k)] t) R.length ?_ ?_
 ·exact⟨0,by omega,by omega,rfl,.refl _,zF,zK⟩
 clear hF hA
 rintro z t m X ⟨k,hk,rfl,rfl,gX,hF,hA⟩
 simp only[Kn,and_true] at hA
 refine zS ?_
 have zf:=@hl1
 refine V.lz ?_
 refine zS ?_
 refine V.condP zP (fun hlt=>?_) (fun hlt=>?_)
 ·have hlt' : k<R.length:=by omega
  obtain⟨i1,o1,p1,p2⟩:=h1.at hlt'
  obtain⟨i2,o2,q1,q2'⟩:=h2.at hlt'
  have hbr:=hb _ (List.getElem_mem hlt')
  obtain⟨a,ha⟩ : ∃ a,a=R[k].1:=⟨_,rfl⟩
  obtain⟨b,hb'⟩ : ∃ b,b=R[k].2:=⟨_,rfl⟩
  have p3:=(p2 X gX).1
  have q3:=(q2' X gX).1
  rw[← ha,← hb'] at hbr
  rw[← ha,← hb'] at p3 q3
  have hnq:=neq62 (a:=a) (b:=b) (c:=a) (d:=b) hbr.1 hbr.2 hbr.1 hbr.2
  rw[decide_eq_false (fun k=>k ⟨rfl,rfl⟩)] at hnq
  refine zS ?_
  refine V.draw ?_
  have zf:=And.intro @p1<|And.intro @p3<|And.intro @q1<|@q3
  refine VD.nz 8 ?_
  simp only[ds]
  refine VD.callA zA (f40_ok a b X) zA (fun X2 g2=>?_)
  have p4:=(p2 X2 (gX.trans g2)).1
  rw[← ha,← hb'] at p4
  have m2:=g2.1
  have zf:=@hnq
  refine VD.dz ?_ ?_ rfl ?_
  ·exact zM
  ·simp only[dcAll,dcOk,wantD,List.cons_append,List.nil_append,true_and,and_true]
   have zf:=And.intro @p3<|@p4
   exact zR
  refine zS ?_
  refine V.condF zA ?_
  refine zS ?_
  refine V.l0 ?_
  refine V.nil (Or.inl ⟨rfl,R.length-(k+1),by omega,?_⟩)
  exact⟨k+1,hlt',rfl,rfl,gX.trans g2,zF,zK⟩
 ·refine V.exit ?_
  refine zX ?_
  refine V.nil (Or.inr ⟨by simp,?_⟩)
  refine zX ?_
  refine zS ?_
  refine V.l0 ?_
  refine zS ?_
  refine V.ret (V.rets rfl (Lv.retG (by simp +contextual (disch:=first|omega|simp only[nx];omega) only[D1,cells_alloc_at,cells_alloc_ne,cells_set_at,cells_set_ne,yres,yres1,yresL,qA,qB,qC,D5,hF,hA,↓reduceIte,qD,qE];rfl) ?_ ?_))
  ·exact gX
  ·rfl
theorem f30_ok {H : Heap} {o s j x : Value} {M : BM} {l : List Int} (h : MV H o s j M) (G : VM M) (hx : LS H x l) : Gives Try.prog 30 [.agg ⟨mc o s j M.N⟩,x] H (.bool (decide ((l.length : Int)=(M.S.length : Int)∧gvn M l))):=by
 have hl:=h.s.len
 have hlo:=h.o.len
 have hlx:=hx.len
 have hS8:=G.s8
 have hO4:=G.o4
 obtain⟨po,no,co,rfl⟩:=h.o.s.isS
 obtain⟨ps,ns,cs,rfl⟩:=h.s.isS
 obtain⟨pj,nj,cj,rfl⟩:=h.j.isS
 obtain⟨px,nx',cx,rfl⟩:=hx.s.isS
 refine F.entryL rfl dg30 do30 de30 rfl (by kernel_rfl) ?_
 simp only[sets]
 refine V.re [(0,.agg ⟨mc (.slice po no co) (.slice ps ns cs) (.slice pj nj cj) M.N⟩),(1,.slice px nx' cx)] (N:=75) zE zY ?_
 intro t hF hA
 simp only[Kn,and_true] at hA
 refine zS ?_
 refine V.l0 ?_
 refine V.heap (fun X=>Grow H X∧Bx X H.next (mc (.slice po no co) (.slice ps ns cs) (.slice pj nj cj) M.N) 26) ⟨?_,?_⟩ ?_
 ·exact zW
 ·exact zB
 rintro H1 ⟨g1,b1⟩
 have n1:=b1.1
 refine zS ?_
 have zf:=And.intro b1.2<|And.intro @hl<|@hlx
 refine V.lz ?_
 refine zS ?_
 refine V.condP zP (fun hne=>?_) (fun hne=>?_)
 ·refine zS ?_
  refine V.l0 ?_
  refine zS ?_
  refine V.ret (V.rets rfl (Lv.retG (by simp +contextual (disch:=first|omega|simp only[nx];omega) only[D1,cells_alloc_at,cells_alloc_ne,cells_set_at,cells_set_ne,yres,yres1,yresL,qA,qB,qC,D5,hF,hA,↓reduceIte,qD,qE];rfl) ?_ ?_))
  ·exact g1
  ·congr 1
   exact (decide_eq_false (fun k=>hne k.1)).symm
 have hln : l.length=M.S.length:=by omega
 have mk1:=mk_row H1 M.O.length (by omega)
 refine zS ?_
 have zf:=And.intro b1.2<|And.intro @hlo<|@mk1
 refine V.lz ?_
 refine V.heap (fun X=>Grow H X∧Bx X H.next (mc (.slice po no co) (.slice ps ns cs) (.slice pj nj cj) M.N) 26∧Bx X H1.next (Li (fl M.O.length fun d : Nat=>gS M l d 0)) 3) ⟨?_,?_,?_⟩ ?_
 ·exact zW
 ·exact b1.alloc _
 ·exact Bx.new _ _ _
 rintro H2 ⟨g2,b2,c2⟩
 refine zS ?_
 refine V.l0 ?_
 refine zS ?_
 refine V.loop (fun z t mm X=>∃ (k : Nat),k≤l.length∧z=l.length-k∧mm=[]∧Grow H X∧Bx X H.next (mc (.slice po no co) (.slice ps ns cs) (.slice pj nj cj) M.N) 26∧Bx X H1.next (Li (fl M.O.length fun d : Nat=>gS M l d k)) 3∧(∀ i : Nat,i<k→loF M i≤l.getD i 0∧l.getD i 0≤hiF M i)∧Full 75 t∧Kn [(1,.slice px nx' cx),(2,PT H.next),(5,.slice (some ⟨H1.next,0,none⟩) M.O.length M.O.length),(6,I k)] t) l.length ?_ ?_
 ·exact⟨0,by omega,by omega,rfl,g2,b2,c2,(fun i hi=>absurd hi (by omega)),zF,zK⟩
 clear hF hA g2 b2 c2
 rintro z t mm X ⟨k,hk,rfl,rfl,gX,bX,cX,hall,hF,hA⟩
 simp only[Kn,and_true] at hA
 refine zS ?_
 have zf:=@hlx
 refine V.lz ?_
 refine zS ?_
 refine V.condP zP (fun hlt=>?_) (fun hlt=>?_)
 ·have hlt' : k<l.length:=by omega
  have hlt2 : k<M.S.length:=by omega
  obtain⟨lp,lp1,lp2⟩:=hx.at hlt'
  have lp3:=lp2 X gX
  have eg : l[k]=l.getD k 0:=gD hlt'
  obtain⟨y,hy⟩ : ∃ y,y=l.getD k 0:=⟨_,rfl⟩
  rw[eg,← hy] at lp3
  obtain⟨si,so',s1,s2⟩:=h.s.at hlt2
  obtain⟨_,s3,_,_,s4,s5',_⟩:=s2 X gX
  rw[← loF_at hlt2] at s4
  rw[← hiF_at hlt2] at s5'
  refine zS ?_
  refine V.draw ?_
  have zf:=And.intro @lp1<|And.intro @lp3<|And.intro bX.2<|And.intro @s1<|And.intro @s4<|@s5'
  refine VD.nz 9 ?_
  simp only[ds]
  have zf:=And.intro @lp1<|And.intro @lp3<|And.intro bX.2<|And.intro @s1<|And.intro @s4<|@s5'
  refine VD.nz 9 ?_
  simp only[ds]
  refine VD.callA zA (f42_ok y (loF M k) (hiF M k) X) zA (fun X2 g2=>?_)
  have bX2:=bX.grow g2
  have cX2:=cX.grow g2
  have gX2:=gX.trans g2
  have m2:=g2.1
  refine VD.d0 ?_ ?_ rfl ?_
  ·exact zM
  ·simp only[dcAll,dcOk,wantD,List.cons_append,List.nil_append,true_and,and_true]
  refine zS ?_
  refine V.condP zP (fun hbad=>?_) (fun hbad=>?_)
  ·refine zS ?_
   refine V.l0 ?_
   refine zS ?_
   refine V.ret (V.rets rfl (Or.inr ⟨by simp,V.rets rfl (Lv.retG (by simp +contextual (disch:=first|omega|simp only[nx];omega) only[D1,cells_alloc_at,cells_alloc_ne,cells_set_at,cells_set_ne,yres,yres1,yresL,qA,qB,qC,D5,hF,hA,↓reduceIte,qD,qE];rfl) ?_ ?_)⟩))
   ·exact gX2
   ·congr 1
    exact (decide_eq_false (fun hg=>hbad (by rw[hy];exact hg.2.1 k hlt2))).symm
  have hok:=Decidable.not_not.1 hbad
  have hoF:=G.old hlt2
  obtain⟨dn,hdn⟩ : ∃ dn : Nat,oldF M k=dn:=⟨(oldF M k).toNat,by omega⟩
  have hdO : dn<M.O.length:=by omega
  have hlh:=G.lh hlt2
  have gb:=gS_bd (d:=dn) G (by omega) hall
  obtain⟨fk,hfk⟩ : ∃ fk : Nat→Int,fk=fun d : Nat=>gS M l d k:=⟨_,rfl⟩
  have efk : fk dn=gS M l dn k:=by rw[hfk]
  rw[← hfk] at cX2
  rw[← efk] at gb
  have ix:=own_idx (y:=H1.next) (n:=M.O.length) (c:=M.O.length) hdO
  have le : dn<(Li (fl M.O.length fk)).length:=by rw[Li_fl_len];exact hdO
  have ge:=fl_get (g:=fk) hdO
  have lp4:=lp2 X2 gX2
  rw[eg,← hy] at lp4
  have s6:=(s2 X2 gX2).2.1
  rw[← oldF_at hlt2,hdn] at s6
  have nc:=cX2.1
  refine zS ?_
  have zf:=And.intro @lp1<|And.intro @lp4<|And.intro bX2.2<|And.intro @s1<|And.intro @s6<|And.intro @ix<|And.intro cX2.2<|And.intro @le<|And.intro @ge<|@fl_set
  refine V.dz ?_ ?_ rfl ?_
  ·exact zM
  ·simp only[dcAll,dcOk,wantD,List.cons_append,List.nil_append,true_and,and_true]
  refine zS ?_
  refine V.l0 ?_
  refine V.nil (Or.inl ⟨rfl,l.length-(k+1),by omega,?_⟩)
  refine⟨k+1,hlt',rfl,rfl,gX2.set (by omega) _,bX2.set (by omega) _,?_,fun i hi=>?_,zF,zK⟩
  ·have e : (fun d : Nat=>gS M l d (k+1))=fun i=>if i=dn then fk dn+y else fk i:=by
    funext i
    rw[gS_1,hfk]
    dsimp only
    by_cases hi : i=dn
    ·subst hi;rw[if_pos hdn,if_pos rfl,hy]
    ·rw[if_neg hi,if_neg (by rw[hdn];omega)];omega
   rw[e]
   exact Bx.put cX2.1 _ _
  ·by_cases e : i=k
   ·subst e;rw[← hy];exact hok
   ·exact hall i (by omega)
 obtain rfl : k=l.length:=by omega
 rw[hln] at hall cX
 have hbl : ∀ X,ylen 0 X (.slice (some ⟨H1.next,0,none⟩) M.O.length M.O.length)=some (I M.O.length):=fun _=>rfl
 refine V.exit ?_
 refine zX ?_
 refine V.nil (Or.inr ⟨by simp,?_⟩)
 refine zX ?_
 refine zS ?_
 refine V.l0 ?_
 refine zS ?_
 refine V.loop (fun z t mm Y=>∃ (d : Nat),d≤M.O.length∧z=M.O.length-d∧mm=[]∧Y=X∧(∀ i : Nat,i<d→gS M l i M.S.length=M.O.getD i 0)∧Full 75 t∧Kn [(2,PT H.next),(5,.slice (some ⟨H1.next,0,none⟩) M.O.length M.O.length),(7,I d)] t) M.O.length ?_ ?_
 ·exact⟨0,by omega,by omega,rfl,rfl,(fun i hi=>absurd hi (by omega)),zF,zK⟩
 clear hF hA
 rintro z t mm Y ⟨d,hd,rfl,rfl,hY,hal2,hF,hA⟩
 obtain rfl : X=Y:=hY.symm
 simp only[Kn,and_true] at hA
 refine zS ?_
 have zf:=@hbl
 refine V.lz ?_
 refine zS ?_
 refine V.condP zP (fun hlt2=>?_) (fun hlt2=>?_)
 ·have hlt' : d<M.O.length:=by omega
  obtain⟨lp,lp1,lp2⟩:=h.o.at hlt'
  have lp3:=lp2 X gX
  have ot:=G.ot hlt'
  rw[← ot.1] at lp3
  have ix:=own_idx (y:=H1.next) (n:=M.O.length) (c:=M.O.length) hlt'
  have ge:=fl_get (g:=fun d : Nat=>gS M l d M.S.length) hlt'
  obtain⟨u,hu⟩ : ∃ u,u=gS M l d M.S.length:=⟨_,rfl⟩
  replace ge : (Li (fl M.O.length fun d : Nat=>gS M l d M.S.length))[d]?=some (I u):=by rw[hu];exact ge
  refine zS ?_
  have zf:=And.intro @ix<|And.intro cX.2<|And.intro @ge<|And.intro bX.2<|And.intro @lp1<|@lp3
  refine V.dz ?_ ?_ rfl ?_
  ·exact zM
  ·simp only[dcAll,dcOk,wantD,List.cons_append,List.nil_append,true_and,and_true]
  refine zS ?_
  refine V.condP zP (fun hne2=>?_) (fun hne2=>?_)
  ·refine zS ?_
   refine V.l0 ?_
   refine zS ?_
   refine V.ret (V.rets rfl (Or.inr ⟨by simp,V.rets rfl (Lv.retG (by simp +contextual (disch:=first|omega|simp only[nx];omega) only[D1,cells_alloc_at,cells_alloc_ne,cells_set_at,cells_set_ne,yres,yres1,yresL,qA,qB,qC,D5,hF,hA,↓reduceIte,qD,qE];rfl) ?_ ?_)⟩))
   ·exact gX
   ·congr 1
    exact (decide_eq_false (fun hg=>hne2 (by rw[hu];exact hg.2.2 d hlt'))).symm
  ·refine zS ?_
   refine V.l0 ?_
   refine V.nil (Or.inl ⟨rfl,M.O.length-(d+1),by omega,?_⟩)
   refine⟨d+1,hlt',rfl,rfl,rfl,fun i hi=>?_,zF,zK⟩
   by_cases e : i=d
   ·subst e;rw[← hu];exact Decidable.not_not.1 hne2
   ·exact hal2 i (by omega)
 ·obtain rfl : d=M.O.length:=by omega
  refine V.exit ?_
  refine zX ?_
  refine V.nil (Or.inr ⟨by simp,?_⟩)
  refine zX ?_
  refine zS ?_
  refine V.l0 ?_
  refine zS ?_
  refine V.ret (V.rets rfl (Lv.retG (by simp +contextual (disch:=first|omega|simp only[nx];omega) only[D1,cells_alloc_at,cells_alloc_ne,cells_set_at,cells_set_ne,yres,yres1,yresL,qA,qB,qC,D5,hF,hA,↓reduceIte,qD,qE];rfl) ?_ ?_))
  ·exact gX
  ·congr 1
   exact (decide_eq_true ⟨by omega,hall,hal2⟩).symm
end Go.Xe.TBX
