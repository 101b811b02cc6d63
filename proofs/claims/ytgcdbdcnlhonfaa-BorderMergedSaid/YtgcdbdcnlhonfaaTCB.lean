/- What the functions of the layer border come to: maps that are copied, lists that are compared. Conditions: none. -/
import Derived.Test.YtgcdbdcnlhonfaaTCA
-- MOD TB
namespace Go.Xe
theorem Bx.apart {A B : Heap} {s : Value} {i : Nat} {c : List Value} {e : TypeId} (h : Bx A i c e) (g : Apart A B s) (hs : blk s≠some i) : Bx B i c e:=
 ⟨Nat.lt_of_lt_of_le h.1 g.1,by
  have:=g.2 i h.1 (fun o n c he=>hs (by rw[he];rfl))
  have h2:=h.2
  unfold Heap.cellsAt at h2 ⊢
  rw[this]
  exact h2⟩
theorem blkN_blk {v : Value} {i : Nat} (h : blkN v=some i) : blk v=some i:=by
 unfold blkN at h
 split at h
 ·cases h;rfl
 ·cases h
theorem OwW.isS {w : Nat} {H0 H : Heap} {e : TypeId} {v : Value} {l : List (List Value)} (h : OwW w H0 H e v l) : ∃ p n c,v=.slice p n c:=by
 rcases h with⟨rfl,_⟩|⟨_,_,_,rfl,_⟩<;>exact⟨_,_,_,rfl⟩
theorem OwW.pushAt {w : Nat} {H0 H : Heap} {e : TypeId} {bytes : Nat} {s : Value} {l : List (List Value)} {x : List Value} {n : Nat} (hw : 0<w) (g : Grow H0 H) (hs : OwW w H0 H e s l) (hl : ∀ x∈l,x.length=w) (hx : x.length=w) (hok : x.all ok1=true) (hb : (2*(l.length+1)+256)*bytes≤281474976710656) (h2 : l.length+1≤281474976710656) (hn : n≤H.next) (hsn : ∀ i,blk s=some i→n≤i) :
  ∃ v H',yappend e w bytes (H.alloc (.cells ⟨x⟩ e true)) s (.slice (some ⟨H.next,0,none⟩) 1 1)=some (v,H')∧OwW w H0 H' e v (l++[x])∧Grow H0 H'∧Apart H H' s∧(∀ i,blk v=some i→n≤i)∧H.next+1≤H'.next:=by
 obtain⟨v,H',a1,a2,a3,a4,a6,_⟩:=OwW.push (bytes:=bytes) hw g hs hl hx hok hb h2
 have hs' : OwW w (cutH H n) H e s l:=by
  rcases hs with h|⟨i,_,i2,i3,i4⟩
  ·exact .inl h
  ·exact .inr ⟨i,hsn i (by rw[i3];rfl),i2,i3,i4⟩
 obtain⟨v',H'',b1,b2,_⟩:=OwW.push (bytes:=bytes) hw (cutH_grow hn) hs' hl hx hok hb h2
 rw[a1] at b1
 cases b1
 refine⟨v,H',a1,a2,a3,a4,fun i hi=>?_,a6⟩
 rcases b2 with⟨h,_⟩|⟨i',i1,_,i3,_⟩
 ·rw[h] at hi;cases hi
 ·rw[i3] at hi
  cases hi
  exact i1
end Go.Xe
namespace Go.Xe.TBX
open Go Go.Xe Go.Proofs
open Nat renaming reduceLeDiff → qA, reduceSub → qB, reduceAdd → qC, reduceEqDiff → qD, reduceLT → qE
open Int renaming reduceNegSucc → qF, reduceEq → qG
open Go.Xe.V renaming seq → sA, block → sB, scope → sC, skip → sD, close → sE
open Go.Xe renaming pth → P
open Go.Xe.Rnd
set_option maxRecDepth 100000
set_option maxHeartbeats 3200000
set_option linter.unusedSimpArgs false
noncomputable def d29 : FCode:=(.seq (.run (.go (.move (.con (.slice none 0 0))) (P 2)::
[])) (.seq (.run (.go (.move (tm 0)) (P 3)::
.go (.append 3 1 8 (.con (.slice none 0 0)) (tm 3)) (P 4)::
.go (.move (tm 4)) (P 2)::
[])) .ret))
theorem de29 : @compF Try.prog (Gl.none Try.prog) Try.f29 1=.mk d29 (mkTT 5) [(P 0)] [.tmp (P 2)]:=by kernel_rfl
theorem dg29 : Try.prog.funcs[29]?=some Try.f29:=Try.func29
theorem do29 : okF Try.prog Try.f29=true:=by kernel_rfl
noncomputable def d40 : FCode:=(.seq (.run (.go (.box 50 (tm 0)) (P 1)::
.go (.alloc 62 [(.int .i64 (.ofNat 0)),(.int .i64 (.ofNat 0))]) (P 2)::
[])) (.seq (.run (.go (.fieldAddr 0 (tm 1)) (P 3)::
.go (.load1 (tm 3)) (P 4)::
.go (.fieldAddr 1 (tm 1)) (P 5)::
.go (.load1 (tm 5)) (P 6)::
.go (.build [(.int .i64 (.ofNat 0)),(.int .i64 (.ofNat 0))] [(0,1,(tm 4)),(1,1,(tm 6))]) (P 7)::
.un (.store 2 (tm 2) (tm 7))::
[])) .ret))
theorem de40 : @compF Try.prog (Gl.none Try.prog) Try.f40 1=.mk d40 (mkTT 8) [(P 0)] [.many (P 2) 2]:=by kernel_rfl
theorem dg40 : Try.prog.funcs[40]?=some Try.f40:=Try.func40
theorem do40 : okF Try.prog Try.f40=true:=by kernel_rfl
noncomputable def d19 : FCode:=(.seq (.run (.go (.box 26 (tm 0)) (P 1)::
.go (.alloc 34 [(.slice none 0 0),(.int .i64 (.ofNat 0)),(.slice none 0 0),(.slice none 0 0)]) (P 2)::
[])) (.seq (.draw 8 (.go (.fieldAddr 0 (tm 1)) (P 7)::
.go (.load1 (tm 7)) (P 8)::
.go (.call (.con (.func (.func 29) ⟨[]⟩ ⟨[]⟩)) [tm 8]) (P 9)::
.go (.fieldAddr 1 (tm 1)) (P 10)::
.go (.load1 (tm 10)) (P 11)::
.go (.build [(.slice none 0 0),(.int .i64 (.ofNat 0)),(.slice none 0 0),(.slice none 0 0)] [(0,1,(tm 9)),(1,1,(tm 11))]) (P 12)::
.go (.alloc 34 [(.slice none 0 0),(.int .i64 (.ofNat 0)),(.slice none 0 0),(.slice none 0 0)]) (P 3)::
.un (.store 4 (tm 3) (tm 12))::
[]) [.ok,.ok,.ok,.ok,.rd none (.load1 (tm 10)) (some (P 11)) [0],.ok,.nw none (some (P 3)) 6 true,.ok]) (.seq (.seq (.run (.go (.move (.con (.int .i64 (.ofNat 0)))) (P 4)::
[])) (.block 0 (.loop (.seq (.seq (.run (.go (.move (tm 4)) (P 13)::
.go (.fieldAddr 2 (tm 1)) (P 14)::
.go (.load1 (tm 14)) (P 15)::
.go (.len 0 (tm 15)) (P 16)::
.go (.bin .lss 3 (tm 13) (tm 16)) (P 17)::
[])) (.cond (tm 17) .skip (.exit 0))) (.seq (.block 1 (.seq (.run (.go (.fieldAddr 2 (tm 1)) (P 20)::
.go (.load1 (tm 20)) (P 21)::
.go (.move (tm 4)) (P 22)::
.go (.indexAddr none 5 (tm 21) (tm 22)) (P 23)::
.go (.loadN 5 (tm 23)) (P 24)::
.go (.alloc 54 [(.int .i64 (.ofNat 0)),(.int .i64 (.ofNat 0)),(.int .i64 (.ofNat 0)),(.int .i64 (.ofNat 0)),(.int .i64 (.ofNat 0))]) (P 5)::
.un (.store 5 (tm 5) (tm 24))::
[])) (.draw 16 (.go (.fieldAddr 2 (tm 3)) (P 25)::
.go (.load1 (tm 25)) (P 26)::
.go (.fieldAddr 0 (tm 5)) (P 27)::
.go (.load1 (tm 27)) (P 28)::
.go (.fieldAddr 1 (tm 5)) (P 29)::
.go (.load1 (tm 29)) (P 30)::
.go (.fieldAddr 2 (tm 5)) (P 31)::
.go (.load1 (tm 31)) (P 32)::
.go (.fieldAddr 3 (tm 5)) (P 33)::
.go (.loadN 2 (tm 33)) (P 34)::
.go (.call (.con (.func (.func 40) ⟨[]⟩ ⟨[]⟩)) [tm 34]) (P 35)::
.go (.build [(.int .i64 (.ofNat 0)),(.int .i64 (.ofNat 0)),(.int .i64 (.ofNat 0)),(.int .i64 (.ofNat 0)),(.int .i64 (.ofNat 0))] [(0,1,(tm 28)),(1,1,(tm 30)),(2,1,(tm 32)),(3,2,(tm 35))]) (P 36)::
.go (.buildSlice 74 1 [(.int .i64 (.ofNat 0)),(.int .i64 (.ofNat 0)),(.int .i64 (.ofNat 0)),(.int .i64 (.ofNat 0)),(.int .i64 (.ofNat 0))] [(0,5,(tm 36))]) (P 37)::
.go (.append 74 5 40 (tm 26) (tm 37)) (P 38)::
.go (.fieldAddr 2 (tm 3)) (P 39)::
.un (.store 1 (tm 39) (tm 38))::
[]) [.ok,.rd none (.load1 (tm 25)) (some (P 26)) [11,13],.ok,.rd none (.load1 (tm 27)) (some (P 28)) [11],.ok,.rd none (.load1 (tm 29)) (some (P 30)) [11],.ok,.rd none (.load1 (tm 31)) (some (P 32)) [11],.ok,.ok,.ok,.ok,.ok,.ok,.ok,.ok]))) (.run (.go (.move (tm 4)) (P 18)::
.go (.bin .add 3 (tm 18) (.con (.int .i64 (.ofNat 1)))) (P 19)::
.go (.move (tm 19)) (P 4)::
[]))))))) (.seq (.seq (.run (.go (.move (.con (.int .i64 (.ofNat 0)))) (P 6)::
[])) (.block 2 (.loop (.seq (.seq (.run (.go (.move (tm 6)) (P 40)::
.go (.fieldAddr 3 (tm 1)) (P 41)::
.go (.load1 (tm 41)) (P 42)::
.go (.len 0 (tm 42)) (P 43)::
.go (.bin .lss 3 (tm 40) (tm 43)) (P 44)::
[])) (.cond (tm 44) .skip (.exit 2))) (.seq (.block 3 (.draw 19 (.go (.fieldAddr 3 (tm 3)) (P 47)::
.go (.load1 (tm 47)) (P 48)::
.go (.fieldAddr 3 (tm 1)) (P 49)::
.go (.load1 (tm 49)) (P 50)::
.go (.move (tm 6)) (P 51)::
.go (.indexAddr none 2 (tm 50) (tm 51)) (P 52)::
.go (.fieldAddr 0 (tm 52)) (P 53)::
.go (.load1 (tm 53)) (P 54)::
.go (.fieldAddr 3 (tm 1)) (P 55)::
.go (.load1 (tm 55)) (P 56)::
.go (.move (tm 6)) (P 57)::
.go (.indexAddr none 2 (tm 56) (tm 57)) (P 58)::
.go (.fieldAddr 1 (tm 58)) (P 59)::
.go (.load1 (tm 59)) (P 60)::
.go (.build [(.int .i64 (.ofNat 0)),(.int .i64 (.ofNat 0))] [(0,1,(tm 54)),(1,1,(tm 60))]) (P 61)::
.go (.buildSlice 76 1 [(.int .i64 (.ofNat 0)),(.int .i64 (.ofNat 0))] [(0,2,(tm 61))]) (P 62)::
.go (.append 76 2 16 (tm 48) (tm 62)) (P 63)::
.go (.fieldAddr 3 (tm 3)) (P 64)::
.un (.store 1 (tm 64) (tm 63))::
[]) [.ok,.rd none (.load1 (tm 47)) (some (P 48)) [16],.ok,.ok,.ok,.ok,.ok,.ok,.ok,.ok,.ok,.ok,.ok,.ok,.ok,.ok,.ok,.ok,.ok])) (.run (.go (.move (tm 6)) (P 45)::
.go (.bin .add 3 (tm 45) (.con (.int .i64 (.ofNat 1)))) (P 46)::
.go (.move (tm 46)) (P 6)::
[]))))))) (.seq (.run (.go (.loadN 4 (tm 3)) (P 65)::
.un (.store 4 (tm 2) (tm 65))::
[])) .ret)))))
theorem de19 : @compF Try.prog (Gl.none Try.prog) Try.f19 1=.mk d19 (mkTT 66) [(P 0)] [.many (P 2) 4]:=by kernel_rfl
theorem dg19 : Try.prog.funcs[19]?=some Try.f19:=Try.func19
theorem do19 : okF Try.prog Try.f19=true:=by kernel_rfl
theorem f29_ow {H : Heap} {x : Value} {l : List Int} (h : LS H x l) (hn : l.length≤1048576) : F Try.prog 29 ⟨[x]⟩ H (fun v X=>Grow H X∧Ow H X 3 v (Li l)):=by
 obtain⟨w,H',k1,k2,k3,k4⟩:=Ow.append (H0:=H) (e:=3) (bytes:=8) (s:=.slice none 0 0) (l:=[]) (.refl H) .nil h.s (Li_ok l) (by simp[Li_len];omega) (by simp[Li_len];omega)
 rw[List.nil_append] at k2
 refine F.entryL rfl dg29 do29 de29 rfl (by kernel_rfl) ?_
 simp only[sets]
 refine V.re [(0,x)] (N:=5) zE zY ?_
 intro t hF hA
 simp only[Kn,and_true] at hA
 refine zS ?_
 refine V.l0 ?_
 refine zS ?_
 have zf:=@k1
 refine V.lz ?_
 refine zS ?_
 refine V.ret (V.rets rfl (Lv.retF (by simp +contextual (disch:=first|omega|simp only[nx];omega) only[D1,cells_alloc_at,cells_alloc_ne,cells_set_at,cells_set_ne,yres,yres1,yresL,qA,qB,qC,D5,hF,hA,↓reduceIte,qD,qE];rfl) ?_))
 exact⟨k3,k2⟩
theorem f40_ok (a b : Int) (H : Heap) : Gives Try.prog 40 [.agg ⟨A2 a b⟩] H (.agg ⟨A2 a b⟩):=by
 refine F.entryL rfl dg40 do40 de40 rfl (by kernel_rfl) ?_
 simp only[sets]
 refine V.re [(0,.agg ⟨A2 a b⟩)] (N:=8) zE zY ?_
 intro t hF hA
 simp only[Kn,and_true] at hA
 refine zS ?_
 refine V.l0 ?_
 refine zS ?_
 refine V.l0 ?_
 refine zS ?_
 refine V.ret (V.rets rfl (Lv.retG (by simp +contextual (disch:=first|omega|simp only[nx];omega) only[D1,cells_alloc_at,cells_alloc_ne,cells_set_at,cells_set_ne,yres,yres1,yresL,qA,qB,qC,D5,hF,hA,↓reduceIte,qD,qE];rfl) ?_ ?_))
 ·exact zW
 ·rfl
theorem f19_ok {H : Heap} {o s j : Value} {M : BM} (h : MV H o s j M) (hn : thin M) : F Try.prog 19 ⟨[.agg ⟨mc o s j M.N⟩]⟩ H (fun w X=>Grow H X∧∃ o' s' j',w=.agg ⟨mc o' s' j' M.N⟩∧MV X o' s' j' M):=by
 have hl:=h.s.len
 have hlj:=h.j.len
 obtain⟨⟨hn1,hn2⟩,hn3⟩:=hn
 obtain⟨po,no,co,rfl⟩:=h.o.s.isS
 obtain⟨ps,ns,cs,rfl⟩:=h.s.isS
 obtain⟨pj,nj,cj,rfl⟩:=h.j.isS
 refine F.entryL rfl dg19 do19 de19 rfl (by kernel_rfl) ?_
 simp only[sets]
 refine V.re [(0,.agg ⟨mc (.slice po no co) (.slice ps ns cs) (.slice pj nj cj) M.N⟩)] (N:=66) zE zY ?_
 intro t hF hA
 simp only[Kn,and_true] at hA
 refine zS ?_
 refine V.l0 ?_
 refine V.heap (fun X=>Grow H X∧Bx X H.next (mc (.slice po no co) (.slice ps ns cs) (.slice pj nj cj) M.N) 26∧Bx X (H.next+1) (mc (.slice none 0 0) (.slice none 0 0) (.slice none 0 0) 0) 34) ⟨?_,?_,?_⟩ ?_
 ·exact zW
 ·exact zB
 ·exact zB
 rintro H1 ⟨g1,b1,c1⟩
 have n01:=c1.1
 refine zS ?_
 refine V.draw ?_
 have zf:=b1.2
 refine VD.nz 2 ?_
 simp only[ds]
 refine VD.callR zA (f29_ow (h.o.grow g1) (by omega)) zA (fun w2 H2 ⟨g2,o2⟩=>?_)
 obtain⟨p2,n2,c2,rfl⟩:=o2.slice
 have b2:=b1.grow g2
 have r2:=c1.grow g2
 have m2:=g2.1
 have nb1:=r2.1
 have g12:=g1.trans g2
 have qo:=ow_ls o2
 have zf:=b2.2
 refine VD.dz ?_ ?_ rfl ?_
 ·exact zM
 ·simp only[dcAll,dcOk,wantD,List.cons_append,List.nil_append,true_and,and_true]
  have zf:=And.intro b1.2<|b2.2
  exact⟨zR,fun _=>⟨_,_,_,rfl,rfl,rfl,(by simp only[D5,hF,hA,↓reduceIte,qD,qE];simp[inBound]),fun _=>⟨_,_,_,cells_alloc _ _ _ _,(by first|exact An_inb|rfl)⟩⟩⟩
 refine V.heap (fun X=>Grow H2 X∧Bx X H2.next (mc (.slice p2 n2 c2) (.slice none 0 0) (.slice none 0 0) M.N) 34) ⟨?_,?_⟩ ?_
 ·exact zW
 ·exact Bx.put (by simp only[Heap.next_alloc];omega) _ _
 rintro H3 ⟨g3,d3⟩
 refine zS ?_
 refine V.l0 ?_
 refine zS ?_
 refine V.loop (fun z t mm X=>∃ (k : Nat) (w : Value),k≤M.S.length∧z=M.S.length-k∧mm=[]∧Grow H2 X∧isS w∧OwW 5 H2 X 74 w ((M.S.take k).map s5)∧(∀ i,blk w=some i→H2.next+1≤i)∧Bx X H2.next (mc (.slice p2 n2 c2) w (.slice none 0 0) M.N) 34∧Full 66 t∧Kn [(1,PT H.next),(2,PT (H.next+1)),(3,PT H2.next),(4,I k)] t) M.S.length ?_ ?_
 ·exact⟨0,_,by omega,by omega,rfl,g3,⟨_,_,_,rfl⟩,.nil,(fun i e=>by cases e),d3,zF,zK⟩
 clear hF hA d3 g3
 rintro z t mm X ⟨k,w,hk,rfl,rfl,gX,hw,ow,hbw,dX,hF,hA⟩
 obtain⟨pw,nw',cw,rfl⟩:=hw
 simp only[Kn,and_true] at hA
 have bX:=b2.grow gX
 refine zS ?_
 have zf:=And.intro bX.2<|@hl
 refine V.lz ?_
 refine zS ?_
 refine V.condP zP (fun hlt=>?_) (fun hlt=>?_)
 ·have hlt' : k<M.S.length:=by omega
  obtain⟨i,o,h1,h2⟩:=h.s.at hlt'
  have h3:=(h2 X (g12.trans gX)).1
  obtain⟨y,hy⟩ : ∃ y,y=M.S[k]:=⟨_,rfl⟩
  rw[← hy] at h3
  refine zS ?_
  have zf:=And.intro bX.2<|And.intro @h1<|@h3
  refine V.lz ?_
  refine V.heap (fun Y=>Grow X Y∧Bx Y X.next (s5 y) 54) ⟨?_,?_⟩ ?_
  ·exact zW
  ·exact zB
  rintro X1 ⟨gx,c1⟩
  have d1:=dX.grow gx
  refine zS ?_
  refine V.draw ?_
  have zf:=And.intro d1.2<|c1.2
  refine VD.nz 9 ?_
  simp only[ds]
  have zf:=And.intro d1.2<|c1.2
  refine VD.nz 1 ?_
  simp only[ds]
  refine VD.callA zA (f40_ok y.lo y.hi _) zA (fun X2 g2'=>?_)
  have d2:=d1.grow g2'
  have c2':=c1.grow g2'
  have gX2:=(gX.trans gx).trans g2'
  have nd:=d2.1
  obtain⟨u,Y,a1,a2,a3,a4,a5,a6⟩:=OwW.pushAt (n:=H2.next+1) (bytes:=40) (x:=s5 y) (by decide) gX2 (ow.keep (gx.trans g2')) s5_w rfl rfl (by rw[List.length_map,List.length_take];omega) (by rw[List.length_map,List.length_take];omega) (by omega) hbw
  obtain⟨pu,nu,cu,rfl⟩:=a2.isS
  have d3:=d2.apart a4 (fun e=>by have:=hbw _ e;omega)
  have m1:=g2'.1
  have m3:=a4.1
  have zf:=And.intro d3.2<|@a1
  refine VD.dz ?_ ?_ rfl ?_
  ·exact zM
  ·simp only[dcAll,dcOk,wantD,List.cons_append,List.nil_append,true_and,and_true]
   have zf:=And.intro d1.2<|And.intro d2.2<|And.intro d3.2<|And.intro c1.2<|c2'.2
   exact⟨zR,zR,zR,zR⟩
  refine zS ?_
  refine V.l0 ?_
  refine V.nil (Or.inl ⟨rfl,M.S.length-(k+1),by omega,?_⟩)
  refine⟨k+1,_,hlt',rfl,rfl,a3.set (Nat.le_refl _) _,⟨_,_,_,rfl⟩,?_,a5,Bx.put d3.1 _ _,zF,zK⟩
  rw[tk1 hlt',List.map_append,← hy]
  rcases a2 with⟨h,h'⟩|⟨i',i1,i2,i3,i4⟩
  ·exact .inl ⟨h,h'⟩
  ·have:=a5 i' (by rw[i3];rfl)
   exact .inr ⟨i',i1,i2,i3,by rw[cells_set_ne _ _ (by omega)];exact i4⟩
 obtain rfl : k=M.S.length:=by omega
 rw[List.take_length] at ow
 have qs : SS X (.slice pw nw' cw) M.S:=⟨ow.sw s5_w⟩
 have nX:=dX.1
 have ng2:=gX.1
 have hloc : ∀ i,blk (.slice pw nw' cw)=some i→H2.next+1≤i∧i<X.next:=fun i hi=>⟨hbw i hi,ow.lt hi⟩
 clear ow
 refine V.exit ?_
 refine zX ?_
 refine V.nil (Or.inr ⟨by simp,?_⟩)
 refine zX ?_
 refine zS ?_
 refine V.l0 ?_
 refine zS ?_
 refine V.loop (fun z t mm Y=>∃ (k : Nat) (w : Value),k≤M.J.length∧z=M.J.length-k∧mm=[]∧Grow H2 Y∧SS Y (.slice pw nw' cw) M.S∧isS w∧X.next≤Y.next∧OwW 2 X Y 76 w ((M.J.take k).map q2)∧Bx Y H2.next (mc (.slice p2 n2 c2) (.slice pw nw' cw) w M.N) 34∧Full 66 t∧Kn [(1,PT H.next),(2,PT (H.next+1)),(3,PT H2.next),(6,I k)] t) M.J.length ?_ ?_
 ·exact⟨0,_,by omega,by omega,rfl,gX,qs,⟨_,_,_,rfl⟩,Nat.le_refl _,.nil,dX,zF,zK⟩
 clear hF hA dX
 rintro z t mm Y ⟨k,v,hk,rfl,rfl,gY,qs,hv,nY,ow,dY,hF,hA⟩
 obtain⟨pv,nv,cv,rfl⟩:=hv
 simp only[Kn,and_true] at hA
 have bY:=b2.grow gY
 refine zS ?_
 have zf:=And.intro bY.2<|@hlj
 refine V.lz ?_
 refine zS ?_
 refine V.condP zP (fun hlt=>?_) (fun hlt=>?_)
 ·have hlt' : k<M.J.length:=by omega
  obtain⟨i,o,h1,h2⟩:=h.j.at hlt'
  obtain⟨_,l0,l1⟩:=h2 Y (g12.trans gY)
  obtain⟨y,hy⟩ : ∃ y,y=M.J[k]:=⟨_,rfl⟩
  rw[← hy] at l0 l1
  have gcut : Grow (cutH Y X.next) Y:=cutH_grow nY
  have ow' : OwW 2 (cutH Y X.next) Y 76 (.slice pv nv cv) ((M.J.take k).map q2):=ow.base (Nat.le_refl _)
  obtain⟨u,Y1,a1,a2,a3,a4,a5,a6⟩:=OwW.pushAt (n:=X.next) (bytes:=16) (x:=q2 y) (by decide) gcut ow' q2_w rfl rfl (by rw[List.length_map,List.length_take];omega) (by rw[List.length_map,List.length_take];omega) nY (fun i hi=>by
   rcases ow with⟨e,_⟩|⟨i',i1,_,i3,_⟩
   ·rw[e] at hi;cases hi
   ·rw[i3] at hi;cases hi;exact i1)
  obtain⟨pu,nu,cu,rfl⟩:=a2.isS
  have hbv : ∀ i,blk (.slice pv nv cv)=some i→X.next≤i:=fun i hi=>by
   rcases ow with⟨e,_⟩|⟨i',i1,_,i3,_⟩
   ·rw[e] at hi;cases hi
   ·rw[i3] at hi;cases hi;exact i1
  have d3:=dY.apart a4 (fun e=>by have:=hbv _ e;omega)
  have gX1 : ∀ i,i<X.next→Y1.get i=Y.get i:=fun i hi=>a4.2 i (by omega) (fun o n c e=>by
   have:=hbv i (by rw[e];rfl)
   omega)
  have n1:=a4.1
  have gH2 : Grow H2 Y1:=⟨by omega,fun i hi=>(gX1 i (by omega)).trans (gY.2 i hi)⟩
  have qs1 : SS (Y1.set H2.next (.cells ⟨mc (.slice p2 n2 c2) (.slice pw nw' cw) (.slice pu nu cu) M.N⟩ 34 true)) (.slice pw nw' cw) M.S:=⟨qs.s.loc (by simp only[Heap.next_set];omega) (fun i hi=>by
   have:=hloc i (blkN_blk hi)
   rw[Heap.get_set,if_neg (by omega)]
   exact gX1 i (by omega))⟩
  refine zS ?_
  have zf:=And.intro bY.2<|And.intro dY.2<|And.intro @h1<|And.intro @l0<|And.intro @l1<|And.intro d3.2<|@a1
  refine V.dz ?_ ?_ rfl ?_
  ·exact zM
  ·simp only[dcAll,dcOk,wantD,List.cons_append,List.nil_append,true_and,and_true]
   have zf:=And.intro bY.2<|And.intro dY.2<|d3.2
   exact zR
  refine zS ?_
  refine V.l0 ?_
  refine V.nil (Or.inl ⟨rfl,M.J.length-(k+1),by omega,?_⟩)
  refine⟨k+1,_,hlt',rfl,rfl,gH2.set (Nat.le_refl _) _,qs1,⟨_,_,_,rfl⟩,by simp only[Heap.next_set];omega,?_,Bx.put d3.1 _ _,zF,zK⟩
  rw[tk1 hlt',List.map_append,← hy]
  rcases a2 with⟨h,h'⟩|⟨i',i1,i2,i3,i4⟩
  ·exact .inl ⟨h,h'⟩
  ·have:=a5 i' (by rw[i3];rfl)
   exact .inr ⟨i',this,i2,i3,by rw[cells_set_ne _ _ (by omega)];exact i4⟩
 ·obtain rfl : k=M.J.length:=by omega
  rw[List.take_length] at ow
  have hmc:=mc_ok (N:=M.N) (o:=.slice p2 n2 c2) (s:=.slice pw nw' cw) (j:=.slice pv nv cv) ⟨_,_,_,rfl⟩ ⟨_,_,_,rfl⟩ ⟨_,_,_,rfl⟩
  refine V.exit ?_
  refine zX ?_
  refine V.nil (Or.inr ⟨by simp,?_⟩)
  refine zX ?_
  refine zS ?_
  have rY:=r2.grow gY
  have n2':=r2.1
  have zf:=And.intro dY.2<|rY.2
  refine V.lz ?_
  refine zS ?_
  refine V.ret (V.rets rfl (Lv.retF (by simp +contextual (disch:=first|omega|simp only[nx];omega) only[D1,cells_alloc_at,cells_alloc_ne,cells_set_at,cells_set_ne,yres,yres1,yresL,qA,qB,qC,D5,hF,hA,↓reduceIte,qD,qE];rfl) ?_))
  refine⟨?_,_,_,_,rfl,?_,?_,?_⟩
  ·exact (g12.trans gY).set (by omega) _
  ·exact⟨(qo.grow gY).s.loc (Nat.le_refl _) (fun i hi=>by
    have:=o2.from i hi
    rw[Heap.get_set,if_neg (by omega)])⟩
  ·exact⟨qs.s.loc (Nat.le_refl _) (fun i hi=>by
    have:=hloc i (blkN_blk hi)
    rw[Heap.get_set,if_neg (by omega)])⟩
  ·have q : RS Y (.slice pv nv cv) M.J:=⟨ow.sw q2_w⟩
   exact⟨q.s.loc (Nat.le_refl _) (fun i hi=>by
    have hi:=blkN_blk hi
    rcases ow with⟨e,_⟩|⟨i',i1,_,i3,_⟩
    ·rw[e] at hi;cases hi
    ·rw[i3] at hi
     have hh : some i'=some i:=hi
     have:=Option.some.inj hh
     rw[Heap.get_set,if_neg (by omega)])⟩
end Go.Xe.TBX
