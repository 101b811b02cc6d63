/- What the functions of the layer border come to: numbers are carried, as the reference has it. Conditions: none. -/
import Derived.Test.YtgcdbdcnlhonfaaTCH
-- MOD TB
namespace Go.Xe.TBX
open Go Go.Xe Go.Proofs
open Nat renaming reduceLeDiff → qA, reduceSub → qB, reduceAdd → qC, reduceEqDiff → qD, reduceLT → qE
open Int renaming reduceNegSucc → qF, reduceEq → qG
open Go.Xe.V renaming seq → sA, block → sB, scope → sC, skip → sD, close → sE
open Go.Xe renaming pth → P
open Go.Xe.Rnd
open Go.Xe.Sea (adl adl_1 adl_at mem_adl pix pix_at pix_adl adl_len)
set_option maxRecDepth 100000
set_option maxHeartbeats 3200000
set_option linter.unusedSimpArgs false
noncomputable def d25 : FCode:=(.seq (.run (.go (.box 26 (tm 0)) (P 1)::
.go (.move (.con (.slice none 0 0))) (P 2)::
[])) (.seq (.run (.go (.move (.con (.slice none 0 0))) (P 3)::
[])) (.seq (.seq (.run (.go (.move (.con (.int .i64 (.ofNat 0)))) (P 4)::
[])) (.block 0 (.loop (.seq (.seq (.run (.go (.move (tm 4)) (P 5)::
.go (.fieldAddr 2 (tm 1)) (P 6)::
.go (.load1 (tm 6)) (P 7)::
.go (.len 0 (tm 7)) (P 8)::
.go (.bin .lss 3 (tm 5) (tm 8)) (P 9)::
[])) (.cond (tm 9) .skip (.exit 0))) (.seq (.block 1 (.run (.go (.move (tm 3)) (P 12)::
.go (.fieldAddr 2 (tm 1)) (P 13)::
.go (.load1 (tm 13)) (P 14)::
.go (.move (tm 4)) (P 15)::
.go (.indexAddr none 5 (tm 14) (tm 15)) (P 16)::
.go (.fieldAddr 1 (tm 16)) (P 17)::
.go (.load1 (tm 17)) (P 18)::
.go (.buildSlice 3 1 [(.int .i64 (.ofNat 0))] [(0,1,(tm 18))]) (P 19)::
.go (.append 3 1 8 (tm 12) (tm 19)) (P 20)::
.go (.move (tm 20)) (P 3)::
[]))) (.run (.go (.move (tm 4)) (P 10)::
.go (.bin .add 3 (tm 10) (.con (.int .i64 (.ofNat 1)))) (P 11)::
.go (.move (tm 11)) (P 4)::
[]))))))) (.seq (.run (.go (.move (tm 3)) (P 21)::
.go (.move (tm 21)) (P 2)::
[])) .ret))))
theorem de25 : @compF Try.prog (Gl.none Try.prog) Try.f25 1=.mk d25 (mkTT 22) [(P 0)] [.tmp (P 2)]:=by kernel_rfl
theorem dg25 : Try.prog.funcs[25]?=some Try.f25:=Try.func25
theorem do25 : okF Try.prog Try.f25=true:=by kernel_rfl
noncomputable def d24 : FCode:=(.seq (.run (.go (.box 26 (tm 0)) (P 3)::
.go (.move (.con (.slice none 0 0))) (P 6)::
[])) (.seq (.run (.go (.fieldAddr 1 (tm 3)) (P 9)::
.go (.load1 (tm 9)) (P 10)::
.go (.makeSlice 3 1 8 [(.int .i64 (.ofNat 0))] (tm 10) (tm 10)) (P 11)::
.go (.move (tm 11)) (P 7)::
[])) (.seq (.seq (.run (.go (.move (.con (.int .i64 (.ofNat 0)))) (P 8)::
[])) (.block 0 (.loop (.seq (.seq (.run (.go (.move (tm 8)) (P 12)::
.go (.move (tm 2)) (P 13)::
.go (.len 0 (tm 13)) (P 14)::
.go (.bin .lss 3 (tm 12) (tm 14)) (P 15)::
[])) (.cond (tm 15) .skip (.exit 0))) (.seq (.block 1 (.draw 14 (.go (.move (tm 7)) (P 18)::
.go (.move (tm 1)) (P 19)::
.go (.move (tm 8)) (P 20)::
.go (.indexAddr none 1 (tm 19) (tm 20)) (P 21)::
.go (.load1 (tm 21)) (P 22)::
.go (.indexAddr none 1 (tm 18) (tm 22)) (P 23)::
.go (.load1 (tm 23)) (P 24)::
.go (.move (tm 2)) (P 25)::
.go (.move (tm 8)) (P 26)::
.go (.indexAddr none 1 (tm 25) (tm 26)) (P 27)::
.go (.load1 (tm 27)) (P 28)::
.go (.bin .add 3 (tm 24) (tm 28)) (P 29)::
.go (.indexAddr none 1 (tm 18) (tm 22)) (P 30)::
.un (.store 1 (tm 30) (tm 29))::
[]) [.ok,.ok,.ok,.ok,.ok,.ok,.ok,.ok,.ok,.ok,.ok,.ok,.ok,.ok])) (.run (.go (.move (tm 8)) (P 16)::
.go (.bin .add 3 (tm 16) (.con (.int .i64 (.ofNat 1)))) (P 17)::
.go (.move (tm 17)) (P 8)::
[]))))))) (.seq (.run (.go (.move (tm 7)) (P 31)::
.go (.move (tm 31)) (P 6)::
[])) .ret))))
theorem de24 : @compF Try.prog (Gl.none Try.prog) Try.f24 3=.mk d24 (mkTT 32) [(P 0),(P 1),(P 2)] [.tmp (P 6)]:=by kernel_rfl
theorem dg24 : Try.prog.funcs[24]?=some Try.f24:=Try.func24
theorem do24 : okF Try.prog Try.f24=true:=by kernel_rfl
noncomputable def d22 : FCode:=(.seq (.run (.go (.box 26 (tm 0)) (P 1)::
.go (.move (.con (.slice none 0 0))) (P 2)::
[])) (.seq (.run (.go (.fieldAddr 2 (tm 1)) (P 10)::
.go (.load1 (tm 10)) (P 11)::
.go (.len 0 (tm 11)) (P 12)::
.go (.makeSlice 3 1 8 [(.int .i64 (.ofNat 0))] (tm 12) (tm 12)) (P 13)::
.go (.move (tm 13)) (P 3)::
[])) (.seq (.seq (.run (.go (.move (.con (.int .i64 (.ofNat 0)))) (P 4)::
[])) (.block 0 (.loop (.seq (.seq (.run (.go (.move (tm 4)) (P 14)::
.go (.fieldAddr 0 (tm 1)) (P 15)::
.go (.load1 (tm 15)) (P 16)::
.go (.len 0 (tm 16)) (P 17)::
.go (.bin .lss 3 (tm 14) (tm 17)) (P 18)::
[])) (.cond (tm 18) .skip (.exit 0))) (.seq (.block 1 (.seq (.run (.go (.move (.con (.slice none 0 0))) (P 5)::
.go (.move (.con (.slice none 0 0))) (P 6)::
[])) (.seq (.seq (.run (.go (.move (.con (.int .i64 (.ofNat 0)))) (P 7)::
[])) (.block 2 (.loop (.seq (.seq (.run (.go (.move (tm 7)) (P 21)::
.go (.fieldAddr 2 (tm 1)) (P 22)::
.go (.load1 (tm 22)) (P 23)::
.go (.len 0 (tm 23)) (P 24)::
.go (.bin .lss 3 (tm 21) (tm 24)) (P 25)::
[])) (.cond (tm 25) .skip (.exit 2))) (.seq (.block 3 (.seq (.run (.go (.fieldAddr 2 (tm 1)) (P 28)::
.go (.load1 (tm 28)) (P 29)::
.go (.move (tm 7)) (P 30)::
.go (.indexAddr none 5 (tm 29) (tm 30)) (P 31)::
.go (.fieldAddr 0 (tm 31)) (P 32)::
.go (.load1 (tm 32)) (P 33)::
.go (.move (tm 4)) (P 34)::
.go (.bin .eql 3 (tm 33) (tm 34)) (P 35)::
[])) (.cond (tm 35) (.run (.go (.move (tm 5)) (P 36)::
.go (.fieldAddr 2 (tm 1)) (P 37)::
.go (.load1 (tm 37)) (P 38)::
.go (.move (tm 7)) (P 39)::
.go (.indexAddr none 5 (tm 38) (tm 39)) (P 40)::
.go (.fieldAddr 2 (tm 40)) (P 41)::
.go (.load1 (tm 41)) (P 42)::
.go (.buildSlice 3 1 [(.int .i64 (.ofNat 0))] [(0,1,(tm 42))]) (P 43)::
.go (.append 3 1 8 (tm 36) (tm 43)) (P 44)::
.go (.move (tm 6)) (P 45)::
.go (.move (tm 7)) (P 46)::
.go (.buildSlice 3 1 [(.int .i64 (.ofNat 0))] [(0,1,(tm 46))]) (P 47)::
.go (.append 3 1 8 (tm 45) (tm 47)) (P 48)::
.go (.move (tm 44)) (P 5)::
.go (.move (tm 48)) (P 6)::
[])) .skip))) (.run (.go (.move (tm 7)) (P 26)::
.go (.bin .add 3 (tm 26) (.con (.int .i64 (.ofNat 1)))) (P 27)::
.go (.move (tm 27)) (P 7)::
[]))))))) (.seq (.run (.go (.move (tm 5)) (P 49)::
.go (.fieldAddr 0 (tm 1)) (P 50)::
.go (.load1 (tm 50)) (P 51)::
.go (.move (tm 4)) (P 52)::
.go (.indexAddr none 1 (tm 51) (tm 52)) (P 53)::
.go (.load1 (tm 53)) (P 54)::
.go (.call (.con (.func (.func 60) ⟨[]⟩ ⟨[]⟩)) [(tm 49),(tm 54)]) (P 55)::
.go (.move (tm 55)) (P 8)::
[])) (.seq (.run (.go (.move (.con (.int .i64 (.ofNat 0)))) (P 9)::
[])) (.block 4 (.loop (.seq (.seq (.run (.go (.move (tm 9)) (P 56)::
.go (.move (tm 6)) (P 57)::
.go (.len 0 (tm 57)) (P 58)::
.go (.bin .lss 3 (tm 56) (tm 58)) (P 59)::
[])) (.cond (tm 59) .skip (.exit 4))) (.seq (.block 5 (.draw 11 (.go (.move (tm 3)) (P 62)::
.go (.move (tm 6)) (P 63)::
.go (.move (tm 9)) (P 64)::
.go (.indexAddr none 1 (tm 63) (tm 64)) (P 65)::
.go (.load1 (tm 65)) (P 66)::
.go (.move (tm 8)) (P 67)::
.go (.move (tm 9)) (P 68)::
.go (.indexAddr none 1 (tm 67) (tm 68)) (P 69)::
.go (.load1 (tm 69)) (P 70)::
.go (.indexAddr none 1 (tm 62) (tm 66)) (P 71)::
.un (.store 1 (tm 71) (tm 70))::
[]) [.ok,.ok,.ok,.ok,.ok,.ok,.ok,.ok,.ok,.ok,.ok])) (.run (.go (.move (tm 9)) (P 60)::
.go (.bin .add 3 (tm 60) (.con (.int .i64 (.ofNat 1)))) (P 61)::
.go (.move (tm 61)) (P 9)::
[]))))))))))) (.run (.go (.move (tm 4)) (P 19)::
.go (.bin .add 3 (tm 19) (.con (.int .i64 (.ofNat 1)))) (P 20)::
.go (.move (tm 20)) (P 4)::
[]))))))) (.seq (.run (.go (.move (tm 3)) (P 72)::
.go (.move (tm 72)) (P 2)::
[])) .ret))))
theorem de22 : @compF Try.prog (Gl.none Try.prog) Try.f22 1=.mk d22 (mkTT 73) [(P 0)] [.tmp (P 2)]:=by kernel_rfl
theorem dg22 : Try.prog.funcs[22]?=some Try.f22:=Try.func22
theorem do22 : okF Try.prog Try.f22=true:=by kernel_rfl
theorem fl_1 (n : Nat) (f : Nat→Int) : fl (n+1) f=fl n f++[f n]:=by unfold fl;rw[List.range_succ,List.map_append];rfl
theorem f25_ok {H : Heap} {o s j : Value} {M : BM} (h : MV H o s j M) (hS : M.S.length≤20) : F Try.prog 25 ⟨[.agg ⟨mc o s j M.N⟩]⟩ H (fun w X=>Grow H X∧LS X w (fl M.S.length (newF M))):=by
 have hl:=h.s.len
 obtain⟨po,no,co,rfl⟩:=h.o.s.isS
 obtain⟨ps,ns,cs,rfl⟩:=h.s.isS
 obtain⟨pj,nj,cj,rfl⟩:=h.j.isS
 refine F.entryL rfl dg25 do25 de25 rfl (by kernel_rfl) ?_
 simp only[sets]
 refine V.re [(0,.agg ⟨mc (.slice po no co) (.slice ps ns cs) (.slice pj nj cj) M.N⟩)] (N:=22) zE zY ?_
 intro t hF hA
 simp only[Kn,and_true] at hA
 refine zS ?_
 refine V.l0 ?_
 refine V.heap (fun X=>Grow H X∧Bx X H.next (mc (.slice po no co) (.slice ps ns cs) (.slice pj nj cj) M.N) 26) ⟨?_,?_⟩ ?_
 ·exact zW
 ·exact zB
 rintro H1 ⟨g1,b1⟩
 refine zS ?_
 refine V.l0 ?_
 refine zS ?_
 refine V.l0 ?_
 refine zS ?_
 refine V.loop (fun z t mm X=>∃ (k : Nat) (w : Value),k≤M.S.length∧z=M.S.length-k∧mm=[]∧Grow H1 X∧isS w∧Ow H1 X 3 w (Li (fl k (newF M)))∧Full 22 t∧Kn [(1,PT H.next),(3,w),(4,I k)] t) M.S.length ?_ ?_
 ·exact⟨0,.slice none 0 0,by omega,by omega,rfl,.refl _,⟨_,_,_,rfl⟩,.nil,zF,zK⟩
 clear hF hA
 rintro z t mm X ⟨k,w,hk,rfl,rfl,gX,hw,ow,hF,hA⟩
 obtain⟨pw,nw',cw,rfl⟩:=hw
 simp only[Kn,and_true] at hA
 have bX:=b1.grow gX
 refine zS ?_
 have zf:=And.intro bX.2<|@hl
 refine V.lz ?_
 refine zS ?_
 refine V.condP zP (fun hlt=>?_) (fun hlt=>?_)
 ·have hlt' : k<M.S.length:=by omega
  obtain⟨si,so',h1,h2⟩:=h.s.at hlt'
  have h3:=(h2 X (g1.trans gX)).2.2.1
  rw[← newF_at hlt'] at h3
  obtain⟨u,Z,a1,a2,a3,a4,a5,_,a7,_⟩:=ow.push (bytes:=8) (r:=[I (newF M k)]) gX rfl (by simp) (by rw[Li_fl_len];simp;omega) (by rw[Li_fl_len];simp;omega)
  replace a1 : yappend 3 1 8 (X.alloc (.cells ⟨[I (newF M k)]⟩ 3 true)) (.slice pw nw' cw) (.slice (some ⟨X.next,0,none⟩) 1 1)=some (u,Z):=a1
  obtain⟨pu,nu,cu,rfl⟩:=a2.slice
  refine zS ?_
  have zf:=And.intro bX.2<|And.intro @h1<|And.intro @h3<|@a1
  refine V.lz ?_
  refine zS ?_
  refine V.l0 ?_
  refine V.nil (Or.inl ⟨rfl,M.S.length-(k+1),by omega,?_⟩)
  refine⟨k+1,_,hlt',rfl,rfl,a3,⟨_,_,_,rfl⟩,?_,zF,zK⟩
  have e : Li (fl (k+1) (newF M))=Li (fl k (newF M))++[I (newF M k)]:=by rw[fl_1];simp[Li]
  rw[e]
  exact a2
 ·obtain rfl : k=M.S.length:=by omega
  refine V.exit ?_
  refine zX ?_
  refine V.nil (Or.inr ⟨by simp,?_⟩)
  refine zX ?_
  refine zS ?_
  refine V.l0 ?_
  refine zS ?_
  refine V.ret (V.rets rfl (Lv.retF (by simp +contextual (disch:=first|omega|simp only[nx];omega) only[D1,cells_alloc_at,cells_alloc_ne,cells_set_at,cells_set_ne,yres,yres1,yresL,qA,qB,qC,D5,hF,hA,↓reduceIte,qD,qE];rfl) ?_))
  exact⟨g1.trans gX,ow_ls ow⟩
theorem f24_ok {H : Heap} {o s j x y : Value} {M : BM} {Nn : Nat} {f : Nat→Int} (G : VM M) (hN : M.N=Nn) (hx : LS H x (fl M.S.length (newF M))) (hy : LS H y (fl M.S.length f)) (hf : ∀ i,i<M.S.length→0≤f i∧f i≤10000) (ho : isS o) (hs : isS s) (hj : isS j) : F Try.prog 24 ⟨[.agg ⟨mc o s j Nn⟩,x,y]⟩ H (fun w X=>Grow H X∧LS X w (fl Nn fun k : Nat=>sF M.S.length (newF M) f (k : Int))):=by
 have hly:=hy.len
 rw[fl_len] at hly
 obtain⟨po,no,co,rfl⟩:=ho
 obtain⟨ps,ns,cs,rfl⟩:=hs
 obtain⟨pj,nj,cj,rfl⟩:=hj
 obtain⟨px,nx',cx,rfl⟩:=hx.s.isS
 obtain⟨py,ny',cy,rfl⟩:=hy.s.isS
 have hS8:=G.s8
 have hN4:=G.n
 refine F.entryL rfl dg24 do24 de24 rfl (by kernel_rfl) ?_
 simp only[sets]
 refine V.re [(0,.agg ⟨mc (.slice po no co) (.slice ps ns cs) (.slice pj nj cj) Nn⟩),(1,.slice px nx' cx),(2,.slice py ny' cy)] (N:=32) zE zY ?_
 intro t hF hA
 simp only[Kn,and_true] at hA
 refine zS ?_
 refine V.l0 ?_
 refine V.heap (fun X=>Grow H X∧Bx X H.next (mc (.slice po no co) (.slice ps ns cs) (.slice pj nj cj) Nn) 26) ⟨?_,?_⟩ ?_
 ·exact zW
 ·exact zB
 rintro H1 ⟨g1,b1⟩
 have n1:=b1.1
 have mk1:=mk_row H1 Nn (by omega)
 refine zS ?_
 have zf:=And.intro b1.2<|@mk1
 refine V.lz ?_
 refine V.heap (fun X=>Grow H X∧Bx X H1.next (Li (fl Nn fun k : Nat=>sF 0 (newF M) f (k : Int))) 3) ⟨?_,?_⟩ ?_
 ·exact zW
 ·have e : (fun k : Nat=>sF 0 (newF M) f (k : Int))=fun _=>0:=by funext k;rfl
  rw[e]
  exact Bx.new _ _ _
 rintro H2 ⟨g2,c2⟩
 refine zS ?_
 refine V.l0 ?_
 refine zS ?_
 refine V.loop (fun z t mm X=>∃ (k : Nat),k≤M.S.length∧z=M.S.length-k∧mm=[]∧Grow H X∧Bx X H1.next (Li (fl Nn fun q : Nat=>sF k (newF M) f (q : Int))) 3∧Full 32 t∧Kn [(1,.slice px nx' cx),(2,.slice py ny' cy),(7,.slice (some ⟨H1.next,0,none⟩) Nn Nn),(8,I k)] t) M.S.length ?_ ?_
 ·exact⟨0,by omega,by omega,rfl,g2,c2,zF,zK⟩
 clear hF hA g2 c2
 rintro z t mm X ⟨k,hk,rfl,rfl,gX,cX,hF,hA⟩
 simp only[Kn,and_true] at hA
 refine zS ?_
 have zf:=@hly
 refine V.lz ?_
 refine zS ?_
 refine V.condP zP (fun hlt=>?_) (fun hlt=>?_)
 ·have hlt' : k<M.S.length:=by omega
  obtain⟨p1,p2,p3⟩:=hx.at (k:=k) (by rw[fl_len];exact hlt')
  have p4:=p3 X gX
  rw[fl_at] at p4
  obtain⟨q1,q2,q3⟩:=hy.at (k:=k) (by rw[fl_len];exact hlt')
  have q4:=q3 X gX
  rw[fl_at] at q4
  have hnw:=G.new hlt'
  obtain⟨e,he⟩ : ∃ e : Nat,newF M k=e:=⟨(newF M k).toNat,by omega⟩
  have heN : e<Nn:=by omega
  rw[he] at p4
  have hfk:=hf k hlt'
  have sb:=sF_bd (n:=k) (g:=newF M) (f:=f) (k:=(e : Int)) (c:=10000) (by omega) (fun i hi=>hf i (by omega))
  obtain⟨sf,hsf⟩ : ∃ sf : Nat→Int,sf=fun q : Nat=>sF k (newF M) f (q : Int):=⟨_,rfl⟩
  have sfe : sf e=sF k (newF M) f (e : Int):=by rw[hsf]
  rw[← hsf] at cX
  rw[← sfe] at sb
  have i2:=own_idx (y:=H1.next) (n:=Nn) (c:=Nn) heN
  have le : e<(Li (fl Nn sf)).length:=by rw[Li_fl_len];exact heN
  have ge:=fl_get (g:=sf) heN
  refine zS ?_
  have zf:=And.intro @p2<|And.intro @p4<|And.intro @q2<|And.intro @q4<|And.intro @i2<|And.intro cX.2<|And.intro @le<|And.intro @ge<|@fl_set
  refine V.dz ?_ ?_ rfl ?_
  ·exact zM
  ·simp only[dcAll,dcOk,wantD,List.cons_append,List.nil_append,true_and,and_true]
  refine zS ?_
  refine V.l0 ?_
  refine V.nil (Or.inl ⟨rfl,M.S.length-(k+1),by omega,?_⟩)
  refine⟨k+1,hlt',rfl,rfl,gX.set (by omega) _,?_,zF,zK⟩
  have ee : (fun q : Nat=>sF (k+1) (newF M) f (q : Int))=fun q : Nat=>if q=e then sf e+f k else sf q:=by
   funext q
   rw[sF_1,he,sfe,hsf]
   dsimp only
   by_cases c : q=e
   ·subst c;rw[if_pos rfl,if_pos rfl]
   ·rw[if_neg (fun k=>c (by omega)),if_neg c];omega
  rw[ee]
  exact Bx.put cX.1 _ _
 ·obtain rfl : k=M.S.length:=by omega
  refine V.exit ?_
  refine zX ?_
  refine V.nil (Or.inr ⟨by simp,?_⟩)
  refine zX ?_
  refine zS ?_
  refine V.l0 ?_
  refine zS ?_
  refine V.ret (V.rets rfl (Lv.retF (by simp +contextual (disch:=first|omega|simp only[nx];omega) only[D1,cells_alloc_at,cells_alloc_ne,cells_set_at,cells_set_ne,yres,yres1,yresL,qA,qB,qC,D5,hF,hA,↓reduceIte,qD,qE];rfl) ?_))
  exact⟨gX,ls_box cX (fl_len _ _)⟩
def ixd (v : Nat→Int) (k : Nat) : List Int:=(adl v k).map fun p : Nat=>(p : Int)
def wsd (M : BM) (v : Nat→Int) (k : Nat) : List Int:=(adl v k).map (wF M)
theorem ixd_1 {v : Nat→Int} {k : Nat} : ixd v (k+1)=if 0<v k then ixd v k++[(k : Int)] else ixd v k:=by
 unfold ixd
 rw[adl_1]
 split
 ·simp
 ·rfl
theorem wsd_1 {M : BM} {v : Nat→Int} {k : Nat} : wsd M v (k+1)=if 0<v k then wsd M v k++[wF M k] else wsd M v k:=by
 unfold wsd
 rw[adl_1]
 split
 ·simp
 ·rfl
theorem f22_ok {H : Heap} {o s j : Value} {M : BM} (h : MV H o s j M) (G : VM M) : F Try.prog 22 ⟨[.agg ⟨mc o s j M.N⟩]⟩ H (fun w X=>Grow H X∧LS X w (fl M.S.length (shr M))):=by
 have hl:=h.s.len
 have hlo:=h.o.len
 have hS8:=G.s8
 have hO4:=G.o4
 obtain⟨po,no,co,rfl⟩:=h.o.s.isS
 obtain⟨ps,ns,cs,rfl⟩:=h.s.isS
 obtain⟨pj,nj,cj,rfl⟩:=h.j.isS
 refine F.entryL rfl dg22 do22 de22 rfl (by kernel_rfl) ?_
 simp only[sets]
 refine V.re [(0,.agg ⟨mc (.slice po no co) (.slice ps ns cs) (.slice pj nj cj) M.N⟩)] (N:=73) zE zY ?_
 intro t hF hA
 simp only[Kn,and_true] at hA
 refine zS ?_
 refine V.l0 ?_
 refine V.heap (fun X=>Grow H X∧Bx X H.next (mc (.slice po no co) (.slice ps ns cs) (.slice pj nj cj) M.N) 26) ⟨?_,?_⟩ ?_
 ·exact zW
 ·exact zB
 rintro H1 ⟨g1,b1⟩
 have n1:=b1.1
 have mk1:=mk_row H1 M.S.length (by omega)
 refine zS ?_
 have zf:=And.intro b1.2<|And.intro @hl<|@mk1
 refine V.lz ?_
 refine V.heap (fun X=>Grow H X∧Bx X H.next (mc (.slice po no co) (.slice ps ns cs) (.slice pj nj cj) M.N) 26∧Bx X H1.next (Li (fl M.S.length (ownS M 0 0))) 3) ⟨?_,?_,?_⟩ ?_
 ·exact zW
 ·exact b1.alloc _
 ·rw[ownS_0 G];exact Bx.new _ _ _
 rintro H2 ⟨g2,b2,c2⟩
 refine zS ?_
 refine V.l0 ?_
 refine zS ?_
 refine V.loop (fun z t mm X=>∃ (d : Nat),d≤M.O.length∧z=M.O.length-d∧mm=[]∧Grow H X∧Bx X H.next (mc (.slice po no co) (.slice ps ns cs) (.slice pj nj cj) M.N) 26∧Bx X H1.next (Li (fl M.S.length (ownS M d 0))) 3∧Full 73 t∧Kn [(1,PT H.next),(3,.slice (some ⟨H1.next,0,none⟩) M.S.length M.S.length),(4,I d)] t) M.O.length ?_ ?_
 ·exact⟨0,by omega,by omega,rfl,g2,b2,c2,zF,zK⟩
 clear hF hA g2 b2 c2
 rintro z t mm X ⟨d,hd,rfl,rfl,gX,bX,cX,hF,hA⟩
 simp only[Kn,and_true] at hA
 refine zS ?_
 have zf:=And.intro bX.2<|@hlo
 refine V.lz ?_
 refine zS ?_
 refine V.condP zP (fun hlt=>?_) (fun hlt=>?_)
 ·have hlt' : d<M.O.length:=by omega
  obtain⟨lp,lp1,lp2⟩:=h.o.at hlt'
  have nX:=cX.1
  have ot:=G.ot hlt'
  have hdE:=G.dshE hlt'
  have hdl:=G.dsh_len hlt'
  refine zS ?_
  refine V.l0 ?_
  refine zS ?_
  refine V.l0 ?_
  refine zS ?_
  refine V.loop (fun z t mm Y=>∃ (k : Nat) (col : Nat→Nat) (vp vg : Value),k≤M.S.length∧z=M.S.length-k∧mm=[]∧Grow X Y∧isS vp∧isS vg∧OL X.next col 0 Y vp (wsd M (vd M d) k)∧OL X.next col 1 Y vg (ixd (vd M d) k)∧Full 73 t∧Kn [(1,PT H.next),(3,.slice (some ⟨H1.next,0,none⟩) M.S.length M.S.length),(4,I d),(5,vp),(6,vg),(7,I k)] t) M.S.length ?_ ?_
  ·exact⟨0,fun _=>0,.slice none 0 0,.slice none 0 0,by omega,by omega,rfl,.refl _,⟨_,_,_,rfl⟩,⟨_,_,_,rfl⟩,.nil,.nil,zF,zK⟩
  clear hF hA
  rintro z t mm Y ⟨k,col,vp,vg,hk,rfl,rfl,gY,hvp,hvg,op,og,hF,hA⟩
  obtain⟨pp,np,cp,rfl⟩:=hvp
  obtain⟨pg,ng,cg,rfl⟩:=hvg
  simp only[Kn,and_true] at hA
  have bY:=bX.grow gY
  refine zS ?_
  have zf:=And.intro bY.2<|@hl
  refine V.lz ?_
  refine zS ?_
  refine V.condP zP (fun hlk=>?_) (fun hlk=>?_)
  ·have hk' : k<M.S.length:=by omega
   obtain⟨si,so',h1,h2⟩:=h.s.at hk'
   have h3:=(h2 Y (gX.trans gY)).2.1
   have h4:=(h2 Y (gX.trans gY)).2.2.2.1
   rw[← oldF_at hk'] at h3
   rw[← wF_at hk'] at h4
   have hvk:=vd_pos (M:=M) (d:=d) (i:=k)
   refine zS ?_
   have zf:=And.intro bY.2<|And.intro @h1<|@h3
   refine V.lz ?_
   refine zS ?_
   refine V.condP zP (fun he=>?_) (fun he=>?_)
   ·have hv : 0<vd M d k:=hvk.2 ⟨hk',he⟩
    have hn1:=gY.1
    have hal:=adl_len (v:=vd M d) k
    have lp : (wsd M (vd M d) k).length≤1048576:=by unfold wsd;rw[List.length_map];omega
    have lg : (ixd (vd M d) k).length≤1048576:=by unfold ixd;rw[List.length_map];omega
    obtain⟨u,X1,a1,col1,a2,a3,a4,a5⟩:=OL.push op hn1 lp (wF M k)
    have og1:=Oc.st og a3 (by decide)
    have hn2 : X.next≤X1.next:=by omega
    obtain⟨u',X2,c1,col2,c2,c3,c4,c5⟩:=OL.push (l:=ixd (vd M d) k) og1 hn2 lg (k : Int)
    have op2:=Oc.st a2 c3 (by decide)
    have gX1:=a4.grow gY (Nat.le_refl _)
    have gX2:=c4.grow gX1 (Nat.le_refl _)
    obtain⟨pu,nu,cu,rfl⟩:=Oc.slice op2
    obtain⟨pu',nu',cu',rfl⟩:=Oc.slice c2
    refine zS ?_
    have zf:=And.intro bY.2<|And.intro @h1<|And.intro @h4<|And.intro @a1<|@c1
    refine V.lz ?_
    refine zS ?_
    refine V.l0 ?_
    refine V.nil (Or.inl ⟨rfl,M.S.length-(k+1),by omega,?_⟩)
    refine⟨k+1,col2,_,_,hk',rfl,rfl,gX2,⟨_,_,_,rfl⟩,⟨_,_,_,rfl⟩,?_,?_,zF,zK⟩
    ·rw[wsd_1,if_pos hv];exact op2
    ·rw[ixd_1,if_pos hv];exact c2
   ·have hv : ¬ 0<vd M d k:=fun hh=>he (hvk.1 hh).2
    refine zS ?_
    refine V.l0 ?_
    refine V.nil (Or.inl ⟨rfl,M.S.length-(k+1),by omega,?_⟩)
    refine⟨k+1,col,_,_,hk',rfl,rfl,gY,⟨_,_,_,rfl⟩,⟨_,_,_,rfl⟩,?_,?_,zF,zK⟩
    ·rw[wsd_1,if_neg hv];exact op
    ·rw[ixd_1,if_neg hv];exact og
  obtain rfl : k=M.S.length:=by omega
  have ew : wsd M (vd M d) M.S.length=wsa M d:=by unfold wsd wsa;rw[adl_8 hS8]
  have ei : ixd (vd M d) M.S.length=ixl (vd M d):=by unfold ixd ixl;rw[adl_8 hS8]
  rw[ew] at op
  rw[ei] at og
  have oi : Ow X Y 3 (.slice pg ng cg) (Li (ixl (vd M d))):=OL.ow og (Nat.le_refl _)
  have owp:=OL.ls op
  have hwl:=wsa_len (M:=M) (d:=d)
  have hwl8:=VM.wl (M:=M) (d:=d)
  have l4:=(ow_ls oi).len
  rw[ixl_len] at l4
  have lp3:=lp2 Y (gX.trans gY)
  refine V.exit ?_
  refine zX ?_
  refine V.nil (Or.inr ⟨by simp,?_⟩)
  refine zX ?_
  refine zS ?_
  refine V.run ?_
  have zf:=And.intro bY.2<|And.intro @lp1<|@lp3
  refine VI.sz 6 ?_
  simp only[ds]
  refine VI.callR zA (f60_ok (tt:=M.O[d]) owp (by omega) G.wb (by have:=ot;omega) (G.sp hlt')) zA (fun w5 H5 ⟨g5,q5⟩=>?_)
  obtain⟨p5,n5,c5,rfl⟩:=q5.slice
  rw[hdE] at q5
  refine VI.l0 ?_
  have gXY:=gY.trans g5
  have gH5:=gX.trans gXY
  have b5:=bX.grow gXY
  have c5':=cX.grow gXY
  have oi5:=oi.keep g5
  have mY:=gY.1
  have m5:=g5.1
  refine zS ?_
  refine V.l0 ?_
  refine zS ?_
  refine V.loop (fun z t mm Z=>∃ (k : Nat),k≤(adl (vd M d) 8).length∧z=(adl (vd M d) 8).length-k∧mm=[]∧Grow H Z∧Ow X Z 3 (.slice pg ng cg) (Li (ixl (vd M d)))∧Ow Y Z 3 (.slice p5 n5 c5) (Li (dsh M d))∧Bx Z H.next (mc (.slice po no co) (.slice ps ns cs) (.slice pj nj cj) M.N) 26∧Bx Z H1.next (Li (fl M.S.length (ownS M d k))) 3∧Full 73 t∧Kn [(1,PT H.next),(3,.slice (some ⟨H1.next,0,none⟩) M.S.length M.S.length),(4,I d),(6,.slice pg ng cg),(8,.slice p5 n5 c5),(9,I k)] t) (adl (vd M d) 8).length ?_ ?_
  ·exact⟨0,by omega,by omega,rfl,gH5,oi5,q5,b5,c5',zF,zK⟩
  clear hF hA gH5 oi5 q5 b5 c5'
  rintro z t mm Z ⟨k,hk,rfl,rfl,gZ,qi,qs,bZ,cZ,hF,hA⟩
  simp only[Kn,and_true] at hA
  refine zS ?_
  have zf:=@l4
  refine V.lz ?_
  refine zS ?_
  refine V.condP zP (fun hlk=>?_) (fun hlk=>?_)
  ·have hk' : k<(adl (vd M d) 8).length:=by omega
   obtain⟨ip,ip1,ip2⟩:=(ow_ls qi).at (k:=k) (by rw[ixl_len];exact hk')
   have ip3:=ip2 Z (.refl _)
   rw[ixl_at] at ip3
   obtain⟨sp,sp1,sp2⟩:=(ow_ls qs).at (k:=k) (by rw[hdl];exact hk')
   have sp3:=sp2 Z (.refl _)
   have px:=pix_vd hk'
   obtain⟨os1,os2⟩:=ownS_1 hS8 hk'
   have hsx:=shr_pix hk'
   have hgd : (dsh M d).getD k 0=(dsh M d)[k]'(by rw[hdl];exact hk'):=by simp[hdl,hk']
   rw[hgd] at hsx
   rw[← hsx] at sp3
   obtain⟨p,hp⟩ : ∃ p,p=pix (vd M d) k:=⟨_,rfl⟩
   rw[← hp] at px ip3 sp3 os1 os2
   obtain⟨x,hx⟩ : ∃ x,x=shr M p:=⟨_,rfl⟩
   rw[← hx] at sp3 os1
   have i1:=own_idx (y:=H1.next) (n:=M.S.length) (c:=M.S.length) px.1
   have lp : p<(Li (fl M.S.length (ownS M d k))).length:=by rw[Li_fl_len];exact px.1
   have nZ1:=cZ.1
   refine zS ?_
   have zf:=And.intro @ip1<|And.intro @ip3<|And.intro @sp1<|And.intro @sp3<|And.intro @i1<|And.intro cZ.2<|And.intro @lp<|@fl_set
   refine V.dz ?_ ?_ rfl ?_
   ·exact zM
   ·simp only[dcAll,dcOk,wantD,List.cons_append,List.nil_append,true_and,and_true]
   refine zS ?_
   refine V.l0 ?_
   refine V.nil (Or.inl ⟨rfl,(adl (vd M d) 8).length-(k+1),by omega,?_⟩)
   refine⟨k+1,hk',rfl,rfl,gZ.set (by omega) _,?_,?_,bZ.set (by omega) _,?_,zF,zK⟩
   ·exact qi.growS (U:=(·=H1.next)) (GrowS.setAt Z H1.next _) (fun i (hi : X.next≤i)=>by omega) (Nat.le_refl _)
   ·exact qs.growS (U:=(·=H1.next)) (GrowS.setAt Z H1.next _) (fun i (hi : Y.next≤i)=>by omega) (Nat.le_refl _)
   ·rw[os1];exact Bx.put cZ.1 _ _
  ·obtain rfl : k=(adl (vd M d) 8).length:=by omega
   rw[ownS_d G] at cZ
   refine V.exit ?_
   refine zX ?_
   refine V.nil (Or.inr ⟨by simp,?_⟩)
   refine zX ?_
   refine zS ?_
   refine V.l0 ?_
   refine V.nil (Or.inl ⟨rfl,M.O.length-(d+1),by omega,?_⟩)
   exact⟨d+1,hlt',rfl,rfl,gZ,bZ,cZ,zF,zK⟩
 ·obtain rfl : d=M.O.length:=by omega
  have e1 : fl M.S.length (ownS M M.O.length 0)=fl M.S.length (shr M):=fl_cong fun i hi=>ownS_end G hi
  rw[e1] at cX
  refine V.exit ?_
  refine zX ?_
  refine V.nil (Or.inr ⟨by simp,?_⟩)
  refine zX ?_
  refine zS ?_
  refine V.l0 ?_
  refine zS ?_
  refine V.ret (V.rets rfl (Lv.retF (by simp +contextual (disch:=first|omega|simp only[nx];omega) only[D1,cells_alloc_at,cells_alloc_ne,cells_set_at,cells_set_ne,yres,yres1,yresL,qA,qB,qC,D5,hF,hA,↓reduceIte,qD,qE];rfl) ?_))
  exact⟨gX,ls_box cX (fl_len _ _)⟩
end Go.Xe.TBX
