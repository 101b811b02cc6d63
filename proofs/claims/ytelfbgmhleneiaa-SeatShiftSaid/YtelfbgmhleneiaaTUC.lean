/- What the functions of the layer seat come to: whether seats are a result. Conditions: none. -/
import Derived.Test.YtelfbgmhleneiaaTUB
-- MOD TV
namespace Go.Xe.TVX
open Go Go.Xe Go.Proofs
open Nat renaming reduceLeDiff → qA, reduceSub → qB, reduceAdd → qC, reduceEqDiff → qD, reduceLT → qE
open Int renaming reduceNegSucc → qF, reduceEq → qG
open Go.Xe.V renaming seq → sA, block → sB, scope → sC, skip → sD, close → sE
open Go.Xe renaming pth → P
open Go.Xe.Sea
set_option maxRecDepth 100000
set_option maxHeartbeats 3200000
set_option linter.unusedSimpArgs false
noncomputable def d80 : FCode:=(.seq (.run (.go (.box 83 (tm 0)) (P 2)::
.go (.box 78 (tm 1)) (P 3)::
.go (.move (.con (.bool false))) (P 4)::
[])) (.seq (.seq (.run (.go (.loadN 8 (tm 3)) (P 7)::
.go (.move (.con (.int .i64 (.ofNat 0)))) (P 8)::
[])) (.block 0 (.loop (.seq (.run (.go (.bin .lss 3 (tm 8) (.con (.int .i64 (.ofNat 8)))) (P 9)::
[])) (.seq (.cond (tm 9) .skip (.exit 0)) (.seq (.block 1 (.seq (.run (.go (.move (tm 8)) (P 10)::
.go (.index 8 1 true (tm 7) (tm 8)) (P 11)::
.go (.move (tm 10)) (P 5)::
.go (.move (tm 11)) (P 6)::
[])) (.seq (.run (.go (.move (tm 6)) (P 12)::
.go (.bin .gtr 3 (tm 12) (.con (.int .i64 (.ofNat 0)))) (P 13)::
.go (.move (tm 13)) (P 14)::
.gd (P 14) true (.move (tm 5)) (P 15)::
.gd (P 14) true (.fieldAddr 11 (tm 2)) (P 16)::
.gd (P 14) true (.indexAddr (some 8) 1 (tm 16) (tm 15)) (P 17)::
.gd (P 14) true (.load1 (tm 17)) (P 18)::
.gd (P 14) true (.bin .eql 3 (tm 18) (.con (.int .i64 (.ofNat 0)))) (P 19)::
.go (.pick (tm 14) (tm 19) (.con (.bool false))) (P 20)::
[])) (.cond (tm 20) (.seq (.run (.go (.move (.con (.bool false))) (P 4)::
[])) .ret) .skip)))) (.run (.go (.bin .add 3 (tm 8) (.con (.int .i64 (.ofNat 1)))) (P 21)::
.go (.move (tm 21)) (P 8)::
[])))))))) (.seq (.draw 6 (.go (.sliceSlow 78 (tm 3) none none) (P 22)::
.go (.call (.con (.func (.func 96) ⟨[]⟩ ⟨[]⟩)) [tm 22]) (P 23)::
.go (.loadN 22 (tm 2)) (P 24)::
.go (.call (.con (.func (.func 81) ⟨[]⟩ ⟨[]⟩)) [tm 24]) (P 25)::
.go (.bin .eql 3 (tm 23) (tm 25)) (P 26)::
.go (.move (tm 26)) (P 4)::
[]) [.ok,.ok,.rd none (.loadN 22 (tm 2)) (some (P 24)) [0],.ok,.ok,.ok]) .ret)))
theorem de80 : @compF Try.prog (Gl.none Try.prog) Try.f80 2=.mk d80 (mkTT 27) [(P 0),(P 1)] [.tmp (P 4)]:=by kernel_rfl
theorem dg80 : Try.prog.funcs[80]?=some Try.f80:=Try.func80
theorem do80 : okF Try.prog Try.f80=true:=by kernel_rfl
noncomputable def d61 : FCode:=(.seq (.run (.go (.box 83 (tm 0)) (P 2)::
.go (.box 78 (tm 1)) (P 3)::
.go (.move (.con (.bool false))) (P 4)::
.go (.move (.con (.bool false))) (P 5)::
[])) (.seq (.seq (.run (.go (.loadN 22 (tm 2)) (P 11)::
.go (.loadN 8 (tm 3)) (P 12)::
.go (.call (.con (.func (.func 80) ⟨[]⟩ ⟨[]⟩)) [(tm 11),(tm 12)]) (P 13)::
.go (.move (tm 13)) (P 6)::
[])) (.seq (.run (.go (.move (tm 6)) (P 14)::
.go (.un .not (tm 14)) (P 15)::
.go (.move (tm 15)) (P 16)::
.gd (P 16) false (.loadN 22 (tm 2)) (P 17)::
.gd (P 16) false (.call (.con (.func (.func 81) ⟨[]⟩ ⟨[]⟩)) [tm 17]) (P 18)::
.gd (P 16) false (.bin .eql 3 (tm 18) (.con (.int .i64 (.ofNat 0)))) (P 19)::
.go (.pick (tm 16) (.con (.bool true)) (tm 19)) (P 20)::
[])) (.cond (tm 20) (.seq (.run (.go (.move (tm 6)) (P 21)::
.go (.move (tm 6)) (P 22)::
.go (.move (tm 21)) (P 4)::
.go (.move (tm 22)) (P 5)::
[])) .ret) .skip))) (.seq (.run (.go (.call (.con (.func (.func 82) ⟨[]⟩ ⟨[]⟩)) [(.con (.int .i64 (.ofNat 0))),(.con (.int .i64 (.ofNat 1)))]) (P 23)::
.go (.call (.con (.func (.func 83) ⟨[]⟩ ⟨[]⟩)) [(.con (.int .i64 (.ofNat 10000)))]) (P 24)::
.go (.build [(.int .i64 (.ofNat 0)),(.int .i64 (.ofNat 0))] [(0,1,(tm 24)),(1,1,(.con (.int .i64 (.ofNat 0))))]) (P 25)::
.go (.alloc 115 [(.int .i64 (.ofNat 0)),(.int .i64 (.ofNat 0))]) (P 7)::
.go (.alloc 115 [(.int .i64 (.ofNat 0)),(.int .i64 (.ofNat 0))]) (P 8)::
.un (.store 2 (tm 7) (tm 23))::
.un (.store 2 (tm 8) (tm 25))::
[])) (.seq (.seq (.run (.go (.loadN 22 (tm 2)) (P 26)::
.go (.loadN 8 (tm 3)) (P 27)::
.go (.call (.con (.func (.func 84) ⟨[]⟩ ⟨[]⟩)) [(tm 26),(tm 27)]) (P 28)::
[])) (.block 0 (.rangeFunc (tm 28) [(P 29),(P 30)] (rfA Try.f61 0) (rfB Try.f61 0) (.seq (.run (.go (.move (tm 29)) (P 9)::
[])) (.run (.go (.alloc 115 [(.int .i64 (.ofNat 0)),(.int .i64 (.ofNat 0))]) (P 10)::
.un (.store 2 (tm 10) (tm 30))::
[]))) (.block 1 (.seq (.run (.go (.loadN 2 (tm 7)) (P 31)::
.go (.loadN 2 (tm 10)) (P 32)::
.go (.call (.con (.func (.func 85) ⟨[]⟩ ⟨[]⟩)) [(tm 31),(tm 32)]) (P 33)::
.un (.store 2 (tm 7) (tm 33))::
[])) (.seq (.run (.go (.move (tm 9)) (P 34)::
.go (.indexAddr (some 8) 1 (tm 3) (tm 34)) (P 35)::
.go (.load1 (tm 35)) (P 36)::
.go (.bin .gtr 3 (tm 36) (.con (.int .i64 (.ofNat 0)))) (P 37)::
[])) (.cond (tm 37) (.draw 12 (.go (.loadN 2 (tm 8)) (P 38)::
.go (.fieldAddr 21 (tm 2)) (P 39)::
.go (.load1 (tm 39)) (P 40)::
.go (.loadN 22 (tm 2)) (P 41)::
.go (.move (tm 9)) (P 42)::
.go (.move (tm 9)) (P 43)::
.go (.indexAddr (some 8) 1 (tm 3) (tm 43)) (P 44)::
.go (.load1 (tm 44)) (P 45)::
.go (.bin .sub 3 (tm 45) (.con (.int .i64 (.ofNat 1)))) (P 46)::
.go (.call (tm 40) [(tm 41),(tm 42),(tm 46)]) (P 47)::
.go (.call (.con (.func (.func 86) ⟨[]⟩ ⟨[]⟩)) [(tm 38),(tm 47)]) (P 48)::
.un (.store 2 (tm 8) (tm 48))::
[]) [.rd none (.loadN 2 (tm 8)) (some (P 38)) [10],.ok,.ok,.ok,.ok,.ok,.ok,.ok,.ok,.ok,.ok,.ok]) .skip))))))) (.seq (.draw 9 (.go (.loadN 2 (tm 8)) (P 49)::
.go (.loadN 2 (tm 7)) (P 50)::
.go (.call (.con (.func (.func 87) ⟨[]⟩ ⟨[]⟩)) [(tm 49),(tm 50)]) (P 51)::
.go (.un .not (tm 51)) (P 52)::
.go (.loadN 2 (tm 7)) (P 53)::
.go (.loadN 2 (tm 8)) (P 54)::
.go (.call (.con (.func (.func 87) ⟨[]⟩ ⟨[]⟩)) [(tm 53),(tm 54)]) (P 55)::
.go (.move (tm 52)) (P 4)::
.go (.move (tm 55)) (P 5)::
[]) [.ok,.ok,.ok,.ok,.rd none (.loadN 2 (tm 7)) (some (P 53)) [0],.rd none (.loadN 2 (tm 8)) (some (P 54)) [0],.ok,.ok,.ok]) .ret)))))
theorem de61 : @compF Try.prog (Gl.none Try.prog) Try.f61 2=.mk d61 (mkTT 56) [(P 0),(P 1)] [.tmp (P 4),.tmp (P 5)]:=by kernel_rfl
theorem dg61 : Try.prog.funcs[61]?=some Try.f61:=Try.func61
theorem do61 : okF Try.prog Try.f61=true:=by kernel_rfl
theorem int_vEq (n : Int) : vEq 2 (I n) (I n)=true:=by simp[vEq,vEq0]
theorem pc_vEq {m S L : Int} {c v : Nat→Int} {tot : Int} {d k : Value} (h1 : vEq 2 d d=true) (h2 : vEq 2 k k=true) : vEq 3 (.agg ⟨pc m S L c v tot d k⟩) (.agg ⟨pc m S L c v tot d k⟩)=true:=by
 simp only[vEq]
 refine all2_refl (fun x hx=>?_)
 unfold pc at hx
 rcases List.mem_append.1 hx with hx|hx
 ·simp only[List.mem_cons,List.not_mem_nil,or_false] at hx
  rcases hx with rfl|rfl|rfl
  ·simp[vEq,vEq0]
  ·exact int_vEq _
  ·exact int_vEq _
 rcases List.mem_append.1 hx with hx|hx
 ·obtain⟨i,_,rfl⟩:=List.mem_map.1 hx;exact int_vEq _
 rcases List.mem_append.1 hx with hx|hx
 ·obtain⟨i,_,rfl⟩:=List.mem_map.1 hx;exact int_vEq _
 ·simp only[List.mem_cons,List.not_mem_nil,or_false] at hx
  rcases hx with rfl|rfl|rfl
  ·exact int_vEq _
  ·exact h1
  ·exact h2
theorem dvf_eq2 (m : Int) : vEq 2 (dvf m) (dvf m)=true:=by
 unfold dvf dmp
 by_cases h4 : m=4
 ·rw[if_pos h4];rfl
 ·rw[if_neg h4]
  by_cases h3 : m=3
  ·rw[if_pos h3];rfl
  ·rw[if_neg h3]
   by_cases h2 : m=2
   ·rw[if_pos h2];rfl
   ·rw[if_neg h2]
    split<;>rfl
theorem clf_eq2 (m : Int) : vEq 2 (clf m) (clf m)=true:=by
 unfold clf
 by_cases h : m=5
 ·rw[if_pos h];rfl
 ·rw[if_neg h];rfl
def due (S : Int) (v : Nat→Int) : Int:=if sm v 8=0 then 0 else S
def gal (S : Int) (v s : Nat→Int) : Prop:=(∀ p,p<8→¬ (0<s p∧v p=0))∧sm s 8=due S v
instance (v s : Nat→Int) : Decidable (∀ p,p<8→¬ (0<s p∧v p=0)):=Nat.decidableBallLT 8 fun p _=>¬ (0<s p∧v p=0)
instance (S : Int) (v s : Nat→Int) : Decidable (gal S v s):=by unfold gal;infer_instance
theorem f80_ok {H : Heap} {m S L : Int} {c v s : Nat→Int} {d k : Value} (hd : vEq 2 d d=true) (hk : vEq 2 k k=true) (hs : ∀ p,p<8→0≤s p∧s p≤100) : Gives Try.prog 80 [.agg ⟨pc m S L c v (sm v 8) d k⟩,.agg ⟨n8 s⟩] H (.bool (decide (gal S v s))):=by
 refine F.entryL rfl dg80 do80 de80 rfl (by kernel_rfl) ?_
 simp only[sets]
 refine V.re [(0,.agg ⟨pc m S L c v (sm v 8) d k⟩),(1,.agg ⟨n8 s⟩)] (N:=27) zE zY ?_
 intro t hF hA
 simp only[Kn,and_true] at hA
 refine zS ?_
 refine V.l0 ?_
 refine V.heap (fun X=>Grow H X∧Bx X H.next (pc m S L c v (sm v 8) d k) 83∧Bx X (H.next+1) (n8 s) 78) ⟨?_,?_,?_⟩ ?_
 ·exact zW
 ·exact zB
 ·exact zB
 rintro H1 ⟨g1,b1,c1⟩
 refine zS ?_
 have zf:=And.intro c1.2<|And.intro @n8_len<|@n8_take
 refine V.lz ?_
 refine zS ?_
 refine V.loop (fun z t mm X=>∃ (p : Nat),p≤8∧z=8-p∧mm=[]∧X=H1∧(∀ i,i<p→¬ (0<s i∧v i=0))∧Full 27 t∧Kn [(2,PT H.next),(3,PT (H.next+1)),(7,.agg ⟨n8 s⟩),(8,I p)] t) 8 ?_ ?_
 ·exact⟨0,by omega,by omega,rfl,rfl,fun i hi=>by omega,zF,zK⟩
 clear hF hA
 rintro z t mm X ⟨p,hp,rfl,rfl,hX,hno,hF,hA⟩
 obtain rfl : H1=X:=hX.symm
 simp only[Kn,and_true] at hA
 refine zS ?_
 refine V.l0 ?_
 refine zS ?_
 refine V.condP zP (fun hlt=>?_) (fun hlt=>?_)
 ·have hlt' : p<8:=by omega
  have ix:=n8_ix (f:=s) hlt' (k:=.i64)
  have ia:=idx_arr (i:=H.next) (o:=11) (kd:=.i64) hlt'
  have hvp:=pc_v (m:=m) (S:=S) (L:=L) (c:=c) (v:=v) (tot:=sm v 8) (d:=d) (k:=k) hlt'
  refine zS ?_
  have zf:=@ix
  refine V.lz ?_
  refine zS ?_
  have zf:=And.intro b1.2<|And.intro @PC<|And.intro @ia<|@hvp
  refine V.lz ?_
  refine zS ?_
  refine V.condP zP (fun hb=>?_) (fun hb=>?_)
  ·refine zS ?_
   refine V.l0 ?_
   refine zS ?_
   refine V.ret (V.rets rfl (Or.inr ⟨by simp,V.rets rfl (Lv.retG (by simp +contextual (disch:=first|omega|simp only[nx];omega) only[D1,cells_alloc_at,cells_alloc_ne,cells_set_at,cells_set_ne,yres,yres1,yresL,qA,qB,qC,D5,hF,hA,↓reduceIte,qD,qE];rfl) ?_ ?_)⟩))
   ·exact zW
   ·congr 1
    exact (decide_eq_false (fun hg=>hg.1 p hlt' hb)).symm
  ·refine zS ?_
   refine V.l0 ?_
   refine V.nil (Or.inl ⟨rfl,8-(p+1),by omega,?_⟩)
   refine⟨p+1,hlt',rfl,rfl,rfl,fun i hi=>?_,zF,zK⟩
   rcases Nat.lt_succ_iff_lt_or_eq.1 hi with h|rfl
   ·exact hno i h
   ·exact hb
 ·obtain rfl : p=8:=by omega
  have hls:=ls_n8 c1
  have hsl:=sl78o (H.next+1) 0
  refine V.exit ?_
  refine zX ?_
  refine V.nil (Or.inr ⟨by simp,?_⟩)
  refine zX ?_
  refine zS ?_
  refine V.draw ?_
  have zf:=@hsl
  refine VD.nz 1 ?_
  simp only[ds]
  refine VD.callA zA (f96_ok hls (by simp[l8]) (l8_bd fun i hi=>by have:=hs i hi;omega)) zA (fun H2 g2=>?_)
  rw[sl_l8]
  have b2:=b1.grow g2
  have zf:=And.intro b2.2<|@PC
  refine VD.nz 1 ?_
  simp only[ds]
  refine VD.callA zA (f81_ok (m:=m) (S:=S) (L:=L) (c:=c) (v:=v) (d:=d) (k:=k) (tot:=sm v 8)) zA (fun H3 g3=>?_)
  have b3:=b2.grow g3
  have m2:=g2.1
  have m3:=g3.1
  have hve:=pc_vEq (m:=m) (S:=S) (L:=L) (c:=c) (v:=v) (tot:=sm v 8) hd hk
  refine VD.d0 ?_ ?_ rfl ?_
  ·exact zM
  ·simp only[dcAll,dcOk,wantD,List.cons_append,List.nil_append,true_and,and_true]
   have zf:=And.intro b1.2<|And.intro b2.2<|And.intro b3.2<|@PC
   exact zR
  refine zS ?_
  refine V.ret (V.rets rfl (Lv.retG (by simp +contextual (disch:=first|omega|simp only[nx];omega) only[D1,cells_alloc_at,cells_alloc_ne,cells_set_at,cells_set_ne,yres,yres1,yresL,qA,qB,qC,D5,hF,hA,↓reduceIte,qD,qE];rfl) ?_ ?_))
  ·exact (g1.trans g2).trans g3
  ·congr 1
   rw[decide_eq_decide]
   unfold gal
   exact⟨fun h=>⟨hno,h⟩,fun h=>h.2⟩
def fu (m S : Int) (v s : Nat→Int) : Nat→Q2
 | 0=>(0,1)
 | k+1=>if qlt (fu m S v s k) (lw (clq m S v (pix v k) (s (pix v k)))) then lw (clq m S v (pix v k) (s (pix v k))) else fu m S v s k
def la (m S : Int) (v s : Nat→Int) : Nat→Q2
 | 0=>(100000000,0)
 | k+1=>if 0<s (pix v k) then (if qlt (la m S v s k) (lw (clq m S v (pix v k) (s (pix v k)-1))) then la m S v s k else lw (clq m S v (pix v k) (s (pix v k)-1))) else la m S v s k
theorem fu_qb {m S : Int} {v s : Nat→Int} (hv : vok v) (hS : 0≤S∧S≤61) (hs : ∀ p,p<8→0≤s p∧s p≤100) : ∀ {k : Nat},k≤(adl v 8).length→qb (fu m S v s k)∧qb (la m S v s k)
 | 0,_=>⟨⟨by simp[fu],by simp[fu]⟩,⟨by simp[la],by simp[la]⟩⟩
 | k+1,hk=>by
  obtain⟨h1,h2⟩:=fu_qb hv hS hs (show k≤(adl v 8).length by omega)
  obtain⟨_,hp8,hpv,_⟩:=pix_at (v:=v) (k:=k) (by omega)
  have hsp:=hs _ hp8
  have q1:=lw_qb (clq_ok (m:=m) hv hS hp8 hpv hsp.1) (clq_qb hv hS hp8 hsp)
  refine⟨?_,?_⟩
  ·unfold fu;split
   ·exact q1
   ·exact h1
  ·unfold la;split
   ·have q2:=lw_qb (clq_ok (m:=m) hv hS hp8 hpv (s:=s (pix v k)-1) (by omega)) (clq_qb hv hS hp8 (by omega))
    split
    ·exact h2
    ·exact q2
   ·exact h2
def jr (m S : Int) (v s : Nat→Int) : Prop:=if gal S v s∧¬ due S v=0 then ¬ qlt (la m S v s (adl v 8).length) (fu m S v s (adl v 8).length) else gal S v s
def jo (m S : Int) (v s : Nat→Int) : Prop:=if gal S v s∧¬ due S v=0 then qlt (fu m S v s (adl v 8).length) (la m S v s (adl v 8).length) else gal S v s
instance (m S : Int) (v s : Nat→Int) : Decidable (jr m S v s):=by unfold jr;infer_instance
instance (m S : Int) (v s : Nat→Int) : Decidable (jo m S v s):=by unfold jo;infer_instance
theorem f61_ok {H : Heap} {m S L : Int} {c v s : Nat→Int} (hm : 1≤m∧m≤5) (hv : vok v) (hS : 0≤S∧S≤61) (hs : ∀ p,p<8→0≤s p∧s p≤100) :
  Gives Try.prog 61 [.agg ⟨pc m S L c v (sm v 8) (dvf m) (clf m)⟩,.agg ⟨n8 s⟩] H (.tuple ⟨[.bool (decide (jr m S v s)),.bool (decide (jo m S v s))]⟩):=by
 refine F.entryL rfl dg61 do61 de61 rfl (by kernel_rfl) ?_
 simp only[sets]
 refine V.re [(0,.agg ⟨pc m S L c v (sm v 8) (dvf m) (clf m)⟩),(1,.agg ⟨n8 s⟩)] (N:=56) zE zY ?_
 intro t hF hA
 simp only[Kn,and_true] at hA
 refine zS ?_
 refine V.l0 ?_
 refine V.heap (fun X=>Grow H X∧Bx X H.next (pc m S L c v (sm v 8) (dvf m) (clf m)) 83∧Bx X (H.next+1) (n8 s) 78) ⟨?_,?_,?_⟩ ?_
 ·exact zW
 ·exact zB
 ·exact zB
 rintro H1 ⟨g1,b1,c1⟩
 refine zS ?_
 refine V.run ?_
 have zf:=And.intro b1.2<|And.intro c1.2<|And.intro @PC<|And.intro @n8_len<|@n8_take
 refine VI.sz 2 ?_
 simp only[ds]
 refine VI.callA rfl (f80_ok (m:=m) (S:=S) (L:=L) (c:=c) (v:=v) (dvf_eq2 m) (clf_eq2 m) hs) zA (fun H2 g2=>?_)
 have b2:=b1.grow g2
 have c2:=c1.grow g2
 have g12:=g1.trans g2
 refine VI.l0 ?_
 refine zS ?_
 have f81' : ∀ X,Gives Try.prog 81 [.agg ⟨pc m S L c v (sm v 8) (dvf m) (clf m)⟩] X (I (due S v)):=fun X=>f81_ok (H:=X) (m:=m) (S:=S) (L:=L) (c:=c) (v:=v) (d:=dvf m) (k:=clf m) (tot:=sm v 8)
 refine V.run ?_
 have zf:=And.intro b2.2<|@PC
 refine VI.sz 4 ?_
 simp only[ds]
 first|refine VI.callGt zG (fun hc=>zI) (fun hc=>f81' H2) (fun hc=>zI) (fun H3 g3=>?_)|refine VI.callGf zG (fun hc=>zI) (fun hc=>f81' H2) (fun hc=>zI) (fun H3 g3=>?_)
 have b3:=b2.grow g3
 have c3:=c2.grow g3
 have g13:=g12.trans g3
 refine VI.l0 ?_
 refine zS ?_
 unfold jr jo
 refine V.condP zP (fun hc=>?_) (fun hc=>?_)
 ·have hno : ¬ (gal S v s∧¬ due S v=0):=by
   intro hh
   rcases hc with hc|hc
   ·exact hc hh.1
   ·exact hh.2 hc
  simp only[if_neg hno]
  refine zS ?_
  refine V.l0 ?_
  refine zS ?_
  refine V.ret (V.rets rfl (Lv.retG (by simp +contextual (disch:=first|omega|simp only[nx];omega) only[D1,cells_alloc_at,cells_alloc_ne,cells_set_at,cells_set_ne,yres,yres1,yresL,qA,qB,qC,D5,hF,hA,↓reduceIte,qD,qE];rfl) ?_ ?_))
  ·exact g13
  ·rfl
 have hyes : gal S v s∧¬ due S v=0:=⟨Decidable.by_contra fun hh=>hc (.inl hh),fun hh=>hc (.inr hh)⟩
 simp only[if_pos hyes]
 have n3:=g13.1
 refine zS ?_
 refine V.run ?_
 refine VI.callA rfl (f82_ok (c:=0) (d:=1) (by omega) (by omega)) zA (fun Ha ga=>?_)
 refine VI.callA rfl (f83_ok 10000 (by omega) Ha) zA (fun H4 g4=>?_)
 have e01 : lw (0,1)=(0,1):=by decide
 rw[e01]
 have g14:=(g13.trans ga).trans g4
 have b4:=(b3.grow ga).grow g4
 have c4:=(c3.grow ga).grow g4
 have n4 : H.next<H4.next∧H.next+1<H4.next:=⟨b4.1,c4.1⟩
 refine VI.l0 ?_
 refine V.heap (fun X=>Grow H X∧Bx X H.next (pc m S L c v (sm v 8) (dvf m) (clf m)) 83∧Bx X (H.next+1) (n8 s) 78∧Bx X H4.next (A2 0 1) 115∧Bx X (H4.next+1) (A2 100000000 0) 115) ⟨?_,?_,?_,?_,?_⟩ ?_
 ·exact zW
 ·exact (((b4.alloc _).alloc _).set (by omega) _).set (by omega) _
 ·exact (((c4.alloc _).alloc _).set (by omega) _).set (by omega) _
 ·exact (Bx.put (by simp only[Heap.next_alloc];omega) _ _).set (by omega) _
 ·exact Bx.put (by simp only[Heap.next_alloc,Heap.next_set];omega) _ _
 rintro H5 ⟨g5,b5,c5,d5,e5⟩
 refine zS ?_
 refine V.run ?_
 have zf:=And.intro b5.2<|And.intro c5.2<|And.intro @PC<|And.intro @n8_take<|@n8_len
 refine VI.sz 2 ?_
 simp only[ds]
 refine VI.callR zA (f84_ok (cs:=pc m S L c v (sm v 8) (dvf m) (clf m)) (s:=n8 s)) zA (fun w6 H6 ⟨hw6,g6,p6,s6⟩=>?_)
 subst hw6
 have b6:=b5.grow g6
 have c6:=c5.grow g6
 have d6:=d5.grow g6
 have e6:=e5.grow g6
 have g16:=g5.trans g6
 have n5:=e5.1
 have n6:=s6.1
 refine VI.l0 ?_
 refine zS ?_
 refine V.re [(2,PT H.next),(3,PT (H.next+1)),(7,PT H4.next),(8,PT (H4.next+1)),(28,.func (.func 99) ⟨[]⟩ ⟨[PT H5.next,PT (H5.next+1)]⟩)] (N:=56) zF zK ?_
 clear hF hA
 intro t hF hA
 simp only[Kn,and_true] at hA
 refine V.rangeL (f99_iter hm hv hS hs p6 s6) (fun y=>y=H4.next∨y=H4.next+1∨H6.next+1<y) (fun k X=>Bx X H.next (pc m S L c v (sm v 8) (dvf m) (clf m)) 83∧Bx X (H.next+1) (n8 s) 78∧Bx X H4.next (A2 (fu m S v s k).1 (fu m S v s k).2) 115∧Bx X (H4.next+1) (A2 (la m S v s k).1 (la m S v s k).2) 115) (fun _ _=>False)
  zA rfl (by simp only[Heap.next_alloc];omega) ?_ ?_ ?_ (fun _ _ _ _ _ h=>h.elim) ?_ ?_ ?_
 ·rintro y hy
  refine⟨by omega,by omega,?_⟩
  rw[Heap.get_alloc,if_neg (by omega)]
 ·intro l hl
  obtain⟨q,_,rfl⟩:=List.mem_map.1 hl
  rfl
 ·rintro k X X' r1 r2 ⟨h1,h2,h3,h4⟩ _ _ g
  simp only[Heap.next_alloc] at g
  exact⟨h1.growS g (by omega),h2.growS g (by omega),h3.growS g (by omega),h4.growS g (by omega)⟩
 ·intro r
  have g : Grow H6 ((H6.alloc (.deferred true)).alloc (.loop r)):=((Grow.refl H6).alloc _).alloc _
  exact⟨b6.grow g,c6.grow g,d6.grow g,e6.grow g⟩
 ·rintro k hk r X ⟨h1,h2,h3,h4⟩ hg hlX hl hr
  rw[yl_at hk]
  rw[yl_len] at hk
  simp only[sets]
  simp only[Heap.next_alloc] at hlX hl
  obtain⟨_,hp8,hpv,_⟩:=pix_at hk
  obtain⟨hfq,hlq⟩:=fu_qb (m:=m) hv hS hs (show k≤(adl v 8).length by omega)
  obtain⟨p,hpp⟩ : ∃ p,p=pix v k:=⟨_,rfl⟩
  have efu : fu m S v s (k+1)=if qlt (fu m S v s k) (lw (clq m S v p (s p))) then lw (clq m S v p (s p)) else fu m S v s k:=by rw[hpp];rfl
  have ela : la m S v s (k+1)=if 0<s p then (if qlt (la m S v s k) (lw (clq m S v p (s p-1))) then la m S v s k else lw (clq m S v p (s p-1))) else la m S v s k:=by rw[hpp];rfl
  rw[← hpp] at hp8 hpv ⊢
  have hsp:=hs p hp8
  obtain⟨qq,hqq⟩ : ∃ qq,qq=lw (clq m S v p (s p)):=⟨_,rfl⟩
  have hqqb : qb qq:=by rw[hqq];exact lw_qb (clq_ok (m:=m) hv hS hp8 hpv hsp.1) (clq_qb hv hS hp8 hsp)
  rw[← hqq] at efu ⊢
  obtain⟨ff,hff⟩ : ∃ ff,ff=fu m S v s k:=⟨_,rfl⟩
  obtain⟨ll,hll⟩ : ∃ ll,ll=la m S v s k:=⟨_,rfl⟩
  rw[← hff] at efu h3 hfq
  rw[← hll] at ela h4 hlq
  refine zS ?_
  refine V.l0 ?_
  refine zS ?_
  refine V.l0 ?_
  refine V.heap (fun Y=>Grow X Y∧Bx Y X.next (A2 qq.1 qq.2) 115) ⟨?_,?_⟩ ?_
  ·exact zW
  ·exact zB
  rintro X1 ⟨gx,x4⟩
  have nx:=gx.1
  have hl1 : X1.get (H6.next+1)=some (.loop r):=(gx.2 _ hlX).trans hl
  refine V.nil ⟨rfl,hl1,gx.s,?_⟩
  intro X2 _ hl2 g2'
  simp only[Heap.next_alloc] at g2' hl2
  have h1:=(h1.grow gx).growS g2' (by omega)
  have h2:=(h2.grow gx).growS g2' (by omega)
  have h3:=(h3.grow gx).growS g2' (by omega)
  have h4:=(h4.grow gx).growS g2' (by omega)
  have x4:=x4.growS g2' (by omega)
  have n2':=g2'.1
  refine zS ?_
  refine V.run ?_
  have zf:=And.intro h3.2<|x4.2
  refine VI.sz 2 ?_
  simp only[ds]
  refine VI.callA rfl (f85_ok hfq hqqb) zA (fun X3 g3'=>?_)
  have h1:=h1.grow g3'
  have h2:=h2.grow g3'
  have h3:=h3.grow g3'
  have h4:=h4.grow g3'
  have n3':=g3'.1
  have hl3 : X3.get (H6.next+1)=some (.loop { r with state:=.busy }):=(g3'.2 _ (by omega)).trans hl2
  rw[← efu]
  have efb:=(fu_qb (m:=m) hv hS hs (show k+1≤(adl v 8).length by omega)).1
  obtain⟨f2,hf2⟩ : ∃ f2,f2=fu m S v s (k+1):=⟨_,rfl⟩
  rw[← hf2]
  have zf:=h3.2
  refine VI.lz ?_
  refine V.heap (fun Y=>GrowS (fun y=>y=H4.next∨y=H4.next+1∨H6.next+1<y) X2 Y∧Bx Y H.next (pc m S L c v (sm v 8) (dvf m) (clf m)) 83∧Bx Y (H.next+1) (n8 s) 78∧Bx Y H4.next (A2 f2.1 f2.2) 115∧Bx Y (H4.next+1) (A2 ll.1 ll.2) 115∧Y.get (H6.next+1)=some (.loop { r with state:=.busy })∧X3.next≤Y.next) ⟨?_,?_,?_,?_,?_,?_,?_⟩ ?_
  ·exact g3'.s.set (.inl (.inl rfl)) _
  ·exact h1.set (by omega) _
  ·exact h2.set (by omega) _
  ·exact Bx.put h3.1 _ _
  ·exact h4.set (by omega) _
  ·rw[Heap.get_set,if_neg (by omega)];exact hl3
  ·exact Nat.le_refl _
  rintro Y ⟨gY,y1,y2,y3,y4,y5,nY⟩
  have ia:=idx_arr (i:=H.next+1) (o:=0) (kd:=.i64) hp8
  have is':=n8_get (f:=s) hp8
  refine zS ?_
  have zf:=And.intro y2.2<|And.intro @ia<|@is'
  refine V.lz ?_
  refine zS ?_
  refine V.condP zP (fun hpos=>?_) (fun hpos=>?_)
  ·rw[if_pos hpos] at ela
   obtain⟨q2,hq2⟩ : ∃ q2,q2=lw (clq m S v p (s p-1)):=⟨_,rfl⟩
   have hq2b : qb q2:=by rw[hq2];exact lw_qb (clq_ok (m:=m) hv hS hp8 hpv (s:=s p-1) (by omega)) (clq_qb hv hS hp8 (by omega))
   rw[← hq2] at ela
   have fv:=clf_fv (m:=m) (S:=S) (L:=L) (c:=c) (s:=s p-1) hm hp8 hv hS (by omega) Y
   rw[← hq2] at fv
   refine zS ?_
   refine V.draw ?_
   have zf:=And.intro y4.2<|And.intro y1.2<|And.intro y2.2<|And.intro @PC<|And.intro @ia<|@is'
   refine VD.nz 9 ?_
   simp only[ds]
   refine VD.callV zA (fv) zA (fun wq Y2 ⟨hwq,gq⟩=>?_)
   subst hwq
   have z1:=y1.grow gq
   have z2:=y2.grow gq
   have z3:=y3.grow gq
   have z4:=y4.grow gq
   refine VD.callA zA (f86_ok hlq hq2b) zA (fun Y3 gr=>?_)
   rw[← ela]
   obtain⟨l2,hl2'⟩ : ∃ l2,l2=la m S v s (k+1):=⟨_,rfl⟩
   rw[← hl2']
   have z1:=z1.grow gr
   have z2:=z2.grow gr
   have z3:=z3.grow gr
   have z4':=z4.grow gr
   have mq:=gq.1
   have mr:=gr.1
   have zf:=z4'.2
   refine VD.dz ?_ ?_ rfl ?_
   ·exact zM
   ·simp only[dcAll,dcOk,wantD,List.cons_append,List.nil_append,true_and,and_true]
    have zf:=And.intro y4.2<|And.intro z4.2<|z4'.2
    exact zR
   refine zS ?_
   refine V.nil ⟨?_,(gY.trans (gq.trans gr).s).set (.inl (.inr (.inl rfl))) _,.inl ⟨rfl,z1.set (by omega) _,z2.set (by omega) _,?_,?_⟩⟩
   ·simp only[Heap.next_alloc]
    rw[Heap.get_set,if_neg (by omega),(gq.trans gr).2 _ (by omega)];exact y5
   ·exact Bx.set (j:=H4.next+1) z3 (by omega) _
   ·exact Bx.put z4'.1 _ _
  ·rw[if_neg hpos] at ela
   refine zS ?_
   refine V.nil ⟨y5,gY,.inl ⟨rfl,y1,y2,?_,?_⟩⟩
   ·exact y3
   ·rw[ela];exact y4
 ·rintro e X h hg hlX
  simp only[Heap.next_alloc] at hlX
  rcases h with⟨rfl,h1,h2,h3,h4⟩|⟨_,h⟩
  ·have hgd : X.get H6.next=some (.deferred true):=by
    rw[hg.2 _ (by simp only[Heap.next_alloc];omega) (by simp only[Heap.next_alloc];omega),Heap.get_alloc,if_pos rfl]
   rw[yl_len] at h3 h4
   obtain⟨qf1,qf2⟩:=fu_qb (m:=m) hv hS hs (Nat.le_refl (adl v 8).length)
   refine zS ?_
   refine V.draw ?_
   have zf:=And.intro h3.2<|h4.2
   refine VD.nz 2 ?_
   simp only[ds]
   refine VD.callA zA (f87_ok qf2 qf1) zA (fun Y1 k1=>?_)
   have h3':=h3.grow k1
   have h4':=h4.grow k1
   have zf:=And.intro h3'.2<|h4'.2
   refine VD.nz 3 ?_
   simp only[ds]
   refine VD.callA zA (f87_ok qf1 qf2) zA (fun Y2 k2=>?_)
   have h3'':=h3'.grow k2
   have h4'':=h4'.grow k2
   have m1:=k1.1
   have m2:=k2.1
   refine VD.d0 ?_ ?_ rfl ?_
   ·exact zM
   ·simp only[dcAll,dcOk,wantD,List.cons_append,List.nil_append,true_and,and_true]
    have zf:=And.intro h3.2<|And.intro h4.2<|And.intro h3'.2<|And.intro h4'.2<|And.intro h3''.2<|h4''.2
    exact⟨zR,zR⟩
   refine zS ?_
   have hgd2 : Y2.get H6.next=some (.deferred true):=((k1.trans k2).2 _ (by omega)).trans hgd
   refine V.ret (V.rets rfl (Lv.retM hgd2 (by simp only[yres,yres1,yresL,D5,hF,hA,↓reduceIte,qD,qE];rfl) ?_))
   have q1:=g16.1
   refine⟨rfl,⟨by simp only[Heap.next_set];omega,fun q hq=>?_⟩⟩
   rw[Heap.get_set,if_neg (by omega),(k1.trans k2).2 _ (by omega),hg.2 q (by simp only[Heap.next_alloc];omega) (by simp only[Heap.next_alloc];omega),Heap.get_alloc,if_neg (by omega),g16.2 q hq]
  ·exact h.elim
end Go.Xe.TVX
