/- BorderCarries: a map's numbers are carried as the reference carries them. Conditions: none. -/
import Derived.Test.YtgcdbdcnlhonfaaTCI
import Derived.Test.YtgcdbdcnlhonfaaZv
import Derived.Test.YtgcdbdcnlhonfaaZm
import Derived.WideShapes
import Derived.ChangeSame
import Derived.Below
-- MOD TB
namespace Go.Xe.TBX
open Go Go.Xe Go.Proofs
open Nat renaming reduceLeDiff → qA, reduceSub → qB, reduceAdd → qC, reduceEqDiff → qD, reduceLT → qE
open Int renaming reduceNegSucc → qF, reduceEq → qG
open Go.Xe.V renaming seq → sA, block → sB, scope → sC, skip → sD, close → sE
open Go.Xe renaming pth → P
open Go.Xe.Rnd
set_option maxRecDepth 100000
set_option maxHeartbeats 3200000
set_option linter.unusedSimpArgs false
noncomputable def d3 : FCode:=(.seq (.run (.go (.box 26 (tm 0)) (P 1)::
.go (.move (.con (.bool false))) (P 2)::
[])) (.seq (.seq (.run (.go (.loadN 4 (tm 1)) (P 9)::
.go (.call (.con (.func (.func 16) ⟨[]⟩ ⟨[]⟩)) [tm 9]) (P 10)::
.go (.un .not (tm 10)) (P 11)::
[])) (.cond (tm 11) (.seq (.run (.go (.call (.con (.func (.func 17) ⟨[]⟩ ⟨[]⟩)) []) (P 12)::
.go (.move (tm 12)) (P 2)::
[])) .ret) .skip)) (.seq (.run (.go (.loadN 4 (tm 1)) (P 13)::
.go (.call (.con (.func (.func 19) ⟨[]⟩ ⟨[]⟩)) [tm 13]) (P 14)::
.go (.call (.con (.func (.func 18) ⟨[]⟩ ⟨[]⟩)) [tm 14]) (P 15)::
.go (.move (tm 15)) (P 3)::
[])) (.seq (.run (.go (.loadN 4 (tm 1)) (P 17)::
.go (.call (.con (.func (.func 19) ⟨[]⟩ ⟨[]⟩)) [tm 17]) (P 18)::
.go (.call (.con (.func (.func 20) ⟨[]⟩ ⟨[]⟩)) [tm 18]) (P 19)::
.go (.move (tm 19)) (P 16)::
.go (.extract (tm 16) 0) (P 20)::
.go (.extract (tm 16) 1) (P 21)::
.go (.extract (tm 16) 2) (P 22)::
.go (.move (tm 20)) (P 4)::
.go (.move (tm 21)) (P 5)::
.go (.move (tm 22)) (P 6)::
[])) (.seq (.run (.go (.loadN 4 (tm 1)) (P 23)::
.go (.call (.con (.func (.func 21) ⟨[]⟩ ⟨[]⟩)) [tm 23]) (P 24)::
.go (.move (tm 24)) (P 7)::
[])) (.seq (.seq (.run (.go (.move (tm 3)) (P 25)::
.go (.move (tm 7)) (P 26)::
.go (.bin .neq 29 (tm 25) (tm 26)) (P 27)::
[])) (.cond (tm 27) (.seq (.run (.go (.move (.con (.bool false))) (P 2)::
[])) .ret) .skip)) (.seq (.seq (.run (.go (.move (tm 7)) (P 28)::
.go (.bin .neq 29 (tm 28) (.con (.int .i64 (.ofNat 0)))) (P 29)::
[])) (.cond (tm 29) (.seq (.run (.go (.move (tm 6)) (P 30)::
.go (.move (tm 7)) (P 31)::
.go (.bin .eql 29 (tm 30) (tm 31)) (P 32)::
.go (.move (tm 32)) (P 33)::
.gd (P 33) true (.move (tm 4)) (P 34)::
.gd (P 33) true (.len 0 (tm 34)) (P 35)::
.gd (P 33) true (.move (tm 5)) (P 36)::
.gd (P 33) true (.len 0 (tm 36)) (P 37)::
.gd (P 33) true (.bin .add 3 (tm 35) (tm 37)) (P 38)::
.gd (P 33) true (.bin .eql 3 (tm 38) (.con (.int .i64 (.ofNat 0)))) (P 39)::
.go (.pick (tm 33) (tm 39) (.con (.bool false))) (P 40)::
.go (.move (tm 40)) (P 41)::
.gd (P 41) true (.call (.con (.func (.func 17) ⟨[]⟩ ⟨[]⟩)) []) (P 42)::
.go (.pick (tm 41) (tm 42) (.con (.bool false))) (P 43)::
.go (.move (tm 43)) (P 2)::
[])) .ret) .skip)) (.seq (.run (.go (.loadN 4 (tm 1)) (P 44)::
.go (.call (.con (.func (.func 22) ⟨[]⟩ ⟨[]⟩)) [tm 44]) (P 45)::
.go (.move (tm 45)) (P 8)::
[])) (.seq (.draw 20 (.go (.move (tm 6)) (P 46)::
.go (.bin .eql 29 (tm 46) (.con (.int .i64 (.ofNat 0)))) (P 47)::
.go (.move (tm 47)) (P 48)::
.gd (P 48) true (.move (tm 4)) (P 49)::
.gd (P 48) true (.move (tm 8)) (P 50)::
.gd (P 48) true (.call (.con (.func (.func 23) ⟨[]⟩ ⟨[]⟩)) [(tm 49),(tm 50)]) (P 51)::
.go (.pick (tm 48) (tm 51) (.con (.bool false))) (P 52)::
.go (.move (tm 52)) (P 53)::
.gd (P 53) true (.move (tm 5)) (P 54)::
.gd (P 53) true (.loadN 4 (tm 1)) (P 55)::
.gd (P 53) true (.loadN 4 (tm 1)) (P 56)::
.gd (P 53) true (.call (.con (.func (.func 25) ⟨[]⟩ ⟨[]⟩)) [tm 56]) (P 57)::
.gd (P 53) true (.move (tm 8)) (P 58)::
.gd (P 53) true (.call (.con (.func (.func 24) ⟨[]⟩ ⟨[]⟩)) [(tm 55),(tm 57),(tm 58)]) (P 59)::
.gd (P 53) true (.call (.con (.func (.func 23) ⟨[]⟩ ⟨[]⟩)) [(tm 54),(tm 59)]) (P 60)::
.go (.pick (tm 53) (tm 60) (.con (.bool false))) (P 61)::
.go (.move (tm 61)) (P 62)::
.gd (P 62) true (.call (.con (.func (.func 17) ⟨[]⟩ ⟨[]⟩)) []) (P 63)::
.go (.pick (tm 62) (tm 63) (.con (.bool false))) (P 64)::
.go (.move (tm 64)) (P 2)::
[]) [.ok,.ok,.ok,.ok,.ok,.ok,.ok,.ok,.ok,.rd (some ((P 53),true)) (.loadN 4 (tm 1)) (some (P 55)) [12],.ok,.ok,.ok,.ok,.ok,.ok,.ok,.ok,.ok,.ok]) .ret)))))))))
theorem de3 : @compF Try.prog (Gl.none Try.prog) Try.f3 1=.mk d3 (mkTT 65) [(P 0)] [.tmp (P 2)]:=by kernel_rfl
theorem dg3 : Try.prog.funcs[3]?=some Try.f3:=Try.func3
theorem do3 : okF Try.prog Try.f3=true:=by kernel_rfl
theorem f3_ok {H : Heap} {o s j : Value} {M : BM} (h : MV H o s j M) : Gives Try.prog 3 [.agg ⟨mc o s j M.N⟩] H (.bool true):=by
 obtain⟨po,no,co,rfl⟩:=h.o.s.isS
 obtain⟨ps,ns,cs,rfl⟩:=h.s.isS
 obtain⟨pj,nj,cj,rfl⟩:=h.j.isS
 refine F.entryL rfl dg3 do3 de3 rfl (by kernel_rfl) ?_
 simp only[sets]
 refine V.re [(0,.agg ⟨mc (.slice po no co) (.slice ps ns cs) (.slice pj nj cj) M.N⟩)] (N:=65) zE zY ?_
 intro t hF hA
 simp only[Kn,and_true] at hA
 refine zS ?_
 refine V.l0 ?_
 refine V.heap (fun X=>Grow H X∧Bx X H.next (mc (.slice po no co) (.slice ps ns cs) (.slice pj nj cj) M.N) 26) ⟨?_,?_⟩ ?_
 ·exact zW
 ·exact zB
 rintro H1 ⟨g1,b1⟩
 refine zS ?_
 refine V.run ?_
 have zf:=b1.2
 refine VI.sz 1 ?_
 simp only[ds]
 refine VI.callA rfl (f16_ok (h.grow g1)) zA (fun H2 g2=>?_)
 have b2:=b1.grow g2
 have g12:=g1.trans g2
 refine VI.l0 ?_
 refine zS ?_
 refine V.condP zP (fun hth=>?_) (fun hth=>?_)
 ·refine zS ?_
  refine V.run ?_
  refine VI.callA rfl (f17_ok _) zA (fun H3 g3=>?_)
  refine VI.l0 ?_
  refine zS ?_
  refine V.ret (V.rets rfl (Lv.retG (by simp +contextual (disch:=first|omega|simp only[nx];omega) only[D1,cells_alloc_at,cells_alloc_ne,cells_set_at,cells_set_ne,yres,yres1,yresL,qA,qB,qC,D5,hF,hA,↓reduceIte,qD,qE];rfl) ?_ ?_))
  ·exact g12.trans g3
  ·rfl
 have hth:=Decidable.not_not.1 hth
 refine zS ?_
 refine V.run ?_
 have zf:=b2.2
 refine VI.sz 1 ?_
 simp only[ds]
 refine VI.callR zA (f19_ok (h.grow g12) hth) zA (fun w3 H3 ⟨g3,o3,s3,j3,hw3,m3⟩=>?_)
 subst hw3
 have b3:=b2.grow g3
 have g13:=g12.trans g3
 obtain⟨e,he⟩ : ∃ e,e=fltM M:=⟨_,rfl⟩
 have f18':=f18_ok m3
 rw[← he] at f18'
 refine VI.callA rfl (f18') zA (fun H4 g4=>?_)
 have b4:=b3.grow g4
 have g14:=g13.trans g4
 refine VI.l0 ?_
 refine zS ?_
 refine V.run ?_
 have zf:=b4.2
 refine VI.sz 1 ?_
 simp only[ds]
 refine VI.callR zA (f19_ok (h.grow g14) hth) zA (fun w5 H5 ⟨g5,o5,s5,j5,hw5,m5⟩=>?_)
 subst hw5
 refine VI.callR zA (f20_ok m5) zA (fun w6 H6 ⟨g6,q6⟩=>?_)
 have b6:=b4.grow (g5.trans g6)
 have g16:=g14.trans (g5.trans g6)
 rw[← he] at q6
 rcases q6 with⟨q0,hw6⟩|⟨q0,G,y1,y2,hw6,r1,r2⟩
 ·subst hw6
  have l0 : ∀ X,ylen 0 X (.slice none 0 0)=some (I 0):=fun _=>rfl
  refine VI.l0 ?_
  refine zS ?_
  refine V.run ?_
  have f21':=f21_ok (h.grow g16)
  rw[← he] at f21'
  have zf:=b6.2
  refine VI.sz 1 ?_
  simp only[ds]
  refine VI.callA rfl (f21') zA (fun H7 g7=>?_)
  have b7:=b6.grow g7
  have g17:=g16.trans g7
  refine VI.l0 ?_
  refine zS ?_
  refine V.l0 ?_
  refine zS ?_
  refine V.condP zP (fun hee=>?_) (fun hee=>?_)
  ·exact absurd trivial hee
  refine zS ?_
  refine V.l0 ?_
  refine zS ?_
  refine V.condP zP (fun hne=>?_) (fun hne=>?_)
  ·refine zS ?_
   refine V.run ?_
   have hee : (e=e)=True:=eq_self _
   have zf:=And.intro @l0<|@hee
   refine VI.sz 9 ?_
   simp only[ds]
   have zf:=And.intro @l0<|@hee
   refine VI.sz 3 ?_
   simp only[ds]
   refine VI.callAT zG rfl (f17_ok _) zA (fun H8 g8=>?_)
   refine VI.l0 ?_
   refine zS ?_
   refine V.ret (V.rets rfl (Lv.retG (by simp +contextual (disch:=first|omega|simp only[nx];omega) only[D1,cells_alloc_at,cells_alloc_ne,cells_set_at,cells_set_ne,yres,yres1,yresL,qA,qB,qC,D5,hF,hA,↓reduceIte,qD,qE];rfl) ?_ ?_))
   ·exact g17.trans g8
   ·simp
  ·exact absurd q0 hne
 ·subst hw6
  have k1:=r1.s.isS
  have k2:=r2.s.isS
  obtain⟨p1,n1,c1,rfl⟩:=k1
  obtain⟨p2,n2,c2,rfl⟩:=k2
  have hN4:=G.n
  have hS8:=G.s8
  obtain⟨Nn,hNn⟩ : ∃ Nn : Nat,M.N=Nn:=⟨M.N.toNat,by omega⟩
  have eN : M.N.toNat=Nn:=by omega
  rw[eN] at r2
  refine VI.l0 ?_
  refine zS ?_
  refine V.run ?_
  have f21':=f21_ok (h.grow g16)
  rw[← he] at f21'
  have zf:=b6.2
  refine VI.sz 1 ?_
  simp only[ds]
  refine VI.callA rfl (f21') zA (fun H7 g7=>?_)
  have b7:=b6.grow g7
  have g17:=g16.trans g7
  refine VI.l0 ?_
  refine zS ?_
  refine V.l0 ?_
  refine zS ?_
  refine V.condP zP (fun hee=>?_) (fun hee=>?_)
  ·exact absurd trivial hee
  refine zS ?_
  refine V.l0 ?_
  refine zS ?_
  refine V.condP zP (fun hne=>?_) (fun hne=>?_)
  ·exact absurd q0 hne
  subst q0
  refine zS ?_
  refine V.run ?_
  have zf:=b7.2
  refine VI.sz 1 ?_
  simp only[ds]
  refine VI.callR zA (f22_ok (h.grow g17) G) zA (fun w8 H8 ⟨g8,r8⟩=>?_)
  have k8:=r8.s.isS
  obtain⟨p8,n8',c8,rfl⟩:=k8
  have b8:=b7.grow g8
  have g18:=g17.trans g8
  have r1:=(r1.grow g7).grow g8
  have r2:=(r2.grow g7).grow g8
  refine VI.l0 ?_
  refine zS ?_
  have f23a:=f23_ok r1 r8 (by rw[fl_len];omega)
  rw[decide_eq_true rfl] at f23a
  have h00 : ((0 : Int)=0)=True:=eq_self _
  refine V.draw ?_
  have zf:=@h00
  refine VD.nz 5 ?_
  simp only[ds]
  refine VD.callAT zG zA (f23a) zA (fun H9 g9=>?_)
  have b9:=b8.grow g9
  have r2:=r2.grow g9
  have zf:=b9.2
  refine VD.nz 5 ?_
  simp only[ds]
  refine VD.callRT zG zA (f25_ok (h.grow (g18.trans g9)) (by omega)) zA (fun wa Ha ⟨ga,ra⟩=>?_)
  have f24':=f24_ok (o:=.slice po no co) (s:=.slice ps ns cs) (j:=.slice pj nj cj) G hNn ra ((r8.grow g9).grow ga) (fun i hi=>G.shr_bd hi) ⟨_,_,_,rfl⟩ ⟨_,_,_,rfl⟩ ⟨_,_,_,rfl⟩
  rw[← hNn] at f24'
  refine VD.n0 1 ?_
  simp only[ds]
  refine VD.callRT zG zA (f24') zA (fun wb Hb ⟨gb,rb⟩=>?_)
  have f23b:=f23_ok ((r2.grow ga).grow gb) rb (by rw[fl_len];omega)
  rw[decide_eq_true rfl] at f23b
  refine VD.callAT zG zA (f23b) zA (fun Hc gc=>?_)
  refine VD.n0 2 ?_
  simp only[ds]
  refine VD.callAT zG zA (f17_ok _) zA (fun Hd gd=>?_)
  have ma:=ga.1
  have mb:=gb.1
  have mc':=gc.1
  have md:=gd.1
  have m9:=g9.1
  have ba:=b9.grow ga
  have bb:=ba.grow gb
  have bc:=bb.grow gc
  have bd:=bc.grow gd
  refine VD.d0 ?_ ?_ rfl ?_
  ·exact zM
  ·simp only[dcAll,dcOk,wantD,List.cons_append,List.nil_append,true_and,and_true]
   exact fun hw q hq=>by simp only[wantD,D5,hF,hA,↓reduceIte,qD,qE,beq_iff_eq,decide_eq_false_iff_not,decide_eq_true_eq] at hw;simp only[List.mem_cons,List.not_mem_nil,or_false] at hq;(repeat (rcases hq with rfl|hq;exact⟨_,_,_,rfl,(by simp +contextual (disch:=first|omega|simp only[nx];omega) only[D4,qF,qG,qA,qB,qC,D5,hF,hA,↓reduceIte,qD,qE,if_true,not_false_eq_true,not_true_eq_false,hw,b8.2,b9.2,ba.2,bb.2,bc.2,bd.2];with_reducible rfl),fun p hp=>by cases hp;simp only[D5,hF,hA,↓reduceIte,qD,qE,hw,if_true,not_false_eq_true];first|exact vEq_An|(simp[vEq,vEq0,all2];done)|assumption⟩));(try (subst hq;exact⟨_,_,_,rfl,(by simp +contextual (disch:=first|omega|simp only[nx];omega) only[D4,qF,qG,qA,qB,qC,D5,hF,hA,↓reduceIte,qD,qE,if_true,not_false_eq_true,not_true_eq_false,hw,b8.2,b9.2,ba.2,bb.2,bc.2,bd.2];with_reducible rfl),fun p hp=>by cases hp;simp only[D5,hF,hA,↓reduceIte,qD,qE,hw,if_true,not_false_eq_true];first|exact vEq_An|(simp[vEq,vEq0,all2];done)|assumption⟩))
  refine zS ?_
  refine V.ret (V.rets rfl (Lv.retG (by simp +contextual (disch:=first|omega|simp only[nx];omega) only[D1,cells_alloc_at,cells_alloc_ne,cells_set_at,cells_set_ne,yres,yres1,yresL,qA,qB,qC,D5,hF,hA,↓reduceIte,qD,qE];rfl) ?_ ?_))
  ·exact (((((g18.trans g9).trans ga).trans gb).trans gc).trans gd)
  ·rfl
end Go.Xe.TBX
/- Rules of reasoning over the executable reading of the model's code (part Z23): a slice of any shape that came in. Conditions: none; for every program. -/
namespace Go.Xe
open Go Go.RowKit Go.ChangeShapes Go.WideShapes
end Go.Xe
/- Maps that come in: what lies where. Conditions: none. -/
namespace Go.Xe.TBX
open Go Go.Xe Go.Proofs
abbrev shJn : Sh:=.pair (.int .i64) (.pair (.int .i64) .unit)
abbrev shSt : Sh:=.pair (.int .i64) (.pair (.int .i64) (.pair (.int .i64) (.pair shJn .unit)))
abbrev shMp : Sh:=.pair (.slice 1 (.int .i64)) (.pair (.int .i64) (.pair (.slice 5 shSt) (.pair (.slice 2 shJn) .unit)))
theorem rs_of {A : Heap} {cs : List Value} {y : Ty (.slice 2 shJn)} (h : Sem A (.slice 2 shJn) cs y) : ∃ v R,cs=[v]∧RS A v R:=by
 obtain⟨v,rows,rfl,h1,h2,_,h3⟩:=h
 refine⟨v,(y : List (Ty shJn)).map fun x=>(x.1,x.2.1),rfl,⟨?_⟩⟩
 have e : rows=((y : List (Ty shJn)).map fun x=>(x.1,x.2.1)).map q2:=by
  apply List.ext_getElem
  ·simp[h2]
  ·intro k k1 k2
   have hk : k<(y : List (Ty shJn)).length:=by omega
   obtain⟨c1,c2,e1,⟨rfl,_⟩,d1,d2,e2,⟨rfl,_⟩,e5⟩:=h3 k rows[k] ((y : List (Ty shJn))[k]) (by simp) (by simp[hk])
   rw[e1,e2,e5]
   simp[q2]
 have:=h1.sw
 rw[e] at this
 exact this
theorem ss_of {A : Heap} {cs : List Value} {y : Ty (.slice 5 shSt)} (h : Sem A (.slice 5 shSt) cs y) : ∃ v S,cs=[v]∧SS A v S:=by
 obtain⟨v,rows,rfl,h1,h2,_,h3⟩:=h
 refine⟨v,(y : List (Ty shSt)).map fun x=>⟨x.1,x.2.1,x.2.2.1,x.2.2.2.1.1,x.2.2.2.1.2.1⟩,rfl,⟨?_⟩⟩
 have e : rows=((y : List (Ty shSt)).map fun x=>(⟨x.1,x.2.1,x.2.2.1,x.2.2.2.1.1,x.2.2.2.1.2.1⟩ : St)).map s5:=by
  apply List.ext_getElem
  ·simp[h2]
  ·intro k k1 k2
   have hk : k<(y : List (Ty shSt)).length:=by omega
   obtain⟨c1,c2,e1,⟨rfl,_⟩,d1,d2,e2,⟨rfl,_⟩,w1,w2,e3,⟨rfl,_⟩,p1,p2,e4,⟨q1,q2,e5,⟨rfl,_⟩,r1,r2,e6,⟨rfl,_⟩,e7⟩,e8⟩:=h3 k rows[k] ((y : List (Ty shSt))[k]) (by simp) (by simp[hk])
   have e7' : r2=[]:=e7
   have e8' : p2=[]:=e8
   rw[e1,e2,e3,e4,e5,e6,e7',e8']
   simp[s5]
 have:=h1.sw
 rw[e] at this
 exact this
theorem ls_of {A : Heap} {cs : List Value} {y : Ty (.slice 1 (.int .i64))} (h : Sem A (.slice 1 (.int .i64)) cs y) : ∃ v l,cs=[v]∧LS A v l:=by
 obtain⟨v,rows,rfl,h1,h2,_,h3⟩:=h
 refine⟨v,y,rfl,?_⟩
 have e : rows=((y : List Int).map I).map fun x=>[x]:=by
  apply List.ext_getElem
  ·simp[h2]
  ·intro k k1 k2
   have hk : k<(y : List Int).length:=by omega
   obtain⟨e1,_⟩:=h3 k rows[k] ((y : List Int)[k]) (by simp) (by simp[hk])
   rw[e1]
   simp
 rw[e] at h1
 exact⟨h1.one⟩
theorem mv_of {A : Heap} {l : List Value} {y : Ty shMp} (h : Sem A shMp l y) : ∃ o s j M,l=mc o s j M.N∧MV A o s j M:=by
 obtain⟨c1,c2,rfl,h1,d1,d2,rfl,⟨rfl,_⟩,e1,e2,rfl,h3,f1,f2,rfl,h4,h5⟩:=h
 obtain⟨o,O,rfl,ho⟩:=ls_of h1
 obtain⟨s,S,rfl,hs⟩:=ss_of h3
 obtain⟨j,J,rfl,hj⟩:=rs_of h4
 have h5' : f2=[]:=h5
 subst h5'
 exact⟨o,s,j,⟨O,_,S,J⟩,rfl,ho,hs,hj⟩
theorem f3_all {H : Heap} {o s j : Value} {M : BM} (h : MV H o s j M) : F Try.prog 3 ⟨[.agg ⟨mc o s j M.N⟩]⟩ H (fun w _=>w=.bool true):=(f3_ok h).mono fun _ _ h=>h.1
end Go.Xe.TBX
/- Rules of reasoning over the executable reading of the model's code (part Z16): arguments, by what their types allow. Conditions: none; for every program. -/
namespace Go.Xe
open Go Go.RowKit Go.ChangeShapes Go.WideShapes
theorem okWide_agg {P : Program} {w : World} {r : Reach} {base : Nat} {t : TypeId} {v : Value} {fs : Array Field} (ht : P.underlying t=some (.struct fs)) (h : Value.okWide P w r base t v) : ∃ cs,v=.agg cs:=by
 unfold Value.okWide at h
 rw[ht] at h
 obtain⟨cs,h,_⟩:=h
 exact⟨cs,h⟩
end Go.Xe
/- The end of a call that has changed nothing of what was there: what a statement asks of the memory behind it. Conditions: as post_of_same's, but that new memory may be frozen. -/
namespace Go.Xe
open Go Go.RowKit Go.ChangeShapes Go.WideShapes
variable {H : Type} {enc : TypeId×Value→H} {P : Program}
theorem post_of_old {f : Func} {s : ChangeSpec} {apart fresh handsOn again : Bool} {W W' : World} {args : Array Value} {v : Value} {ds gs : List (DataW H)} {before pa pv : List MemPlace}
  (hW : DataW.Whole enc P f.params.toList s.vars apart W args.toList ds gs before)
  (hres : ∀ (b : Nat) (sp : Nat→Bool) (hd : Bool),DataW.TrodAll enc P W' b sp hd f.resultTypes.toList (v.resultList f.resultTypes.size) (s.fn H (ds++gs)).results [])
  (hargs : ∀ sp : Nat→Bool,(∀ p∈before,sp p.block=true)→DataW.TrodAll enc P W' 0 sp true f.params.toList args.toList (s.fn H (ds++gs)).args pa)
  (hvars : ∀ sp : Nat→Bool,(∀ p∈before,sp p.block=true)→DataW.TrodVars enc P W' sp s.vars (s.fn H (ds++gs)).vars pv)
  (hps : before=pa++pv) (hk : W.keptBut W' (·∈before)) (hfz : ∀ a : Addr,a.block<W.heap.size→W'.frozen? a=W.frozen? a)
  (hok : ∀ (j : Nat) (t : TypeId) (r : Value),f.resultTypes[j]?=some t→(v.resultList f.resultTypes.size)[j]?=some r→Value.okWide P W' .any 0 t r) :
  s.post enc P f apart fresh handsOn again W args v W':=by
 have old : ∀ p∈before,p.block<W.heap.size:=fun p hp=>hW.lt p hp
 have hold : ∀ p∈before,(fun b=>decide (b<W.heap.size)) p.block=true:=fun p hp=>by simpa using old p hp
 subst hps
 refine⟨ds,gs,_,[],pa,pv,hW,hres _ _ _,hargs _ hold,hvars _ hold,World.keptBut_mono (fun p hp=>⟨hp,.inr (List.mem_append.1 hp)⟩) hk,fun _=>?_⟩
 obtain⟨_,_,_,_,_,hz,hn⟩:=hW
 refine⟨hok,_,_,([]++pa)++pv,⟨[]++pa,pv,trodAll_append (hargs _ (fun _ _=>rfl)) (hres _ _ _),hvars _ (fun _ _=>rfl),rfl,?_,?_⟩,?_⟩
 ·intro b off hp
  have hp' : MemPlace.cell b off∈pa++pv:=by simpa using hp
  rw[hfz _ (old _ hp')]
  exact hz b off hp'
 ·intro ha
  simpa using hn ha
 ·intro p hp _
  simpa using hp
end Go.Xe
