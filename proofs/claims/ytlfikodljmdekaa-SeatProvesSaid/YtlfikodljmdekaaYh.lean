/- What the functions of the layer seat come to: IsResult, and SeatProves. Conditions: none. -/
import Derived.Test.YtlfikodljmdekaaTUR
import Derived.Test.YtlfikodljmdekaaZm
import Derived.WideShapes
import Derived.ChangeSame
import Derived.Below
-- MOD TV
namespace Go.Xe.TVX
open Go Go.Xe Go.Proofs
open Nat renaming reduceLeDiff → qA, reduceSub → qB, reduceAdd → qC, reduceEqDiff → qD, reduceLT → qE
open Int renaming reduceNegSucc → qF, reduceEq → qG
open Go.Xe.V renaming seq → sA, block → sB, scope → sC, skip → sD, close → sE
open Go.Xe renaming pth → P
open Go.Xe.Sea
set_option maxRecDepth 100000
set_option maxHeartbeats 3200000
set_option linter.unusedSimpArgs false
noncomputable def d30 : FCode:=(.seq (.run (.go (.box 23 (tm 0)) (P 3)::
.go (.move (.con (.bool false))) (P 6)::
[])) (.seq (.seq (.run (.go (.move (tm 2)) (P 11)::
.go (.len 0 (tm 11)) (P 12)::
.go (.move (tm 1)) (P 13)::
.go (.len 0 (tm 13)) (P 14)::
.go (.bin .neq 3 (tm 12) (tm 14)) (P 15)::
[])) (.cond (tm 15) (.seq (.run (.go (.move (.con (.bool false))) (P 6)::
[])) .ret) .skip)) (.seq (.run (.go (.loadN 3 (tm 3)) (P 17)::
.go (.move (tm 1)) (P 18)::
.go (.call (.con (.func (.func 42) ⟨[]⟩ ⟨[]⟩)) [(tm 17),(tm 18)]) (P 19)::
.go (.move (tm 19)) (P 16)::
.go (.extract (tm 16) 0) (P 20)::
.go (.extract (tm 16) 1) (P 21)::
.go (.move (tm 20)) (P 7)::
.go (.move (tm 21)) (P 8)::
[])) (.seq (.run (.go (.move (.con (.int .i64 (.ofNat 0)))) (P 9)::
[])) (.seq (.seq (.run (.go (.move (.con (.int .i64 (.ofNat 0)))) (P 10)::
[])) (.block 0 (.loop (.seq (.seq (.run (.go (.move (tm 10)) (P 22)::
.go (.move (tm 1)) (P 23)::
.go (.len 0 (tm 23)) (P 24)::
.go (.bin .lss 3 (tm 22) (tm 24)) (P 25)::
[])) (.cond (tm 25) .skip (.exit 0))) (.seq (.block 1 (.seq (.seq (.draw 14 (.go (.move (tm 2)) (P 28)::
.go (.move (tm 10)) (P 29)::
.go (.indexAddr none 1 (tm 28) (tm 29)) (P 30)::
.go (.load1 (tm 30)) (P 31)::
.go (.move (tm 7)) (P 32)::
.go (.move (tm 10)) (P 33)::
.go (.indexAddr none 1 (tm 32) (tm 33)) (P 34)::
.go (.load1 (tm 34)) (P 35)::
.go (.move (tm 8)) (P 36)::
.go (.move (tm 10)) (P 37)::
.go (.indexAddr none 1 (tm 36) (tm 37)) (P 38)::
.go (.load1 (tm 38)) (P 39)::
.go (.call (.con (.func (.func 38) ⟨[]⟩ ⟨[]⟩)) [(tm 31),(tm 35),(tm 39)]) (P 40)::
.go (.un .not (tm 40)) (P 41)::
[]) [.ok,.ok,.ok,.ok,.ok,.ok,.ok,.ok,.ok,.ok,.ok,.ok,.ok,.ok]) (.cond (tm 41) (.seq (.run (.go (.move (.con (.bool false))) (P 6)::
[])) .ret) .skip)) (.run (.go (.move (tm 9)) (P 42)::
.go (.move (tm 2)) (P 43)::
.go (.move (tm 10)) (P 44)::
.go (.indexAddr none 1 (tm 43) (tm 44)) (P 45)::
.go (.load1 (tm 45)) (P 46)::
.go (.bin .add 3 (tm 42) (tm 46)) (P 47)::
.go (.move (tm 47)) (P 9)::
[])))) (.run (.go (.move (tm 10)) (P 26)::
.go (.bin .add 3 (tm 26) (.con (.int .i64 (.ofNat 1)))) (P 27)::
.go (.move (tm 27)) (P 10)::
[]))))))) (.seq (.run (.go (.move (tm 9)) (P 48)::
.go (.fieldAddr 1 (tm 3)) (P 49)::
.go (.load1 (tm 49)) (P 50)::
.go (.bin .eql 3 (tm 48) (tm 50)) (P 51)::
.go (.move (tm 51)) (P 52)::
.gd (P 52) false (.loadN 3 (tm 3)) (P 53)::
.gd (P 52) false (.move (tm 1)) (P 54)::
.gd (P 52) false (.call (.con (.func (.func 34) ⟨[]⟩ ⟨[]⟩)) [(tm 53),(tm 54)]) (P 55)::
.gd (P 52) false (.un .not (tm 55)) (P 56)::
.go (.pick (tm 52) (.con (.bool true)) (tm 56)) (P 57)::
.go (.move (tm 57)) (P 6)::
[])) .ret))))))
theorem de30 : @compF Try.prog (Gl.none Try.prog) Try.f30 3=.mk d30 (mkTT 58) [(P 0),(P 1),(P 2)] [.tmp (P 6)]:=by kernel_rfl
theorem dg30 : Try.prog.funcs[30]?=some Try.f30:=Try.func30
theorem do30 : okF Try.prog Try.f30=true:=by kernel_rfl
noncomputable def d4 : FCode:=(.seq (.run (.go (.box 23 (tm 0)) (P 3)::
.go (.move (.con (.bool false))) (P 6)::
[])) (.seq (.seq (.run (.go (.move (tm 1)) (P 8)::
.go (.len 0 (tm 8)) (P 9)::
.go (.bin .gtr 3 (tm 9) (.con (.int .i64 (.ofNat 11)))) (P 10)::
.go (.move (tm 10)) (P 11)::
.gd (P 11) false (.move (tm 2)) (P 12)::
.gd (P 11) false (.len 0 (tm 12)) (P 13)::
.gd (P 11) false (.bin .gtr 3 (tm 13) (.con (.int .i64 (.ofNat 11)))) (P 14)::
.go (.pick (tm 11) (.con (.bool true)) (tm 14)) (P 15)::
[])) (.cond (tm 15) (.seq (.run (.go (.call (.con (.func (.func 20) ⟨[]⟩ ⟨[]⟩)) []) (P 16)::
.go (.move (tm 16)) (P 6)::
[])) .ret) .skip)) (.seq (.run (.go (.loadN 3 (tm 3)) (P 17)::
.go (.call (.con (.func (.func 22) ⟨[]⟩ ⟨[]⟩)) [tm 17]) (P 18)::
.go (.move (tm 1)) (P 19)::
.go (.call (.con (.func (.func 24) ⟨[]⟩ ⟨[]⟩)) [tm 19]) (P 20)::
.go (.move (tm 2)) (P 21)::
.go (.call (.con (.func (.func 24) ⟨[]⟩ ⟨[]⟩)) [tm 21]) (P 22)::
.go (.call (.con (.func (.func 29) ⟨[]⟩ ⟨[]⟩)) [(tm 18),(tm 20),(tm 22)]) (P 23)::
.go (.move (tm 23)) (P 7)::
[])) (.seq (.run (.go (.move (tm 7)) (P 24)::
.go (.loadN 3 (tm 3)) (P 25)::
.go (.move (tm 1)) (P 26)::
.go (.call (.con (.func (.func 25) ⟨[]⟩ ⟨[]⟩)) [(tm 25),(tm 26)]) (P 27)::
.go (.bin .eql 26 (tm 27) (.con (.int .i64 (.ofNat 0)))) (P 28)::
.go (.move (tm 28)) (P 29)::
.gd (P 29) true (.loadN 3 (tm 3)) (P 30)::
.gd (P 29) true (.move (tm 1)) (P 31)::
.gd (P 29) true (.move (tm 2)) (P 32)::
.gd (P 29) true (.call (.con (.func (.func 30) ⟨[]⟩ ⟨[]⟩)) [(tm 30),(tm 31),(tm 32)]) (P 33)::
.go (.pick (tm 29) (tm 33) (.con (.bool false))) (P 34)::
.go (.bin .eql 4 (tm 24) (tm 34)) (P 35)::
.go (.move (tm 35)) (P 36)::
.gd (P 36) true (.call (.con (.func (.func 20) ⟨[]⟩ ⟨[]⟩)) []) (P 37)::
.go (.pick (tm 36) (tm 37) (.con (.bool false))) (P 38)::
.go (.move (tm 38)) (P 6)::
[])) .ret))))
theorem de4 : @compF Try.prog (Gl.none Try.prog) Try.f4 3=.mk d4 (mkTT 39) [(P 0),(P 1),(P 2)] [.tmp (P 6)]:=by kernel_rfl
theorem dg4 : Try.prog.funcs[4]?=some Try.f4:=Try.func4
theorem do4 : okF Try.prog Try.f4=true:=by kernel_rfl
def ISR (m S L : Int) (l st : List Int) : Prop:=st.length=l.length∧(∀ p,p<l.length→(otc m S (vl L l)).1 p≤gl0 st p∧gl0 st p≤(otc m S (vl L l)).2 p)∧(sm (gl0 st) l.length=S∨¬ 0<sm (vl L l) 8)
theorem otc_hi {m S : Int} {v : Nat→Int} (hv : vok v) (hS : 0≤S∧S≤61) (hv8 : ∀ p,¬ p<8→v p=0) (p : Nat) : 0≤(otc m S v).1 p∧(otc m S v).2 p≤S:=by
 have F0:=otc_fin (m:=m) hv hS hv8
 have hbd:=Fin.bd F0 hS.1
 refine⟨(hbd.1 p).1,?_⟩
 rcases F0.2 with⟨_,_,e⟩|⟨_,_,e⟩|⟨_,e1,_,e⟩
 ·rw[e];exact (hbd.1 p).2
 ·rw[e];exact (hbd.1 p).2
 ·have:=hbd.2.1 p
  by_cases hp : p<8
  ·have:=sm_each F0.1.nn hp
   omega
  ·rw[e];unfold Sea.up;rw[if_neg (fun k=>hp (mem_tp.1 k).1)];exact (hbd.1 p).2
theorem prv_isr {m S L : Int} {l st : List Int} (h0 : flt m S L l=0) : PRV m S L l st↔ISR m S L l st:=by
 obtain⟨hr,hl8,hb⟩:=flt_0.1 h0
 have hv:=vl_ok (L:=L) hb
 have hv8:=vl_8 (L:=L) hl8
 have hS : 0≤S∧S≤61:=⟨hr.2.2.1,by have:=hr.2.2.2.1;omega⟩
 have F0:=otc_fin (m:=m) hv hS hv8
 have hbd:=Fin.bd F0 hS.1
 have hi:=fun p=>otc_hi (m:=m) hv hS hv8 p
 have hsb : (∀ x∈st,0≤x∧x≤S)→∀ p,0≤gl0 st p∧gl0 st p≤S:=fun hx p=>by
  by_cases hp : p<st.length
  ·rw[gl0_at hp]
   exact hx _ (List.getElem_mem hp)
  ·rw[gl0_out (by omega)];omega
 have e8 : st.length=l.length→sm (gl0 st) l.length=sm (gl0 st) 8:=fun hll=>by
  have:=sm_out (v:=gl0 st) (n:=l.length) (k:=8-l.length) (fun p hp=>gl0_out (by omega))
  rw[show l.length+(8-l.length)=8 by omega] at this
  exact this.symm
 constructor
 ·rintro⟨_,hll,hx,hj⟩
  have hs:=hsb hx
  have R:=(is_res hv hS hv8 (fun p _=>(hs p).1)).1 ((jr_iff hv hS (fun p _=>by have:=hs p;omega)).1 hj)
  exact⟨hll,fun p hp=>R.1 p (by omega),by rw[e8 hll];exact R.2⟩
 ·rintro⟨hll,hab,hsum⟩
  have hx : ∀ x∈st,0≤x∧x≤S:=fun x hx=>by
   obtain⟨i,hi',rfl⟩:=List.mem_iff_getElem.1 hx
   have h1:=hab i (by omega)
   have h2:=hi i
   rw[gl0_at hi'] at h1
   omega
  have hs:=hsb hx
  refine⟨h0,hll,hx,(jr_iff hv hS (fun p _=>by have:=hs p;omega)).2 ((is_res hv hS hv8 (fun p _=>(hs p).1)).2 ⟨fun p hp=>?_,by rw[← e8 hll];exact hsum⟩)⟩
  by_cases k : p<l.length
  ·exact hab p k
  ·have hz : (otc m S (vl L l)).1 p=0:=F0.1.adm p (fun hh=>by have:=hh.2;rw[vl_out (by omega)] at this;omega)
   have h1:=hbd.2.1 p
   rw[gl0_out (by omega)]
   omega
theorem f30_ok {H : Heap} {m S L : Int} {x y : Value} {l st : List Int} (h : LS H x l) (hst : LS H y st) (h0 : flt m S L l=0) : F Try.prog 30 ⟨[.agg ⟨A3 m S L⟩,x,y]⟩ H (fun w X=>Grow H X∧∃ r : Bool,w=.bool r∧(r=true↔ISR m S L l st)):=by
 have hl:=h.len
 have hsl:=hst.len
 obtain⟨px,nx',cx,rfl⟩:=h.s.isS
 obtain⟨py,ny',cy,rfl⟩:=hst.s.isS
 obtain⟨hr,hl8,hb⟩:=flt_0.1 h0
 have hvk:=vl_ok (L:=L) hb
 have hv8:=vl_8 (L:=L) hl8
 have hS : 0≤S∧S≤61:=⟨hr.2.2.1,by have:=hr.2.2.2.1;omega⟩
 have hi:=fun p=>otc_hi (m:=m) hvk hS hv8 p
 refine F.entryL rfl dg30 do30 de30 rfl (by kernel_rfl) ?_
 simp only[sets]
 refine V.re [(0,.agg ⟨A3 m S L⟩),(1,.slice px nx' cx),(2,.slice py ny' cy)] (N:=58) zE zY ?_
 intro t hF hA
 simp only[Kn,and_true] at hA
 refine zS ?_
 refine V.l0 ?_
 refine V.heap (fun X=>Grow H X∧Bx X H.next (A3 m S L) 23) ⟨?_,?_⟩ ?_
 ·exact zW
 ·exact zB
 rintro H1 ⟨g1,b1⟩
 refine zS ?_
 have zf:=And.intro @hl<|@hsl
 refine V.lz ?_
 refine zS ?_
 refine V.condP zP (fun hne=>?_) (fun hne=>?_)
 ·refine zS ?_
  refine V.l0 ?_
  refine zS ?_
  refine V.ret (V.rets rfl (Lv.retF (by simp +contextual (disch:=first|omega|simp only[nx];omega) only[D1,cells_alloc_at,cells_alloc_ne,cells_set_at,cells_set_ne,yres,yres1,yresL,qA,qB,qC,D5,hF,hA,↓reduceIte,qD,qE];rfl) ?_))
  exact⟨g1,false,rfl,iff_of_false (by simp) (fun k=>hne (by have:=k.1;omega))⟩
 have hll : st.length=l.length:=by omega
 refine zS ?_
 refine V.run ?_
 have zf:=b1.2
 refine VI.sz 2 ?_
 simp only[ds]
 refine VI.callR zA (f42_all (m:=m) (S:=S) (L:=L) (h.grow g1) h0) zA (fun w2 H2 ⟨g2,y1,y2,hw2,q1,q2⟩=>?_)
 subst hw2
 have g12:=g1.trans g2
 have b2:=b1.grow g2
 obtain⟨A,hA0⟩ : ∃ A,A=(otc m S (vl L l)).1:=⟨_,rfl⟩
 obtain⟨B,hB0⟩ : ∃ B,B=(otc m S (vl L l)).2:=⟨_,rfl⟩
 rw[← hA0] at q1 hi
 rw[← hB0] at q2 hi
 refine VI.l0 ?_
 refine zS ?_
 refine V.l0 ?_
 refine zS ?_
 refine V.l0 ?_
 refine zS ?_
 refine V.loop (fun z t mm X=>∃ (p : Nat),p≤l.length∧z=l.length-p∧mm=[]∧Grow H2 X∧(∀ i,i<p→A i≤gl0 st i∧gl0 st i≤B i)∧Full 58 t∧Kn [(1,.slice px nx' cx),(2,.slice py ny' cy),(3,PT H.next),(7,y1),(8,y2),(9,I (sm (gl0 st) p)),(10,I p)] t) l.length ?_ ?_
 ·exact⟨0,by omega,by omega,rfl,.refl _,fun i hi=>by omega,zF,zK⟩
 clear hF hA
 rintro z t mm X ⟨p,hp,rfl,rfl,gX,hab,hF,hA⟩
 simp only[Kn,and_true] at hA
 have bX:=b2.grow gX
 have hsum : 0≤sm (gl0 st) p∧sm (gl0 st) p≤488:=by
  have:=sm_ub (s:=gl0 st) (b:=61) (n:=p) (fun i hi'=>by have h1:=hab i hi';have h2:=hi i;omega)
  omega
 refine zS ?_
 have zf:=@hl
 refine V.lz ?_
 refine zS ?_
 refine V.condP zP (fun hlt=>?_) (fun hlt=>?_)
 ·have hlt' : p<l.length:=by omega
  obtain⟨pa,pa1,pa2⟩:=q1.at (k:=p) (by rw[fl_len];exact hlt')
  obtain⟨pb,pb1,pb2⟩:=q2.at (k:=p) (by rw[fl_len];exact hlt')
  obtain⟨ps,ps1,ps2⟩:=hst.at (k:=p) (by omega)
  have pa3:=pa2 X gX
  have pb3:=pb2 X gX
  have ps3:=ps2 X (g12.trans gX)
  rw[fl_at] at pa3 pb3
  rw[← gl0_at (by omega)] at ps3
  refine zS ?_
  refine V.draw ?_
  have zf:=And.intro @pa1<|And.intro @pa3<|And.intro @pb1<|And.intro @pb3<|And.intro @ps1<|@ps3
  refine VD.nz 9 ?_
  simp only[ds]
  have zf:=And.intro @pa1<|And.intro @pa3<|And.intro @pb1<|And.intro @pb3<|And.intro @ps1<|@ps3
  refine VD.nz 3 ?_
  simp only[ds]
  refine VD.callA zA (f38_ok (gl0 st p) (A p) (B p) X) zA (fun X2 k2=>?_)
  have gX2:=gX.trans k2
  have ps4:=ps2 X2 (g12.trans gX2)
  rw[← gl0_at (by omega)] at ps4
  have o2:=k2.1
  refine VD.d0 ?_ ?_ rfl ?_
  ·exact zM
  ·simp only[dcAll,dcOk,wantD,List.cons_append,List.nil_append,true_and,and_true]
  refine zS ?_
  refine V.condP zP (fun hbad=>?_) (fun hbad=>?_)
  ·refine zS ?_
   refine V.l0 ?_
   refine zS ?_
   refine V.ret (V.rets rfl (Or.inr ⟨by simp,V.rets rfl (Lv.retF (by simp +contextual (disch:=first|omega|simp only[nx];omega) only[D1,cells_alloc_at,cells_alloc_ne,cells_set_at,cells_set_ne,yres,yres1,yresL,qA,qB,qC,D5,hF,hA,↓reduceIte,qD,qE];rfl) ?_)⟩))
   refine⟨g12.trans gX2,false,rfl,iff_of_false (by simp) (fun k=>hbad ?_)⟩
   have:=k.2.1 p hlt'
   rw[← hA0,← hB0] at this
   exact this
  ·have hgood : A p≤gl0 st p∧gl0 st p≤B p:=Decidable.not_not.1 hbad
   have h2:=hi p
   have e : sm (gl0 st) p+gl0 st p=sm (gl0 st) (p+1):=rfl
   refine zS ?_
   have zf:=And.intro @ps1<|@ps4
   refine V.lz ?_
   rw[e]
   refine zS ?_
   refine V.l0 ?_
   refine V.nil (Or.inl ⟨rfl,l.length-(p+1),by omega,?_⟩)
   refine⟨p+1,hlt',rfl,rfl,gX2,fun i hi2=>?_,zF,zK⟩
   rcases Nat.lt_succ_iff_lt_or_eq.1 hi2 with h2|rfl
   ·exact hab i h2
   ·exact hgood
 ·obtain rfl : p=l.length:=by omega
  have gXX:=g12.trans gX
  refine V.exit ?_
  refine zX ?_
  refine V.nil (Or.inr ⟨by simp,?_⟩)
  refine zX ?_
  refine zS ?_
  by_cases c1 : sm (gl0 st) l.length=S
  ·have c1' : (sm (gl0 st) l.length=S)=True:=eq_true c1
   refine V.run ?_
   refine VI.steps' 8 (by simp +contextual (disch:=first|omega|simp only[nx];omega) only[D4,qF,qG,qA,qB,qC,D5,hF,hA,↓reduceIte,qD,qE,bX.2,c1',not_true_eq_false,not_false_eq_true];with_reducible rfl) ?_
   simp only[ds]
   refine VI.gdF zG ?_
   refine VI.l0 ?_
   refine zS ?_
   refine V.ret (V.rets rfl (Lv.retF (by simp +contextual (disch:=first|omega|simp only[nx];omega) only[D1,cells_alloc_at,cells_alloc_ne,cells_set_at,cells_set_ne,yres,yres1,yresL,qA,qB,qC,D5,hF,hA,↓reduceIte,qD,qE];rfl) ?_))
   exact⟨gXX,true,rfl,iff_of_true rfl ⟨hll,by rw[← hA0,← hB0];exact hab,.inl c1⟩⟩
  ·have c1' : (sm (gl0 st) l.length=S)=False:=eq_false c1
   refine V.run ?_
   refine VI.steps' 7 (by simp +contextual (disch:=first|omega|simp only[nx];omega) only[D4,qF,qG,qA,qB,qC,D5,hF,hA,↓reduceIte,qD,qE,bX.2,c1',not_true_eq_false,not_false_eq_true];with_reducible rfl) ?_
   simp only[ds]
   refine VI.callAT zG rfl (f34_ok (m:=m) (S:=S) (L:=L) (h.grow gXX) hl8 hb) zA (fun Ha ga=>?_)
   refine VI.l0 ?_
   refine zS ?_
   refine V.ret (V.rets rfl (Lv.retF (by simp +contextual (disch:=first|omega|simp only[nx];omega) only[D1,cells_alloc_at,cells_alloc_ne,cells_set_at,cells_set_ne,yres,yres1,yresL,qA,qB,qC,D5,hF,hA,↓reduceIte,qD,qE];rfl) ?_))
   refine⟨gXX.trans ga,_,rfl,?_⟩
   rw[decide_eq_true_eq]
   exact⟨fun k=>⟨hll,by rw[← hA0,← hB0];exact hab,.inr k⟩,fun k=>k.2.2.elim (fun k=>absurd k c1) id⟩
theorem f4_all {H : Heap} {m S L : Int} {x y : Value} {l st : List Int} (hx : Sl H x (l.map I)) (hy : Sl H y (st.map I)) : F Try.prog 4 ⟨[.agg ⟨A3 m S L⟩,x,y]⟩ H (fun w _=>w=.bool true):=by
 have h : LS H x l:=⟨hx⟩
 have hst : LS H y st:=⟨hy⟩
 have hl:=h.len
 have hsl:=hst.len
 obtain⟨px,nx',cx,rfl⟩:=h.s.isS
 obtain⟨py,ny',cy,rfl⟩:=hst.s.isS
 refine F.entryL rfl dg4 do4 de4 rfl (by kernel_rfl) ?_
 simp only[sets]
 refine V.re [(0,.agg ⟨A3 m S L⟩),(1,.slice px nx' cx),(2,.slice py ny' cy)] (N:=39) zE zY ?_
 intro t hF hA
 simp only[Kn,and_true] at hA
 refine zS ?_
 refine V.l0 ?_
 refine V.heap (fun X=>Grow H X∧Bx X H.next (A3 m S L) 23) ⟨?_,?_⟩ ?_
 ·exact zW
 ·exact zB
 rintro H1 ⟨g1,b1⟩
 refine zS ?_
 have zf:=And.intro @hl<|@hsl
 refine V.lz ?_
 refine zS ?_
 refine V.condP zP (fun hbig=>?_) (fun hbig=>?_)
 ·refine zS ?_
  refine V.run ?_
  refine VI.callA rfl (f20_ok _) zA (fun H3 g3=>?_)
  refine VI.l0 ?_
  refine zS ?_
  refine V.ret (V.rets rfl (Lv.retF (by simp +contextual (disch:=first|omega|simp only[nx];omega) only[D1,cells_alloc_at,cells_alloc_ne,cells_set_at,cells_set_ne,yres,yres1,yresL,qA,qB,qC,D5,hF,hA,↓reduceIte,qD,qE];rfl) ?_))
  rfl
 have hbig2 : ¬ (11 : Int)<l.length∧¬ (11 : Int)<st.length:=by
  refine⟨fun hh=>hbig (by simp[hh]),fun hh=>hbig (by simp[hh])⟩
 refine zS ?_
 refine V.run ?_
 have zf:=b1.2
 refine VI.sz 1 ?_
 simp only[ds]
 refine VI.callA rfl (f22_ok m S L _) zA (fun H6 g6=>?_)
 refine VI.s0 1 ?_
 simp only[ds]
 refine VI.callR zA (f24_ok (h.grow (g1.trans g6)) (by omega)) zA (fun w7 H7 ⟨g7,o7⟩=>?_)
 refine VI.s0 1 ?_
 simp only[ds]
 refine VI.callR zA (f24_ok (hst.grow ((g1.trans g6).trans g7)) (by omega)) zA (fun w8 H8 ⟨g8,o8⟩=>?_)
 have gH8:=((g1.trans g6).trans g7).trans g8
 have b8:=((b1.grow g6).grow g7).grow g8
 have f29':=f29_ok (m:=m) (S:=S) (L:=L) ((ow_ls o7).grow g8) (ow_ls o8)
 by_cases h0 : flt m S L l=0
 ·have h0' : (flt m S L l=0)=True:=eq_true h0
  by_cases hP : PRV m S L l st
  ·rw[decide_eq_true hP] at f29'
   refine VI.callA rfl (f29') zA (fun H9 g9=>?_)
   have gH9:=gH8.trans g9
   have b9:=b8.grow g9
   refine VI.l0 ?_
   refine zS ?_
   refine V.run ?_
   have zf:=b9.2
   refine VI.sz 3 ?_
   simp only[ds]
   refine VI.callA rfl (f25_ok (m:=m) (S:=S) (L:=L) (h.grow gH9)) zA (fun Ha ga=>?_)
   have gHa:=gH9.trans ga
   have ba:=b9.grow ga
   have zf:=And.intro @h0'<|ba.2
   refine VI.sz 5 ?_
   simp only[ds]
   refine VI.callRT zG zA (f30_ok (m:=m) (S:=S) (L:=L) (h.grow gHa) (hst.grow gHa) h0) zA (fun wb Hb ⟨gb,r,hwb,hrb⟩=>?_)
   subst hwb
   obtain rfl : r=true:=hrb.2 ((prv_isr h0).1 hP)
   have zf:=@bin_bb
   refine VI.sz 3 ?_
   simp only[ds]
   refine VI.callAT zG rfl (f20_ok _) zA (fun Hc gc=>?_)
   refine VI.l0 ?_
   refine zS ?_
   refine V.ret (V.rets rfl (Lv.retF (by simp +contextual (disch:=first|omega|simp only[nx];omega) only[D1,cells_alloc_at,cells_alloc_ne,cells_set_at,cells_set_ne,yres,yres1,yresL,qA,qB,qC,D5,hF,hA,↓reduceIte,qD,qE];rfl) ?_))
   rfl
  ·rw[decide_eq_false hP] at f29'
   refine VI.callA rfl (f29') zA (fun H9 g9=>?_)
   have gH9:=gH8.trans g9
   have b9:=b8.grow g9
   refine VI.l0 ?_
   refine zS ?_
   refine V.run ?_
   have zf:=b9.2
   refine VI.sz 3 ?_
   simp only[ds]
   refine VI.callA rfl (f25_ok (m:=m) (S:=S) (L:=L) (h.grow gH9)) zA (fun Ha ga=>?_)
   have gHa:=gH9.trans ga
   have ba:=b9.grow ga
   have zf:=And.intro @h0'<|ba.2
   refine VI.sz 5 ?_
   simp only[ds]
   refine VI.callRT zG zA (f30_ok (m:=m) (S:=S) (L:=L) (h.grow gHa) (hst.grow gHa) h0) zA (fun wb Hb ⟨gb,r,hwb,hrb⟩=>?_)
   subst hwb
   obtain rfl : r=false:=by
    cases r
    ·rfl
    ·exact absurd ((prv_isr h0).2 (hrb.1 rfl)) hP
   have zf:=@bin_bb
   refine VI.sz 3 ?_
   simp only[ds]
   refine VI.callAT zG rfl (f20_ok _) zA (fun Hc gc=>?_)
   refine VI.l0 ?_
   refine zS ?_
   refine V.ret (V.rets rfl (Lv.retF (by simp +contextual (disch:=first|omega|simp only[nx];omega) only[D1,cells_alloc_at,cells_alloc_ne,cells_set_at,cells_set_ne,yres,yres1,yresL,qA,qB,qC,D5,hF,hA,↓reduceIte,qD,qE];rfl) ?_))
   rfl
 ·have h0' : (flt m S L l=0)=False:=eq_false h0
  have hP : ¬ PRV m S L l st:=fun k=>h0 k.1
  rw[decide_eq_false hP] at f29'
  refine VI.callA rfl (f29') zA (fun H9 g9=>?_)
  have gH9:=gH8.trans g9
  have b9:=b8.grow g9
  refine VI.l0 ?_
  refine zS ?_
  refine V.run ?_
  have zf:=b9.2
  refine VI.sz 3 ?_
  simp only[ds]
  refine VI.callA rfl (f25_ok (m:=m) (S:=S) (L:=L) (h.grow gH9)) zA (fun Ha ga=>?_)
  have zf:=@h0'
  refine VI.sz 5 ?_
  simp only[ds]
  refine VI.gdF zG ?_
  have zf:=@bin_bb
  refine VI.sz 3 ?_
  simp only[ds]
  refine VI.callAT zG rfl (f20_ok _) zA (fun Hc gc=>?_)
  refine VI.l0 ?_
  refine zS ?_
  refine V.ret (V.rets rfl (Lv.retF (by simp +contextual (disch:=first|omega|simp only[nx];omega) only[D1,cells_alloc_at,cells_alloc_ne,cells_set_at,cells_set_ne,yres,yres1,yresL,qA,qB,qC,D5,hF,hA,↓reduceIte,qD,qE];rfl) ?_))
  rfl
end Go.Xe.TVX
/- Rules of reasoning over the executable reading of the model's code (part Z16): arguments, by what their types allow. Conditions: none; for every program. -/
namespace Go.Xe
open Go Go.RowKit Go.ChangeShapes Go.WideShapes
theorem okWide_agg {P : Program} {w : World} {r : Reach} {base : Nat} {t : TypeId} {v : Value} {fs : Array Field} (ht : P.underlying t=some (.struct fs)) (h : Value.okWide P w r base t v) : ∃ cs,v=.agg cs:=by
 unfold Value.okWide at h
 rw[ht] at h
 obtain⟨cs,h,_⟩:=h
 exact⟨cs,h⟩
end Go.Xe
/- The end of a call that has changed nothing of what was there: what a statement asks of the memory behind it. Conditions: as post_of_same's, but that new memory may be frozen. -/
namespace Go.Xe
open Go Go.RowKit Go.ChangeShapes Go.WideShapes
variable {H : Type} {enc : TypeId×Value→H} {P : Program}
theorem post_of_old {f : Func} {s : ChangeSpec} {apart fresh handsOn again : Bool} {W W' : World} {args : Array Value} {v : Value} {ds gs : List (DataW H)} {before pa pv : List MemPlace}
  (hW : DataW.Whole enc P f.params.toList s.vars apart W args.toList ds gs before)
  (hres : ∀ (b : Nat) (sp : Nat→Bool) (hd : Bool),DataW.TrodAll enc P W' b sp hd f.resultTypes.toList (v.resultList f.resultTypes.size) (s.fn H (ds++gs)).results [])
  (hargs : ∀ sp : Nat→Bool,(∀ p∈before,sp p.block=true)→DataW.TrodAll enc P W' 0 sp true f.params.toList args.toList (s.fn H (ds++gs)).args pa)
  (hvars : ∀ sp : Nat→Bool,(∀ p∈before,sp p.block=true)→DataW.TrodVars enc P W' sp s.vars (s.fn H (ds++gs)).vars pv)
  (hps : before=pa++pv) (hk : W.keptBut W' (·∈before)) (hfz : ∀ a : Addr,a.block<W.heap.size→W'.frozen? a=W.frozen? a)
  (hok : ∀ (j : Nat) (t : TypeId) (r : Value),f.resultTypes[j]?=some t→(v.resultList f.resultTypes.size)[j]?=some r→Value.okWide P W' .any 0 t r) :
  s.post enc P f apart fresh handsOn again W args v W':=by
 have old : ∀ p∈before,p.block<W.heap.size:=fun p hp=>hW.lt p hp
 have hold : ∀ p∈before,(fun b=>decide (b<W.heap.size)) p.block=true:=fun p hp=>by simpa using old p hp
 subst hps
 refine⟨ds,gs,_,[],pa,pv,hW,hres _ _ _,hargs _ hold,hvars _ hold,World.keptBut_mono (fun p hp=>⟨hp,.inr (List.mem_append.1 hp)⟩) hk,fun _=>?_⟩
 obtain⟨_,_,_,_,_,hz,hn⟩:=hW
 refine⟨hok,_,_,([]++pa)++pv,⟨[]++pa,pv,trodAll_append (hargs _ (fun _ _=>rfl)) (hres _ _ _),hvars _ (fun _ _=>rfl),rfl,?_,?_⟩,?_⟩
 ·intro b off hp
  have hp' : MemPlace.cell b off∈pa++pv:=by simpa using hp
  rw[hfz _ (old _ hp')]
  exact hz b off hp'
 ·intro ha
  simpa using hn ha
 ·intro p hp _
  simpa using hp
end Go.Xe
