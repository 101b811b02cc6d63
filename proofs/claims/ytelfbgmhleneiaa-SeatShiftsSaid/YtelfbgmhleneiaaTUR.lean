/- What the functions of the layer seat come to: SeatGives. Conditions: none. -/
import Derived.Test.YtelfbgmhleneiaaTUO
-- MOD TV
-- NOCODE 23
namespace Go.Xe.TVX
open Go Go.Xe Go.Proofs
open Nat renaming reduceLeDiff → qA, reduceSub → qB, reduceAdd → qC, reduceEqDiff → qD, reduceLT → qE
open Int renaming reduceNegSucc → qF, reduceEq → qG
open Go.Xe.V renaming seq → sA, block → sB, scope → sC, skip → sD, close → sE
open Go.Xe renaming pth → P
open Go.Xe.Sea
set_option maxRecDepth 100000
set_option maxHeartbeats 3200000
set_option linter.unusedSimpArgs false
noncomputable def d27 : FCode:=(.seq (.run (.go (.box 23 (tm 0)) (P 2)::
.go (.move (.con (.slice none 0 0))) (P 4)::
.go (.move (.con (.bool false))) (P 5)::
[])) (.seq (.run (.go (.loadN 3 (tm 2)) (P 10)::
.go (.move (tm 1)) (P 11)::
.go (.call (.con (.func (.func 42) ⟨[]⟩ ⟨[]⟩)) [(tm 10),(tm 11)]) (P 12)::
.go (.move (tm 12)) (P 9)::
.go (.extract (tm 9) 0) (P 13)::
.go (.extract (tm 9) 1) (P 14)::
.go (.move (tm 13)) (P 6)::
.go (.move (tm 14)) (P 7)::
[])) (.seq (.seq (.run (.go (.move (.con (.int .i64 (.ofNat 0)))) (P 8)::
[])) (.block 0 (.loop (.seq (.seq (.run (.go (.move (tm 8)) (P 15)::
.go (.move (tm 1)) (P 16)::
.go (.len 0 (tm 16)) (P 17)::
.go (.bin .lss 3 (tm 15) (tm 17)) (P 18)::
[])) (.cond (tm 18) .skip (.exit 0))) (.seq (.block 1 (.seq (.draw 9 (.go (.move (tm 6)) (P 21)::
.go (.move (tm 8)) (P 22)::
.go (.indexAddr none 1 (tm 21) (tm 22)) (P 23)::
.go (.load1 (tm 23)) (P 24)::
.go (.move (tm 7)) (P 25)::
.go (.move (tm 8)) (P 26)::
.go (.indexAddr none 1 (tm 25) (tm 26)) (P 27)::
.go (.load1 (tm 27)) (P 28)::
.go (.bin .neq 3 (tm 24) (tm 28)) (P 29)::
[]) [.ok,.ok,.ok,.ok,.ok,.ok,.ok,.ok,.ok]) (.cond (tm 29) (.seq (.run (.go (.move (.con (.slice none 0 0))) (P 4)::
.go (.move (.con (.bool false))) (P 5)::
[])) .ret) .skip))) (.run (.go (.move (tm 8)) (P 19)::
.go (.bin .add 3 (tm 19) (.con (.int .i64 (.ofNat 1)))) (P 20)::
.go (.move (tm 20)) (P 8)::
[]))))))) (.seq (.run (.go (.move (tm 6)) (P 30)::
.go (.move (tm 30)) (P 4)::
.go (.move (.con (.bool true))) (P 5)::
[])) .ret))))
theorem de27 : @compF Try.prog (Gl.none Try.prog) Try.f27 2=.mk d27 (mkTT 31) [(P 0),(P 1)] [.tmp (P 4),.tmp (P 5)]:=by kernel_rfl
theorem dg27 : Try.prog.funcs[27]?=some Try.f27:=Try.func27
theorem do27 : okF Try.prog Try.f27=true:=by kernel_rfl
noncomputable def d3 : FCode:=(.seq (.run (.go (.box 23 (tm 0)) (P 2)::
.go (.move (.con (.bool false))) (P 4)::
[])) (.seq (.seq (.run (.go (.move (tm 1)) (P 11)::
.go (.len 0 (tm 11)) (P 12)::
.go (.bin .gtr 3 (tm 12) (.con (.int .i64 (.ofNat 11)))) (P 13)::
[])) (.cond (tm 13) (.seq (.run (.go (.call (.con (.func (.func 20) ⟨[]⟩ ⟨[]⟩)) []) (P 14)::
.go (.move (tm 14)) (P 4)::
[])) .ret) .skip)) (.seq (.run (.go (.loadN 3 (tm 2)) (P 15)::
.go (.call (.con (.func (.func 22) ⟨[]⟩ ⟨[]⟩)) [tm 15]) (P 16)::
.go (.call (.con (.func (.func 21) ⟨[]⟩ ⟨[]⟩)) [tm 16]) (P 17)::
.go (.move (tm 17)) (P 5)::
[])) (.seq (.run (.go (.loadN 3 (tm 2)) (P 19)::
.go (.call (.con (.func (.func 22) ⟨[]⟩ ⟨[]⟩)) [tm 19]) (P 20)::
.go (.move (tm 1)) (P 21)::
.go (.call (.con (.func (.func 24) ⟨[]⟩ ⟨[]⟩)) [tm 21]) (P 22)::
.go (.call (.con (.func (.func 23) ⟨[]⟩ ⟨[]⟩)) [(tm 20),(tm 22)]) (P 23)::
.go (.move (tm 23)) (P 18)::
.go (.extract (tm 18) 0) (P 24)::
.go (.extract (tm 18) 1) (P 25)::
.go (.move (tm 24)) (P 6)::
.go (.move (tm 25)) (P 7)::
[])) (.seq (.run (.go (.loadN 3 (tm 2)) (P 26)::
.go (.move (tm 1)) (P 27)::
.go (.call (.con (.func (.func 25) ⟨[]⟩ ⟨[]⟩)) [(tm 26),(tm 27)]) (P 28)::
.go (.move (tm 28)) (P 8)::
[])) (.seq (.seq (.run (.go (.move (tm 5)) (P 29)::
.go (.loadN 3 (tm 2)) (P 30)::
.go (.call (.con (.func (.func 26) ⟨[]⟩ ⟨[]⟩)) [tm 30]) (P 31)::
.go (.bin .neq 26 (tm 29) (tm 31)) (P 32)::
[])) (.cond (tm 32) (.seq (.run (.go (.move (.con (.bool false))) (P 4)::
[])) .ret) .skip)) (.seq (.seq (.run (.go (.move (tm 8)) (P 33)::
.go (.bin .neq 26 (tm 33) (.con (.int .i64 (.ofNat 0)))) (P 34)::
[])) (.cond (tm 34) (.seq (.run (.go (.move (tm 7)) (P 35)::
.go (.move (tm 8)) (P 36)::
.go (.bin .eql 26 (tm 35) (tm 36)) (P 37)::
.go (.move (tm 37)) (P 38)::
.gd (P 38) true (.move (tm 6)) (P 39)::
.gd (P 38) true (.len 0 (tm 39)) (P 40)::
.gd (P 38) true (.bin .eql 3 (tm 40) (.con (.int .i64 (.ofNat 0)))) (P 41)::
.go (.pick (tm 38) (tm 41) (.con (.bool false))) (P 42)::
.go (.move (tm 42)) (P 43)::
.gd (P 43) true (.call (.con (.func (.func 20) ⟨[]⟩ ⟨[]⟩)) []) (P 44)::
.go (.pick (tm 43) (tm 44) (.con (.bool false))) (P 45)::
.go (.move (tm 45)) (P 4)::
[])) .ret) .skip)) (.seq (.run (.go (.loadN 3 (tm 2)) (P 47)::
.go (.move (tm 1)) (P 48)::
.go (.call (.con (.func (.func 27) ⟨[]⟩ ⟨[]⟩)) [(tm 47),(tm 48)]) (P 49)::
.go (.move (tm 49)) (P 46)::
.go (.extract (tm 46) 0) (P 50)::
.go (.extract (tm 46) 1) (P 51)::
.go (.move (tm 50)) (P 9)::
.go (.move (tm 51)) (P 10)::
[])) (.seq (.seq (.run (.go (.move (tm 10)) (P 52)::
.go (.un .not (tm 52)) (P 53)::
[])) (.cond (tm 53) (.seq (.run (.go (.move (tm 7)) (P 54)::
.go (.bin .eql 26 (tm 54) (.con (.int .i64 (.ofNat 10)))) (P 55)::
.go (.move (tm 55)) (P 56)::
.gd (P 56) true (.move (tm 6)) (P 57)::
.gd (P 56) true (.len 0 (tm 57)) (P 58)::
.gd (P 56) true (.bin .eql 3 (tm 58) (.con (.int .i64 (.ofNat 0)))) (P 59)::
.go (.pick (tm 56) (tm 59) (.con (.bool false))) (P 60)::
.go (.move (tm 60)) (P 61)::
.gd (P 61) true (.call (.con (.func (.func 20) ⟨[]⟩ ⟨[]⟩)) []) (P 62)::
.go (.pick (tm 61) (tm 62) (.con (.bool false))) (P 63)::
.go (.move (tm 63)) (P 4)::
[])) .ret) .skip)) (.seq (.run (.go (.move (tm 7)) (P 64)::
.go (.bin .eql 26 (tm 64) (.con (.int .i64 (.ofNat 0)))) (P 65)::
.go (.move (tm 65)) (P 66)::
.gd (P 66) true (.move (tm 6)) (P 67)::
.gd (P 66) true (.move (tm 9)) (P 68)::
.gd (P 66) true (.call (.con (.func (.func 28) ⟨[]⟩ ⟨[]⟩)) [(tm 67),(tm 68)]) (P 69)::
.go (.pick (tm 66) (tm 69) (.con (.bool false))) (P 70)::
.go (.move (tm 70)) (P 71)::
.gd (P 71) true (.call (.con (.func (.func 20) ⟨[]⟩ ⟨[]⟩)) []) (P 72)::
.go (.pick (tm 71) (tm 72) (.con (.bool false))) (P 73)::
.go (.move (tm 73)) (P 4)::
[])) .ret))))))))))
abbrev okS (m S : Int) (l : List Int) : Prop:=(1≤m∧m≤5)∧(0≤S∧S≤61)∧l.length≤8∧∀ v∈l,0≤v∧v≤10000
theorem okS_of {m S L : Int} {l : List Int} (h0 : flt m S L l=0) : okS m S l∧okS m (S+1) l:=by
 obtain⟨hr,hl8,hb⟩:=flt_0.1 h0
 have h1:=hr.2.2.1
 have h2:=hr.2.2.2.1
 exact⟨⟨⟨hr.1,hr.2.1⟩,⟨by omega,by omega⟩,hl8,hb⟩,⟨hr.1,hr.2.1⟩,⟨by omega,by omega⟩,hl8,hb⟩
theorem f42_any {H : Heap} {m S L : Int} {x : Value} {l : List Int} (h : LS H x l) (hg : okS m S l) : F Try.prog 42 ⟨[.agg ⟨A3 m S L⟩,x]⟩ H (fun w X=>Grow H X∧SPR m S L l X w):=
 f42_ok h hg (fun h5 hN X g=>by subst h5;exact f69_ok (h.grow g) hg.2 hN)
def RSL (m S L : Int) (l : List Int) (X : Heap) (w : Value) : Prop:=(sure m S (vl L l)∧∃ y,w=.tuple ⟨[y,.bool true]⟩∧LS X y (fl l.length (otc m S (vl L l)).1))∨(¬ sure m S (vl L l)∧w=.tuple ⟨[.slice none 0 0,.bool false]⟩)
theorem f27_any {H : Heap} {m S L : Int} {x : Value} {l : List Int} (h : LS H x l) (hg : okS m S l) : F Try.prog 27 ⟨[.agg ⟨A3 m S L⟩,x]⟩ H (fun w X=>Grow H X∧RSL m S L l X w):=by
 have hl:=h.len
 obtain⟨px,nx',cx,rfl⟩:=h.s.isS
 obtain⟨hm5,hS,hl8,hb⟩:=id hg
 have hvk:=vl_ok (L:=L) hb
 have hv8:=vl_8 (L:=L) hl8
 have F0:=otc_fin (m:=m) hvk hS hv8
 have hbd:=Fin.bd F0 hS.1
 obtain⟨A,hA0⟩ : ∃ A,A=(otc m S (vl L l)).1:=⟨_,rfl⟩
 obtain⟨B,hB0⟩ : ∃ B,B=(otc m S (vl L l)).2:=⟨_,rfl⟩
 have hz : ∀ p,l.length≤p→A p=B p:=fun p hp=>by
  have hn : ¬ 0<vl L l p:=by rw[vl_out hp];omega
  rw[hA0,hB0]
  rcases F0.2 with⟨_,_,e⟩|⟨_,_,e⟩|⟨_,_,_,e⟩
  ·rw[e]
  ·rw[e]
  ·rw[e];unfold Sea.up;rw[if_neg (fun k=>hn (mem_tp.1 k).2.1)]
 have hsu : sure m S (vl L l)↔∀ p,p<l.length→A p=B p:=by
  unfold sure eq8
  rw[← hA0,← hB0]
  refine⟨fun k p hp=>k p (by omega),fun k p hp=>?_⟩
  by_cases hpl : p<l.length
  ·exact k p hpl
  ·exact hz p (by omega)
 refine F.entryL rfl dg27 do27 de27 rfl (by kernel_rfl) ?_
 simp only[sets]
 refine V.re [(0,.agg ⟨A3 m S L⟩),(1,.slice px nx' cx)] (N:=31) zE zY ?_
 intro t hF hA
 simp only[Kn,and_true] at hA
 refine zS ?_
 refine V.l0 ?_
 refine V.heap (fun X=>Grow H X∧Bx X H.next (A3 m S L) 23) ⟨?_,?_⟩ ?_
 ·exact zW
 ·exact zB
 rintro H1 ⟨g1,b1⟩
 refine zS ?_
 refine V.run ?_
 have zf:=b1.2
 refine VI.sz 2 ?_
 simp only[ds]
 refine VI.callR zA (f42_any (m:=m) (S:=S) (L:=L) (h.grow g1) hg) zA (fun w2 H2 ⟨g2,y1,y2,hw2,q1,q2⟩=>?_)
 subst hw2
 rw[← hA0] at q1
 rw[← hB0] at q2
 have g12:=g1.trans g2
 have ql:=q1.len
 refine VI.l0 ?_
 refine zS ?_
 refine V.l0 ?_
 refine zS ?_
 refine V.loop (fun z t mm X=>∃ (p : Nat),p≤l.length∧z=l.length-p∧mm=[]∧X=H2∧(∀ i,i<p→A i=B i)∧Full 31 t∧Kn [(1,.slice px nx' cx),(6,y1),(7,y2),(8,I p)] t) l.length ?_ ?_
 ·exact⟨0,by omega,by omega,rfl,rfl,fun i hi=>by omega,zF,zK⟩
 clear hF hA
 rintro z t mm X ⟨p,hp,rfl,rfl,hX,hi,hF,hA⟩
 obtain rfl : H2=X:=hX.symm
 simp only[Kn,and_true] at hA
 refine zS ?_
 have zf:=@hl
 refine V.lz ?_
 refine zS ?_
 refine V.condP zP (fun hlt=>?_) (fun hlt=>?_)
 ·have hlt' : p<l.length:=by omega
  obtain⟨pa,pa1,pa2⟩:=q1.at (k:=p) (by rw[fl_len];exact hlt')
  obtain⟨pb,pb1,pb2⟩:=q2.at (k:=p) (by rw[fl_len];exact hlt')
  have pa3:=pa2 H2 (.refl _)
  have pb3:=pb2 H2 (.refl _)
  rw[fl_at] at pa3 pb3
  refine zS ?_
  have zf:=And.intro @pa1<|And.intro @pa3<|And.intro @pb1<|@pb3
  refine V.dz ?_ ?_ rfl ?_
  ·exact zM
  ·simp only[dcAll,dcOk,wantD,List.cons_append,List.nil_append,true_and,and_true]
  refine zS ?_
  refine V.condP zP (fun hne=>?_) (fun hne=>?_)
  ·refine zS ?_
   refine V.l0 ?_
   refine zS ?_
   refine V.ret (V.rets rfl (Or.inr ⟨by simp,V.rets rfl (Lv.retF (by simp +contextual (disch:=first|omega|simp only[nx];omega) only[D1,cells_alloc_at,cells_alloc_ne,cells_set_at,cells_set_ne,yres,yres1,yresL,qA,qB,qC,D5,hF,hA,↓reduceIte,qD,qE];rfl) ?_)⟩))
   exact⟨g12,.inr ⟨fun k=>hne ((hsu.1 k) p hlt'),rfl⟩⟩
  ·refine zS ?_
   refine V.l0 ?_
   refine V.nil (Or.inl ⟨rfl,l.length-(p+1),by omega,?_⟩)
   refine⟨p+1,hlt',rfl,rfl,rfl,fun i hi2=>?_,zF,zK⟩
   rcases Nat.lt_succ_iff_lt_or_eq.1 hi2 with h2|rfl
   ·exact hi i h2
   ·exact Decidable.not_not.1 hne
 ·obtain rfl : p=l.length:=by omega
  refine V.exit ?_
  refine zX ?_
  refine V.nil (Or.inr ⟨by simp,?_⟩)
  refine zX ?_
  refine zS ?_
  refine V.l0 ?_
  refine zS ?_
  refine V.ret (V.rets rfl (Lv.retF (by simp +contextual (disch:=first|omega|simp only[nx];omega) only[D1,cells_alloc_at,cells_alloc_ne,cells_set_at,cells_set_ne,yres,yres1,yresL,qA,qB,qC,D5,hF,hA,↓reduceIte,qD,qE];rfl) ?_))
  refine⟨g12,.inl ⟨hsu.2 hi,_,rfl,?_⟩⟩
  rw[← hA0]
  exact q1
theorem f27_ok {H : Heap} {m S L : Int} {x : Value} {l : List Int} (h : LS H x l) (h0 : flt m S L l=0) : F Try.prog 27 ⟨[.agg ⟨A3 m S L⟩,x]⟩ H (fun w X=>Grow H X∧RSL m S L l X w):=f27_any h (okS_of h0).1
end Go.Xe.TVX
/- What the functions of the layer seat come to: SeatProves. Conditions: none. -/
-- MOD TV
namespace Go.Xe.TVX
open Go Go.Xe Go.Proofs
open Nat renaming reduceLeDiff → qA, reduceSub → qB, reduceAdd → qC, reduceEqDiff → qD, reduceLT → qE
open Int renaming reduceNegSucc → qF, reduceEq → qG
open Go.Xe.V renaming seq → sA, block → sB, scope → sC, skip → sD, close → sE
open Go.Xe renaming pth → P
open Go.Xe.Sea
set_option maxRecDepth 100000
set_option maxHeartbeats 3200000
set_option linter.unusedSimpArgs false
section
variable {m S : Int} {v : Nat→Int}
theorem fact5 (hv : vok v) (hS : 0≤S∧S≤61) (hv8 : ∀ p,¬ p<8→v p=0) (hN : 0<sm v 8) {p : Nat} (hp : p<8) (vp : 0<v p) :
  ((otc 5 S v).1 p=(shr S v p).1∨((otc 5 S v).1 p=(shr S v p).1+1∧0<(shr S v p).2))∧((otc 5 S v).2 p=(shr S v p).1∨((otc 5 S v).2 p=(shr S v p).1+1∧0<(shr S v p).2)):=by
 obtain⟨hA,hB⟩:=spread5 hv hS hv8 hN hp vp
 obtain⟨K,hK⟩ : ∃ K,K=sm (fun q=>if 0<(shr S v q).2 then (1 : Int) else 0) 8:=⟨_,rfl⟩
 have q2:=(shr_sums hv hS).2 hN
 have zr : ∀ q,0<(shr S v q).2→v q≠0:=fun q h k=>by unfold shr at h;rw[if_pos k] at h;simp at h
 have bs : ∀ q,q<8→0≤(shr S v q).2:=fun q hq=>(shr_bd hv hS hq).2.1
 have eK : sm (fun q=>shi S v q) 8=sm (fun q=>(shr S v q).1) 8+K:=by
  rw[hK,← sm_add]
  refine sm_cong fun q hq=>?_
  have:=bs q hq
  unfold shi
  split<;>split<;>omega
 have hl : rleft S v≤K:=by unfold rleft;omega
 have pos : ∀ q,q<8→0<(shr S v q).2→0<v q:=fun q hq h=>by
  have:=zr q h
  have:=(hv q hq).1
  omega
 constructor
 ·split at hA
  ·rename_i h
   refine .inr ⟨hA,Decidable.by_contra fun k=>?_⟩
   have : K<rBE S v p:=by
    rw[hK]
    unfold rBE
    refine sm_lt (p:=p) (fun q hq=>?_) hp ?_
    ·by_cases k2 : 0<(shr S v q).2
     ·rw[if_pos k2,if_pos ⟨pos q hq k2,by omega⟩];omega
     ·rw[if_neg k2];split<;>omega
    ·rw[if_neg k,if_pos ⟨vp,Int.le_refl _⟩];omega
   omega
  ·exact .inl (by omega)
 ·split at hB
  ·rename_i h
   refine .inr ⟨hB,Decidable.by_contra fun k=>?_⟩
   have : K≤rbe S v p:=by
    rw[hK]
    unfold rbe
    refine sm_le (fun q hq=>?_)
    by_cases k2 : 0<(shr S v q).2
    ·rw[if_pos k2,if_pos ⟨pos q hq k2,by omega⟩];omega
    ·rw[if_neg k2];split<;>omega
   omega
  ·exact .inl (by omega)
theorem rl5 {N : Int} (hN : 0<N) (a b : Int) : qlt (a,N) (b,N)↔a<b:=by
 rw[qlt_nz (by simp only;omega)]
 exact⟨fun k=>Int.lt_of_mul_lt_mul_right k (by omega),fun k=>Int.mul_lt_mul_of_pos_right k hN⟩
theorem r05 {N : Int} (b : Int) : qlt (0,1) (b,N)↔0<b:=by
 rw[qlt_nz (by simp)]
 simp only
 omega
theorem cl5 {p : Nat} {s : Int} : clq 5 S v p s=if s<(shr S v p).1 then (1,0) else if s=(shr S v p).1 then ((shr S v p).2,sm v 8) else (0,1):=by
 unfold clq;rw[if_pos rfl]
theorem sharp (hv : vok v) (hS : 0≤S∧S≤61) (hv8 : ∀ p,¬ p<8→v p=0) (hN : 0<sm v 8) {p q : Nat} (hp : p<8) (vp : 0<v p) (hq : q<8) (vq : 0<v q) (h : 0<(otc m S v).1 p) : qlt (clq m S v q ((otc m S v).1 q)) (clq m S v p ((otc m S v).1 p-1)):=by
 by_cases h5 : m=5
 ·subst h5
  have bp:=shr_bd hv hS hp
  have bq:=shr_bd hv hS hq
  have fq:=(fact5 hv hS hv8 hN hq vq).1
  have fin : ∀ a : Int,0≤a→qlt (a,sm v 8) (1,0):=fun a ha=>qlt_nzz (by simp only;omega) rfl ⟨ha,by simp only;omega,by simp only;omega⟩ ⟨by simp,by simp,by simp⟩
  rcases (fact5 hv hS hv8 hN hp vp).1 with e|⟨e,r⟩
  ·have e2 : clq 5 S v p ((otc 5 S v).1 p-1)=(1,0):=by rw[cl5,if_pos (by omega)]
   rw[e2]
   rcases fq with k|⟨k,_⟩
   ·rw[cl5,if_neg (by omega),if_pos k];exact fin _ bq.2.1
   ·rw[cl5,if_neg (by omega),if_neg (by omega)];exact qlt_nzz (by simp) rfl ⟨by simp,by simp,by simp⟩ ⟨by simp,by simp,by simp⟩
  ·have e2 : clq 5 S v p ((otc 5 S v).1 p-1)=((shr S v p).2,sm v 8):=by rw[cl5,if_neg (by omega),if_pos (by omega)]
   rw[e2]
   rcases fq with k|⟨k,_⟩
   ·rw[cl5,if_neg (by omega),if_pos k,rl5 hN]
    apply Decidable.by_contra
    intro hh
    have hA:=(spread5 hv hS hv8 hN hp vp).1
    have hA':=(spread5 hv hS hv8 hN hq vq).1
    have h1 : rBE S v q≤rBE S v p:=by
     unfold rBE
     refine sm_le fun o _=>?_
     by_cases k2 : 0<v o∧(shr S v q).2≤(shr S v o).2
     ·rw[if_pos k2,if_pos ⟨k2.1,by omega⟩];omega
     ·rw[if_neg k2];split<;>omega
    have h2 : rBE S v p≤rleft S v:=by
     apply Decidable.by_contra
     intro k2
     rw[if_neg k2] at hA
     omega
    rw[if_pos (by omega)] at hA'
    omega
   ·rw[cl5,if_neg (by omega),if_neg (by omega),r05]
    exact r
 ·have F:=(otc_fin (m:=m) hv hS hv8).1
  exact F.strict (fun p t h ht=>clq_str h5 h ht) p q _ hp vp hq vq (by omega) (by omega)
theorem is_res (hv : vok v) (hS : 0≤S∧S≤61) (hv8 : ∀ p,¬ p<8→v p=0) {s : Nat→Int} (hs : ∀ p,p<8→0≤s p) :
  RES m S v s↔(∀ p,p<8→(otc m S v).1 p≤s p∧s p≤(otc m S v).2 p)∧(sm s 8=S∨¬ 0<sm v 8):=by
 have F0:=otc_fin (m:=m) hv hS hv8
 have hbd:=Fin.bd F0 hS.1
 have hsb:=sm_bd hv
 have ok : ∀ q (t : Int),q<8→0<v q→0≤t→qok (clq m S v q t):=fun q t hq hvq ht=>clq_ok hv hS hq hvq ht
 have dec : ∀ q (a b : Int),q<8→0<v q→0≤a→a≤b→¬ qlt (clq m S v q a) (clq m S v q b):=fun q a b hq hvq ha hab=>clq_le' hv hS hq hvq ha hab
 by_cases hN : 0<sm v 8
 rotate_left
 ·have hno : ∀ p,p<8→¬ 0<v p:=fun p hp hh=>hN ((sm_pos' hv).2 ⟨p,hp,hh⟩)
  have eA:=sure_none hno F0
  have eB : (otc m S v).2=fun _=>0:=by
   rcases F0.2 with⟨_,_,e⟩|⟨⟨p,h1,h2⟩,_⟩|⟨⟨p,h1,h2⟩,_⟩
   ·rw[e,eA]
   ·exact absurd h2 (hno p h1)
   ·exact absurd h2 (hno p h1)
  rw[eA,eB]
  constructor
  ·intro R
   refine⟨fun p hp=>?_,.inr hN⟩
   have h1:=R.1.1 p hp
   have h2:=hs p hp
   have h3:=(hv p hp).1
   have h4:=hno p hp
   dsimp only
   refine⟨h2,Decidable.by_contra fun k=>h1 ⟨by omega,by omega⟩⟩
  ·rintro⟨h,_⟩
   have hz : ∀ p,p<8→s p=0:=fun p hp=>by have:=h p hp;dsimp only at this;omega
   refine⟨⟨fun p hp k=>by have:=hz p hp;omega,?_⟩,fun p q hp vp=>absurd vp (hno p hp)⟩
   have : sm s 8=sm (fun _=>0) 8:=sm_cong fun p hp=>hz p hp
   rw[this,sm_0]
   unfold due
   rw[if_pos (by omega)]
 have hdue : due S v=S:=by unfold due;rw[if_neg (by omega)]
 have shp:=fun (p q : Nat) hp vp hq vq h=>sharp (m:=m) (p:=p) (q:=q) hv hS hv8 hN hp vp hq vq h
 obtain⟨F,hF⟩:=F0
 obtain⟨A,hA⟩ : ∃ A,A=(otc m S v).1:=⟨_,rfl⟩
 obtain⟨B,hB⟩ : ∃ B,B=(otc m S v).2:=⟨_,rfl⟩
 rw[← hA,← hB] at hF hbd
 rw[← hA] at F shp
 rw[← hA,← hB]
 obtain⟨bd1,bd2,_,bd3⟩:=hbd
 have nn:=F.nn
 have zA : ∀ q,¬ 0<v q→A q=0:=fun q hq=>F.adm q (fun k=>hq k.2)
 have hB1 : ∀ q,B q=A q∨(B q=A q+1∧q<8∧0<v q∧(∀ o,o<8→0<v o→¬ qlt (clq m S v q (A q)) (clq m S v o (A o)))):=fun q=>by
  rcases hF with⟨_,_,e⟩|⟨_,_,e⟩|⟨_,_,_,e⟩
  ·exact .inl (by rw[e])
  ·exact .inl (by rw[e])
  ·by_cases k : q∈tp v (fun p=>clq m S v p (A p)) 8
   ·refine .inr ⟨by rw[e];unfold Sea.up;rw[if_pos k],mem_tp.1 k⟩
   ·exact .inl (by rw[e];unfold Sea.up;rw[if_neg k])
 constructor
 ·rintro⟨⟨r1,r2⟩,r3⟩
  rw[hdue] at r2
  have vpos : ∀ q,q<8→0<s q→0<v q:=fun q hq k=>by
   have:=r1 q hq
   have:=(hv q hq).1
   apply Decidable.by_contra
   intro k2
   exact r1 q hq ⟨k,by omega⟩
  have lowS : ∀ p,p<8→A p≤s p:=by
   intro p hp
   apply Decidable.by_contra
   intro hh
   have s0:=hs p hp
   have vp : 0<v p:=Decidable.by_contra fun k=>by have:=zA p k;omega
   have : ∃ q,q<8∧A q<s q:=by
    apply Decidable.by_contra
    intro k
    have:=sm_lt (s:=s) (t:=A) (p:=p) (n:=8) (fun q hq=>Decidable.by_contra fun k2=>k ⟨q,hq,by omega⟩) hp (by omega)
    omega
   obtain⟨q,hq,hl⟩:=this
   have n0:=nn q
   have vq:=vpos q hq (by omega)
   refine r3 p q hp vp hq vq (by omega) ?_
   have c1:=ok q (s q-1) hq vq (by omega)
   have c2:=ok q (A q) hq vq n0
   have c3:=ok p (A p-1) hp vp (by omega)
   have c4:=ok p (s p) hp vp s0
   exact qlt_le c1 c3 c4 (le_qlt c1 c2 c3 (dec q (A q) (s q-1) hq vq n0 (by omega)) (shp p q hp vp hq vq (by omega))) (dec p (s p) (A p-1) hp vp s0 (by omega))
  refine⟨fun q hq=>⟨lowS q hq,?_⟩,.inl r2⟩
  apply Decidable.by_contra
  intro hh
  have n0:=nn q
  have lq:=(bd2 q).1
  have vq:=vpos q hq (by omega)
  have : ∃ x,x<8∧s x<B x:=by
   apply Decidable.by_contra
   intro k
   have h1:=sm_lt (s:=B) (t:=s) (p:=q) (n:=8) (fun x hx=>Decidable.by_contra fun k2=>k ⟨x,hx,by omega⟩) hq (by omega)
   have h2 : S≤sm B 8:=by
    rcases hF with⟨h,_⟩|⟨_,e,eB⟩|⟨_,e1,e2,eB⟩
    ·exact absurd vq (h q hq)
    ·rw[eB];omega
    ·rw[eB,sm_up tp_nodup (fun q hq=>(mem_tp.1 hq).1)];omega
   omega
  obtain⟨x,hx,hl⟩:=this
  have lx:=lowS x hx
  rcases hB1 x with k|⟨k,_,vx,top⟩
  ·omega
  have ex : s x=A x:=by omega
  have cx:=ok x (A x) hx vx (nn x)
  have c1:=ok q (s q-1) hq vq (by omega)
  have c2:=ok q (A q) hq vq n0
  refine r3 x q hx vx hq vq (by omega) ?_
  rw[ex]
  rcases hB1 q with k2|⟨k2,_,_,topq⟩
  ·-- q is none of the tops
   have nt : ¬ ∀ o,o<8→0<v o→¬ qlt (clq m S v q (A q)) (clq m S v o (A o)):=by
    intro hall
    rcases hF with⟨h,_⟩|⟨_,e,eB⟩|⟨_,_,_,eB⟩
    ·exact h q hq vq
    ·rw[eB] at k;omega
    ·have : q∈tp v (fun p=>clq m S v p (A p)) 8:=mem_tp.2 ⟨hq,vq,hall⟩
     rw[eB] at k2
     unfold Sea.up at k2
     rw[if_pos this] at k2
     omega
   have : ∃ o,o<8∧0<v o∧qlt (clq m S v q (A q)) (clq m S v o (A o)):=by
    apply Decidable.by_contra
    intro hh2
    exact nt (fun o ho hvo kk=>hh2 ⟨o,ho,hvo,kk⟩)
   obtain⟨o,ho,vo,kk⟩:=this
   exact le_qlt c1 c2 cx (dec q (A q) (s q-1) hq vq n0 (by omega)) (qlt_le c2 (ok o (A o) ho vo (nn o)) cx kk (top o ho vo))
  ·-- q is one of them and has two more
   have c5:=ok q (A q+1) hq vq (by omega)
   have d1:=dec q (A q+1) (s q-1) hq vq (by omega) (by omega)
   have d2 : qlt (clq m S v q (A q+1)) (clq m S v x (A x)):=by
    by_cases h5 : m=5
    ·subst h5
     have fq:=fact5 hv hS hv8 hN hq vq
     have fx:=fact5 hv hS hv8 hN hx vx
     rw[← hA,← hB] at fq fx
     have aq : A q=(shr S v q).1:=by rcases fq with⟨f1|f1,f2|f2⟩<;>omega
     have ax : A x=(shr S v x).1∧0<(shr S v x).2:=by rcases fx with⟨f1|f1,f2|f2⟩<;>omega
     have e1 : clq 5 S v q (A q+1)=(0,1):=by rw[cl5,if_neg (by omega),if_neg (by omega)]
     have e2 : clq 5 S v x (A x)=((shr S v x).2,sm v 8):=by rw[cl5,if_neg (by omega),if_pos (by omega)]
     rw[e1,e2,r05]
     exact ax.2
    ·exact qlt_le c5 c2 cx (clq_str h5 vq n0) (top q hq vq)
   exact le_qlt c1 c5 cx d1 d2
 ·rintro⟨hab,hsum⟩
  have hsum : sm s 8=S:=hsum.elim id (fun k=>absurd hN k)
  refine⟨⟨fun p hp k=>?_,by rw[hdue];exact hsum⟩,fun p q hp vp hq vq hsq hh=>?_⟩
  ·have h1:=(hab p hp).2
   have nv : ¬ 0<v p:=by omega
   have h2:=zA p nv
   rcases hB1 p with k2|⟨_,_,vp,_⟩
   ·omega
   ·exact nv vp
  ·have np:=nn p
   have nq:=nn q
   have ap:=(hab p hp).1
   have aq:=(hab q hq)
   have c1:=ok q (s q-1) hq vq (by omega)
   have c2:=ok p (s p) hp vp (by omega)
   have c3:=ok p (A p) hp vp np
   have d1:=dec p (A p) (s p) hp vp np ap
   have d2 : qlt (clq m S v q (s q-1)) (clq m S v p (A p)):=qlt_le c1 c2 c3 hh d1
   by_cases k : s q=A q
   ·rw[k] at d2 hsq
    exact F.weak q p (A q-1) hq vq hp vp (by omega) (by omega) d2
   ·rcases hB1 q with k2|⟨k2,_,_,topq⟩
    ·omega
    ·have : s q-1=A q:=by omega
     rw[this] at d2
     exact topq p hp vp d2
end
end Go.Xe.TVX
