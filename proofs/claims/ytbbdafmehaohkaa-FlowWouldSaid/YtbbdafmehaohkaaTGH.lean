/- What the functions of the layer flow come to: the bounds of all sizes. Conditions: none. -/
import Derived.Test.YtbbdafmehaohkaaTKA
import Derived.Test.YtbbdafmehaohkaaZx
-- MOD TF
namespace Go.Xe.TFX
open Go Go.Xe Go.Proofs
open Nat renaming reduceLeDiff → qA, reduceSub → qB, reduceAdd → qC, reduceEqDiff → qD, reduceLT → qE
open Int renaming reduceNegSucc → qF, reduceEq → qG
open Go.Xe.V renaming seq → sA, block → sB, scope → sC, skip → sD, close → sE
open Go.Xe renaming pth → P
open Go.Xe.Flw
set_option maxRecDepth 100000
set_option maxHeartbeats 3200000
set_option linter.unusedSimpArgs false
noncomputable def d31 : FCode:=(.seq (.run (.go (.box 38 (tm 0)) (P 1)::
.go (.move (.con (.slice none 0 0))) (P 2)::
.go (.move (.con (.int .i64 (.ofNat 0)))) (P 3)::
[])) (.seq (.run (.go (.loadN 4 (tm 1)) (P 11)::
.go (.call (.con (.func (.func 72) ⟨[]⟩ ⟨[]⟩)) [tm 11]) (P 12)::
.go (.move (tm 12)) (P 10)::
.go (.extract (tm 10) 0) (P 13)::
.go (.extract (tm 10) 1) (P 14)::
.go (.alloc 135 [(.slice none 0 0),(.slice none 0 0),(.slice none 0 0),(.slice none 0 0),(.bool false),(.bool false),(.bool false),(.bool false),(.bool false),(.bool false),(.bool false),(.bool false),(.bool false),(.bool false),(.bool false),(.bool false),(.bool false),(.bool false),(.bool false),(.bool false),.nilFunc,.nilFunc]) (P 4)::
.un (.store 22 (tm 4) (tm 13))::
.go (.move (tm 14)) (P 5)::
[])) (.seq (.seq (.run (.go (.move (tm 5)) (P 15)::
.go (.bin .neq 33 (tm 15) (.con (.int .i64 (.ofNat 0)))) (P 16)::
[])) (.cond (tm 16) (.seq (.run (.go (.move (tm 5)) (P 17)::
.go (.move (.con (.slice none 0 0))) (P 2)::
.go (.move (tm 17)) (P 3)::
[])) .ret) .skip)) (.seq (.run (.go (.loadN 22 (tm 4)) (P 19)::
.go (.call (.con (.func (.func 73) ⟨[]⟩ ⟨[]⟩)) [tm 19]) (P 20)::
.go (.move (tm 20)) (P 18)::
.go (.extract (tm 18) 0) (P 21)::
.go (.extract (tm 18) 1) (P 22)::
.go (.alloc 138 [(.map none)]) (P 6)::
.un (.store 1 (tm 6) (tm 21))::
.go (.move (tm 22)) (P 7)::
[])) (.seq (.seq (.run (.go (.move (tm 7)) (P 23)::
.go (.un .not (tm 23)) (P 24)::
[])) (.cond (tm 24) (.seq (.run (.go (.move (.con (.slice none 0 0))) (P 2)::
.go (.move (.con (.int .i64 (.ofNat 9)))) (P 3)::
[])) .ret) .skip)) (.seq (.run (.go (.fieldAddr 0 (tm 1)) (P 25)::
.go (.load1 (tm 25)) (P 26)::
.go (.len 0 (tm 26)) (P 27)::
.go (.makeSlice 36 1 24 [(.slice none 0 0)] (tm 27) (tm 27)) (P 28)::
.go (.alloc 35 [(.slice none 0 0)]) (P 8)::
.un (.store 1 (tm 8) (tm 28))::
[])) (.seq (.seq (.run (.go (.loadN 22 (tm 4)) (P 29)::
.go (.call (.con (.func (.func 74) ⟨[]⟩ ⟨[]⟩)) [tm 29]) (P 30)::
[])) (.block 0 (.rangeFunc (tm 30) [(P 31)] (rfA Try.f31 0) (rfB Try.f31 0) (.run (.go (.alloc 74 [(.int .i64 (.ofNat 0)),(.int .i64 (.ofNat 0))]) (P 9)::
.un (.store 2 (tm 9) (tm 31))::
[])) (.block 1 (.draw 15 (.go (.load1 (tm 8)) (P 32)::
.go (.fieldAddr 0 (tm 9)) (P 33)::
.go (.load1 (tm 33)) (P 34)::
.go (.load1 (tm 8)) (P 35)::
.go (.fieldAddr 0 (tm 9)) (P 36)::
.go (.load1 (tm 36)) (P 37)::
.go (.indexAddr none 1 (tm 35) (tm 37)) (P 38)::
.go (.load1 (tm 38)) (P 39)::
.go (.load1 (tm 6)) (P 40)::
.go (.loadN 2 (tm 9)) (P 41)::
.go (.lookup 74 (.agg ⟨[(.int .i64 (.ofNat 0)),(.int .i64 (.ofNat 0))]⟩) (tm 40) (tm 41) false) (P 42)::
.go (.buildSlice 69 1 [(.int .i64 (.ofNat 0)),(.int .i64 (.ofNat 0))] [(0,2,(tm 42))]) (P 43)::
.go (.append 69 2 16 (tm 39) (tm 43)) (P 44)::
.go (.indexAddr none 1 (tm 32) (tm 34)) (P 45)::
.un (.store 1 (tm 45) (tm 44))::
[]) [.rd none (.load1 (tm 8)) (some (P 32)) [12,13],.ok,.rd none (.load1 (tm 33)) (some (P 34)) [12,13],.rd none (.load1 (tm 8)) (some (P 35)) [12],.ok,.rd none (.load1 (tm 36)) (some (P 37)) [12],.ok,.rd none (.load1 (tm 38)) (some (P 39)) [12],.ok,.ok,.ok,.ok,.ok,.ok,.ok]))))) (.seq (.run (.go (.load1 (tm 8)) (P 46)::
.go (.move (tm 46)) (P 2)::
.go (.move (.con (.int .i64 (.ofNat 0)))) (P 3)::
[])) .ret))))))))
theorem de31 : @compF Try.prog (Gl.none Try.prog) Try.f31 1=.mk d31 (mkTT 47) [(P 0)] [.tmp (P 2),.tmp (P 3)]:=by kernel_rfl
theorem dg31 : Try.prog.funcs[31]?=some Try.f31:=Try.func31
theorem do31 : okF Try.prog Try.f31=true:=by kernel_rfl
def rowk (f : Sf) (G k c : Nat) : List R2:=(List.range (min G (k-c*G))).map fun (g : Nat)=>va0 f ((c : Int),(g : Int))
def rcell (l : List R2) : Nat×List Value:=(l.length,(l.map r2).flatten)
def rowsk (f : Sf) (K G k : Nat) : List (Nat×List Value):=(List.range K).map fun c=>rcell (rowk f G k c)
def bdl (f : Sf) (K G : Nat) : List (List R2):=(List.range K).map fun (c : Nat)=>(List.range G).map fun (g : Nat)=>va0 f ((c : Int),(g : Int))
theorem rowsk_len (f : Sf) (K G k : Nat) : (rowsk f K G k).length=K:=by simp[rowsk]
theorem rowsk_at (f : Sf) {K G k c : Nat} (h : c<(rowsk f K G k).length) : (rowsk f K G k)[c]=rcell (rowk f G k c):=by simp[rowsk]
theorem rowsk_0 (f : Sf) (K G : Nat) : rowsk f K G 0=List.replicate K (0,[]):=by
 apply List.ext_getElem
 ·simp[rowsk]
 ·intro c h1 h2
  simp[rowsk,rowk,rcell]
theorem rowsk_e (f : Sf) (K G : Nat) : rowsk f K G (K*G)=(bdl f K G).map rcell:=by
 unfold rowsk bdl
 rw[List.map_map]
 refine List.map_congr_left (fun c hc=>?_)
 have hc:=List.mem_range.1 hc
 have h1:=Nat.mul_le_mul_right G (show c+1≤K from hc)
 rw[Nat.add_mul,Nat.one_mul] at h1
 have e : min G (K*G-c*G)=G:=by omega
 unfold rowk
 rw[e]
 rfl
theorem rowk_len {f : Sf} {G c g k : Nat} (hg : g<G) (hk : c*G+g=k) : (rowk f G k c).length=g:=by
 unfold rowk
 rw[List.length_map,List.length_range]
 omega
theorem rowk_s {f : Sf} {G c g k : Nat} (hg : g<G) (hk : c*G+g=k) : rowk f G (k+1) c=rowk f G k c++[va0 f ((c : Int),(g : Int))]:=by
 unfold rowk
 have e1 : min G (k+1-c*G)=g+1:=by omega
 have e2 : min G (k-c*G)=g:=by omega
 rw[e1,e2,List.range_succ,List.map_append]
 rfl
theorem rowk_ne {f : Sf} {G c g k c' : Nat} (hg : g<G) (hk : c*G+g=k) (hc : c'≠c) : rowk f G (k+1) c'=rowk f G k c':=by
 unfold rowk
 have e : min G (k+1-c'*G)=min G (k-c'*G):=by
  rcases Nat.lt_or_gt_of_ne hc with h|h
  ·have h1:=Nat.mul_le_mul_right G (show c'+1≤c from h)
   rw[Nat.add_mul,Nat.one_mul] at h1
   omega
  ·have h1:=Nat.mul_le_mul_right G (show c+1≤c' from h)
   rw[Nat.add_mul,Nat.one_mul] at h1
   omega
 rw[e]
theorem rcell_s {l : List R2} (x : R2) : rcell (l++[x])=((rcell l).1+1,(rcell l).2++r2 x):=by
 simp[rcell]
theorem rcell_w (l : List R2) : (rcell l).2.length=(rcell l).1*2:=by
 unfold rcell
 have:=flat_len (RS_len l)
 simp only[this,List.length_map]
theorem rowsk_s {f : Sf} {K G c g k : Nat} (hg : g<G) (hk : c*G+g=k) : rowsk f K G (k+1)=(rowsk f K G k).set c ((rcell (rowk f G k c)).1+1,(rcell (rowk f G k c)).2++r2 (va0 f ((c : Int),(g : Int)))):=by
 apply List.ext_getElem
 ·simp[rowsk]
 ·intro j h1 h2
  rw[rowsk_at]
  by_cases hj : j=c
  ·subst hj
   rw[List.getElem_set_self,rowk_s hg hk,rcell_s]
  ·rw[List.getElem_set_ne (Ne.symm hj),rowsk_at,rowk_ne hg hk hj]
theorem mk_slices (H : Heap) (e : TypeId) (k : Nat) (hk : k≤1048576) : ymakeSlice e 24 [.slice none 0 0] H (I k) (I k)=some (.slice (some ⟨H.next,0,none⟩) k k,H.alloc (.cells ⟨List.replicate k (.slice none 0 0)⟩ e true)):=by
 have e48 : (2 : Nat) ^ 48=281474976710656:=by decide
 have ez : zeros ⟨[.slice none 0 0]⟩ ((k : Int).toNat*[Value.slice none 0 0].length)=⟨List.replicate k (.slice none 0 0)⟩:=by
  apply Array.toList_inj.1
  simp only[zeros,Array.toList_map,Array.toList_range,List.length_cons,List.length_nil]
  apply List.ext_getElem
  ·simp
  ·intro j h1 h2
   simp[Nat.mod_one]
 simp only[ymakeSlice]
 rw[if_pos ⟨by omega,by omega,by omega,by omega⟩,ez]
 simp
abbrev u0 : Nat→Bool:=fun _=>false
theorem f31_ok {H : Heap} {c b r n : Value} {T : Tb} (h : TV H c b r n T) (hs : sh T) : F Try.prog 31 ⟨[.agg ⟨[c,b,r,n]⟩]⟩ H (fun w X=>Grow H X∧((flt T≠0∧w=.tuple ⟨[.slice none 0 0,I (flt T)]⟩)∨(flt T=0∧¬ ok T u0∧w=.tuple ⟨[.slice none 0 0,I 9]⟩)∨(flt T=0∧ok T u0∧∃ s,w=.tuple ⟨[s,I 0]⟩∧Nest RS X s (bdl (bnd T u0) T.C.length (grp T))))):=by
 have hcl:=h.c.len
 have lok:=LG_ok (u:=u0) h.c.isS (rp.sl h.b) (rp.sl h.r) (rp.sl h.n)
 have hset:=LG_set (c:=c) (b:=b) (r:=r) (n:=n) (u:=u0) (l:=LG0) rfl
 have l0 : LG0.length=22:=rfl
 refine F.entryL rfl dg31 do31 de31 rfl (by kernel_rfl) ?_
 simp only[sets]
 refine V.re [(0,.agg ⟨[c,b,r,n]⟩)] (N:=47) zE zY ?_
 intro t hF hA
 simp only[Kn,and_true] at hA
 refine zS ?_
 refine V.l0 ?_
 refine V.heap (fun X=>Grow H X∧Bx X H.next [c,b,r,n] 38) ⟨?_,?_⟩ ?_
 ·exact zW
 ·exact zB
 rintro H1 ⟨g1,b1⟩
 refine zS ?_
 refine V.run ?_
 have zf:=b1.2
 refine VI.sz 1 ?_
 simp only[ds]
 refine VI.callA rfl (f72_ok (h.grow g1) hs) zA (fun H2 g2=>?_)
 have b2:=b1.grow g2
 have nb:=b2.1
 have g12:=g1.trans g2
 by_cases h0 : flt T=0
 ·rw[if_pos h0]
  have hfv:=flt_0.1 h0
  obtain⟨hf,hv⟩:=hfv
  have hf1:=hf.1
  have hf2:=hf.2
  have hv1:=hv.1
  have hKG : T.C.length*grp T≤1000:=Nat.le_trans (Nat.mul_le_mul hf1 hf2) (by decide)
  unfold LG0 at hset l0
  simp only[List.cons_append,List.nil_append] at hset l0
  have zf:=And.intro @LG_len<|And.intro @lok<|And.intro @hset<|@l0
  refine VI.lz ?_
  refine V.heap (fun X=>Grow H X∧Bx X H.next [c,b,r,n] 38∧Bx X H2.next (LG c b r n u0) 135) ⟨?_,?_,?_⟩ ?_
  ·exact zW
  ·exact zB
  ·exact zB
  rintro H3 ⟨g3,b3,c3⟩
  have n3:=c3.1
  refine zS ?_
  refine V.l0 ?_
  refine zS ?_
  refine V.condP zP (fun hq=>?_) (fun hq=>?_)
  ·exact absurd h0 hq
  refine zS ?_
  refine V.run ?_
  have zf:=And.intro c3.2<|And.intro @LG_t22<|@LG_len
  refine VI.sz 1 ?_
  simp only[ds]
  refine VI.callR zA (f73_ok (u:=u0) (h.grow g3) hf hv) zA (fun w H4 ⟨g4,hw⟩=>?_)
  have b4:=b3.grow g4
  have c4:=c3.grow g4
  have n4:=g4.1
  have g14:=g3.trans g4
  rcases hw with⟨hk',i,rfl,m4,_⟩|⟨hk,rfl⟩
  ·have zf:=@hcl
   refine VI.lz ?_
   refine V.heap (fun X=>Grow H X∧Bx X H.next [c,b,r,n] 38∧Bx X H2.next (LG c b r n u0) 135∧Bx X H4.next [.map (some i)] 138∧SZ X i (bnd T u0)) ⟨?_,?_,?_,?_,?_⟩ ?_
   ·exact zW
   ·exact zB
   ·exact zB
   ·exact zB
   ·exact (m4.grow ((Grow.refl H4).alloc _)).growS (U:=(·=H4.next)) (GrowS.setAt _ _ _) (by have:=m4.lt;omega)
   rintro H5 ⟨g5,b5,c5,d5,m5⟩
   have n5:=d5.1
   have li5:=m5.lt
   obtain⟨bb5,bc5⟩:=b5
   have mkr:=mk_slices H5 36 T.C.length (by omega)
   refine zS ?_
   refine V.l0 ?_
   refine zS ?_
   refine V.condF zA ?_
   refine zS ?_
   have zf:=And.intro @bc5<|And.intro @hcl<|@mkr
   refine V.lz ?_
   refine V.heap (fun X=>Grow H5 X∧Bx X H5.next (List.replicate T.C.length (.slice none 0 0)) 36∧Bx X (H5.next+1) [.slice (some ⟨H5.next,0,none⟩) T.C.length T.C.length] 35) ⟨?_,?_,?_⟩ ?_
   ·exact zW
   ·exact zB
   ·exact zB
   rintro H6 ⟨g6,r6,s6⟩
   have c6:=c5.grow g6
   have d6:=d5.grow g6
   have m6:=m5.grow g6
   have g16:=g5.trans g6
   have n6:=s6.1
   refine zS ?_
   refine V.run ?_
   have zf:=And.intro c6.2<|And.intro @LG_t22<|@LG_len
   refine VI.sz 1 ?_
   simp only[ds]
   refine VI.callR zA (f74_ok (c:=c) (b:=b) (r:=r) (n:=n) (u:=u0) (H:=H6)) zA (fun v8 H7 ⟨p,hp,hp1,g7,p7⟩=>?_)
   subst hp
   refine VI.l0 ?_
   have d7:=d6.grow g7
   have r7:=r6.grow g7
   have s7:=s6.grow g7
   have m7:=m6.grow g7
   have g17:=g16.trans g7
   have np:=p7.1
   have li:=m7.lt
   have lr7:=r7.1
   have ls7:=s7.1
   have ld7:=d7.1
   have n7:=g7.1
   have n56:=g6.1
   refine zS ?_
   refine V.re [(6,PT H4.next),(8,PT (H5.next+1)),(30,.func (.func 119) ⟨[]⟩ ⟨[PT p]⟩)] (N:=47) zF zK ?_
   clear hF hA
   intro t hF hA
   simp only[Kn,and_true] at hA
   refine V.rangeL (f119_iter h g17 p7 (by omega) (by omega)) (fun y=>y=H5.next∨H7.next+1<y) (fun k X=>Bx X H4.next [.map (some i)] 138∧Bx X (H5.next+1) [.slice (some ⟨H5.next,0,none⟩) T.C.length T.C.length] 35∧SZ X i (bnd T u0)∧∃ vs col,Bx X H5.next vs 36∧Rws (H7.next+2) col (fun k=>k) X 69 vs (rowsk (bnd T u0) T.C.length (grp T) k)) (fun _ _=>False)
    zA rfl (Nat.le_succ _) ?_ ?_ ?_ (fun _ _ _ _ _ h=>h.elim) ?_ ?_ ?_
   ·rintro j (rfl|hj)
    ·exact⟨p7.1,by omega,by rw[Heap.get_alloc,if_neg (by omega)]⟩
    ·exact⟨by omega,by omega,by rw[Heap.get_alloc,if_neg (by omega)]⟩
   ·intro l hl
    obtain⟨q,_,rfl⟩:=List.mem_map.1 hl
    rfl
   ·rintro k X X' r1 r2' ⟨h1,h2,h3,vs,col,h4,h5⟩ _ _ g
    simp only[Heap.next_alloc] at g
    exact⟨h1.growS g (by omega),h2.growS g (by omega),h3.growS g (by omega),vs,col,h4.growS g (by omega),h5.growS g (fun i hi=>by omega)⟩
   ·intro r'
    have g : Grow H7 ((H7.alloc (.deferred true)).alloc (.loop r')):=((Grow.refl H7).alloc _).alloc _
    refine⟨d7.grow g,s7.grow g,m7.grow g,_,fun _=>0,r7.grow g,?_⟩
    rw[rowsk_0]
    refine⟨by simp,fun k x r hx hr=>?_⟩
    rw[List.getElem?_replicate] at hx hr
    split at hx
    ·rename_i hlt
     rw[if_pos hlt] at hr
     rw[← Option.some.inj hx,← Option.some.inj hr]
     exact .nil
    ·cases hx
   ·rintro k hk r' X ⟨h1,h2,h3,vs,col,h4,h5⟩ hg hlX hl hr
    rw[celL_len] at hk
    rw[celL_q]
    simp only[sets]
    simp only[Heap.next_alloc] at hlX hl
    have hG : 0<grp T:=by omega
    have hc : k/grp T<T.C.length:=(Nat.div_lt_iff_lt_mul hG).2 hk
    have hg' : k%grp T<grp T:=Nat.mod_lt _ hG
    have hkk : k/grp T*grp T+k%grp T=k:=by rw[Nat.mul_comm];exact Nat.div_add_mod k (grp T)
    generalize k/grp T=cc at *
    generalize k%grp T=gg at *
    have hxy : okK ((cc : Int),(gg : Int)):=⟨by simp only;omega,by simp only;omega⟩
    obtain⟨v,w1,w2,w3,w4,_⟩:=bnd_iff hf hv hk' hc hg'
    refine zS ?_
    refine V.l0 ?_
    refine V.heap (fun Y=>Grow X Y∧Bx Y X.next (A2 (cc : Int) (gg : Int)) 74) ⟨?_,?_⟩ ?_
    ·exact zW
    ·exact zB
    rintro X1 ⟨gx,x4⟩
    have nx:=gx.1
    have hl1 : X1.get (H7.next+1)=some (.loop r'):=(gx.2 _ hlX).trans hl
    refine V.nil ⟨rfl,hl1,gx.s,?_⟩
    intro X2 _ hl2 g2'
    simp only[Heap.next_alloc] at g2' hl2
    have h1:=(h1.grow gx).growS g2' (by omega)
    have h2:=(h2.grow gx).growS g2' (by omega)
    have h3:=(h3.grow gx).growS g2' (by omega)
    have h4:=(h4.grow gx).growS g2' (by omega)
    have h5:=(h5.st (C:=fun _=>False) (col':=pnt col X.next (cc+1)) (H':=X1) ⟨gx.1,fun i hi=>pnt_ne (by omega),fun i hi _=>gx.2 i hi⟩ (fun _ _=>id)).growS g2' (fun i hi=>by omega)
    have x4:=x4.growS g2' (by omega)
    have nx2:=g2'.1
    have lk:=h3.look hxy
    rw[w1] at lk
    simp only[Option.getD_some] at lk
    obtain⟨x,hvx,hoc⟩:=h5.at (k:=cc) (by rw[rowsk_len];exact hc)
    rw[rowsk_at] at hoc
    have hrl:=rowk_len (f:=bnd T u0) hg' hkk
    obtain⟨uu,X3,a1,a2,a3,a4,a5,a6,pp,a7,a8⟩:=Oc.push (bytes:=16) (w:=2) (x:=r2 v) (by decide) hoc (by omega) (rcell_w _) rfl rfl (by simp only[rcell,hrl];omega) (by simp only[rcell,hrl];omega)
    have ix : ∀ kd,yindexAddr none 1 (.slice (some ⟨H5.next,0,none⟩) T.C.length T.C.length) (.int kd (cc : Int))=some (.pointer (some ⟨H5.next,cc,none⟩)):=fun kd=>by
     simp only[yindexAddr]
     rw[if_pos ⟨by omega,by omega⟩]
     simp
    have hvl : cc<vs.length:=(List.getElem?_eq_some_iff.1 hvx).1
    have h23:=a4.bx h2 (by omega)
    have h43:=a4.bx h4 (by omega)
    have lh4:=h4.1
    have lh2:=h2.1
    have lx4:=x4.1
    have lh1:=h1.1
    obtain⟨xp,xn,xc,rfl⟩:=hoc.slice
    subst a7
    have gs3 : GrowS (fun y=>y=H5.next∨H7.next+1<y) X2 X3:=⟨a4.1,fun q hq hu=>a4.2 q (by omega)⟩
    have x43 : Bx X3 X.next (A2 (cc : Int) (gg : Int)) 74:=⟨by omega,by
     have:=x4.2
     unfold Heap.cellsAt at this ⊢
     rw[a3.2.2 X.next (by omega) (.inr (by rw[pnt_at];show ¬ (_=_);omega))]
     exact this⟩
    refine zS ?_
    have zf:=And.intro h1.2<|And.intro h2.2<|And.intro h4.2<|And.intro x4.2<|And.intro @lk<|And.intro @ix<|And.intro @hvx<|And.intro @a1<|And.intro h23.2<|And.intro h43.2<|@hvl
    refine V.dz ?_ ?_ rfl ?_
    ·exact zM
    ·simp only[dcAll,dcOk,wantD,List.cons_append,List.nil_append,true_and,and_true]
     have zf:=And.intro h2.2<|And.intro h23.2<|And.intro x4.2<|And.intro x43.2<|And.intro h4.2<|And.intro h43.2<|@hvx
     exact⟨zR,zR,zR,zR,zR⟩
    refine zS ?_
    refine V.nil ⟨?_,gs3.set (.inl (.inl rfl)) _,.inl ⟨rfl,?_,?_,?_,vs.set cc _,pnt (pnt col X.next (cc+1)) (X2.next+1) cc,⟨by simp only[Heap.next_set];exact h43.1,cells_set _ _ _ _ _⟩,?_⟩⟩
    ·show (X3.set H5.next _).get (H7.next+1)=_
     rw[Heap.get_set,if_neg (by omega)]
     exact (gs3.2 (H7.next+1) (by omega) (by show ¬ (_∨_);omega)).trans hl2
    ·exact (h1.growS gs3 (by show ¬ (_∨_);omega)).set (by omega) _
    ·exact (h2.growS gs3 (by show ¬ (_∨_);omega)).set (by omega) _
    ·exact (h3.growS gs3 (by show ¬ (_∨_);omega)).growS (U:=(·=H5.next)) (GrowS.setAt _ _ _) (by omega)
    ·rw[rowsk_s hg' hkk]
     have hup:=h5.upd a3 (fun j hj=>hj) a2
     have ev : va0 (bnd T u0) ((cc : Int),(gg : Int))=v:=va0_some w1
     rw[ev]
     exact hup.put (by omega) _
   ·rintro e X hh hg hlX
    simp only[Heap.next_alloc] at hlX
    have hgd : X.get H7.next=some (.deferred true):=by
     rw[hg.2 _ (by simp only[Heap.next_alloc];omega) (by simp only[Heap.next_alloc];omega),Heap.get_alloc,if_pos rfl]
    have gAX : ∀ q,q<H.next→X.get q=H.get q:=fun q hq=>by
     have n17:=g17.1
     rw[hg.2 q (by simp only[Heap.next_alloc];omega) (by simp only[Heap.next_alloc];omega),Heap.get_alloc,if_neg (by omega),g17.2 q hq]
    rcases hh with⟨rfl,h1,h2,h3,vs,col,h4,h5⟩|⟨_,hh⟩
    ·rw[celL_len] at h5
     rw[rowsk_e] at h5
     have hn : ∀ o,Nest RS (X.set H7.next o) (.slice (some ⟨H5.next,0,none⟩) T.C.length T.C.length) (bdl (bnd T u0) T.C.length (grp T)):=fun o=>by
      have h4:=h4.set (j:=H7.next) (by omega) o
      have h5:=h5.put (i:=H7.next) (by omega) o
      have ho : Sl (X.set H7.next o) (.slice (some ⟨H5.next,0,none⟩) T.C.length T.C.length) vs:=by
       have hl : vs.length=T.C.length:=by rw[h5.1];simp[bdl]
       refine .at h4.1 h4.2 (Nat.le_refl _) hl (by simp;omega) (fun k y hy=>?_)
       rw[Nat.zero_add]
       exact (arr_get _ _).trans hy
      exact h5.nest (R:=RS) rcell ho (fun k x r hr hx=>by
       have h1 : Oc (H7.next+2) col k (X.set H7.next o) 69 x (r.map r2).length (r.map r2).flatten:=by rw[List.length_map];exact hx
       exact (h1.w (H0:=H) (w:=2) (by have:=g17.1;omega)).sw (RS_len r))
     refine zS ?_
     have zf:=h2.2
     refine V.lz ?_
     refine zS ?_
     refine V.ret (V.rets rfl (Lv.retM hgd (by simp +contextual (disch:=first|omega|simp only[nx];omega) only[D1,cells_set_at,cells_set_ne,yres,yres1,yresL,qA,qB,qC,h2.2,D5,hF,hA,↓reduceIte,qD,qE];rfl) ?_))
     refine⟨⟨by simp only[Heap.next_set];have:=g17.1;omega,fun q hq=>?_⟩,.inr (.inr ⟨h0,hk',_,rfl,hn _⟩)⟩
     rw[Heap.get_set,if_neg (by have:=g17.1;omega)]
     exact gAX q hq
    ·exact hh.elim
  ·refine VI.l0 ?_
   refine zS ?_
   refine V.l0 ?_
   refine zS ?_
   refine V.condT zA ?_
   refine zS ?_
   refine V.l0 ?_
   refine zS ?_
   refine V.ret (V.rets rfl (Lv.retF (by simp +contextual (disch:=first|omega|simp only[nx];omega) only[D1,cells_alloc_at,cells_alloc_ne,cells_set_at,cells_set_ne,yres,yres1,yresL,qA,qB,qC,D5,hF,hA,↓reduceIte,qD,qE];rfl) ?_))
   refine⟨?_,.inr (.inl ⟨h0,hk,rfl⟩)⟩
   exact zW
 ·rw[if_neg h0]
  unfold LG0
  simp only[List.cons_append,List.nil_append]
  refine VI.l0 ?_
  refine zS ?_
  refine V.l0 ?_
  refine zS ?_
  refine V.condP zP (fun hq=>?_) (fun hq=>?_)
  ·refine zS ?_
   refine V.l0 ?_
   refine zS ?_
   refine V.ret (V.rets rfl (Lv.retF (by simp +contextual (disch:=first|omega|simp only[nx];omega) only[D1,cells_alloc_at,cells_alloc_ne,cells_set_at,cells_set_ne,yres,yres1,yresL,qA,qB,qC,D5,hF,hA,↓reduceIte,qD,qE];rfl) ?_))
   refine⟨?_,.inl ⟨h0,rfl⟩⟩
   exact zW
  ·exact absurd h0 hq
end Go.Xe.TFX
/- What the functions of the layer flow come to: the tables that fail. Conditions: none. -/
-- MOD TF
namespace Go.Xe.TFX
open Go Go.Xe Go.Proofs
open Nat renaming reduceLeDiff → qA, reduceSub → qB, reduceAdd → qC, reduceEqDiff → qD, reduceLT → qE
open Int renaming reduceNegSucc → qF, reduceEq → qG
open Go.Xe.V renaming seq → sA, block → sB, scope → sC, skip → sD, close → sE
open Go.Xe renaming pth → P
open Go.Xe.Flw
set_option maxRecDepth 100000
set_option maxHeartbeats 3200000
set_option linter.unusedSimpArgs false
def TL (H : Heap) (x : Value) (Ts : List Tb) : Prop:=∃ cs : List (List Value),Sw 4 H x cs∧cs.length=Ts.length∧∀ (k : Nat) (l : List Value) (T : Tb),cs[k]?=some l→Ts[k]?=some T→∃ c b r n,l=[c,b,r,n]∧TV H c b r n T
theorem TL.grow {A B : Heap} (g : Grow A B) {x : Value} {Ts : List Tb} (h : TL A x Ts) : TL B x Ts:=by
 obtain⟨cs,h1,h2,h3⟩:=h
 refine⟨cs,h1.grow g,h2,fun k l T hl hT=>?_⟩
 obtain⟨c,b,r,n,q1,q2⟩:=h3 k l T hl hT
 exact⟨c,b,r,n,q1,q2.grow g⟩
theorem TL.len {H : Heap} {x : Value} {Ts : List Tb} (h : TL H x Ts) : ylen 0 H x=some (I Ts.length):=by
 obtain⟨cs,h1,h2,_⟩:=h
 rw[← h2]
 exact h1.len
theorem TL.at {H : Heap} {x : Value} {Ts : List Tb} (h : TL H x Ts) {k : Nat} (hk : k<Ts.length) : ∃ p c b r n,yindexAddr none 4 x (I k)=some p∧(∀ X,Grow H X→yloadN 4 X p=some (.agg ⟨[c,b,r,n]⟩))∧TV H c b r n Ts[k]:=by
 obtain⟨cs,h1,h2,h3⟩:=h
 have e : cs[k]?=some (cs[k]'(by omega)):=by simp[h2,hk]
 obtain⟨c,b,r,n,q1,q2⟩:=h3 k _ Ts[k] e (by simp[hk])
 obtain⟨p,k1,k2⟩:=h1.get (w:=4) (by decide) e rfl (kd:=.i64)
 rw[q1] at k2
 exact⟨p,c,b,r,n,k1,k2,q2⟩
end Go.Xe.TFX
/- What the functions of the layer flow come to: words, and numbers that are picked by them. Conditions: none. -/
-- MOD TF
namespace Go.Xe.TFX
open Go Go.Xe Go.Proofs
open Nat renaming reduceLeDiff → qA, reduceSub → qB, reduceAdd → qC, reduceEqDiff → qD, reduceLT → qE
open Int renaming reduceNegSucc → qF, reduceEq → qG
open Go.Xe.V renaming seq → sA, block → sB, scope → sC, skip → sD, close → sE
open Go.Xe renaming pth → P
open Go.Xe.Flw
set_option maxRecDepth 100000
set_option maxHeartbeats 3200000
set_option linter.unusedSimpArgs false
noncomputable def d92 : FCode:=(.seq (.run (.go (.move (.con (.int .i64 (.ofNat 0)))) (P 4)::
[])) (.seq (.seq (.run (.go (.move (tm 0)) (P 5)::
.go (.len 0 (tm 5)) (P 6)::
.go (.bin .eql 3 (tm 6) (.con (.int .i64 (.ofNat 0)))) (P 7)::
[])) (.cond (tm 7) (.seq (.run (.go (.move (.con (.int .i64 (.ofNat 0)))) (P 4)::
[])) .ret) .skip)) (.seq (.run (.go (.move (tm 0)) (P 8)::
.go (.move (tm 1)) (P 9)::
.go (.move (tm 0)) (P 10)::
.go (.len 0 (tm 10)) (P 11)::
.go (.bin .rem 3 (tm 9) (tm 11)) (P 12)::
.go (.indexAddr none 1 (tm 8) (tm 12)) (P 13)::
.go (.load1 (tm 13)) (P 14)::
.go (.conv .i64 (tm 14)) (P 15)::
.go (.move (tm 15)) (P 4)::
[])) .ret)))
theorem de92 : @compF Try.prog (Gl.none Try.prog) Try.f92 2=.mk d92 (mkTT 16) [(P 0),(P 1)] [.tmp (P 4)]:=by kernel_rfl
theorem dg92 : Try.prog.funcs[92]?=some Try.f92:=Try.func92
theorem do92 : okF Try.prog Try.f92=true:=by kernel_rfl
noncomputable def d91 : FCode:=(.seq (.run (.go (.box 62 (tm 0)) (P 2)::
.go (.move (.con (.int .i64 (.ofNat 0)))) (P 4)::
[])) (.seq (.seq (.run (.go (.move (tm 1)) (P 5)::
.go (.bin .rem 3 (tm 5) (.con (.int .i64 (.ofNat 4)))) (P 6)::
[])) (.block 0 (.seq (.run (.go (.bin .eql 3 (tm 6) (.con (.int .i64 (.ofNat 0)))) (P 8)::
.go (.move (tm 8)) (P 7)::
[])) (.cond (tm 7) (.seq (.run (.go (.fieldAddr 0 (tm 2)) (P 9)::
.go (.load1 (tm 9)) (P 10)::
.go (.move (tm 10)) (P 4)::
[])) .ret) (.seq (.run (.go (.bin .eql 3 (tm 6) (.con (.int .i64 (.ofNat 1)))) (P 12)::
.go (.move (tm 12)) (P 11)::
[])) (.cond (tm 11) (.seq (.run (.go (.fieldAddr 1 (tm 2)) (P 13)::
.go (.load1 (tm 13)) (P 14)::
.go (.move (tm 14)) (P 4)::
[])) .ret) .skip)))))) (.seq (.draw 13 (.go (.fieldAddr 0 (tm 2)) (P 15)::
.go (.load1 (tm 15)) (P 16)::
.go (.move (tm 1)) (P 17)::
.go (.bin .quo 3 (tm 17) (.con (.int .i64 (.ofNat 4)))) (P 18)::
.go (.fieldAddr 1 (tm 2)) (P 19)::
.go (.load1 (tm 19)) (P 20)::
.go (.fieldAddr 0 (tm 2)) (P 21)::
.go (.load1 (tm 21)) (P 22)::
.go (.bin .sub 3 (tm 20) (tm 22)) (P 23)::
.go (.bin .add 3 (tm 23) (.con (.int .i64 (.ofNat 1)))) (P 24)::
.go (.bin .rem 3 (tm 18) (tm 24)) (P 25)::
.go (.bin .add 3 (tm 16) (tm 25)) (P 26)::
.go (.move (tm 26)) (P 4)::
[]) [.ok,.ok,.ok,.ok,.ok,.ok,.ok,.ok,.ok,.ok,.ok,.ok,.ok]) .ret)))
theorem de91 : @compF Try.prog (Gl.none Try.prog) Try.f91 2=.mk d91 (mkTT 27) [(P 0),(P 1)] [.tmp (P 4)]:=by kernel_rfl
theorem dg91 : Try.prog.funcs[91]?=some Try.f91:=Try.func91
theorem do91 : okF Try.prog Try.f91=true:=by kernel_rfl
structure WS (H : Heap) (x : Value) (ws : List Int) : Prop where
 sl : Sl H x (ws.map fun v=>.int .u16 v)
 bd : ∀ v∈ws,0≤v∧v<65536
theorem WS.grow {A B : Heap} (g : Grow A B) {x : Value} {ws : List Int} (h : WS A x ws) : WS B x ws:=⟨h.sl.grow g,h.bd⟩
def wd (ws : List Int) (k : Nat) : Int:=ws.getD (k%ws.length) 0
theorem wd_bd {ws : List Int} (h : ∀ v∈ws,0≤v∧v<65536) (k : Nat) : 0≤wd ws k∧wd ws k<65536:=by
 unfold wd
 by_cases hk : k%ws.length<ws.length
 ·rw[gd hk]
  exact h _ (List.getElem_mem hk)
 ·rw[List.getD_eq_getElem?_getD,List.getElem?_eq_none (by omega)]
  simp
theorem f92_ok {H : Heap} {x : Value} {ws : List Int} (h : WS H x ws) {a : Int} {k : Nat} (ha : a=(k : Int)) : Gives Try.prog 92 [x,I a] H (I (wd ws k)):=by
 subst ha
 have hl:=h.sl.len
 rw[List.length_map] at hl
 refine F.entryL rfl dg92 do92 de92 rfl (by kernel_rfl) ?_
 simp only[sets]
 refine V.re [(0,x),(1,I k)] (N:=16) zE zY ?_
 intro t hF hA
 simp only[Kn,and_true] at hA
 refine zS ?_
 refine V.l0 ?_
 refine zS ?_
 have zf:=@hl
 refine V.lz ?_
 refine zS ?_
 refine V.condP zP (fun h0=>?_) (fun h0=>?_)
 ·refine zS ?_
  refine V.l0 ?_
  refine zS ?_
  refine V.ret (V.rets rfl (Lv.retG (by simp +contextual (disch:=first|omega|simp only[nx];omega) only[D1,cells_alloc_at,cells_alloc_ne,cells_set_at,cells_set_ne,yres,yres1,yresL,qA,qB,qC,D5,hF,hA,↓reduceIte,qD,qE];rfl) ?_ ?_))
  ·exact zW
  ·have e : ws=[]:=List.length_eq_zero_iff.1 (by omega)
   subst e
   rfl
 ·have hlt : k%ws.length<ws.length:=Nat.mod_lt _ (by omega)
  have he : ((k : Int)).tmod (ws.length : Int)=((k%ws.length : Nat) : Int):=by
   rw[Int.tmod_eq_emod_of_nonneg (by omega)];rfl
  have hne : ¬ (ws.length : Int)=0:=h0
  obtain⟨p,p1,p2⟩:=h.sl.get (n:=((k%ws.length : Nat) : Int)) (k:=k%ws.length) (x:=.int .u16 ws[k%ws.length]) (kd:=.i64) (by rw[List.getElem?_map,List.getElem?_eq_getElem hlt];rfl) rfl
  have p3:=p2 H (.refl _)
  have hb:=h.bd _ (List.getElem_mem hlt)
  have hw : IntKind.i64.wrap ws[k%ws.length]=ws[k%ws.length]:=wrap_i64 (by omega) (by omega)
  refine zS ?_
  have zf:=And.intro @hl<|And.intro @hne<|And.intro @he<|And.intro @p1<|And.intro @p3<|@hw
  refine V.lz ?_
  refine zS ?_
  refine V.ret (V.rets rfl (Lv.retG (by simp +contextual (disch:=first|omega|simp only[nx];omega) only[D1,cells_alloc_at,cells_alloc_ne,cells_set_at,cells_set_ne,yres,yres1,yresL,qA,qB,qC,D5,hF,hA,↓reduceIte,qD,qE];rfl) ?_ ?_))
  ·exact zW
  ·unfold wd
   rw[gd hlt]
def pk (r : R2) (w : Int) : Int:=if w%4=0 then r.1 else if w%4=1 then r.2 else r.1+w/4%(r.2-r.1+1)
theorem pk_in {r : R2} {w : Int} (h : r.1≤r.2) : r.1≤pk r w∧pk r w≤r.2:=by
 unfold pk
 split
 ·omega
 ·split
  ·omega
  ·have h1:=Int.emod_nonneg (w/4) (show r.2-r.1+1≠0 by omega)
   have h2:=Int.emod_lt_of_pos (w/4) (show 0<r.2-r.1+1 by omega)
   omega
theorem f91_ok {r : R2} {w : Int} (hr : r.1≤r.2) (h1 : -1000000000≤r.1) (h2 : r.2≤1000000000) (hw : 0≤w∧w<65536) (H : Heap) : Gives Try.prog 91 [.agg ⟨r2 r⟩,I w] H (I (pk r w)):=by
 have hp:=pk_in (w:=w) hr
 obtain⟨a,b⟩:=r
 simp only at hr h1 h2 hp
 have e1 : w.tmod 4=w%4:=Int.tmod_eq_emod_of_nonneg hw.1
 have e2 : w.tdiv 4=w/4:=Int.tdiv_eq_ediv_of_nonneg hw.1
 have e3 : IntKind.i64.wrap (w/4)=w/4:=wrap_i64 (by omega) (by omega)
 have e4 : IntKind.i64.wrap (b-a)=b-a:=wrap_i64 (by omega) (by omega)
 have e5 : IntKind.i64.wrap (b-a+1)=b-a+1:=wrap_i64 (by omega) (by omega)
 have e6 : (w/4).tmod (b-a+1)=w/4%(b-a+1):=Int.tmod_eq_emod_of_nonneg (by omega)
 have e7 : ¬ b-a+1=0:=by omega
 have e8:=Int.emod_nonneg (w/4) (show b-a+1≠0 by omega)
 have e9:=Int.emod_lt_of_pos (w/4) (show 0<b-a+1 by omega)
 have e10 : IntKind.i64.wrap (a+w/4%(b-a+1))=a+w/4%(b-a+1):=wrap_i64 (by omega) (by omega)
 refine F.entryL rfl dg91 do91 de91 rfl (by kernel_rfl) ?_
 simp only[sets]
 refine V.re [(0,.agg ⟨A2 a b⟩),(1,I w)] (N:=27) zE zY ?_
 intro t hF hA
 simp only[Kn,and_true] at hA
 refine zS ?_
 refine V.l0 ?_
 refine V.heap (fun X=>Grow H X∧Bx X H.next (A2 a b) 62) ⟨?_,?_⟩ ?_
 ·exact zW
 ·exact zB
 rintro H1 ⟨g1,b1⟩
 refine zS ?_
 have zf:=@e1
 refine V.lz ?_
 refine zS ?_
 refine V.l0 ?_
 refine zS ?_
 refine V.condP zP (fun hq=>?_) (fun hq=>?_)
 ·refine zS ?_
  have zf:=b1.2
  refine V.lz ?_
  refine zS ?_
  refine V.ret (V.rets rfl (Lv.retG (by simp +contextual (disch:=first|omega|simp only[nx];omega) only[D1,cells_alloc_at,cells_alloc_ne,cells_set_at,cells_set_ne,yres,yres1,yresL,qA,qB,qC,D5,hF,hA,↓reduceIte,qD,qE];rfl) ?_ ?_))
  ·exact g1
  ·unfold pk;rw[if_pos hq]
 ·refine zS ?_
  refine V.l0 ?_
  refine zS ?_
  refine V.condP zP (fun hq2=>?_) (fun hq2=>?_)
  ·refine zS ?_
   have zf:=b1.2
   refine V.lz ?_
   refine zS ?_
   refine V.ret (V.rets rfl (Lv.retG (by simp +contextual (disch:=first|omega|simp only[nx];omega) only[D1,cells_alloc_at,cells_alloc_ne,cells_set_at,cells_set_ne,yres,yres1,yresL,qA,qB,qC,D5,hF,hA,↓reduceIte,qD,qE];rfl) ?_ ?_))
   ·exact g1
   ·unfold pk;rw[if_neg hq,if_pos hq2]
  ·refine zS ?_
   have zf:=And.intro b1.2<|And.intro @e2<|And.intro @e3<|And.intro @e4<|And.intro @e5<|And.intro @e6<|And.intro @e7<|@e10
   refine V.dz ?_ ?_ rfl ?_
   ·exact zM
   ·simp only[dcAll,dcOk,wantD,List.cons_append,List.nil_append,true_and,and_true]
   refine zS ?_
   refine V.ret (V.rets rfl (Lv.retG (by simp +contextual (disch:=first|omega|simp only[nx];omega) only[D1,cells_alloc_at,cells_alloc_ne,cells_set_at,cells_set_ne,yres,yres1,yresL,qA,qB,qC,D5,hF,hA,↓reduceIte,qD,qE];rfl) ?_ ?_))
   ·exact g1
   ·unfold pk;rw[if_neg hq,if_neg hq2]
end Go.Xe.TFX
/- What the functions of the layer flow come to: whether a truth is one, as the statements have it. Conditions: none. -/
-- MOD TF
namespace Go.Xe.TFX
open Go Go.Xe Go.Proofs
open Nat renaming reduceLeDiff → qA, reduceSub → qB, reduceAdd → qC, reduceEqDiff → qD, reduceLT → qE
open Int renaming reduceNegSucc → qF, reduceEq → qG
open Go.Xe.V renaming seq → sA, block → sB, scope → sC, skip → sD, close → sE
open Go.Xe renaming pth → P
open Go.Xe.Flw
set_option maxRecDepth 100000
set_option maxHeartbeats 6400000
set_option linter.unusedSimpArgs false
def one (T : Tb) (X : Tr) (k : Nat) : Prop:=((T.B.getD k (0,0)).1≤X.B.getD k 0∧X.B.getD k 0≤(T.B.getD k (0,0)).2)∧(X.D.getD k []).length=grp T+1∧alI T.N (X.M.getD k [])
end Go.Xe.TFX
