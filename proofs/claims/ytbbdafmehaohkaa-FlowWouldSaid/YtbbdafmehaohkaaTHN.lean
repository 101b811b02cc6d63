/- What the functions of the layer flow come to: the cells, collected. Conditions: none. -/
import Derived.Test.YtbbdafmehaohkaaTHH
import Derived.Test.YtbbdafmehaohkaaZu
-- MOD TF
namespace Go.Xe
open Go
theorem OwW.growS {w : Nat} {A B X Y : Heap} {U : Nat→Prop} {e : TypeId} {v : Value} {l : List (List Value)} (h : OwW w A X e v l) (g : GrowS U X Y) (hU : ∀ i,A.next≤i→¬ U i) (hn : B.next≤A.next) : OwW w B Y e v l:=by
 rcases h with h|⟨i,h1,h2,h3,h4⟩
 ·exact .inl h
 ·exact .inr ⟨i,Nat.le_trans hn h1,Nat.lt_of_lt_of_le h2 g.1,h3,by rw[g.cells h2 (hU i h1)];exact h4⟩
theorem OwW.slice {w : Nat} {A X : Heap} {e : TypeId} {v : Value} {l : List (List Value)} (h : OwW w A X e v l) : ∃ p n c,v=.slice p n c:=by
 rcases h with⟨rfl,_⟩|⟨i,_,_,rfl,_⟩
 ·exact⟨_,_,_,rfl⟩
 ·exact⟨_,_,_,rfl⟩
end Go.Xe
namespace Go.Xe.TFX
open Go Go.Xe Go.Proofs
open Nat renaming reduceLeDiff → qA, reduceSub → qB, reduceAdd → qC, reduceEqDiff → qD, reduceLT → qE
open Int renaming reduceNegSucc → qF, reduceEq → qG
open Go.Xe.V renaming seq → sA, block → sB, scope → sC, skip → sD, close → sE
open Go.Xe renaming pth → P
open Go.Xe.Flw
set_option maxRecDepth 100000
set_option maxHeartbeats 3200000
set_option linter.unusedSimpArgs false
noncomputable def d123 : FCode:=(.seq (.run (.go (.box 84 (tm 0)) (P 2)::
.go (.move (.con (.slice none 0 0))) (P 4)::
[])) (.seq (.seq (.run (.go (.move (tm 1)) (P 6)::
[])) (.block 0 (.rangeFunc (tm 6) [(P 7)] (rfA Try.f123 0) (rfB Try.f123 0) (.run (.go (.alloc 74 [(.int .i64 (.ofNat 0)),(.int .i64 (.ofNat 0))]) (P 5)::
.un (.store 2 (tm 5) (tm 7))::
[])) (.block 1 (.run (.go (.load1 (tm 2)) (P 8)::
.go (.loadN 2 (tm 5)) (P 9)::
.go (.buildSlice 74 1 [(.int .i64 (.ofNat 0)),(.int .i64 (.ofNat 0))] [(0,2,(tm 9))]) (P 10)::
.go (.append 74 2 16 (tm 8) (tm 10)) (P 11)::
.un (.store 1 (tm 2) (tm 11))::
[])))))) (.seq (.run (.go (.load1 (tm 2)) (P 12)::
.go (.move (tm 12)) (P 4)::
[])) .ret)))
theorem de123 : @compF Try.prog (Gl.none Try.prog) Try.f123 2=.mk d123 (mkTT 13) [(P 0),(P 1)] [.tmp (P 4)]:=by kernel_rfl
theorem dg123 : Try.prog.funcs[123]?=some Try.f123:=Try.func123
theorem do123 : okF Try.prog Try.f123=true:=by kernel_rfl
noncomputable def d83 : FCode:=(.seq (.run (.go (.move (.con (.slice none 0 0))) (P 2)::
[])) (.seq (.run (.go (.move (tm 0)) (P 3)::
.go (.call (.con (.func (.func 123) ⟨[]⟩ ⟨[]⟩)) [(.con (.slice none 0 0)),(tm 3)]) (P 4)::
.go (.move (tm 4)) (P 2)::
[])) .ret))
theorem de83 : @compF Try.prog (Gl.none Try.prog) Try.f83 1=.mk d83 (mkTT 5) [(P 0)] [.tmp (P 2)]:=by kernel_rfl
theorem dg83 : Try.prog.funcs[83]?=some Try.f83:=Try.func83
theorem do83 : okF Try.prog Try.f83=true:=by kernel_rfl
def cl (K G k : Nat) : List (List Value):=((cel K G).take k).map fun q=>A2 q.1 q.2
theorem cl_s {K G k : Nat} (h : k<K*G) : cl K G k++[A2 ((k/G : Nat) : Int) ((k%G : Nat) : Int)]=cl K G (k+1):=by
 have h' : k<(cel K G).length:=by rw[cel_len];exact h
 unfold cl
 rw[List.take_succ_eq_append_getElem h',List.map_append]
 simp[cel]
theorem cl_len {K G k : Nat} (h : k≤K*G) : (cl K G k).length=k:=by
 unfold cl
 rw[List.length_map,List.length_take,cel_len]
 omega
theorem cl_w {K G k : Nat} : ∀ x∈cl K G k,x.length=2:=by
 intro x hx
 obtain⟨q,_,rfl⟩:=List.mem_map.1 hx
 rfl
theorem f123_ok {K G : Nat} {H0 H : Heap} {g : FuncId} {first cap : List Value} {D : Nat→Prop} (hI : Iter Try.prog g first cap D H0 (celL K G)) (hKG : K*G≤1000) (hH : H0.next≤H.next) (hD : ∀ i,D i→i<H0.next∧H.get i=H0.get i) :
  F Try.prog 123 ⟨[.slice none 0 0,.func (.func g) ⟨first⟩ ⟨cap⟩]⟩ H (fun v H'=>Grow H H'∧OwW 2 H H' 74 v (cl K G (K*G))):=by
 refine F.entryL rfl dg123 do123 de123 rfl (by kernel_rfl) ?_
 simp only[sets]
 refine V.re [(0,.slice none 0 0),(1,.func (.func g) ⟨first⟩ ⟨cap⟩)] (N:=13) zE zY ?_
 intro t hF hA
 simp only[Kn,and_true] at hA
 refine zS ?_
 refine V.l0 ?_
 refine V.heap (fun X=>Grow H X∧Bx X H.next [.slice none 0 0] 84) ⟨?_,?_⟩ ?_
 ·exact zW
 ·exact zB
 rintro H1 ⟨g1,b1⟩
 have n1:=b1.1
 refine zS ?_
 refine V.l0 ?_
 refine zS ?_
 refine V.re [(2,PT H.next),(6,.func (.func g) ⟨first⟩ ⟨cap⟩)] (N:=13) zF zK ?_
 clear hF hA
 intro t hF hA
 simp only[Kn,and_true] at hA
 refine V.rangeL hI (fun y=>y=H.next∨H1.next+1<y) (fun k X=>∃ s,Bx X H.next [s] 84∧OwW 2 (cutH X (H1.next+2)) X 74 s (cl K G k)) (fun _ _=>False)
  zA rfl (Nat.le_trans hH (Nat.le_trans g1.1 (Nat.le_succ _))) ?_ ?_ ?_ (fun _ _ _ _ _ h=>h.elim) ?_ ?_ ?_
 ·intro y hy
  obtain⟨h1,h2⟩:=hD y hy
  have q1:=g1.1
  refine⟨h1,by omega,?_⟩
  rw[Heap.get_alloc,if_neg (by omega),g1.2 y (by omega),h2]
 ·intro l hl
  obtain⟨q,_,rfl⟩:=List.mem_map.1 hl
  rfl
 ·rintro k X X' r1 r2 ⟨s,h1,h2⟩ _ _ g
  simp only[Heap.next_alloc] at g
  exact⟨s,h1.growS g (by omega),h2.growS g (fun i (hi : H1.next+2≤i)=>by omega) (Nat.le_refl _)⟩
 ·intro r
  have g : Grow H1 ((H1.alloc (.deferred true)).alloc (.loop r)):=((Grow.refl H1).alloc _).alloc _
  exact⟨_,b1.grow g,.inl ⟨rfl,rfl⟩⟩
 ·rintro k hk r X ⟨s,h1,h2⟩ hg hlX hl hr
  rw[celL_len] at hk
  rw[celL_q]
  simp only[sets]
  simp only[Heap.next_alloc] at hlX hl
  refine zS ?_
  refine V.l0 ?_
  refine V.heap (fun Y=>Grow X Y∧Bx Y X.next (A2 ((k/G : Nat) : Int) ((k%G : Nat) : Int)) 74) ⟨?_,?_⟩ ?_
  ·exact zW
  ·exact zB
  rintro X1 ⟨gx,x4⟩
  have nx:=gx.1
  have hl1 : X1.get (H1.next+1)=some (.loop r):=(gx.2 _ hlX).trans hl
  refine V.nil ⟨rfl,hl1,gx.s,?_⟩
  intro X2 _ hl2 g2
  simp only[Heap.next_alloc] at g2 hl2
  have h1:=(h1.grow gx).growS g2 (by omega)
  have x4:=x4.growS g2 (by omega)
  have h2 : OwW 2 (cutH X2 (H1.next+2)) X2 74 s (cl K G k):=OwW.growS (OwW.growS (B:=cutH X (H1.next+2)) h2 (Grow.s (U:=(·=H1.next+1)) gx) (fun i (hi : H1.next+2≤i)=>by omega) (Nat.le_refl _)) g2 (fun i (hi : H1.next+2≤i)=>by omega) (Nat.le_refl _)
  have n2:=g2.1
  have gc:=cutH_grow (X:=X2) (n:=H1.next+2) (by omega)
  obtain⟨w,X3,a1,a2,a3,a4,a5,a6⟩:=OwW.push (bytes:=16) (x:=A2 ((k/G : Nat) : Int) ((k%G : Nat) : Int)) (by decide) gc h2 cl_w rfl rfl (by rw[cl_len (by omega)];omega) (by rw[cl_len (by omega)];omega)
  rw[cl_s hk] at a2
  have hb3 : Bx X3 H.next [s] 84:=by
   refine⟨Nat.lt_of_lt_of_le h1.1 (by omega),?_⟩
   have:=a3.cells (i:=H.next) (show H.next<H1.next+2 by omega)
   rw[this];exact h1.2
  have hn3:=hb3.1
  obtain⟨wp,wn,wc,rfl⟩:=a2.slice
  refine zS ?_
  have zf:=And.intro h1.2<|And.intro x4.2<|And.intro @a1<|hb3.2
  refine V.lz ?_
  have gs3 : GrowS (fun y=>y=H.next∨H1.next+1<y) X2 X3:=a3.toS rfl (fun i h=>.inr (by omega)) (by omega)
  refine zS ?_
  refine V.nil ⟨?_,gs3.set (.inl (.inl rfl)) _,.inl ⟨rfl,_,⟨hb3.1,cells_set _ _ _ _ _⟩,?_⟩⟩
  ·rw[Heap.get_set,if_neg (by simp only[Heap.next_alloc];omega)]
   have:=a3.2 (H1.next+1) (show H1.next+1<H1.next+2 by omega)
   simp only[Heap.next_alloc]
   rw[this];exact hl2
  ·exact a2.growS (U:=(·=H.next)) (GrowS.setAt X3 H.next _) (fun i (hi : H1.next+2≤i)=>by omega) (Nat.le_refl _)
 ·rintro e X h hg hlX
  simp only[Heap.next_alloc] at hlX
  rcases h with⟨rfl,s,h1,h2⟩|⟨_,h⟩
  ·have hgd : X.get H1.next=some (.deferred true):=by
    rw[hg.2 _ (by simp only[Heap.next_alloc];omega) (by simp only[Heap.next_alloc];omega),Heap.get_alloc,if_pos rfl]
   rw[celL_len] at h2
   refine zS ?_
   have zf:=h1.2
   refine V.lz ?_
   refine zS ?_
   refine V.ret (V.rets rfl (Lv.retM hgd (by simp only[yres,yres1,D5,hF,hA,↓reduceIte,qD,qE];rfl) ?_))
   have q1:=g1.1
   refine⟨⟨by simp only[Heap.next_set];omega,fun q hq=>?_⟩,?_⟩
   ·rw[Heap.get_set,if_neg (by omega),hg.2 q (by simp only[Heap.next_alloc];omega) (by simp only[Heap.next_alloc];omega),Heap.get_alloc,if_neg (by omega),g1.2 q hq]
   ·exact h2.growS (U:=(·=H1.next)) (GrowS.setAt X H1.next _) (fun i (hi : H1.next+2≤i)=>by omega) (show H.next≤H1.next+2 by omega)
  ·exact h.elim
theorem f83_ok {K G : Nat} {H0 H : Heap} {g : FuncId} {first cap : List Value} {D : Nat→Prop} (hI : Iter Try.prog g first cap D H0 (celL K G)) (hKG : K*G≤1000) (hH : H0.next≤H.next) (hD : ∀ i,D i→i<H0.next∧H.get i=H0.get i) :
  F Try.prog 83 ⟨[.func (.func g) ⟨first⟩ ⟨cap⟩]⟩ H (fun v H'=>Grow H H'∧OwW 2 H H' 74 v (cl K G (K*G))):=by
 refine F.entryL rfl dg83 do83 de83 rfl (by kernel_rfl) ?_
 simp only[sets]
 refine V.re [(0,.func (.func g) ⟨first⟩ ⟨cap⟩)] (N:=5) zE zY ?_
 intro t hF hA
 simp only[Kn,and_true] at hA
 refine zS ?_
 refine V.l0 ?_
 refine zS ?_
 refine V.run ?_
 refine VI.s0 1 ?_
 simp only[ds]
 refine VI.callR zA (f123_ok hI hKG hH hD) zA (fun v2 H2 ⟨g2,o2⟩=>?_)
 refine VI.l0 ?_
 refine zS ?_
 refine V.ret (V.rets rfl (Lv.retF (by simp +contextual (disch:=first|omega|simp only[nx];omega) only[D1,cells_alloc_at,cells_alloc_ne,cells_set_at,cells_set_ne,yres,yres1,yresL,qA,qB,qC,D5,hF,hA,↓reduceIte,qD,qE];rfl) ?_))
 exact⟨g2,o2⟩
end Go.Xe.TFX
/- What the functions of the layer flow come to: the cells backward. Conditions: none. -/
-- MOD TF
namespace Go.Xe.TFX
open Go Go.Xe Go.Proofs
open Nat renaming reduceLeDiff → qA, reduceSub → qB, reduceAdd → qC, reduceEqDiff → qD, reduceLT → qE
open Int renaming reduceNegSucc → qF, reduceEq → qG
open Go.Xe.V renaming seq → sA, block → sB, scope → sC, skip → sD, close → sE
open Go.Xe renaming pth → P
open Go.Xe.Flw
set_option maxRecDepth 100000
set_option maxHeartbeats 3200000
set_option linter.unusedSimpArgs false
noncomputable def d136 : FCode:=(.seq (.run (.go (.load1 (tm 1)) (P 4)::
.go (.len 0 (tm 4)) (P 5)::
.go (.bin .sub 3 (tm 5) (.con (.int .i64 (.ofNat 1)))) (P 6)::
.go (.move (tm 6)) (P 3)::
[])) (.block 0 (.loop (.seq (.seq (.run (.go (.move (tm 3)) (P 7)::
.go (.bin .geq 3 (tm 7) (.con (.int .i64 (.ofNat 0)))) (P 8)::
[])) (.cond (tm 8) .skip (.exit 0))) (.seq (.block 1 (.seq (.run (.go (.move (tm 0)) (P 11)::
.go (.move (tm 3)) (P 12)::
.go (.load1 (tm 1)) (P 13)::
.go (.move (tm 3)) (P 14)::
.go (.indexAddr none 2 (tm 13) (tm 14)) (P 15)::
.go (.loadN 2 (tm 15)) (P 16)::
.go (.call (tm 11) [(tm 12),(tm 16)]) (P 17)::
.go (.un .not (tm 17)) (P 18)::
[])) (.cond (tm 18) .ret .skip))) (.run (.go (.move (tm 3)) (P 9)::
.go (.bin .sub 3 (tm 9) (.con (.int .i64 (.ofNat 1)))) (P 10)::
.go (.move (tm 10)) (P 3)::
[])))))))
theorem de136 : @compF Try.prog (Gl.none Try.prog) Try.f136 2=.mk d136 (mkTT 19) [(P 0),(P 1)] []:=by kernel_rfl
theorem dg136 : Try.prog.funcs[136]?=some Try.f136:=Try.func136
theorem do136 : okF Try.prog Try.f136=true:=by kernel_rfl
noncomputable def d116 : FCode:=(.seq (.run (.go (.box 84 (tm 0)) (P 1)::
.go (.move (.con .nilFunc)) (P 2)::
[])) (.seq (.run (.go (.makeFunc 136 [] [tm 1]) (P 3)::
.go (.move (tm 3)) (P 2)::
[])) .ret))
theorem de116 : @compF Try.prog (Gl.none Try.prog) Try.f116 1=.mk d116 (mkTT 4) [(P 0)] [.tmp (P 2)]:=by kernel_rfl
theorem dg116 : Try.prog.funcs[116]?=some Try.f116:=Try.func116
theorem do116 : okF Try.prog Try.f116=true:=by kernel_rfl
def bak (K G : Nat) : List (List Value):=(List.range (K*G)).map fun k=>[I ((K*G-1-k : Nat) : Int),.agg ⟨A2 (((K*G-1-k)/G : Nat) : Int) (((K*G-1-k)%G : Nat) : Int)⟩]
theorem bak_len (K G : Nat) : (bak K G).length=K*G:=by simp[bak]
theorem bak_at {K G k : Nat} (h : k<(bak K G).length) : (bak K G)[k]=[I ((K*G-1-k : Nat) : Int),.agg ⟨A2 (((K*G-1-k)/G : Nat) : Int) (((K*G-1-k)%G : Nat) : Int)⟩]:=by simp[bak]
theorem f136_iter {K G i p : Nat} {H0 : Heap} (hKG : K*G≤1000) (hb : Bx H0 p [.slice (some ⟨i,0,none⟩) (K*G) (K*G)] 84) (hc : H0.cellsAt i=some (⟨(cl K G (K*G)).flatten⟩,74,true)) (hi : i<H0.next) : Iter Try.prog 136 [] [PT p] (fun j=>j=p∨j=i) H0 (bak K G):=by
 have hbl:=bak_len K G
 have hcl : (cl K G (K*G)).length=K*G:=cl_len (Nat.le_refl _)
 intro y U I0 J H hH hD sI sJ hY h0
 obtain⟨_,hU,hp⟩:=hD p (.inl rfl)
 obtain⟨_,hUi,hpi⟩:=hD i (.inr rfl)
 have bb : Bx H p [.slice (some ⟨i,0,none⟩) (K*G) (K*G)] 84:=⟨Nat.lt_of_lt_of_le hb.1 hH,by have:=hb.2;unfold Heap.cellsAt at this ⊢;rw[hp];exact this⟩
 have bc : H.cellsAt i=some (⟨(cl K G (K*G)).flatten⟩,74,true):=by unfold Heap.cellsAt at hc ⊢;rw[hpi];exact hc
 have hsw : ∀ X,GrowS U H X→Sw 2 X (.slice (some ⟨i,0,none⟩) (K*G) (K*G)) (cl K G (K*G)):=by
  intro X hg
  have bi : i<H.next:=Nat.lt_of_lt_of_le hi hH
  have:=Sw.flat (w:=2) (c:=K*G) (Nat.lt_of_lt_of_le bi hg.1) ((hg.cells bi hUi).trans bc) cl_w (by omega)
  rw[hcl] at this
  exact this
 have hl : ∀ X,ylen 0 X (.slice (some ⟨i,0,none⟩) (K*G) (K*G))=some (I ((K*G : Nat) : Int)):=fun X=>rfl
 rw[hbl]
 show F Try.prog 136 ⟨[y,PT p]⟩ H _
 refine F.entryL rfl dg136 do136 de136 rfl (by kernel_rfl) ?_
 simp only[sets]
 refine V.re [(0,y),(1,PT p)] (N:=19) zE zY ?_
 intro t hF hA
 simp only[Kn,and_true] at hA
 refine zS ?_
 have zf:=And.intro bb.2<|@hl
 refine V.lz ?_
 refine zS ?_
 generalize hN : K*G=N at *
 refine V.loop (fun z t m X=>∃ (k : Nat) (x : Int),x=(N : Int)-1-k∧k≤N∧z=N-k∧m=[]∧GrowS U H X∧I0 k X∧Full 19 t∧Kn [(0,y),(1,PT p),(3,I x)] t) N ?_ ?_
 ·exact⟨0,(N : Int)-1,by omega,by omega,by omega,rfl,.refl _,h0,zF,zK⟩
 clear hF hA
 rintro z t m X ⟨k,x,hx,hk,rfl,rfl,hg,hI,hF,hA⟩
 simp only[Kn,and_true] at hA
 have bx:=bb.growS hg hU
 refine zS ?_
 refine V.l0 ?_
 refine zS ?_
 refine V.condP zP (fun hlt=>?_) (fun hlt=>?_)
 ·have hlt' : k<N:=by omega
  have e1 : x=((N-1-k : Nat) : Int):=by omega
  have hy:=hY k (by rw[hbl];exact hlt') X hI hg
  rw[bak_at,hN] at hy
  have hq : (cl K G (K*G))[N-1-k]?=some (A2 (((N-1-k)/G : Nat) : Int) (((N-1-k)%G : Nat) : Int)):=by
   have h1 : N-1-k<(cel K G).length:=by rw[cel_len];omega
   have h2 : (cel K G).take (K*G)=cel K G:=List.take_of_length_le (by rw[cel_len];omega)
   unfold cl
   rw[h2,List.getElem?_map,List.getElem?_eq_getElem h1]
   simp[cel]
  rw[hN] at hq
  obtain⟨q,hq1,hq2⟩:=(hsw X hg).get (w:=2) (by decide) (n:=((N-1-k : Nat) : Int)) (k:=N-1-k) (kd:=.i64) hq rfl
  have hq3:=hq2 X (.refl _)
  refine zS ?_
  refine V.run ?_
  have zf:=And.intro bx.2<|And.intro @e1<|And.intro @hq1<|@hq3
  refine VI.sz 6 ?_
  simp only[ds]
  refine VI.callV (y:=y) zA (by simp only[List.map_cons,List.map_nil,D6,D5,hF,hA,↓reduceIte,qD,qE,e1];exact hy) (fun v X' hv=>?_)
  obtain⟨hg',hv⟩:=hv
  rcases hv with⟨rfl,hI'⟩|⟨rfl,hJ⟩
  ·refine VI.l0 ?_
   refine zS ?_
   refine V.condF zA ?_
   refine zS ?_
   refine V.l0 ?_
   refine V.nil (Or.inl ⟨rfl,N-(k+1),by omega,?_⟩)
   exact⟨k+1,x-1,by omega,hlt',rfl,rfl,hg.trans hg',hI',zF,zK⟩
  ·refine VI.l0 ?_
   refine zS ?_
   refine V.condT zA ?_
   refine zS ?_
   refine V.ret (V.rets rfl (Or.inr ⟨by simp,V.rets rfl (Lv.retF (by simp +contextual (disch:=first|omega|simp only[nx];omega) only[D1,cells_alloc_at,cells_alloc_ne,cells_set_at,cells_set_ne,yres,yres1,yresL,qA,qB,qC,D5,hF,hA,↓reduceIte,qD,qE];rfl) ?_)⟩))
   exact⟨hg.trans hg',.inr hJ⟩
 ·obtain rfl : k=N:=by omega
  refine V.exit ?_
  refine zX ?_
  refine V.nil (Or.inr ⟨by simp,?_⟩)
  refine zX ?_
  refine zS ?_
  refine V.nil (Lv.normal (by simp only[yres,yresL,Option.map_some];rfl) ?_)
  exact⟨hg,.inl hI⟩
theorem f116_ok {H : Heap} {v : Value} (hv : ∃ p n c,v=.slice p n c) : F Try.prog 116 ⟨[v]⟩ H (fun w X=>∃ p,w=.func (.func 136) ⟨[]⟩ ⟨[PT p]⟩∧H.next≤p∧Grow H X∧Bx X p [v] 84):=by
 obtain⟨a,n,c,rfl⟩:=hv
 refine F.entryL rfl dg116 do116 de116 rfl (by kernel_rfl) ?_
 simp only[sets]
 refine V.re [(0,.slice a n c)] (N:=4) zE zY ?_
 intro t hF hA
 simp only[Kn,and_true] at hA
 refine zS ?_
 refine V.l0 ?_
 refine V.heap (fun X=>Grow H X∧Bx X H.next [.slice a n c] 84) ⟨?_,?_⟩ ?_
 ·exact zW
 ·exact zB
 rintro H1 ⟨g1,b1⟩
 refine zS ?_
 refine V.l0 ?_
 refine zS ?_
 refine V.ret (V.rets rfl (Lv.retF (by simp +contextual (disch:=first|omega|simp only[nx];omega) only[D1,cells_alloc_at,cells_alloc_ne,cells_set_at,cells_set_ne,yres,yres1,yresL,qA,qB,qC,D5,hF,hA,↓reduceIte,qD,qE];rfl) ?_))
 exact⟨_,rfl,Nat.le_refl _,g1,b1⟩
end Go.Xe.TFX
/- What the functions of the layer flow come to: backward, the arithmetic of one cell. Conditions: none. -/
-- MOD TF
namespace Go.Xe.TFX
open Go Go.Xe Go.Proofs
open Nat renaming reduceLeDiff → qA, reduceSub → qB, reduceAdd → qC, reduceEqDiff → qD, reduceLT → qE
open Int renaming reduceNegSucc → qF, reduceEq → qG
open Go.Xe.V renaming seq → sA, block → sB, scope → sC, skip → sD, close → sE
open Go.Xe renaming pth → P
open Go.Xe.Flw
set_option maxRecDepth 100000
set_option maxHeartbeats 3200000
set_option linter.unusedSimpArgs false
def rtt (T : Tb) (y : Int) : R2:=T.Rt.getD (y+1).toNat (0,0)
def va0 (f : Sf) (z : Int×Int) : R2:=(f z).getD (0,0)
def sub2 (a b : R2) : R2:=(a.1-b.1,a.2-b.2)
def pu (f : Sf) (s : Int×Int) (v : R2) : Sf:=fun z=>if z=s then some v else f z
def nst (T : Tb) (c : Nat×Nat) (f : Sf) (s : Int×Int) : Sf:=pu f s (nar (rtt T s.2) (va0 f s) (sub2 (cra T f c.1 c.2) (sv (rtt T s.2) (va0 f s))) (va0 f (c.1,c.2)))
theorem cra_put {T : Tb} {f : Sf} {x y : Nat} {s : Int×Int} (hs : s∈src x y (grp T)) (v : R2) : (cra T (pu f s v) x y).1=(cra T f x y).1-few (rtt T s.2) (va0 f s).1+few (rtt T s.2) v.1∧(cra T (pu f s v) x y).2=(cra T f x y).2-mst (rtt T s.2) (va0 f s).2+mst (rtt T s.2) v.2:=by
 unfold cra car
 by_cases hx : (x : Int)=0
 ·unfold src at hs
  rw[if_pos hx] at hs
  simp at hs
 ·rw[if_neg hx,if_neg hx]
  unfold pso
  unfold src at hs ⊢
  rw[if_neg hx] at hs ⊢
  by_cases hy : (y : Int)=(grp T : Int)-1
  ·rw[if_pos hy] at hs ⊢
   have n1 : ((x : Int)-1,(y : Int))≠((x : Int)-1,(y : Int)-1):=by simp only[ne_eq,Prod.mk.injEq];omega
   have n2 : ((x : Int)-1,(y : Int)-1)≠((x : Int)-1,(y : Int)):=by simp only[ne_eq,Prod.mk.injEq];omega
   rcases List.mem_cons.1 hs with rfl|hs
   ·simp only[List.map_cons,List.map_nil,tt,List.foldl_cons,List.foldl_nil,add2,sv,pu,va0,rtt,if_true,if_neg n1,Option.getD_some]
    omega
   ·rw[List.mem_singleton] at hs
    subst hs
    simp only[List.map_cons,List.map_nil,tt,List.foldl_cons,List.foldl_nil,add2,sv,pu,va0,rtt,if_true,if_neg n2,Option.getD_some]
    omega
  ·rw[if_neg hy] at hs ⊢
   rw[List.mem_singleton] at hs
   subst hs
   simp only[List.map_cons,List.map_nil,tt,List.foldl_cons,List.foldl_nil,add2,sv,pu,va0,rtt,if_true,Option.getD_some]
   omega
structure Met (T : Tb) (f : Sf) (x y : Nat) (v : R2) : Prop where
 at_ : f ((x : Int),(y : Int))=some v
 ne : v.1≤v.2
 lo : (cra T f x y).1≤v.2
 hi : v.1≤(cra T f x y).2
 src : ∀ s∈Go.Xe.TFX.src x y (grp T),isRate (rtt T s.2)∧∃ z,f s=some z∧0≤z.1∧z.1≤z.2
theorem Met.rest {T : Tb} {f : Sf} {x y : Nat} {v : R2} (h : Met T f x y v) (hN : (T.N.getD y (0,0)).1≤(T.N.getD y (0,0)).2) {s : Int×Int} (hs : s∈Go.Xe.TFX.src x y (grp T)) : (cra T f x y).1-few (rtt T s.2) (va0 f s).1≤(cra T f x y).2-mst (rtt T s.2) (va0 f s).2:=by
 have hf : ∀ s∈Go.Xe.TFX.src x y (grp T),few (rtt T s.2) (va0 f s).1≤mst (rtt T s.2) (va0 f s).2:=by
  intro s hs
  obtain⟨q,z,hz,h0,h1⟩:=h.src s hs
  unfold va0
  rw[hz,Option.getD_some]
  have:=few_mst q (n:=z.2) (by omega)
  have:=few_mono q h1
  omega
 clear h
 unfold cra car
 by_cases hx : (x : Int)=0
 ·unfold Go.Xe.TFX.src at hs
  rw[if_pos hx] at hs
  simp at hs
 ·rw[if_neg hx]
  unfold pso
  unfold Go.Xe.TFX.src at hs hf ⊢
  rw[if_neg hx] at hs hf ⊢
  by_cases hy : (y : Int)=(grp T : Int)-1
  ·rw[if_pos hy] at hs hf ⊢
   have f1:=hf _ (List.mem_cons_self ..)
   have f2:=hf _ (List.mem_cons_of_mem _ (List.mem_singleton.2 rfl))
   rcases List.mem_cons.1 hs with rfl|hs
   ·simp only[List.map_cons,List.map_nil,tt,List.foldl_cons,List.foldl_nil,add2,sv,va0,rtt] at f1 f2 ⊢
    omega
   ·rw[List.mem_singleton] at hs
    subst hs
    simp only[List.map_cons,List.map_nil,tt,List.foldl_cons,List.foldl_nil,add2,sv,va0,rtt] at f1 f2 ⊢
    omega
  ·rw[if_neg hy] at hs hf ⊢
   rw[List.mem_singleton] at hs
   subst hs
   simp only[List.map_cons,List.map_nil,tt,List.foldl_cons,List.foldl_nil,add2,sv,va0,rtt]
   omega
theorem Met.step {T : Tb} {f : Sf} {x y : Nat} {v : R2} (h : Met T f x y v) (hN : (T.N.getD y (0,0)).1≤(T.N.getD y (0,0)).2) {s : Int×Int} (hs : s∈Go.Xe.TFX.src x y (grp T)) :
  ∃ z,f s=some z∧Nar (rtt T s.2) z (sub2 (cra T f x y) (sv (rtt T s.2) z)) v (nar (rtt T s.2) z (sub2 (cra T f x y) (sv (rtt T s.2) z)) v)∧nst T (x,y) f s=pu f s (nar (rtt T s.2) z (sub2 (cra T f x y) (sv (rtt T s.2) z)) v)∧Met T (nst T (x,y) f s) x y v:=by
 have hr:=h.rest hN hs
 obtain⟨q,z,hz,h0,h1⟩:=h.src s hs
 have ez : va0 f s=z:=by unfold va0;rw[hz];rfl
 have ev : va0 f ((x : Int),(y : Int))=v:=by unfold va0;rw[h.at_];rfl
 rw[ez] at hr
 have hlo:=h.lo
 have hhi:=h.hi
 have hn:=nar_ok (q:=rtt T s.2) (r:=z) (o:=sub2 (cra T f x y) (sv (rtt T s.2) z)) (f:=v) q h1 h0 (by simp only[sub2,sv];exact hr) h.ne (by simp only[sub2,sv];omega) (by simp only[sub2,sv];omega)
 have e : nst T (x,y) f s=pu f s (nar (rtt T s.2) z (sub2 (cra T f x y) (sv (rtt T s.2) z)) v):=by
  unfold nst
  rw[ez]
  simp only
  rw[ev]
 refine⟨z,hz,hn,e,?_⟩
 rw[e]
 generalize nar (rtt T s.2) z (sub2 (cra T f x y) (sv (rtt T s.2) z)) v=w at *
 obtain⟨c1,c2⟩:=cra_put (f:=f) hs w
 rw[ez] at c1 c2
 have hne : ((x : Int),(y : Int))≠s:=by
  intro hh
  subst hh
  unfold Go.Xe.TFX.src at hs
  split at hs
  ·simp at hs
  ·split at hs<;>simp at hs<;>omega
 have m1:=hn.least
 have m2:=hn.most
 have m3:=hn.lo
 have m4:=hn.some
 simp only[sub2,sv] at m1 m2
 refine⟨by unfold pu;rw[if_neg hne];exact h.at_,h.ne,by omega,by omega,fun s' hs'=>?_⟩
 obtain⟨q',z',hz',k0,k1⟩:=h.src s' hs'
 refine⟨q',?_⟩
 unfold pu
 by_cases hss : s'=s
 ·rw[if_pos hss]
  exact⟨w,rfl,by omega,m4⟩
 ·rw[if_neg hss]
  exact⟨z',hz',k0,k1⟩
end Go.Xe.TFX
/- What the functions of the layer flow come to: backward through all cells, the arithmetic. Conditions: none. -/
-- MOD TF
namespace Go.Xe.TFX
open Go Go.Xe Go.Proofs
open Nat renaming reduceLeDiff → qA, reduceSub → qB, reduceAdd → qC, reduceEqDiff → qD, reduceLT → qE
open Int renaming reduceNegSucc → qF, reduceEq → qG
open Go.Xe.V renaming seq → sA, block → sB, scope → sC, skip → sD, close → sE
open Go.Xe renaming pth → P
open Go.Xe.Flw
set_option maxRecDepth 100000
set_option maxHeartbeats 3200000
set_option linter.unusedSimpArgs false
theorem src_inj {x y x' y' G : Nat} {s : Int×Int} (h : s∈src x y G) (h' : s∈src x' y' G) (hy : y<G) (hy' : y'<G) : x=x'∧y=y':=by
 obtain⟨a,b⟩:=s
 unfold src at h h'
 by_cases hx : (x : Int)=0
 ·rw[if_pos hx] at h
  simp at h
 by_cases hx' : (x' : Int)=0
 ·rw[if_pos hx'] at h'
  simp at h'
 rw[if_neg hx] at h
 rw[if_neg hx'] at h'
 by_cases h1 : (y : Int)=(G : Int)-1<;>by_cases h2 : (y' : Int)=(G : Int)-1<;>simp only[h1,h2,if_true,if_false,List.mem_cons,List.not_mem_nil,or_false,Prod.mk.injEq] at h h'<;>omega
def bst (T : Tb) (c : Nat×Nat) (f : Sf) : Sf:=(src c.1 c.2 (grp T)).foldl (nst T c) f
def bk (T : Tb) (f : Sf) : Nat→Sf
 | 0=>f
 | k+1=>bst T ((T.C.length*grp T-1-k)/grp T,(T.C.length*grp T-1-k)%grp T) (bk T f k)
structure Bk (T : Tb) (n : Nat) (f0 f : Sf) : Prop where
 same : ∀ x y : Nat,y<grp T→x*grp T+y<n→∀ s∈src x y (grp T),f s=f0 s
 sub : ∀ z v0,f0 z=some v0→v0.1≤v0.2→∃ v,f z=some v∧v0.1≤v.1∧v.1≤v.2∧v.2≤v0.2
theorem Bk.nst {T : Tb} {n x y : Nat} {f0 f : Sf} {v : R2} (h : Bk T n f0 f) (hm : Met T f x y v) (hN : (T.N.getD y (0,0)).1≤(T.N.getD y (0,0)).2) (hy : y<grp T) (hn : n≤x*grp T+y) {s : Int×Int} (hs : s∈src x y (grp T)) (h0 : f s=f0 s) : Bk T n f0 (nst T (x,y) f s)∧Met T (nst T (x,y) f s) x y v:=by
 obtain⟨z,hz,hnar,e,hm'⟩:=hm.step hN hs
 refine⟨?_,hm'⟩
 rw[e]
 generalize nar (rtt T s.2) z (sub2 (cra T f x y) (sv (rtt T s.2) z)) v=w at *
 refine⟨fun x' y' hy' hlt s' hs'=>?_,fun z' v0 hz' hv0=>?_⟩
 ·unfold pu
  by_cases hss : s'=s
  ·subst hss
   obtain⟨rfl,rfl⟩:=src_inj hs hs' hy hy'
   omega
  ·rw[if_neg hss]
   exact h.same x' y' hy' hlt s' hs'
 ·unfold pu
  by_cases hss : z'=s
  ·subst hss
   rw[if_pos rfl]
   have : z=v0:=by rw[h0,hz'] at hz;exact (Option.some.inj hz).symm
   subst this
   exact⟨w,rfl,hnar.lo,hnar.some,hnar.hi⟩
  ·rw[if_neg hss]
   exact h.sub z' v0 hz' hv0
theorem src_nd {x y G : Nat} : (src x y G).Nodup:=by
 unfold src
 split
 ·simp
 ·split
  ·simp only[List.nodup_cons,List.mem_singleton,Prod.mk.injEq,List.not_mem_nil,not_false_eq_true,List.nodup_nil,and_true]
   omega
  ·simp
theorem Bk.fold {T : Tb} {n x y : Nat} {f0 : Sf} {v : R2} (hN : (T.N.getD y (0,0)).1≤(T.N.getD y (0,0)).2) (hy : y<grp T) (hn : n≤x*grp T+y) : ∀ {l : List (Int×Int)} {f : Sf},Bk T n f0 f→Met T f x y v→l.Nodup→(∀ s∈l,s∈src x y (grp T)∧f s=f0 s)→Bk T n f0 (l.foldl (Go.Xe.TFX.nst T (x,y)) f)∧Met T (l.foldl (Go.Xe.TFX.nst T (x,y)) f) x y v
 | [],f,h,hm,_,_=>⟨h,hm⟩
 | s::l,f,h,hm,hd,hl=>by
  obtain⟨hs,h0⟩:=hl s (List.mem_cons_self ..)
  obtain⟨h',hm'⟩:=h.nst hm hN hy hn hs h0
  rw[List.nodup_cons] at hd
  obtain⟨z,_,_,e,_⟩:=hm.step hN hs
  refine @Bk.fold T n x y f0 v hN hy hn l (Go.Xe.TFX.nst T (x,y) f s) h' hm' hd.2 (fun s' hs'=>?_)
  obtain⟨q1,q2⟩:=hl s' (List.mem_cons_of_mem _ hs')
  refine⟨q1,?_⟩
  rw[e]
  unfold pu
  rw[if_neg (by rintro rfl;exact hd.1 hs')]
  exact q2
theorem Bk.mono {T : Tb} {n m : Nat} {f0 f : Sf} (h : Bk T n f0 f) (hm : m≤n) : Bk T m f0 f:=⟨fun x y hy hl s hs=>h.same x y hy (by omega) s hs,h.sub⟩
theorem Bk.step {T : Tb} {n x y : Nat} {f0 f : Sf} {v : R2} (h : Bk T (n+1) f0 f) (hm : Met T f x y v) (hN : (T.N.getD y (0,0)).1≤(T.N.getD y (0,0)).2) (hy : y<grp T) (hn : x*grp T+y=n) : Bk T n f0 (bst T (x,y) f)∧Met T (bst T (x,y) f) x y v:=
 Bk.fold hN hy (by omega) (h.mono (by omega)) hm src_nd (fun s hs=>⟨hs,h.same x y hy (by omega) s hs⟩)
end Go.Xe.TFX
/- What the functions of the layer flow come to: backward through all cells, what holds at the end. Conditions: none. -/
-- MOD TF
namespace Go.Xe.TFX
open Go Go.Xe Go.Proofs
open Nat renaming reduceLeDiff → qA, reduceSub → qB, reduceAdd → qC, reduceEqDiff → qD, reduceLT → qE
open Int renaming reduceNegSucc → qF, reduceEq → qG
open Go.Xe.V renaming seq → sA, block → sB, scope → sC, skip → sD, close → sE
open Go.Xe renaming pth → P
open Go.Xe.Flw
set_option maxRecDepth 100000
set_option maxHeartbeats 3200000
set_option linter.unusedSimpArgs false
theorem fw_at {T : Tb} {u : Nat→Bool} {k : Nat} {z : Int×Int} : ∀ {j : Nat},k≤j→j≤T.C.length*grp T→(∀ q,k≤q→q<j→z≠(((q/grp T : Nat) : Int),((q%grp T : Nat) : Int)))→fw T u j z=fw T u k z
 | 0,hk,_,_=>by rw[show k=0 by omega]
 | j+1,hk,hj,hz=>by
  by_cases h : k=j+1
  ·rw[h]
  ·have hlt : j<T.C.length*grp T:=by omega
   rw[fw_s hlt]
   unfold put
   rw[if_neg (hz j (by omega) (by omega))]
   exact fw_at (by omega) (by omega) (fun q h1 h2=>hz q h1 (by omega))
structure Fin (T : Tb) (f : Sf) : Prop where
 b : ∀ c (h : c<T.B.length),f ((c : Int),-1)=some T.B[c]
 c : ∀ x y,x<T.C.length→y<grp T→∃ v,f ((x : Int),(y : Int))=some v∧0≤v.1∧v.1≤v.2∧v.2≤bd x∧(cra T f x y).1≤v.1∧v.2≤(cra T f x y).2
theorem fin_ok {T : Tb} {u : Nat→Bool} (h : Fw T (T.C.length*grp T) (fw T u (T.C.length*grp T))) : Fin T (fw T u (T.C.length*grp T)):=by
 refine⟨h.b,fun x y hx hy=>?_⟩
 have hk:=cel_lt hx hy
 obtain⟨v,h1,h2,h3,h4⟩:=h.e x y hx hy hk
 refine⟨v,h1,h2,h3,h4,?_⟩
 have hq : (x*grp T+y)/grp T=x:=by rw[Nat.mul_comm,Nat.mul_add_div (by omega),Nat.div_eq_of_lt hy,Nat.add_zero]
 have hr : (x*grp T+y)%grp T=y:=by rw[Nat.mul_comm,Nat.mul_add_mod,Nat.mod_eq_of_lt hy]
 have e1 : fw T u (T.C.length*grp T) ((x : Int),(y : Int))=fw T u (x*grp T+y+1) ((x : Int),(y : Int)):=by
  refine fw_at (by omega) (Nat.le_refl _) (fun q q1 q2 hh=>?_)
  rw[Prod.mk.injEq] at hh
  have:=Nat.div_add_mod q (grp T)
  have e : q/grp T=x:=by omega
  have e' : q%grp T=y:=by omega
  rw[e,e',Nat.mul_comm] at this
  omega
 have ev : v=ent T u (fw T u (x*grp T+y)) (x,y):=by
  rw[e1,fw_s hk] at h1
  unfold put en at h1
  rw[hq,hr,if_pos rfl] at h1
  exact (Option.some.inj h1).symm
 have ec : cra T (fw T u (T.C.length*grp T)) x y=cra T (fw T u (x*grp T+y)) x y:=by
  unfold cra
  have : pso T (fw T u (T.C.length*grp T)) x y=pso T (fw T u (x*grp T+y)) x y:=by
   unfold pso
   refine List.map_congr_left (fun s hs=>?_)
   have : fw T u (T.C.length*grp T) s=fw T u (x*grp T+y) s:=by
    refine fw_at (by omega) (Nat.le_refl _) (fun q q1 q2 hh=>?_)
    have hd : x≤q/grp T:=(Nat.le_div_iff_mul_le (by omega)).2 (by omega)
    have hs1 : s.1=(x : Int)-1:=by
     unfold src at hs
     split at hs
     ·simp at hs
     ·split at hs
      ·rcases List.mem_cons.1 hs with rfl|hs
       ·rfl
       ·rw[List.mem_singleton.1 hs]
      ·rw[List.mem_singleton.1 hs]
    rw[hh] at hs1
    simp only at hs1
    omega
   rw[this]
  rw[this]
 rw[ec,ev]
 exact⟨Int.le_max_left _ _,Int.min_le_left _ _⟩
theorem Fin.met {T : Tb} {f0 f : Sf} {x y n : Nat} (hv : val T) (h : Fin T f0) (hb : Bk T (n+1) f0 f) (hx : x<T.C.length) (hy : y<grp T) (hn : x*grp T+y=n) : ∃ v,Met T f x y v∧0≤v.1∧v.2≤bd x∧∀ s∈src x y (grp T),f s=f0 s:=by
 obtain⟨v1,v2,v3,v4,v5,v6,v7,v8⟩:=hv
 obtain⟨v0,a1,a2,a3,a4,a5,a6⟩:=h.c x y hx hy
 obtain⟨v,b1,b2,b3,b4⟩:=hb.sub _ v0 a1 a3
 have hsm:=hb.same x y hy (by omega)
 have ec : cra T f x y=cra T f0 x y:=by
  unfold cra
  have : pso T f x y=pso T f0 x y:=by
   unfold pso
   refine List.map_congr_left (fun s hs=>?_)
   rw[hsm s hs]
  rw[this]
 refine⟨v,⟨b1,b3,by rw[ec];omega,by rw[ec];omega,fun s hs=>?_⟩,by omega,by omega,hsm⟩
 rw[hsm s hs]
 have hz : 1≤x∧s.1=((x-1 : Nat) : Int)∧(s.2=(y : Int)-1∨s.2=(y : Int)):=by
  unfold src at hs
  split at hs
  ·simp at hs
  ·have : 1≤x:=by omega
   split at hs
   ·rcases List.mem_cons.1 hs with rfl|hs
    ·exact⟨this,by simp only;omega,.inl rfl⟩
    ·rw[List.mem_singleton.1 hs];exact⟨this,by simp only;omega,.inr rfl⟩
   ·rw[List.mem_singleton.1 hs];exact⟨this,by simp only;omega,.inl rfl⟩
 obtain⟨z1,z2,z3⟩:=hz
 obtain⟨a,b⟩:=s
 simp only at z2 z3 ⊢
 subst z2
 refine⟨?_,?_⟩
 ·unfold rtt
  rw[gd (by omega)]
  exact v7 _ (List.getElem_mem _)
 ·by_cases hb1 : b=-1
  ·subst hb1
   have hcB : x-1<T.B.length:=by omega
   obtain⟨q1,q2,q3⟩:=v6 _ (List.getElem_mem hcB)
   exact⟨_,h.b (x-1) hcB,q1,q2⟩
  ·obtain⟨g',rfl⟩ : ∃ g' : Nat,b=(g' : Int):=⟨b.toNat,by omega⟩
   obtain⟨w,w1,w2,w3,_⟩:=h.c (x-1) g' (by omega) (by omega)
   exact⟨w,w1,w2,w3⟩
theorem bk_ok {T : Tb} {f0 : Sf} (hv : val T) (h : Fin T f0) : ∀ {k : Nat},k≤T.C.length*grp T→Bk T (T.C.length*grp T-k) f0 (bk T f0 k)
 | 0,_=>⟨fun _ _ _ _ _ _=>rfl,fun z v0 hz h0=>⟨v0,hz,Int.le_refl _,h0,Int.le_refl _⟩⟩
 | k+1,hk=>by
  have ih:=bk_ok (f0:=f0) hv h (k:=k) (by omega)
  have hG : 0<grp T:=by have:=hv.1;omega
  have e : T.C.length*grp T-k=T.C.length*grp T-(k+1)+1:=by omega
  have e' : T.C.length*grp T-1-k=T.C.length*grp T-(k+1):=by omega
  rw[e] at ih
  show Bk T _ f0 (bst T ((T.C.length*grp T-1-k)/grp T,(T.C.length*grp T-1-k)%grp T) (bk T f0 k))
  rw[e']
  have hq : T.C.length*grp T-(k+1)<T.C.length*grp T:=by omega
  generalize T.C.length*grp T-(k+1)=n at *
  have hx : n/grp T<T.C.length:=(Nat.div_lt_iff_lt_mul hG).2 hq
  have hy : n%grp T<grp T:=Nat.mod_lt _ hG
  have hn : n/grp T*grp T+n%grp T=n:=by rw[Nat.mul_comm];exact Nat.div_add_mod n (grp T)
  obtain⟨v,hm,_⟩:=h.met hv ih hx hy hn
  have hNl : n%grp T<T.N.length:=by have:=hv.2.2.2.1;omega
  refine (ih.step hm ?_ hy hn).1
  rw[gd hNl]
  exact (hv.2.2.2.2.2.2.2 _ (List.getElem_mem hNl)).2.1
end Go.Xe.TFX
/- What the functions of the layer flow come to: what narrowing asks. Conditions: none. -/
-- MOD TF
namespace Go.Xe.TFX
open Go Go.Xe Go.Proofs
open Nat renaming reduceLeDiff → qA, reduceSub → qB, reduceAdd → qC, reduceEqDiff → qD, reduceLT → qE
open Int renaming reduceNegSucc → qF, reduceEq → qG
open Go.Xe.V renaming seq → sA, block → sB, scope → sC, skip → sD, close → sE
open Go.Xe renaming pth → P
open Go.Xe.Flw
set_option maxRecDepth 100000
set_option maxHeartbeats 3200000
set_option linter.unusedSimpArgs false
theorem fold_same {T : Tb} {c : Nat×Nat} {s : Int×Int} : ∀ {l : List (Int×Int)} {f : Sf},s∉l→(l.foldl (nst T c) f) s=f s
 | [],_,_=>rfl
 | a::l,f,h=>by
  show (l.foldl (nst T c) (nst T c f a)) s=f s
  rw[fold_same (fun hh=>h (List.mem_cons_of_mem _ hh))]
  unfold nst pu
  rw[if_neg (by rintro rfl;exact h (List.mem_cons_self ..))]
theorem srcs {T : Tb} {f0 f : Sf} {x y n : Nat} (hf : fit T) (hv : val T) (h : Fin T f0) (hb : Bk T n f0 f) (hx : x<T.C.length) (hy : y<grp T) : ∀ s∈src x y (grp T),okK s∧(∃ k : Nat,s.2+1=(k : Int)∧∃ hk : k<T.Rt.length,T.Rt[k]=rtt T s.2∧isRate (rtt T s.2))∧∃ z,f s=some z∧0≤z.1∧z.1≤z.2∧z.2≤1000000:=by
 intro s hs
 obtain⟨v1,v2,v3,v4,v5,v6,v7,v8⟩:=hv
 obtain⟨hf1,hf2⟩:=hf
 have hz : 1≤x∧s.1=((x-1 : Nat) : Int)∧(s.2=(y : Int)-1∨s.2=(y : Int)):=by
  unfold src at hs
  split at hs
  ·simp at hs
  ·have : 1≤x:=by omega
   split at hs
   ·rcases List.mem_cons.1 hs with rfl|hs
    ·exact⟨this,by simp only;omega,.inl rfl⟩
    ·rw[List.mem_singleton.1 hs];exact⟨this,by simp only;omega,.inr rfl⟩
   ·rw[List.mem_singleton.1 hs];exact⟨this,by simp only;omega,.inl rfl⟩
 obtain⟨z1,z2,z3⟩:=hz
 obtain⟨a,b⟩:=s
 simp only at z2 z3 ⊢
 subst z2
 have hm:=bd_4 (show x-1<4 by omega)
 refine⟨⟨by simp only;omega,by simp only;omega⟩,?_,?_⟩
 ·have hk : (b+1).toNat<T.Rt.length:=by omega
  have e : rtt T b=T.Rt[(b+1).toNat]:=by unfold rtt;exact gd hk
  exact⟨(b+1).toNat,by omega,hk,e.symm,by rw[e];exact v7 _ (List.getElem_mem hk)⟩
 ·have h0 : ∃ w,f0 (((x-1 : Nat) : Int),b)=some w∧0≤w.1∧w.1≤w.2∧w.2≤1000000:=by
   by_cases hb1 : b=-1
   ·subst hb1
    have hcB : x-1<T.B.length:=by omega
    obtain⟨q1,q2,q3⟩:=v6 _ (List.getElem_mem hcB)
    exact⟨_,h.b (x-1) hcB,q1,q2,by omega⟩
   ·obtain⟨g',rfl⟩ : ∃ g' : Nat,b=(g' : Int):=⟨b.toNat,by omega⟩
    obtain⟨w,w1,w2,w3,w4,_⟩:=h.c (x-1) g' (by omega) (by omega)
    exact⟨w,w1,w2,w3,by omega⟩
  obtain⟨w,w1,w2,w3,w4⟩:=h0
  obtain⟨z,b1,b2,b3,b4⟩:=hb.sub _ w w1 w3
  exact⟨z,b1,by omega,b3,by omega⟩
theorem srcs_ok {T : Tb} {f0 f : Sf} {x y n : Nat} (hf : fit T) (hv : val T) (h : Fin T f0) (hb : Bk T n f0 f) (hx : x<T.C.length) (hy : y<grp T) :
  ∀ j (h1 : j<(src x y (grp T)).length) (h2 : j<(pso T f x y).length),Src T f (src x y (grp T))[j] (pso T f x y)[j].2 (pso T f x y)[j].1:=by
 intro j h1 h2
 obtain⟨q1,⟨k,q2,hk,q3,q4⟩,z,q5,q6,q7,q8⟩:=srcs hf hv h hb hx hy _ (List.getElem_mem h1)
 have e : (pso T f x y)[j]=(rtt T (src x y (grp T))[j].2,(f (src x y (grp T))[j]).getD (0,0)):=by simp[pso,rtt]
 rw[e]
 rw[q5,Option.getD_some]
 exact⟨q1,q5,by simp only;omega,by simp only;omega,⟨k,q2,hk,q3⟩,q4⟩
theorem cra_bd {T : Tb} {f0 f : Sf} {x y n : Nat} (hf : fit T) (hv : val T) (h : Fin T f0) (hb : Bk T n f0 f) (hx : x<T.C.length) (hy : y<grp T) : (-2000500≤(cra T f x y).1∧(cra T f x y).1≤2000500)∧-2000500≤(cra T f x y).2∧(cra T f x y).2≤2000500:=by
 have hs:=srcs_ok hf hv h hb hx hy
 have hyN : y<T.N.length:=by have:=hv.2.2.2.1;omega
 have hN:=hv.2.2.2.2.2.2.2 _ (List.getElem_mem hyN)
 obtain⟨n1,n2,n3⟩:=hN
 unfold cra car
 split
 ·simp
 ·have hl : (pso T f x y).length≤2:=by rw[pso_len];exact src_len ..
  have:=tt_bd (ps:=pso T f x y) (t:=T.N.getD y (0,0)) (m:=50) (by
   intro p hp
   obtain⟨j,hj,rfl⟩:=List.mem_iff_getElem.1 hp
   have s1:=hs j (by rw[← pso_len];exact hj) hj
   exact⟨s1.isR,s1.lo,s1.hi⟩) (by rw[gd hyN];omega) (by rw[gd hyN];omega)
  omega
end Go.Xe.TFX
