/- What the functions of the layer flow come to: forward through all cells. Conditions: none. -/
import Derived.Test.YtbbdafmehaohkaaTHF
import Derived.Test.YtbbdafmehaohkaaZu
import Derived.Test.YtbbdafmehaohkaaWa
-- MOD TF
namespace Go.Xe.TFX
open Go Go.Xe Go.Proofs
open Nat renaming reduceLeDiff → qA, reduceSub → qB, reduceAdd → qC, reduceEqDiff → qD, reduceLT → qE
open Int renaming reduceNegSucc → qF, reduceEq → qG
open Go.Xe.V renaming seq → sA, block → sB, scope → sC, skip → sD, close → sE
open Go.Xe renaming pth → P
open Go.Xe.Flw
set_option maxRecDepth 100000
set_option maxHeartbeats 3200000
set_option linter.unusedSimpArgs false
noncomputable def d115 : FCode:=(.seq (.run (.go (.box 135 (tm 0)) (P 1)::
.go (.alloc 138 [(.map none)]) (P 2)::
.go (.alloc 4 [(.bool false)]) (P 3)::
[])) (.seq (.run (.go (.loadN 22 (tm 1)) (P 5)::
.go (.call (.con (.func (.func 134) ⟨[]⟩ ⟨[]⟩)) [tm 5]) (P 6)::
.un (.store 1 (tm 2) (tm 6))::
[])) (.seq (.seq (.run (.go (.loadN 22 (tm 1)) (P 7)::
.go (.call (.con (.func (.func 74) ⟨[]⟩ ⟨[]⟩)) [tm 7]) (P 8)::
[])) (.block 0 (.rangeFunc (tm 8) [(P 9)] (rfA Try.f115 0) (rfB Try.f115 0) (.run (.go (.alloc 74 [(.int .i64 (.ofNat 0)),(.int .i64 (.ofNat 0))]) (P 4)::
.un (.store 2 (tm 4) (tm 9))::
[])) (.block 1 (.seq (.run (.go (.loadN 22 (tm 1)) (P 10)::
.go (.loadN 2 (tm 4)) (P 11)::
.go (.load1 (tm 2)) (P 12)::
.go (.call (.con (.func (.func 135) ⟨[]⟩ ⟨[]⟩)) [(tm 10),(tm 11),(tm 12)]) (P 13)::
.go (.un .not (tm 13)) (P 14)::
[])) (.cond (tm 14) (.seq (.run (.un (.store 1 (tm 2) (.con (.map none)))::
.un (.store 1 (tm 3) (.con (.bool false)))::
[])) .ret) .skip)))))) (.seq (.run (.go (.load1 (tm 2)) (P 15)::
.un (.store 1 (tm 2) (tm 15))::
.un (.store 1 (tm 3) (.con (.bool true)))::
[])) .ret))))
theorem de115 : @compF Try.prog (Gl.none Try.prog) Try.f115 1=.mk d115 (mkTT 16) [(P 0)] [.one (P 2),.one (P 3)]:=by kernel_rfl
theorem dg115 : Try.prog.funcs[115]?=some Try.f115:=Try.func115
theorem do115 : okF Try.prog Try.f115=true:=by kernel_rfl
theorem celL_q {K G q : Nat} (h : q<(celL K G).length) : (celL K G)[q]=[.agg ⟨A2 ((q/G : Nat) : Int) ((q%G : Nat) : Int)⟩]:=by simp[celL,cel]
theorem SZ.growS {U : Nat→Prop} {A B : Heap} {i : Nat} {f : Sf} (h : SZ A i f) (g : GrowS U A B) (hu : ¬ U i) : SZ B i f:=MpF.loc h g.1 (g.2 _ h.lt hu)
def ok (T : Tb) (u : Nat→Bool) : Prop:=∀ k,k<T.C.length*grp T→¬ (en T u k).2<(en T u k).1
instance (T : Tb) (u : Nat→Bool) : Decidable (ok T u):=by unfold ok;infer_instance
theorem shs {T : Tb} (hf : fit T) (hv : val T) : sh T:=by
 obtain⟨f1,f2⟩:=hf
 obtain⟨v1,v2,v3,v4,v5,v6,v7,v8⟩:=hv
 refine⟨by omega,fun row hr=>?_,by omega,by omega,by omega⟩
 rw[(v5 row hr).1]
 omega
theorem f115_ok {H : Heap} {c b r n : Value} {u : Nat→Bool} {T : Tb} (h : TV H c b r n T) (hf : fit T) (hv : val T) : F Try.prog 115 ⟨[.agg ⟨LG c b r n u⟩]⟩ H (fun w X=>Grow H X∧((ok T u∧∃ i,w=.tuple ⟨[.map (some i),.bool true]⟩∧H.next≤i∧SZ X i (fw T u (T.C.length*grp T))∧Fw T (T.C.length*grp T) (fw T u (T.C.length*grp T)))∨(¬ ok T u∧w=.tuple ⟨[.map none,.bool false]⟩))):=by
 have hs:=shs hf hv
 have hf1:=hf.1
 have hf2:=hf.2
 obtain⟨v1,v2,v3,v4,v5,v6,v7,v8⟩:=hv
 have hv : val T:=⟨v1,v2,v3,v4,v5,v6,v7,v8⟩
 refine F.entryL rfl dg115 do115 de115 rfl (by kernel_rfl) ?_
 simp only[sets]
 refine V.re [(0,.agg ⟨LG c b r n u⟩)] (N:=16) zE zY ?_
 intro t hF hA
 simp only[Kn,and_true] at hA
 refine zS ?_
 refine V.l0 ?_
 refine V.heap (fun X=>Grow H X∧Bx X H.next (LG c b r n u) 135∧Bx X (H.next+1) [.map none] 138∧Bx X (H.next+2) [.bool false] 4) ⟨?_,?_,?_,?_⟩ ?_
 ·exact zW
 ·exact zB
 ·exact zB
 ·exact zB
 rintro H1 ⟨g1,b1,c1,d1⟩
 have nd:=d1.1
 refine zS ?_
 refine V.run ?_
 have zf:=And.intro b1.2<|And.intro @LG_t22<|@LG_len
 refine VI.sz 1 ?_
 simp only[ds]
 refine VI.callR zA (f134_ok (h.grow g1) (by omega)) zA (fun v6 H2 ⟨g2,i,hw,hi,m2⟩=>?_)
 subst hw
 have b2:=b1.grow g2
 have c2:=c1.grow g2
 have d2:=d1.grow g2
 have g12:=g1.trans g2
 have li:=m2.lt
 have n12:=g2.1
 have zf:=c2.2
 refine VI.lz ?_
 refine V.heap (fun X=>Grow H X∧Bx X H.next (LG c b r n u) 135∧Bx X (H.next+1) [.map (some i)] 138∧Bx X (H.next+2) [.bool false] 4∧SZ X i (bf T.B)∧H2.next≤X.next) ⟨?_,?_,?_,?_,?_,?_⟩ ?_
 ·exact g12.set (by omega) _
 ·exact b2.set (by omega) _
 ·exact⟨by simp only[Heap.next_set];omega,cells_set _ _ _ _ _⟩
 ·exact d2.set (by omega) _
 ·exact m2.growS (U:=(·=H.next+1)) (GrowS.setAt _ _ _) (by omega)
 ·simp only[Heap.next_set];omega
 rintro H3 ⟨g3,b3,c3,d3,m3,n3⟩
 refine zS ?_
 refine V.run ?_
 have zf:=And.intro b3.2<|And.intro @LG_t22<|@LG_len
 refine VI.sz 1 ?_
 simp only[ds]
 refine VI.callR zA (f74_ok (c:=c) (b:=b) (r:=r) (n:=n) (u:=u) (H:=H3)) zA (fun v8' H4 ⟨p,hp,hp1,g4,p4⟩=>?_)
 subst hp
 refine VI.l0 ?_
 have b4:=b3.grow g4
 have c4:=c3.grow g4
 have d4:=d3.grow g4
 have m4:=m3.grow g4
 have g14:=g3.trans g4
 have np:=p4.1
 have z0:=Fw.zero T u
 have e0 : fw T u 0=bf T.B:=by unfold fw fwd;rw[List.take_zero];rfl
 rw[← e0] at m4
 refine zS ?_
 refine V.re [(1,PT H.next),(2,PT (H.next+1)),(3,PT (H.next+2)),(8,.func (.func 119) ⟨[]⟩ ⟨[PT p]⟩)] (N:=16) zF zK ?_
 clear hF hA
 intro t hF hA
 simp only[Kn,and_true] at hA
 refine V.rangeL (f119_iter h g14 p4 (by omega) (by omega)) (fun y=>y=i∨y=H.next+1∨y=H.next+2) (fun k X=>Bx X H.next (LG c b r n u) 135∧Bx X (H.next+1) [.map (some i)] 138∧Bx X (H.next+2) [.bool false] 4∧SZ X i (fw T u k)∧(∀ q,q<k→¬ (en T u q).2<(en T u q).1)∧Fw T k (fw T u k)) (fun e X=>e=.ret∧Bx X (H.next+1) [.map none] 138∧Bx X (H.next+2) [.bool false] 4∧¬ ok T u)
  zA rfl (Nat.le_succ _) ?_ ?_ ?_ ?_ ?_ ?_ ?_
 ·rintro j (rfl|hj)
  ·exact⟨p4.1,by omega,by rw[Heap.get_alloc,if_neg (by omega)]⟩
  ·exact⟨by omega,by omega,by rw[Heap.get_alloc,if_neg (by omega)]⟩
 ·intro l hl
  obtain⟨q,_,rfl⟩:=List.mem_map.1 hl
  rfl
 ·rintro k X X' r1 r2 ⟨h1,h2,h3,h4,h5,h6⟩ _ _ g
  simp only[Heap.next_alloc] at g
  exact⟨h1.growS g (by omega),h2.growS g (by omega),h3.growS g (by omega),h4.growS g (by omega),h5,h6⟩
 ·rintro e X X' r1 r2 ⟨he,h1,h2,h3⟩ _ _ g
  simp only[Heap.next_alloc] at g
  exact⟨he,h1.growS g (by omega),h2.growS g (by omega),h3⟩
 ·intro r
  have g : Grow H4 ((H4.alloc (.deferred true)).alloc (.loop r)):=((Grow.refl H4).alloc _).alloc _
  exact⟨b4.grow g,c4.grow g,d4.grow g,m4.grow g,fun q hq=>absurd hq (Nat.not_lt_zero _),z0⟩
 ·rintro k hk r X ⟨h1,h2,h3,h4,h5,h6⟩ hg hlX hl hr
  simp only[Heap.next_alloc] at hlX
  rw[celL_len] at hk
  rw[celL_q]
  simp only[sets]
  refine zS ?_
  refine V.l0 ?_
  refine V.heap (fun Y=>Grow X Y∧Bx Y X.next (A2 ((k/grp T : Nat) : Int) ((k%grp T : Nat) : Int)) 74) ⟨?_,?_⟩ ?_
  ·exact zW
  ·exact zB
  rintro X1 ⟨gx,x4⟩
  have hl1 : X1.get (H4.next+1)=some (.loop r):=by rw[gx.2 _ (by omega)];exact hl
  refine V.nil ⟨rfl,hl1,gx.s,?_⟩
  intro X2 _ hl2 g2'
  simp only[Heap.next_alloc] at g2' hl2
  have h1:=(h1.grow gx).growS g2' (by omega)
  have h2:=(h2.grow gx).growS g2' (by omega)
  have h3:=(h3.grow gx).growS g2' (by omega)
  have h4:=(h4.grow gx).growS g2' (by omega)
  have nx1:=gx.1
  have nx2:=g2'.1
  have x4:=x4.growS g2' (by omega)
  have hlt2:=Nat.lt_of_lt_of_le hlX (Nat.le_trans gx.1 g2'.1)
  have hG : 0<grp T:=by omega
  have hc : k/grp T<T.C.length:=(Nat.div_lt_iff_lt_mul hG).2 hk
  have hg' : k%grp T<grp T:=Nat.mod_lt _ hG
  have hkk : k/grp T*grp T+k%grp T=k:=by rw[Nat.mul_comm];exact Nat.div_add_mod k (grp T)
  have hrow : (T.C[k/grp T]).length=grp T:=(v5 _ (List.getElem_mem hc)).1
  have hsr:=h6.src hf hv hc hg' hkk (by omega)
  have hy : k%grp T<T.N.length:=by omega
  have hk4 : k/grp T<4:=by omega
  have hg4 : k%grp T<4:=by omega
  have hgl : k%grp T<(T.C[k/grp T]).length:=by omega
  have hg8 : grp T≤1048576:=by omega
  have hN:=v8 _ (List.getElem_mem hy)
  have hN4 : -50≤(T.N[k%grp T]).1∧(T.N[k%grp T]).1≤50∧-50≤(T.N[k%grp T]).2∧(T.N[k%grp T]).2≤50:=by
   obtain⟨q1,q2,q3⟩:=hN
   omega
  have n14:=g14.1
  have gAX : Grow H X2:=⟨by omega,fun q hq=>by rw[g2'.2 q (by omega) (by omega),gx.2 q (by omega),hg.2 q (by simp only[Heap.next_alloc];omega) (by simp only[Heap.next_alloc];omega),Heap.get_alloc,if_neg (by omega),g14.2 q hq]⟩
  refine zS ?_
  refine V.run ?_
  have zf:=And.intro h1.2<|And.intro x4.2<|And.intro h2.2<|And.intro @LG_t22<|@LG_len
  refine VI.sz 3 ?_
  simp only[ds]
  refine VI.callR zA (f135_ok (u:=u) (ps:=pso T (fw T u k) (k/grp T : Nat) (k%grp T : Nat)) (h.grow gAX) hs hg8 hc hgl hk4 hg4 hy hN4 h4 (pso_len _ _ _ _) (fun j q1 q2=>(hsr j q1 q2).1)) zA (fun v9 X3 ⟨v,hvv,hw,gx3,mz⟩=>?_)
  subst hw
  have ev : v=en T u k:=by
   rw[hvv]
   unfold en ent cra cns
   simp only
   rw[gd hy,gd hc,gd (by omega)]
  have mz' : SZ X3 i (fw T u (k+1)):=by
   rw[fw_s hk]
   unfold put
   rw[← ev]
   exact mz
  clear mz
  have nx3:=gx3.1
  have gs3 : GrowS (fun y=>y=i∨y=H.next+1∨y=H.next+2) X2 X3:=GrowS.x gx3 (.inl rfl)
  have h1':=h1.growX gx3 (by omega)
  have h2':=h2.growX gx3 (by omega)
  have h3':=h3.growX gx3 (by omega)
  have hl3 : X3.get (H4.next+1)=some (.loop { r with state:=.busy }):=by rw[gx3.2 _ (by omega) (by omega)];exact hl2
  refine VI.l0 ?_
  refine zS ?_
  refine V.condP zP (fun hcp=>?_) (fun hcp=>?_)
  ·have hcp' : v.2<v.1:=by omega
   refine zS ?_
   have zf:=And.intro h2'.2<|h3'.2
   refine V.lz ?_
   refine V.heap (fun Y=>GrowS (fun y=>y=i∨y=H.next+1∨y=H.next+2) X3 Y∧Bx Y (H.next+1) [.map none] 138∧Bx Y (H.next+2) [.bool false] 4) ⟨?_,?_,?_⟩ ?_
   ·exact ((GrowS.refl X3).set (.inl (.inr (.inl rfl))) _).set (.inl (.inr (.inr rfl))) _
   ·refine Bx.set (i:=H.next+1) ⟨by simp only[Heap.next_set];exact h2'.1,cells_set _ _ _ _ _⟩ (by omega) _
   ·exact⟨by simp only[Heap.next_set];exact h3'.1,cells_set _ _ _ _ _⟩
   rintro Y ⟨gy,y2,y3⟩
   refine zS ?_
   refine V.ret (V.rets rfl ?_)
   refine⟨(gy.2 (H4.next+1) (by omega) (by show ¬ (_∨_∨_);omega)).trans hl3,gs3.trans gy,.inr ⟨by simp,rfl,y2,y3,?_⟩⟩
   intro hok
   have:=hok k hk
   rw[← ev] at this
   exact this hcp'
  ·have hcp' : ¬ v.2<v.1:=by omega
   have hne : ¬ (en T u k).2<(en T u k).1:=by rw[← ev];exact hcp'
   refine zS ?_
   refine V.nil ⟨hl3,gs3,.inl ⟨rfl,h1',h2',h3',mz',fun q hq=>?_,h6.step hf hv hk hne⟩⟩
   by_cases hqk : q=k
   ·rw[hqk];exact hne
   ·exact h5 q (by omega)
 ·rintro e X hh hg hlX
  simp only[Heap.next_alloc] at hlX
  have n14:=g14.1
  have nd4:=d4.1
  have hgd : X.get H4.next=some (.deferred true):=by
   rw[hg.2 _ (by simp only[Heap.next_alloc];omega) (by simp only[Heap.next_alloc];omega),Heap.get_alloc,if_pos rfl]
  have gAX : ∀ q,q<H.next→X.get q=H.get q:=fun q hq=>by rw[hg.2 q (by simp only[Heap.next_alloc];omega) (by simp only[Heap.next_alloc];omega),Heap.get_alloc,if_neg (by omega),g14.2 q hq]
  rcases hh with⟨rfl,h1,h2,h3,h4,h5,h6⟩|⟨_,rfl,h1,h2,h3⟩
  ·rw[celL_len] at h4 h5 h6
   refine zS ?_
   have zf:=And.intro h2.2<|h3.2
   refine V.lz ?_
   refine zS ?_
   refine V.ret (V.rets rfl (Lv.retM (by rw[Heap.get_set,if_neg (by omega),Heap.get_set,if_neg (by omega)];exact hgd) (by simp +contextual (disch:=first|omega|simp only[nx];omega) only[D1,cells_set_at,cells_set_ne,yres,yres1,yresL,qA,qB,qC,h2.2,h3.2,D5,hF,hA,↓reduceIte,qD,qE];rfl) ?_))
   refine⟨⟨by simp only[Heap.next_set];omega,fun q hq=>?_⟩,.inl ⟨h5,i,rfl,by omega,?_,h6⟩⟩
   ·rw[Heap.get_set,if_neg (by omega),Heap.get_set,if_neg (by omega),Heap.get_set,if_neg (by omega)]
    exact gAX q hq
   ·exact h4.growS (U:=fun y=>y=H.next+1∨y=H.next+2∨y=H4.next) (((GrowS.setAt X _ _).mono (by intro y hy;exact .inl hy)).set (.inl (.inr (.inl rfl))) _ |>.set (.inl (.inr (.inr rfl))) _) (by omega)
  ·refine V.rets rfl (Lv.retM hgd (by simp +contextual (disch:=first|omega|simp only[nx];omega) only[D1,cells_set_at,cells_set_ne,yres,yres1,yresL,qA,qB,qC,h1.2,h2.2,D5,hF,hA,↓reduceIte,qD,qE];rfl) ?_)
   refine⟨⟨by simp only[Heap.next_set];omega,fun q hq=>?_⟩,.inr ⟨h3,rfl⟩⟩
   rw[Heap.get_set,if_neg (by omega)]
   exact gAX q hq
end Go.Xe.TFX
/- What the functions of the layer flow come to: do the counts agree, and what a source's sizes are narrowed to. Conditions: none. -/
-- MOD TF
namespace Go.Xe.TFX
open Go Go.Xe Go.Proofs
open Nat renaming reduceLeDiff → qA, reduceSub → qB, reduceAdd → qC, reduceEqDiff → qD, reduceLT → qE
open Int renaming reduceNegSucc → qF, reduceEq → qG
open Go.Xe.V renaming seq → sA, block → sB, scope → sC, skip → sD, close → sE
open Go.Xe renaming pth → P
open Go.Xe.Flw
set_option maxRecDepth 100000
set_option maxHeartbeats 3200000
set_option linter.unusedSimpArgs false
noncomputable def d118 : FCode:=(.seq (.run (.go (.box 135 (tm 0)) (P 4)::
.go (.box 74 (tm 1)) (P 5)::
.go (.box 74 (tm 2)) (P 6)::
.go (.alloc 69 [(.int .i64 (.ofNat 0)),(.int .i64 (.ofNat 0))]) (P 8)::
[])) (.seq (.draw 12 (.go (.loadN 22 (tm 4)) (P 14)::
.go (.loadN 2 (tm 5)) (P 15)::
.go (.move (tm 3)) (P 16)::
.go (.call (.con (.func (.func 137) ⟨[]⟩ ⟨[]⟩)) [(tm 14),(tm 15),(tm 16)]) (P 17)::
.go (.loadN 22 (tm 4)) (P 18)::
.go (.loadN 2 (tm 6)) (P 19)::
.go (.move (tm 3)) (P 20)::
.go (.call (.con (.func (.func 125) ⟨[]⟩ ⟨[]⟩)) [(tm 18),(tm 19),(tm 20)]) (P 21)::
.go (.alloc 69 [(.int .i64 (.ofNat 0)),(.int .i64 (.ofNat 0))]) (P 9)::
.go (.alloc 69 [(.int .i64 (.ofNat 0)),(.int .i64 (.ofNat 0))]) (P 10)::
.un (.store 2 (tm 9) (tm 17))::
.un (.store 2 (tm 10) (tm 21))::
[]) [.ok,.ok,.ok,.ok,.rd none (.loadN 22 (tm 4)) (some (P 18)) [0],.rd none (.loadN 2 (tm 6)) (some (P 19)) [0],.ok,.ok,.nw none (some (P 9)) 8 true,.nw none (some (P 10)) 9 true,.ok,.ok]) (.seq (.draw 11 (.go (.move (tm 3)) (P 22)::
.go (.loadN 2 (tm 6)) (P 23)::
.go (.lookup 74 (.agg ⟨[(.int .i64 (.ofNat 0)),(.int .i64 (.ofNat 0))]⟩) (tm 22) (tm 23) false) (P 24)::
.go (.field1 0 (tm 24)) (P 25)::
.go (.fieldAddr 1 (tm 10)) (P 26)::
.go (.load1 (tm 26)) (P 27)::
.go (.fieldAddr 1 (tm 9)) (P 28)::
.go (.load1 (tm 28)) (P 29)::
.go (.bin .sub 3 (tm 27) (tm 29)) (P 30)::
.go (.bin .sub 3 (tm 25) (tm 30)) (P 31)::
.go (.move (tm 31)) (P 11)::
[]) [.ok,.ok,.ok,.ok,.ok,.ok,.ok,.ok,.ok,.ok,.ok]) (.seq (.draw 11 (.go (.move (tm 3)) (P 32)::
.go (.loadN 2 (tm 6)) (P 33)::
.go (.lookup 74 (.agg ⟨[(.int .i64 (.ofNat 0)),(.int .i64 (.ofNat 0))]⟩) (tm 32) (tm 33) false) (P 34)::
.go (.field1 1 (tm 34)) (P 35)::
.go (.fieldAddr 0 (tm 10)) (P 36)::
.go (.load1 (tm 36)) (P 37)::
.go (.fieldAddr 0 (tm 9)) (P 38)::
.go (.load1 (tm 38)) (P 39)::
.go (.bin .sub 3 (tm 37) (tm 39)) (P 40)::
.go (.bin .sub 3 (tm 35) (tm 40)) (P 41)::
.go (.move (tm 41)) (P 12)::
[]) [.ok,.ok,.ok,.ok,.ok,.ok,.ok,.ok,.ok,.ok,.ok]) (.seq (.run (.go (.move (tm 3)) (P 42)::
.go (.loadN 2 (tm 5)) (P 43)::
.go (.lookup 74 (.agg ⟨[(.int .i64 (.ofNat 0)),(.int .i64 (.ofNat 0))]⟩) (tm 42) (tm 43) false) (P 44)::
.go (.alloc 69 [(.int .i64 (.ofNat 0)),(.int .i64 (.ofNat 0))]) (P 13)::
.un (.store 2 (tm 13) (tm 44))::
[])) (.seq (.block 0 (.loop (.seq (.seq (.draw 11 (.go (.fieldAddr 20 (tm 4)) (P 45)::
.go (.fieldAddr 1 (tm 45)) (P 46)::
.go (.load1 (tm 46)) (P 47)::
.go (.loadN 22 (tm 4)) (P 48)::
.go (.loadN 2 (tm 5)) (P 49)::
.go (.call (.con (.func (.func 138) ⟨[]⟩ ⟨[]⟩)) [(tm 48),(tm 49)]) (P 50)::
.go (.fieldAddr 0 (tm 13)) (P 51)::
.go (.load1 (tm 51)) (P 52)::
.go (.call (tm 47) [(tm 50),(tm 52)]) (P 53)::
.go (.move (tm 11)) (P 54)::
.go (.bin .lss 3 (tm 53) (tm 54)) (P 55)::
[]) [.ok,.ok,.rd none (.load1 (tm 46)) (some (P 47)) [6],.ok,.ok,.ok,.ok,.rd none (.load1 (tm 51)) (some (P 52)) [0],.ok,.ok,.ok]) (.cond (tm 55) .skip (.exit 0))) (.block 1 (.run (.go (.fieldAddr 0 (tm 13)) (P 56)::
.go (.load1 (tm 56)) (P 57)::
.go (.bin .add 3 (tm 57) (.con (.int .i64 (.ofNat 1)))) (P 58)::
.go (.fieldAddr 0 (tm 13)) (P 59)::
.un (.store 1 (tm 59) (tm 58))::
[])))))) (.seq (.block 2 (.loop (.seq (.seq (.draw 11 (.go (.fieldAddr 20 (tm 4)) (P 60)::
.go (.fieldAddr 0 (tm 60)) (P 61)::
.go (.load1 (tm 61)) (P 62)::
.go (.loadN 22 (tm 4)) (P 63)::
.go (.loadN 2 (tm 5)) (P 64)::
.go (.call (.con (.func (.func 138) ⟨[]⟩ ⟨[]⟩)) [(tm 63),(tm 64)]) (P 65)::
.go (.fieldAddr 1 (tm 13)) (P 66)::
.go (.load1 (tm 66)) (P 67)::
.go (.call (tm 62) [(tm 65),(tm 67)]) (P 68)::
.go (.move (tm 12)) (P 69)::
.go (.bin .gtr 3 (tm 68) (tm 69)) (P 70)::
[]) [.ok,.ok,.rd none (.load1 (tm 61)) (some (P 62)) [6],.ok,.ok,.ok,.ok,.rd none (.load1 (tm 66)) (some (P 67)) [0],.ok,.ok,.ok]) (.cond (tm 70) .skip (.exit 2))) (.block 3 (.run (.go (.fieldAddr 1 (tm 13)) (P 71)::
.go (.load1 (tm 71)) (P 72)::
.go (.bin .sub 3 (tm 72) (.con (.int .i64 (.ofNat 1)))) (P 73)::
.go (.fieldAddr 1 (tm 13)) (P 74)::
.un (.store 1 (tm 74) (tm 73))::
[])))))) (.seq (.run (.go (.loadN 2 (tm 13)) (P 75)::
.un (.store 2 (tm 8) (tm 75))::
[])) .ret))))))))
theorem de118 : @compF Try.prog (Gl.none Try.prog) Try.f118 4=.mk d118 (mkTT 76) [(P 0),(P 1),(P 2),(P 3)] [.many (P 8) 2]:=by kernel_rfl
theorem dg118 : Try.prog.funcs[118]?=some Try.f118:=Try.func118
theorem do118 : okF Try.prog Try.f118=true:=by kernel_rfl
theorem nlo_s {q : R2} {a z : Int} (k : Nat) (h : mst q z<a) : nlo q a (k+1) z=nlo q a k (z+1):=by simp only[nlo,if_pos h]
theorem nlo_e {q : R2} {a z : Int} (k : Nat) (h : ¬ mst q z<a) : nlo q a k z=z:=by cases k with
 | zero=>rfl
 | succ k=>simp only[nlo,if_neg h]
theorem nhi_s {q : R2} {a z : Int} (k : Nat) (h : a<few q z) : nhi q a (k+1) z=nhi q a k (z-1):=by simp only[nhi,if_pos h]
theorem nhi_e {q : R2} {a z : Int} (k : Nat) (h : ¬ a<few q z) : nhi q a k z=z:=by cases k with
 | zero=>rfl
 | succ k=>simp only[nhi,if_neg h]
theorem f118_ok {H : Heap} {c b r n : Value} {u : Nat→Bool} {T : Tb} {k i y : Nat} {sx sy x : Int} {f : Sf} {ps : List (R2×R2)} {z v : R2} (ek : sy+1=(k : Int)) (hsk : okK (sx,sy)) (hxy : okK (x,(y : Int))) (h : TV H c b r n T) (hs : sh T) (hG : grp T≤1048576) (hk : k<T.Rt.length) (hm : SZ H i f) (hz : f (sx,sy)=some z) (hv : f (x,(y : Int))=some v) (hq : isRate T.Rt[k]) (z1 : 0≤z.1∧z.1≤1000000) (z2 : 0≤z.2∧z.2≤1000000) (hzz : z.1≤z.2)
  (w1 : 0≤v.1∧v.1≤1000000) (w2 : 0≤v.2∧v.2≤1000000)
  (hy : y<T.N.length) (hN : -50≤T.N[y].1∧T.N[y].1≤50∧-50≤T.N[y].2∧T.N[y].2≤50)
  (hp : ps.length=(src x y (grp T)).length) (hsr : ∀ j (h1 : j<(src x y (grp T)).length) (h2 : j<ps.length),Src T f (src x y (grp T))[j] ps[j].2 ps[j].1)
  {o : R2} (ho1 : o.1=(car T.N[y] x ps).1-(sv T.Rt[k] z).1) (ho2 : o.2=(car T.N[y] x ps).2-(sv T.Rt[k] z).2) (hob : (-4000000≤o.1∧o.1≤4000000)∧-4000000≤o.2∧o.2≤4000000)
  (n1 : v.1≤mst T.Rt[k] z.2+o.2) (n2 : few T.Rt[k] z.1+o.1≤v.2) :
  Gives Try.prog 118 [.agg ⟨LG c b r n u⟩,.agg ⟨A2 sx sy⟩,.agg ⟨A2 x y⟩,.map (some i)] H (.agg ⟨r2 (nar T.Rt[k] z o v)⟩):=by
 have hl1:=fun (X : Heap) (g : Grow H X)=>(hm.grow g).look hsk
 have hl2:=fun (X : Heap) (g : Grow H X)=>(hm.grow g).look hxy
 rw[hz] at hl1
 rw[hv] at hl2
 simp only[Option.getD_some] at hl1 hl2
 have li:=hm.lt
 have vL:=vEq_LG (u:=u) h.c.isS (rp.sl h.b) (rp.sl h.r) (rp.sl h.n)
 generalize hC : car T.N[y] x ps=C at *
 generalize hS : sv T.Rt[k] z=S at *
 obtain⟨ca,cb⟩:=C
 obtain⟨sa,sb⟩:=S
 obtain⟨va,vb⟩:=v
 obtain⟨za,zb⟩:=z
 obtain⟨oa,ob⟩:=o
 simp only at *
 refine F.entryL rfl dg118 do118 de118 rfl (by kernel_rfl) ?_
 simp only[sets]
 refine V.re [(0,.agg ⟨LG c b r n u⟩),(1,.agg ⟨A2 sx sy⟩),(2,.agg ⟨A2 x y⟩),(3,.map (some i))] (N:=76) zE zY ?_
 intro t hF hA
 simp only[Kn,and_true] at hA
 refine zS ?_
 refine V.l0 ?_
 refine V.heap (fun X=>Grow H X∧Bx X H.next (LG c b r n u) 135∧Bx X (H.next+1) (A2 sx sy) 74∧Bx X (H.next+2) (A2 x y) 74∧Bx X (H.next+3) (A2 0 0) 69) ⟨?_,?_,?_,?_,?_⟩ ?_
 ·exact zW
 ·exact zB
 ·exact zB
 ·exact zB
 ·exact zB
 rintro H1 ⟨g1,b1,c1,d1,e1⟩
 refine zS ?_
 refine V.draw ?_
 have zf:=And.intro b1.2<|And.intro c1.2<|And.intro @LG_t22<|@LG_len
 refine VD.nz 3 ?_
 simp only[ds]
 refine VD.callA zA (f137_ok (z:=(za,zb)) ek hsk (h.grow g1) hk hs.2.2.2.1 (hm.grow g1) hz hq z1 z2) zA (fun H2 g2=>?_)
 rw[hS]
 have b2:=b1.grow g2
 have c2:=c1.grow g2
 have d2:=d1.grow g2
 have g12:=g1.trans g2
 have zf:=And.intro b2.2<|And.intro d2.2<|And.intro @LG_t22<|@LG_len
 refine VD.nz 3 ?_
 simp only[ds]
 refine VD.callA zA (f125_ok hxy (h.grow g12) hs hG hy hN (hm.grow g12) hp hsr) zA (fun H3 g3=>?_)
 rw[hC]
 have b3:=b2.grow g3
 have c3:=c2.grow g3
 have d3:=d2.grow g3
 have e3:=(e1.grow g2).grow g3
 have g13:=g12.trans g3
 have ne3:=e3.1
 refine VD.d0 ?_ ?_ rfl ?_
 ·have m2:=g2.1
  have m3:=g3.1
  exact zM
 ·simp only[dcAll,dcOk,wantD,List.cons_append,List.nil_append,true_and,and_true]
  have zf:=And.intro b1.2<|And.intro b2.2<|And.intro b3.2<|And.intro @LG_t22<|And.intro @LG_len<|And.intro d1.2<|And.intro d2.2<|d3.2
  exact⟨zR,zR,fun _=>⟨_,_,_,rfl,rfl,rfl,(by simp only[D5,hF,hA,↓reduceIte,qD,qE];simp[inBound]),fun _=>⟨_,_,_,cells_alloc _ _ _ _,(by first|exact An_inb|rfl)⟩⟩,fun _=>⟨_,_,_,rfl,rfl,rfl,(by simp only[D5,hF,hA,↓reduceIte,qD,qE];simp[inBound]),fun _=>⟨_,_,_,cells_alloc _ _ _ _,(by first|exact An_inb|rfl)⟩⟩⟩
 refine V.heap (fun X=>Grow H3 X∧Bx X H3.next (A2 sa sb) 69∧Bx X (H3.next+1) (A2 ca cb) 69) ⟨?_,?_,?_⟩ ?_
 ·exact zW
 ·exact zB
 ·exact zB
 rintro H4 ⟨g4,p4,q4⟩
 have b4:=b3.grow g4
 have c4:=c3.grow g4
 have d4:=d3.grow g4
 have e4:=e3.grow g4
 have g14:=g13.trans g4
 have k2:=hl2 H4 g14
 have k1:=hl1 H4 g14
 have eo2 : va-(cb-sb)=va-ob:=by omega
 have eo1 : vb-(ca-sa)=vb-oa:=by omega
 refine zS ?_
 refine V.draw ?_
 have zf:=And.intro d4.2<|And.intro p4.2<|And.intro q4.2<|@k2
 refine VD.nz 9 ?_
 simp only[ds]
 have zf:=And.intro d4.2<|And.intro p4.2<|And.intro q4.2<|@k2
 refine VD.nz 2 ?_
 simp only[ds]
 refine VD.d0 ?_ ?_ rfl ?_
 ·exact zM
 ·simp only[dcAll,dcOk,wantD,List.cons_append,List.nil_append,true_and,and_true]
 refine zS ?_
 refine V.draw ?_
 have zf:=And.intro d4.2<|And.intro p4.2<|And.intro q4.2<|@k2
 refine VD.nz 9 ?_
 simp only[ds]
 have zf:=And.intro d4.2<|And.intro p4.2<|And.intro q4.2<|@k2
 refine VD.nz 2 ?_
 simp only[ds]
 refine VD.d0 ?_ ?_ rfl ?_
 ·exact zM
 ·simp only[dcAll,dcOk,wantD,List.cons_append,List.nil_append,true_and,and_true]
 refine zS ?_
 have zf:=And.intro c4.2<|@k1
 refine V.lz ?_
 refine V.heap (fun X=>Grow H4 X∧Bx X H4.next (A2 za zb) 69) ⟨?_,?_⟩ ?_
 ·exact zW
 ·exact zB
 rintro H5 ⟨g5,r5⟩
 simp only[eo1,eo2]
 have b5:=b4.grow g5
 have c5:=c4.grow g5
 have e5:=e4.grow g5
 have g15:=g14.trans g5
 have nn4:=g14.1
 have ne4:=e4.1
 have ne5:=r5.1
 have hK : ((zb-za).toNat : Int)=zb-za:=by omega
 generalize hKK : (zb-za).toNat=K at *
 refine zS ?_
 refine V.re [(3,.map (some i)),(4,PT H.next),(5,PT (H.next+1)),(8,PT (H.next+3)),(11,I (va-ob)),(12,I (vb-oa)),(13,PT H4.next)] (N:=76) zF zK ?_
 clear hF hA
 intro t hF hA
 simp only[Kn,and_true] at hA
 refine V.loop (fun w t m X=>∃ (j : Nat),j≤K∧w=K-j∧m=[]∧GrowX H4.next H5 X∧Bx X H4.next (A2 (za+j) zb) 69∧nlo T.Rt[k] (va-ob) (K-j) (za+j)=nlo T.Rt[k] (va-ob) K za∧Full 76 t∧Kn [(4,PT H.next),(5,PT (H.next+1)),(8,PT (H.next+3)),(11,I (va-ob)),(12,I (vb-oa)),(13,PT H4.next)] t) K ?_ ?_
 ·refine⟨0,by omega,by omega,rfl,(Grow.refl _).x _,?_,?_,zF,zK⟩
  ·simpa using r5
  ·simp
 clear hF hA
 rintro w t m X ⟨j,hj,rfl,rfl,hg,rx,hnl,hF,hA⟩
 simp only[Kn,and_true] at hA
 have gX : Grow H X:=⟨by have:=hg.1;omega,fun q hq=>by rw[hg.2 q (by omega) (by omega),g15.2 q hq]⟩
 have bx:=b5.growX hg (by omega)
 have cx:=c5.growX hg (by omega)
 refine zS ?_
 refine V.draw ?_
 have zf:=And.intro bx.2<|And.intro cx.2<|And.intro @LG_21<|And.intro @LG_t22<|@LG_len
 refine VD.nz 5 ?_
 simp only[ds]
 refine VD.callA zA (f138_ok (x:=sx) ek (h.grow gX) hk hs.2.2.2.1) zA (fun X2 g2'=>?_)
 have bx2:=bx.grow g2'
 have cx2:=cx.grow g2'
 have rx2:=rx.grow g2'
 have zf:=rx2.2
 refine VD.nz 2 ?_
 simp only[ds]
 refine VD.callA zA (f121_ok (x:=za+j) hq (by omega) (by omega) X2) zA (fun X3 g3'=>?_)
 have bx3:=bx2.grow g3'
 have cx3:=cx2.grow g3'
 have rx3:=rx2.grow g3'
 refine VD.d0 ?_ ?_ rfl ?_
 ·have m2:=g2'.1
  have m3:=g3'.1
  exact zM
 ·simp only[dcAll,dcOk,wantD,List.cons_append,List.nil_append,true_and,and_true]
  have zf:=And.intro bx.2<|And.intro bx2.2<|And.intro bx3.2<|And.intro @LG_21<|And.intro rx.2<|And.intro rx2.2<|rx3.2
  exact⟨zR,zR⟩
 refine zS ?_
 refine V.condP zP (fun hlt=>?_) (fun hlt=>?_)
 ·have hjK : j<K:=by
   rcases Nat.lt_or_ge j K with hh|hh
   ·exact hh
   ·have e : za+(j : Int)=zb:=by omega
    rw[e] at hlt
    omega
  have e1 : za+(j : Int)+1=za+((j+1 : Nat) : Int):=by omega
  have e2 : K-j=K-(j+1)+1:=by omega
  refine zS ?_
  have zf:=And.intro rx3.2<|@e1
  refine V.lz ?_
  refine zS ?_
  refine V.nil (Or.inl ⟨rfl,K-(j+1),by omega,?_⟩)
  refine⟨j+1,by omega,rfl,rfl,((hg.trans (g2'.x _)).trans (g3'.x _)).set _,⟨by simp only[Heap.next_set];exact rx3.1,cells_set _ _ _ _ _⟩,?_,zF,zK⟩
  rw[← hnl,e2,nlo_s _ hlt,e1]
 have hlo : nlo T.Rt[k] (va-ob) K za=za+j:=by rw[← hnl];exact nlo_e _ hlt
 have hg0:=(hg.trans (g2'.x _)).trans (g3'.x _)
 refine V.exit ?_
 refine zX ?_
 refine V.nil (Or.inr ⟨by simp,?_⟩)
 refine zX ?_
 clear hg gX bx cx bx2 cx2 hnl hlt rx rx2 g2' g3'
 generalize hLL : za+(j : Int)=lo at *
 refine zS ?_
 refine V.re [(4,PT H.next),(5,PT (H.next+1)),(8,PT (H.next+3)),(12,I (vb-oa)),(13,PT H4.next)] (N:=76) zF zK ?_
 clear hF hA
 intro t hF hA
 simp only[Kn,and_true] at hA
 refine V.loop (fun w t m X=>∃ (j : Nat),j≤K∧w=K-j∧m=[]∧GrowX H4.next H5 X∧Bx X H4.next (A2 lo (zb-j)) 69∧nhi T.Rt[k] (vb-oa) (K-j) (zb-j)=nhi T.Rt[k] (vb-oa) K zb∧Full 76 t∧Kn [(4,PT H.next),(5,PT (H.next+1)),(8,PT (H.next+3)),(12,I (vb-oa)),(13,PT H4.next)] t) K ?_ ?_
 ·refine⟨0,by omega,by omega,rfl,hg0,?_,?_,zF,zK⟩
  ·simpa using rx3
  ·simp
 clear hF hA
 rintro w t m Y ⟨l,hl,rfl,rfl,hg,rx,hnl,hF,hA⟩
 simp only[Kn,and_true] at hA
 have gX : Grow H Y:=⟨by have:=hg.1;omega,fun q hq=>by rw[hg.2 q (by omega) (by omega),g15.2 q hq]⟩
 have bx:=b5.growX hg (by omega)
 have cx:=c5.growX hg (by omega)
 have ex:=e5.growX hg (by omega)
 refine zS ?_
 refine V.draw ?_
 have zf:=And.intro bx.2<|And.intro cx.2<|And.intro @LG_20<|And.intro @LG_t22<|@LG_len
 refine VD.nz 5 ?_
 simp only[ds]
 refine VD.callA zA (f138_ok (x:=sx) ek (h.grow gX) hk hs.2.2.2.1) zA (fun Y2 g2'=>?_)
 have bx2:=bx.grow g2'
 have cx2:=cx.grow g2'
 have rx2:=rx.grow g2'
 have zf:=rx2.2
 refine VD.nz 2 ?_
 simp only[ds]
 refine VD.callA zA (f120_ok (x:=zb-l) hq (by omega) (by omega) Y2) zA (fun Y3 g3'=>?_)
 have bx3:=bx2.grow g3'
 have cx3:=cx2.grow g3'
 have rx3:=rx2.grow g3'
 have ex3:=(ex.grow g2').grow g3'
 refine VD.d0 ?_ ?_ rfl ?_
 ·have m2:=g2'.1
  have m3:=g3'.1
  exact zM
 ·simp only[dcAll,dcOk,wantD,List.cons_append,List.nil_append,true_and,and_true]
  have zf:=And.intro bx.2<|And.intro bx2.2<|And.intro bx3.2<|And.intro @LG_20<|And.intro rx.2<|And.intro rx2.2<|rx3.2
  exact⟨zR,zR⟩
 refine zS ?_
 refine V.condP zP (fun hlt=>?_) (fun hlt=>?_)
 ·have hlt' : vb-oa<few T.Rt[k] (zb-l):=by omega
  have hjK : l<K:=by
   rcases Nat.lt_or_ge l K with hh|hh
   ·exact hh
   ·have e : zb-(l : Int)=za:=by omega
    rw[e] at hlt'
    omega
  have e1 : zb-(l : Int)-1=zb-((l+1 : Nat) : Int):=by omega
  have e2 : K-l=K-(l+1)+1:=by omega
  refine zS ?_
  have zf:=And.intro rx3.2<|@e1
  refine V.lz ?_
  refine zS ?_
  refine V.nil (Or.inl ⟨rfl,K-(l+1),by omega,?_⟩)
  refine⟨l+1,by omega,rfl,rfl,((hg.trans (g2'.x _)).trans (g3'.x _)).set _,⟨by simp only[Heap.next_set];exact rx3.1,cells_set _ _ _ _ _⟩,?_,zF,zK⟩
  rw[← hnl,e2,nhi_s _ hlt',e1]
 have hhi : nhi T.Rt[k] (vb-oa) K zb=zb-l:=by rw[← hnl];exact nhi_e _ (by omega)
 have hg1:=(hg.trans (g2'.x _)).trans (g3'.x _)
 have enar : nar T.Rt[k] (za,zb) (oa,ob) (va,vb)=(lo,zb-l):=by
  unfold nar
  simp only[hKK]
  rw[hlo,hhi]
 have nY:=hg1.1
 have gY3 : Grow H Y3:=⟨by omega,fun q hq=>by rw[hg1.2 q (by omega) (by omega),g15.2 q hq]⟩
 refine V.exit ?_
 refine zX ?_
 refine V.nil (Or.inr ⟨by simp,?_⟩)
 refine zX ?_
 refine zS ?_
 have zf:=And.intro rx3.2<|ex3.2
 refine V.lz ?_
 refine zS ?_
 refine V.ret (V.rets rfl (Lv.retG (by simp +contextual (disch:=first|omega|simp only[nx];omega) only[D1,cells_alloc_at,cells_alloc_ne,cells_set_at,cells_set_ne,yres,yres1,yresL,qA,qB,qC,D5,hF,hA,↓reduceIte,qD,qE,cells_set];rfl) ?_ ?_))
 ·exact gY3.set (by omega) _
 ·rw[enar]
end Go.Xe.TFX
