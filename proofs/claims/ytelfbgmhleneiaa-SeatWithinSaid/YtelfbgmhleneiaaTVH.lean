/- What the functions of the layer seat come to: the parties that may be next. Conditions: none. -/
import Derived.Test.YtelfbgmhleneiaaTVE
-- MOD TV
namespace Go.Xe.TVX
open Go Go.Xe Go.Proofs
open Nat renaming reduceLeDiff → qA, reduceSub → qB, reduceAdd → qC, reduceEqDiff → qD, reduceLT → qE
open Int renaming reduceNegSucc → qF, reduceEq → qG
open Go.Xe.V renaming seq → sA, block → sB, scope → sC, skip → sD, close → sE
open Go.Xe renaming pth → P
open Go.Xe.Sea
set_option maxRecDepth 100000
set_option maxHeartbeats 3200000
set_option linter.unusedSimpArgs false
noncomputable def d98 : FCode:=(.seq (.run (.go (.box 83 (tm 0)) (P 2)::
.go (.box 78 (tm 1)) (P 3)::
.go (.move (.con (.slice none 0 0))) (P 4)::
[])) (.seq (.run (.go (.alloc 115 [(.int .i64 (.ofNat 0)),(.int .i64 (.ofNat 0))]) (P 5)::
[])) (.seq (.run (.go (.alloc 24 [(.slice none 0 0)]) (P 6)::
[])) (.seq (.seq (.run (.go (.loadN 22 (tm 2)) (P 9)::
.go (.loadN 8 (tm 3)) (P 10)::
.go (.call (.con (.func (.func 84) ⟨[]⟩ ⟨[]⟩)) [(tm 9),(tm 10)]) (P 11)::
[])) (.block 0 (.rangeFunc (tm 11) [(P 12),(P 13)] (rfA Try.f98 0) (rfB Try.f98 0) (.seq (.run (.go (.move (tm 12)) (P 7)::
[])) (.run (.go (.alloc 115 [(.int .i64 (.ofNat 0)),(.int .i64 (.ofNat 0))]) (P 8)::
.un (.store 2 (tm 8) (tm 13))::
[]))) (.block 1 (.block 2 (.seq (.run (.go (.load1 (tm 6)) (P 15)::
.go (.len 0 (tm 15)) (P 16)::
.go (.bin .eql 3 (tm 16) (.con (.int .i64 (.ofNat 0)))) (P 17)::
.go (.move (tm 17)) (P 18)::
.gd (P 18) false (.loadN 2 (tm 5)) (P 19)::
.gd (P 18) false (.loadN 2 (tm 8)) (P 20)::
.gd (P 18) false (.call (.con (.func (.func 87) ⟨[]⟩ ⟨[]⟩)) [(tm 19),(tm 20)]) (P 21)::
.go (.pick (tm 18) (.con (.bool true)) (tm 21)) (P 22)::
.go (.move (tm 22)) (P 14)::
[])) (.cond (tm 14) (.run (.go (.loadN 2 (tm 8)) (P 23)::
.go (.move (tm 7)) (P 24)::
.go (.buildSlice 3 1 [(.int .i64 (.ofNat 0))] [(0,1,(tm 24))]) (P 25)::
.un (.store 2 (tm 5) (tm 23))::
.un (.store 1 (tm 6) (tm 25))::
[])) (.seq (.run (.go (.loadN 2 (tm 8)) (P 27)::
.go (.loadN 2 (tm 5)) (P 28)::
.go (.bin .eql 115 (tm 27) (tm 28)) (P 29)::
.go (.move (tm 29)) (P 26)::
[])) (.cond (tm 26) (.run (.go (.load1 (tm 6)) (P 30)::
.go (.move (tm 7)) (P 31)::
.go (.buildSlice 3 1 [(.int .i64 (.ofNat 0))] [(0,1,(tm 31))]) (P 32)::
.go (.append 3 1 8 (tm 30) (tm 32)) (P 33)::
.un (.store 1 (tm 6) (tm 33))::
[])) .skip))))))))) (.seq (.run (.go (.load1 (tm 6)) (P 34)::
.go (.move (tm 34)) (P 4)::
[])) .ret)))))
theorem de98 : @compF Try.prog (Gl.none Try.prog) Try.f98 2=.mk d98 (mkTT 35) [(P 0),(P 1)] [.tmp (P 4)]:=by kernel_rfl
theorem dg98 : Try.prog.funcs[98]?=some Try.f98:=Try.func98
theorem do98 : okF Try.prog Try.f98=true:=by kernel_rfl
def NL (l : List Nat) : List Value:=l.map fun p=>I (p : Nat)
theorem NL_len (l : List Nat) : (NL l).length=l.length:=by simp[NL]
abbrev qf (m S : Int) (v s : Nat→Int) : Nat→Q2:=fun p=>clq m S v p (s p)
theorem f98_ok {H : Heap} {m S L : Int} {c v s : Nat→Int} (hm : 1≤m∧m≤5) (hv : vok v) (hS : 0≤S∧S≤61) (hs : ∀ p,p<8→0≤s p∧s p≤100) (hv8 : ∀ p,¬ p<8→v p=0) :
  F Try.prog 98 ⟨[.agg ⟨pc m S L c v (sm v 8) (dvf m) (clf m)⟩,.agg ⟨n8 s⟩]⟩ H (fun w X=>Grow H X∧Ow H X 3 w (NL (tp v (qf m S v s) 8))):=by
 have v8 : ∀ p,0<v p→p<8:=fun p hp=>by
  apply Decidable.by_contra
  intro hn
  rw[hv8 p hn] at hp;omega
 have hq : ∀ p,0<v p→qok (qf m S v s p):=fun p hp=>clq_ok hv hS (v8 p hp) hp (hs p (v8 p hp)).1
 have hqb : ∀ p,p<8→qb (qf m S v s p):=fun p hp=>clq_qb hv hS hp (hs p hp)
 refine F.entryL rfl dg98 do98 de98 rfl (by kernel_rfl) ?_
 simp only[sets]
 refine V.re [(0,.agg ⟨pc m S L c v (sm v 8) (dvf m) (clf m)⟩),(1,.agg ⟨n8 s⟩)] (N:=35) zE zY ?_
 intro t hF hA
 simp only[Kn,and_true] at hA
 refine zS ?_
 refine V.l0 ?_
 refine zS ?_
 refine V.l0 ?_
 refine zS ?_
 refine V.l0 ?_
 refine V.heap (fun X=>Grow H X∧Bx X H.next (pc m S L c v (sm v 8) (dvf m) (clf m)) 83∧Bx X (H.next+1) (n8 s) 78∧Bx X (H.next+2) [I 0,I 0] 115∧Bx X (H.next+3) [.slice none 0 0] 24) ⟨?_,?_,?_,?_,?_⟩ ?_
 ·exact zW
 ·exact zB
 ·exact zB
 ·exact zB
 ·exact zB
 rintro H1 ⟨g1,b1,c1,d1,e1⟩
 refine zS ?_
 refine V.run ?_
 have zf:=And.intro b1.2<|And.intro c1.2<|And.intro @PC<|And.intro @n8_take<|@n8_len
 refine VI.sz 2 ?_
 simp only[ds]
 refine VI.callR zA (f84_ok (cs:=pc m S L c v (sm v 8) (dvf m) (clf m)) (s:=n8 s)) zA (fun w2 H2 ⟨hw2,g2,p2,s2⟩=>?_)
 subst hw2
 have d2:=d1.grow g2
 have e2:=e1.grow g2
 have g12:=g1.trans g2
 have n1:=e1.1
 have n2:=s2.1
 refine VI.l0 ?_
 refine zS ?_
 refine V.re [(5,PT (H.next+2)),(6,PT (H.next+3)),(11,.func (.func 99) ⟨[]⟩ ⟨[PT H1.next,PT (H1.next+1)]⟩)] (N:=35) zF zK ?_
 clear hF hA
 intro t hF hA
 simp only[Kn,and_true] at hA
 refine V.rangeL (f99_iter hm hv hS hs p2 s2) (fun y=>y=H.next+2∨y=H.next+3∨H2.next+1<y) (fun k X=>∃ sl tq,Bx X (H.next+2) (A2 tq.1 tq.2) 115∧Bx X (H.next+3) [sl] 24∧Ow (cutH X (H2.next+2)) X 3 sl (NL (tp v (qf m S v s) (pix v k)))∧((tp v (qf m S v s) (pix v k)=[]∧tq=(0,0))∨∃ p,p∈tp v (qf m S v s) (pix v k)∧tq=lw (qf m S v s p))) (fun _ _=>False)
  zA rfl (by simp only[Heap.next_alloc];omega) ?_ ?_ ?_ (fun _ _ _ _ _ h=>h.elim) ?_ ?_ ?_
 ·rintro y hy
  refine⟨by omega,by omega,?_⟩
  rw[Heap.get_alloc,if_neg (by omega)]
 ·intro l hl
  obtain⟨q,_,rfl⟩:=List.mem_map.1 hl
  rfl
 ·rintro k X X' r1 r2 ⟨sl,tq,h1,h2,h3,h4⟩ _ _ g
  simp only[Heap.next_alloc] at g
  exact⟨sl,tq,h1.growS g (by omega),h2.growS g (by omega),h3.growS g (fun i (hi : H2.next+2≤i)=>by omega) (Nat.le_refl _),h4⟩
 ·intro r
  have g : Grow H2 ((H2.alloc (.deferred true)).alloc (.loop r)):=((Grow.refl H2).alloc _).alloc _
  exact⟨_,(0,0),d2.grow g,e2.grow g,.inl ⟨rfl,by rw[pix_0];rfl⟩,.inl ⟨pix_0,rfl⟩⟩
 ·rintro k hk r X ⟨sl,tq,h1,h2,h3,h4⟩ hg hlX hl hr
  rw[yl_at hk]
  rw[yl_len] at hk
  simp only[sets]
  simp only[Heap.next_alloc] at hlX hl
  obtain⟨_,hp8,hpv,hpn⟩:=pix_at hk
  have hpn:=hpn (q:=qf m S v s)
  obtain⟨p,hpp⟩ : ∃ p,p=pix v k:=⟨_,rfl⟩
  rw[← hpp] at h3 h4 hp8 hpv hpn ⊢
  obtain⟨qq,hqq⟩ : ∃ qq,qq=lw (qf m S v s p):=⟨_,rfl⟩
  have hqqb : qb qq:=by rw[hqq];exact lw_qb (hq p hpv) (hqb p hp8)
  rw[show clq m S v p (s p)=qf m S v s p from rfl,← hqq]
  refine zS ?_
  refine V.l0 ?_
  refine zS ?_
  refine V.l0 ?_
  refine V.heap (fun Y=>Grow X Y∧Bx Y X.next (A2 qq.1 qq.2) 115) ⟨?_,?_⟩ ?_
  ·exact zW
  ·exact zB
  rintro X1 ⟨gx,x4⟩
  have nx:=gx.1
  have hl1 : X1.get (H2.next+1)=some (.loop r):=(gx.2 _ hlX).trans hl
  refine V.nil ⟨rfl,hl1,gx.s,?_⟩
  intro X2 _ hl2 g2'
  simp only[Heap.next_alloc] at g2' hl2
  have h1:=(h1.grow gx).growS g2' (by omega)
  have h2:=(h2.grow gx).growS g2' (by omega)
  have x4:=x4.growS g2' (by omega)
  have h3 : Ow (cutH X2 (H2.next+2)) X2 3 sl (NL (tp v (qf m S v s) p)):=Ow.growS (Ow.growS (B:=cutH X (H2.next+2)) h3 (Grow.s (U:=(·=H2.next+1)) gx) (fun i (hi : H2.next+2≤i)=>by omega) (Nat.le_refl _)) g2' (fun i (hi : H2.next+2≤i)=>by omega) (Nat.le_refl _)
  have n2':=g2'.1
  have gc:=cutH_grow (X:=X2) (n:=H2.next+2) (by omega)
  have hsl : ylen 0 X2 sl=some (I (tp v (qf m S v s) p).length):=by
   have:=h3.length
   rw[NL_len] at this
   obtain⟨a,b,c',rfl⟩:=h3.sl.isS
   exact this
  obtain⟨pl,nl,cl,esl⟩:=h3.sl.isS
  subst esl
  have hlen0 : (((tp v (qf m S v s) p).length : Nat) : Int)=0↔tp v (qf m S v s) p=[]:=by
   rw[← List.length_eq_zero_iff];omega
  rcases h4 with⟨h4,rfl⟩|⟨p0,h4,rfl⟩
  ·have hz : ((((tp v (qf m S v s) p).length : Nat) : Int)=0)=True:=eq_true (hlen0.2 h4)
   have hnew:=tp_new hq hpv h4
   refine zS ?_
   refine V.run ?_
   have zf:=And.intro h2.2<|And.intro @hsl<|@hz
   refine VI.sz 6 ?_
   simp only[ds]
   refine VI.gdF zG ?_
   refine VI.l0 ?_
   refine zS ?_
   refine V.condT zA ?_
   refine zS ?_
   have zf:=And.intro x4.2<|And.intro h1.2<|h2.2
   refine V.lz ?_
   refine V.heap (fun Y=>GrowS (fun y=>y=H.next+2∨y=H.next+3∨H2.next+1<y) X2 Y∧Bx Y (H.next+2) (A2 qq.1 qq.2) 115∧Bx Y (H.next+3) [.slice (some ⟨X2.next,0,none⟩) 1 1] 24∧Bx Y X2.next [I (p : Nat)] 3∧Y.get (H2.next+1)=X2.get (H2.next+1)) ⟨?_,?_,?_,?_,?_⟩ ?_
   ·exact (((GrowS.refl X2).alloc _).set (.inl (.inl rfl)) _).set (.inl (.inr (.inl rfl))) _
   ·exact (Bx.put (by simp only[Heap.next_alloc];omega) _ _).set (by omega) _
   ·exact Bx.put (by simp only[Heap.next_alloc,Heap.next_set];omega) _ _
   ·exact ((Bx.new _ _ _).set (by omega) _).set (by omega) _
   ·rw[Heap.get_set,if_neg (by omega),Heap.get_set,if_neg (by omega),Heap.get_alloc,if_neg (by omega)]
   rintro Y ⟨gY,y1,y2,y3,y4⟩
   have nY:=y3.1
   refine zS ?_
   refine V.nil ⟨y4.trans hl2,gY,.inl ⟨rfl,_,qq,y1,y2,.inr ⟨X2.next,(show H2.next+2≤X2.next by omega),y3.1,?_,?_⟩,.inr ⟨p,?_,hqq⟩⟩⟩
   ·rw[hpn,hnew];rfl
   ·rw[hpn,hnew];exact y3.2
   ·rw[hpn,hnew];simp
  ·have hz : ((((tp v (qf m S v s) p).length : Nat) : Int)=0)=False:=eq_false (fun h=>by rw[hlen0.1 h] at h4;cases h4)
   have hp0:=mem_tp.1 h4
   have hqb0:=lw_qb (hq p0 hp0.2.1) (hqb p0 (v8 p0 hp0.2.1))
   have f87':=fun X=>f87_ok (H:=X) hqb0 hqqb
   have edec : decide (qlt (lw (qf m S v s p0)) qq)=decide (qlt (qf m S v s p0) (qf m S v s p)):=by
    rw[decide_eq_decide,hqq]
    exact lw_lt (hq p0 hp0.2.1) (hq p hpv)
   rw[edec] at f87'
   refine zS ?_
   refine V.run ?_
   have zf:=And.intro h2.2<|And.intro @hsl<|And.intro @hz<|And.intro h1.2<|x4.2
   refine VI.sz 6 ?_
   simp only[ds]
   refine VI.callAT zG rfl (f87' X2) zA (fun X3 g3=>?_)
   have h1:=h1.grow g3
   have h2:=h2.grow g3
   have x4:=x4.grow g3
   have h3 : Ow (cutH X3 (H2.next+2)) X3 3 (.slice pl nl cl) (NL (tp v (qf m S v s) p)):=Ow.growS (U:=fun _=>False) h3 g3.s (fun _ _=>id) (Nat.le_refl _)
   have n3:=g3.1
   have hl3 : X3.get (H2.next+1)=some (.loop { r with state:=.busy }):=(g3.2 _ (by omega)).trans hl2
   have gU : GrowS (fun y=>y=H.next+2∨y=H.next+3∨H2.next+1<y) X2 X3:=g3.s
   refine VI.l0 ?_
   refine zS ?_
   refine V.condP zP (fun hlq=>?_) (fun hlq=>?_)
   ·have hnew:=tp_top hq hpv h4 hlq
    refine zS ?_
    have zf:=And.intro x4.2<|And.intro h1.2<|h2.2
    refine V.lz ?_
    refine V.heap (fun Y=>GrowS (fun y=>y=H.next+2∨y=H.next+3∨H2.next+1<y) X3 Y∧Bx Y (H.next+2) (A2 qq.1 qq.2) 115∧Bx Y (H.next+3) [.slice (some ⟨X3.next,0,none⟩) 1 1] 24∧Bx Y X3.next [I (p : Nat)] 3∧Y.get (H2.next+1)=X3.get (H2.next+1)) ⟨?_,?_,?_,?_,?_⟩ ?_
    ·exact (((GrowS.refl X3).alloc _).set (.inl (.inl rfl)) _).set (.inl (.inr (.inl rfl))) _
    ·exact (Bx.put (by simp only[Heap.next_alloc];omega) _ _).set (by omega) _
    ·exact Bx.put (by simp only[Heap.next_alloc,Heap.next_set];omega) _ _
    ·exact ((Bx.new _ _ _).set (by omega) _).set (by omega) _
    ·rw[Heap.get_set,if_neg (by omega),Heap.get_set,if_neg (by omega),Heap.get_alloc,if_neg (by omega)]
    rintro Y ⟨gY,y1,y2,y3,y4⟩
    have nY:=y3.1
    refine zS ?_
    refine V.nil ⟨y4.trans hl3,gU.trans gY,.inl ⟨rfl,_,qq,y1,y2,.inr ⟨X3.next,(show H2.next+2≤X3.next by omega),y3.1,?_,?_⟩,.inr ⟨p,?_,hqq⟩⟩⟩
    ·rw[hpn,hnew];rfl
    ·rw[hpn,hnew];exact y3.2
    ·rw[hpn,hnew];simp
   ·have eqq:=eql115 hqqb hqb0
    refine zS ?_
    have zf:=And.intro x4.2<|And.intro h1.2<|@eqq
    refine V.lz ?_
    refine zS ?_
    have hle:=lw_eq (hq p hpv) (hq p0 hp0.2.1)
    refine V.condP zP (fun heq=>?_) (fun heq=>?_)
    ·rw[hqq] at heq
     obtain⟨e1,e2⟩:=hle.1 heq
     have hnew:=tp_eq hq hpv h4 e2 e1
     have hlt8 : (tp v (qf m S v s) p).length≤p:=tp_len
     have gc3:=cutH_grow (X:=X3) (n:=H2.next+2) (by omega)
     obtain⟨w,X4,a1,a2,a3,a4,a5,a6,a7,a8⟩:=Ow.push (bytes:=8) (r:=[I (p : Nat)]) gc3 h3 rfl (by simp) (by rw[NL_len];simp;omega) (by rw[NL_len];simp;omega)
     replace a1 : yappend 3 1 8 (X3.alloc (.cells ⟨[I (p : Nat)]⟩ 3 true)) (.slice pl nl cl) (.slice (some ⟨X3.next,0,none⟩) 1 1)=some (w,X4):=a1
     have hb4 : ∀ i c e,i<H2.next+2→Bx X3 i c e→Bx X4 i c e:=fun i c e hi hb=>⟨Nat.lt_of_lt_of_le hb.1 (by omega),(a3.cells (i:=i) (show i<H2.next+2 from hi)).trans hb.2⟩
     have y1:=hb4 _ _ _ (by omega) h1
     have y2:=hb4 _ _ _ (by omega) h2
     have gs4 : GrowS (fun y=>y=H.next+2∨y=H.next+3∨H2.next+1<y) X3 X4:=a3.toS rfl (fun i h=>.inr (.inr (by omega))) (by omega)
     have hl4 : X4.get (H2.next+1)=some (.loop { r with state:=.busy }):=by
      have:=a3.2 (H2.next+1) (show H2.next+1<H2.next+2 by omega)
      rw[this];exact hl3
     obtain⟨wp,wn,wc,rfl⟩:=a2.slice
     refine zS ?_
     have zf:=And.intro h2.2<|And.intro y2.2<|@a1
     refine V.lz ?_
     refine zS ?_
     refine V.nil ⟨?_,(gU.trans gs4).set (.inl (.inr (.inl rfl))) _,.inl ⟨rfl,_,_,y1.set (by omega) _,Bx.put y2.1 _ _,?_,.inr ⟨p0,?_,rfl⟩⟩⟩
     ·simp only[Heap.next_alloc]
      rw[Heap.get_set,if_neg (by omega)];exact hl4
     ·rw[hpn,hnew]
      have e : NL (tp v (qf m S v s) p++[p])=NL (tp v (qf m S v s) p)++[I (p : Nat)]:=by simp[NL]
      rw[e]
      exact a2.growS (U:=(·=H.next+3)) (GrowS.setAt X4 (H.next+3) _) (fun i (hi : H2.next+2≤i)=>by omega) (Nat.le_refl _)
     ·rw[hpn,hnew];simp[h4]
    ·have hlow : qlt (qf m S v s p) (qf m S v s p0):=by
      apply Decidable.by_contra
      intro hn
      exact heq (by rw[hqq];exact hle.2 ⟨hn,hlq⟩)
     have hnew:=tp_low hq hpv h4 hlq hlow
     refine zS ?_
     refine V.nil ⟨hl3,gU,.inl ⟨rfl,_,_,h1,h2,?_,.inr ⟨p0,?_,rfl⟩⟩⟩
     ·rw[hpn,hnew];exact h3
     ·rw[hpn,hnew];exact h4
 ·rintro e X h hg hlX
  simp only[Heap.next_alloc] at hlX
  rcases h with⟨rfl,sl,tq,h1,h2,h3,_⟩|⟨_,h⟩
  ·have hgd : X.get H2.next=some (.deferred true):=by
    rw[hg.2 _ (by simp only[Heap.next_alloc];omega) (by simp only[Heap.next_alloc];omega),Heap.get_alloc,if_pos rfl]
   rw[yl_len,pix_end] at h3
   refine zS ?_
   have zf:=h2.2
   refine V.lz ?_
   refine zS ?_
   refine V.ret (V.rets rfl (Lv.retM hgd (by simp only[yres,yres1,D5,hF,hA,↓reduceIte,qD,qE];rfl) ?_))
   have q1:=g12.1
   refine⟨⟨by simp only[Heap.next_set];omega,fun q hq=>?_⟩,?_⟩
   ·rw[Heap.get_set,if_neg (by omega),hg.2 q (by simp only[Heap.next_alloc];omega) (by simp only[Heap.next_alloc];omega),Heap.get_alloc,if_neg (by omega),g12.2 q hq]
   ·exact h3.growS (U:=(·=H2.next)) (GrowS.setAt X H2.next _) (fun i (hi : H2.next+2≤i)=>by omega) (show H.next≤H2.next+2 by omega)
  ·exact h.elim
end Go.Xe.TVX
/- What the functions of the layer seat come to: seats that are given, and results. Conditions: none. -/
-- MOD TV
namespace Go.Xe.TVX
open Go Go.Xe Go.Proofs
open Nat renaming reduceLeDiff → qA, reduceSub → qB, reduceAdd → qC, reduceEqDiff → qD, reduceLT → qE
open Int renaming reduceNegSucc → qF, reduceEq → qG
open Go.Xe.V renaming seq → sA, block → sB, scope → sC, skip → sD, close → sE
open Go.Xe renaming pth → P
open Go.Xe.Sea
set_option maxRecDepth 100000
set_option maxHeartbeats 3200000
set_option linter.unusedSimpArgs false
noncomputable def d97 : FCode:=(.seq (.run (.go (.loadN 22 (tm 1)) (P 9)::
.go (.loadN 8 (tm 2)) (P 10)::
.go (.call (.con (.func (.func 98) ⟨[]⟩ ⟨[]⟩)) [(tm 9),(tm 10)]) (P 11)::
.go (.move (tm 11)) (P 6)::
[])) (.seq (.seq (.run (.go (.move (tm 0)) (P 12)::
.go (.bin .eql 3 (tm 12) (.con (.int .i64 (.ofNat 0)))) (P 13)::
.go (.move (tm 13)) (P 14)::
.gd (P 14) false (.move (tm 6)) (P 15)::
.gd (P 14) false (.len 0 (tm 15)) (P 16)::
.gd (P 14) false (.bin .eql 3 (tm 16) (.con (.int .i64 (.ofNat 0)))) (P 17)::
.go (.pick (tm 14) (.con (.bool true)) (tm 17)) (P 18)::
[])) (.cond (tm 18) .ret .skip)) (.seq (.seq (.run (.go (.move (tm 6)) (P 19)::
.go (.len 0 (tm 19)) (P 20)::
.go (.move (.con (.int .i64 (.ofNat 0)))) (P 21)::
[])) (.block 0 (.loop (.seq (.run (.go (.bin .lss 3 (tm 21) (tm 20)) (P 22)::
[])) (.seq (.cond (tm 22) .skip (.exit 0)) (.seq (.block 1 (.seq (.run (.go (.indexAddr none 1 (tm 19) (tm 21)) (P 23)::
.go (.load1 (tm 23)) (P 24)::
.go (.move (tm 24)) (P 8)::
[])) (.run (.go (.move (tm 8)) (P 25)::
.go (.indexAddr (some 8) 1 (tm 3) (tm 25)) (P 26)::
.go (.load1 (tm 26)) (P 27)::
.go (.bin .add 3 (tm 27) (.con (.int .i64 (.ofNat 1)))) (P 28)::
.go (.indexAddr (some 8) 1 (tm 3) (tm 25)) (P 29)::
.un (.store 1 (tm 29) (tm 28))::
[])))) (.run (.go (.bin .add 3 (tm 21) (.con (.int .i64 (.ofNat 1)))) (P 30)::
.go (.move (tm 30)) (P 21)::
[])))))))) (.seq (.run (.go (.move (tm 6)) (P 31)::
.go (.len 0 (tm 31)) (P 32)::
.go (.move (tm 0)) (P 33)::
.go (.bin .leq 3 (tm 32) (tm 33)) (P 34)::
[])) (.cond (tm 34) (.seq (.run (.go (.loadN 8 (tm 3)) (P 35)::
.un (.store 8 (tm 2) (tm 35))::
[])) (.run (.go (.load1 (tm 4)) (P 36)::
.go (.move (tm 0)) (P 37)::
.go (.move (tm 6)) (P 38)::
.go (.len 0 (tm 38)) (P 39)::
.go (.bin .sub 3 (tm 37) (tm 39)) (P 40)::
.go (.call (tm 36) [tm 40]) (P 41)::
[]))) .skip)))))
theorem de97 : @compF Try.prog (Gl.none Try.prog) Try.f97 5=.mk d97 (mkTT 42) [(P 0),(P 1),(P 2),(P 3),(P 4)] []:=by kernel_rfl
theorem dg97 : Try.prog.funcs[97]?=some Try.f97:=Try.func97
theorem do97 : okF Try.prog Try.f97=true:=by kernel_rfl
theorem up_take {low : Nat→Int} {T : List Nat} (hn : T.Nodup) {j : Nat} (hj : j<T.length) : (fun i=>if i=T[j] then up low (T.take j) T[j]+1 else up low (T.take j) i)=up low (T.take (j+1)):=by
 have hnot : T[j]∉T.take j:=by
  intro hm
  obtain⟨i,hi,e⟩:=List.mem_iff_getElem.1 hm
  rw[List.length_take] at hi
  rw[List.getElem_take] at e
  have:=(List.getElem_inj hn).1 e
  omega
 funext i
 have hm : i∈T.take (j+1)↔i∈T.take j∨i=T[j]:=by rw[tk1 hj,List.mem_append,List.mem_singleton]
 unfold up
 by_cases hi : i=T[j]
 ·subst hi
  rw[if_pos rfl,if_neg hnot,if_pos (hm.2 (.inr rfl))]
 ·rw[if_neg hi]
  by_cases h2 : i∈T.take j
  ·rw[if_pos h2,if_pos (hm.2 (.inl h2))]
  ·rw[if_neg h2,if_neg (fun h=>(hm.1 h).elim h2 hi)]
theorem NL_at {T : List Nat} {j : Nat} (hj : j<T.length) : (NL T)[j]?=some (I (T[j] : Nat)):=by simp[NL,hj]
structure GCx (m S L : Int) (c v : Nat→Int) (pp pl ph pg : Nat) (X : Heap) (low : Nat→Int) : Prop where
 p : Bx X pp (pc m S L c v (sm v 8) (dvf m) (clf m)) 83
 l : Bx X pl (n8 low) 78
 h : Bx X ph (n8 low) 78
 g : Bx X pg [.func (.func 97) ⟨[]⟩ ⟨[PT pp,PT pl,PT ph,PT pg]⟩] 126
theorem f97_ok {m S L : Int} {c v : Nat→Int} {pp pl ph pg : Nat} (hm : 1≤m∧m≤5) (hv : vok v) (hS : 0≤S∧S≤61) (hv8 : ∀ p,¬ p<8→v p=0) (hd : pp≠pl∧pp≠ph∧pl≠ph∧pg≠pl∧pg≠ph) : ∀ {f : Nat} {left : Int} {low : Nat→Int} {X : Heap},0≤left→left<f→(∀ p,0≤low p∧low p+left≤61)→GCx m S L c v pp pl ph pg X low →
  F Try.prog 97 ⟨[I left,PT pp,PT pl,PT ph,PT pg]⟩ X (fun _ Y=>GrowS (fun i=>i=pl∨i=ph) X Y∧Bx Y pl (n8 (giv v (clq m S v) f left low).1) 78∧Bx Y ph (n8 (giv v (clq m S v) f left low).2) 78):=by
 obtain⟨d1,d2,d3,d4,d5⟩:=hd
 intro f
 induction f with
 | zero=>intro left low X h0 h1;omega
 | succ f ih=>
  intro left low X h0 h1 hlb hx
  have hl61 : left≤61:=by have:=hlb 0;omega
  obtain⟨T,hT⟩ : ∃ T,T=tp v (qf m S v low) 8:=⟨_,rfl⟩
  have eg : giv v (clq m S v) (f+1) left low=if left=0∨T=[] then (low,low) else if (T.length : Int)≤left then giv v (clq m S v) f (left-T.length) (up low T) else (low,up low T):=by rw[hT];rfl
  have hTn : T.Nodup:=by rw[hT];exact tp_nodup
  have hTm : ∀ p∈T,p<8:=fun p hp=>by rw[hT] at hp;exact (mem_tp.1 hp).1
  have hTl : T.length≤8:=by rw[hT];exact tp_len
  have f98':=f98_ok (H:=X) (L:=L) (c:=c) (s:=low) hm hv hS (fun p _=>by have:=hlb p;omega) hv8
  rw[← hT] at f98'
  rw[eg]
  have hl1:=hx.l.1
  have hh1:=hx.h.1
  have hp1:=hx.p.1
  have hg1:=hx.g.1
  refine F.entryL rfl dg97 do97 de97 rfl (by kernel_rfl) ?_
  simp only[sets]
  refine V.re [(0,I left),(1,PT pp),(2,PT pl),(3,PT ph),(4,PT pg)] (N:=42) zE zY ?_
  intro t hF hA
  simp only[Kn,and_true] at hA
  refine zS ?_
  refine V.run ?_
  have zf:=And.intro hx.p.2<|And.intro hx.l.2<|And.intro @PC<|And.intro @n8_take<|@n8_len
  refine VI.sz 2 ?_
  simp only[ds]
  refine VI.callR zA (f98') zA (fun w1 X1 ⟨g1,o1⟩=>?_)
  have hlen : ∀ Y,ylen 0 Y w1=some (I T.length):=by
   intro Y
   have:=o1.length
   rw[NL_len] at this
   obtain⟨a,b,c',rfl⟩:=o1.sl.isS
   exact this
  obtain⟨pw1,nw1,cw1,rfl⟩:=o1.sl.isS
  refine VI.l0 ?_
  refine zS ?_
  have zf:=@hlen
  refine V.lz ?_
  refine zS ?_
  have n1:=g1.1
  have hz : ((T.length : Int)=0)=(T=[]):=propext ⟨fun h=>List.length_eq_zero_iff.1 (by omega),fun h=>by rw[h];rfl⟩
  by_cases h00 : left=0∨T=[]
  ·have hdd : decide (left=0∨(T.length : Int)=0)=true:=decide_eq_true (by rw[hz];exact h00)
   rw[if_pos h00]
   refine V.condP zP (fun hc0=>?_) (fun hc0=>?_)
   ·refine zS ?_
    refine V.ret (V.rets rfl (Lv.retF (by simp +contextual (disch:=first|omega|simp only[nx];omega) only[D1,cells_alloc_at,cells_alloc_ne,cells_set_at,cells_set_ne,yres,yres1,yresL,qA,qB,qC,D5,hF,hA,↓reduceIte,qD,qE];rfl) ?_))
    exact⟨g1.s,hx.l.grow g1,hx.h.grow g1⟩
   ·exact absurd (by rw[hz] at hc0;exact h00) (by rw[hz] at hc0;exact hc0)
  rw[if_neg h00]
  refine V.condP zP (fun hc0=>?_) (fun hc0=>?_)
  ·exact absurd (by rw[hz] at hc0;exact hc0) h00
  have hx1 : GCx m S L c v pp pl ph pg X1 low:=⟨hx.p.grow g1,hx.l.grow g1,hx.h.grow g1,hx.g.grow g1⟩
  refine zS ?_
  have zf:=@hlen
  refine V.lz ?_
  refine zS ?_
  refine V.loop (fun z t mm Y=>∃ (j : Nat),j≤T.length∧z=T.length-j∧mm=[]∧GrowS (·=ph) X1 Y∧Bx Y ph (n8 (up low (T.take j))) 78∧Full 42 t∧Kn [(0,I left),(1,PT pp),(2,PT pl),(3,PT ph),(4,PT pg),(6,.slice pw1 nw1 cw1),(19,.slice pw1 nw1 cw1),(20,I T.length),(21,I j)] t) T.length ?_ ?_
  ·refine⟨0,by omega,by omega,rfl,.refl _,?_,zF,zK⟩
   have e : up low (T.take 0)=low:=by funext i;simp[up]
   rw[e]
   exact hx1.h
  clear hF hA
  rintro z t mm Y ⟨j,hj,rfl,rfl,hg,hh,hF,hA⟩
  simp only[Kn,and_true] at hA
  have oY:=o1.growS hg (fun i hi (he : i=ph)=>by omega) (Nat.le_refl X.next)
  refine zS ?_
  refine V.l0 ?_
  refine zS ?_
  refine V.condP zP (fun hlt=>?_) (fun hlt=>?_)
  ·have hlt' : j<T.length:=by omega
   have hTj:=hTm _ (List.getElem_mem hlt')
   obtain⟨p2,q2,r2⟩:=oY.sl.get (NL_at hlt') rfl (kd:=.i64)
   have r2':=r2 Y (.refl _)
   have ia:=idx_arr (i:=ph) (o:=0) (kd:=.i64) hTj
   have hg8:=n8_get (f:=up low (T.take j)) hTj
   have hs8:=n8_set (f:=up low (T.take j)) (p:=T[j]) (x:=up low (T.take j) T[j]+1)
   have hub : 0≤up low (T.take j) T[j]∧up low (T.take j) T[j]≤62:=by
    have:=hlb T[j]
    unfold up
    split<;>omega
   refine zS ?_
   have zf:=And.intro @q2<|@r2'
   refine V.lz ?_
   refine zS ?_
   have zf:=And.intro @ia<|And.intro hh.2<|And.intro @hg8<|And.intro @n8_len<|And.intro @hTj<|@hs8
   refine V.lz ?_
   refine zS ?_
   refine V.l0 ?_
   refine V.nil (Or.inl ⟨rfl,T.length-(j+1),by omega,?_⟩)
   refine⟨j+1,hlt',rfl,rfl,hg.set (.inl rfl) _,?_,zF,zK⟩
   rw[← up_take hTn hlt']
   exact Bx.put hh.1 _ _
  ·obtain rfl : j=T.length:=by omega
   rw[List.take_length] at hh
   have hxY : Bx Y pl (n8 low) 78:=hx1.l.growS hg (fun e=>d3 e)
   have hpY:=hx1.p.growS hg (fun e=>d2 e)
   have hgY:=hx1.g.growS hg (fun e=>d5 e)
   refine V.exit ?_
   refine zX ?_
   refine V.nil (Or.inr ⟨by simp,?_⟩)
   refine zX ?_
   refine zS ?_
   have zf:=@hlen
   refine V.lz ?_
   refine zS ?_
   refine V.condP zP (fun hle=>?_) (fun hle=>?_)
   ·rw[if_pos hle]
    have hpos : 0<T.length:=List.length_pos_iff.2 (fun e=>h00 (.inr e))
    have n8p:=n8_set0 (up low T) low
    refine zS ?_
    have zf:=And.intro hh.2<|And.intro @n8_take<|And.intro @n8_len<|And.intro @n8_ok<|And.intro hxY.2<|@n8p
    refine V.lz ?_
    refine V.heap (fun Z=>GrowS (fun i=>i=pl∨i=ph) X1 Z∧GCx m S L c v pp pl ph pg Z (up low T)) ⟨?_,?_⟩ ?_
    ·exact (hg.mono (fun _ e=>.inr e)).set (.inl (.inl rfl)) _
    ·exact⟨hpY.set d1 _,Bx.put hxY.1 _ _,hh.set (fun e=>d3 e.symm) _,hgY.set d4 _⟩
    rintro Z ⟨gZ,xZ⟩
    have ihc:=ih (left:=left-T.length) (low:=up low T) (X:=Z) (by omega) (by omega) (fun p=>by
     have:=hlb p
     unfold up
     split<;>omega) xZ
    have fvc:=FV.fn (P:=Try.prog) (g:=97) (a:=[]) (b:=[PT pp,PT pl,PT ph,PT pg]) (l:=[I (left-T.length)]) ihc
    obtain⟨R,fvR,hR⟩ : ∃ R,FV Try.prog (.func (.func 97) ⟨[]⟩ ⟨[PT pp,PT pl,PT ph,PT pg]⟩) [I (left-T.length)] Z R∧∀ w Y,R w Y→(GrowS (fun i=>i=pl∨i=ph) Z Y∧Bx Y pl (n8 (giv v (clq m S v) f (left-T.length) (up low T)).1) 78∧Bx Y ph (n8 (giv v (clq m S v) f (left-T.length) (up low T)).2) 78):=⟨_,fvc,fun _ _ h=>h⟩
    clear fvc ihc
    refine zS ?_
    refine V.run ?_
    have zf:=And.intro xZ.g.2<|@hlen
    refine VI.sz 5 ?_
    simp only[ds]
    refine VI.callV (y:=.func (.func 97) ⟨[]⟩ ⟨[PT pp,PT pl,PT ph,PT pg]⟩) zA (by simp only[List.map_cons,List.map_nil,D6,D5,hF,hA,↓reduceIte,qD,qE];exact fvR) (fun w W hw=>?_)
    obtain⟨gW,w1,w2⟩:=hR _ _ hw
    refine VI.l0 ?_
    refine zS ?_
    refine V.nil (Lv.normal (by simp only[yres,yresL,Option.map_some];rfl) ?_)
    exact⟨((g1.s).trans gZ).trans gW,w1,w2⟩
   ·rw[if_neg hle]
    refine zS ?_
    refine V.nil (Lv.normal (by simp only[yres,yresL,Option.map_some];rfl) ?_)
    exact⟨(g1.s).trans (hg.mono (fun _ e=>.inr e)),hxY,hh⟩
end Go.Xe.TVX
