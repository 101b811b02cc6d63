/- Mathematics of seats (part 1): quotients, and which of them are the greatest. Conditions: none. -/
import Derived.Test.YtgcdbdcnlhonfaaXq
import Derived.Test.YtgcdbdcnlhonfaaTCE
namespace Go.Xe.Sea
abbrev Q2:=Int×Int
def qlt (a b : Q2) : Prop:=if a.2=0∧b.2=0 then a.1<b.1 else a.1*b.2<b.1*a.2
instance (a b : Q2) : Decidable (qlt a b):=by unfold qlt;infer_instance
def qok (a : Q2) : Prop:=0≤a.1∧0≤a.2∧(a.2=0→0<a.1)
end Go.Xe.Sea
/- Mathematics of seats (part 2): seats that are given one by one to the greatest quotients. Conditions: none. -/
namespace Go.Xe.Sea
variable {v : Nat→Int} {q : Nat→Q2} {c : Nat→Int→Q2} {k p : Nat}
def tp (v : Nat→Int) (q : Nat→Q2) (k : Nat) : List Nat:=(List.range k).filter fun p=>decide (0<v p∧∀ o,o<k→0<v o→¬ qlt (q p) (q o))
def sm (s : Nat→Int) : Nat→Int
 | 0=>0
 | n+1=>sm s n+s n
def up (low : Nat→Int) (T : List Nat) : Nat→Int:=fun p=>if p∈T then low p+1 else low p
structure Low (v : Nat→Int) (c : Nat→Int→Q2) (low : Nat→Int) : Prop where
 nn : ∀ p,0≤low p
 adm : ∀ p,¬ (p<8∧0<v p)→low p=0
 weak : ∀ p o t,p<8→0<v p→o<8→0<v o→0≤t→t<low p→¬ qlt (c p t) (c o (low o))
 strict : (∀ p t,0<v p→0≤t→qlt (c p (t+1)) (c p t))→∀ p o t,p<8→0<v p→o<8→0<v o→0≤t→t<low p→qlt (c o (low o)) (c p t)
variable (hq : ∀ p t,0<v p→0≤t→qok (c p t)) (hd : ∀ p t,0<v p→0≤t→¬ qlt (c p t) (c p (t+1)))
include hq hd
end Go.Xe.Sea
/- Mathematics of seats (part 3): the parties that take part, one by one. Conditions: none. -/
namespace Go.Xe.Sea
variable {v : Nat→Int} {q : Nat→Q2}
def adl (v : Nat→Int) (k : Nat) : List Nat:=(List.range k).filter fun p=>decide (0<v p)
theorem adl_1 (k : Nat) : adl v (k+1)=if 0<v k then adl v k++[k] else adl v k:=by
 unfold adl
 rw[List.range_succ,List.filter_append]
 split
 ·rw[List.filter_cons_of_pos (by simp;omega)];rfl
 ·rw[List.filter_cons_of_neg (by simp;omega)];simp
theorem mem_adl {k p : Nat} : p∈adl v k↔p<k∧0<v p:=by
 unfold adl;rw[List.mem_filter,List.mem_range,decide_eq_true_eq]
theorem adl_pre {v : Nat→Int} : ∀ {a b : Nat},a≤b→∃ r,adl v b=adl v a++r
 | a,0,h=>⟨[],by rw[Nat.le_zero.1 h,List.append_nil]⟩
 | a,b+1,h=>by
  by_cases he : a=b+1
  ·exact⟨[],by rw[he,List.append_nil]⟩
  ·obtain⟨r,hr⟩:=adl_pre (v:=v) (a:=a) (b:=b) (by omega)
   rw[adl_1]
   split
   ·exact⟨r++[b],by rw[hr,List.append_assoc]⟩
   ·exact⟨r,hr⟩
theorem adl_len (k : Nat) : (adl v k).length≤k:=by
 have:=List.length_filter_le (fun p=>decide (0<v p)) (List.range k)
 rw[List.length_range] at this
 exact this
theorem adl_at {p n : Nat} (hp : p<n) (hv : 0<v p) : (adl v n)[(adl v p).length]?=some p:=by
 obtain⟨r,hr⟩:=adl_pre (v:=v) (show p+1≤n by omega)
 rw[hr,adl_1,if_pos hv,List.append_assoc,List.getElem?_append_right (Nat.le_refl _)]
 simp
theorem adl_split {n : Nat} {a b : List Nat} {p : Nat} (h : adl v n=a++p::b) : adl v p=a∧adl v (p+1)=a++[p]:=by
 have hm : p∈adl v n:=by rw[h];simp
 obtain⟨hp,hv⟩:=mem_adl.1 hm
 have h1:=adl_at hp hv
 obtain⟨r,hr⟩:=adl_pre (v:=v) (show p≤n by omega)
 have hnd : (adl v n).Nodup:=List.nodup_range.sublist List.filter_sublist
 have h2 : (adl v n)[a.length]?=some p:=by rw[h];simp
 have hlt : a.length<(adl v n).length:=by rw[h];simp
 have hl : (adl v p).length=a.length:=((List.getElem?_inj hlt hnd).1 (h2.trans h1.symm)).symm
 have e : adl v p=a:=by
  have e1 : (adl v n).take a.length=a:=by rw[h];simp
  have e2 : (adl v n).take a.length=adl v p:=by rw[hr,← hl];simp
  rw[← e1,e2]
 refine⟨e,?_⟩
 rw[adl_1,if_pos hv,e]
theorem tp_adl (k : Nat) : tp v q k=(adl v k).filter fun p=>decide (∀ o,o∈adl v k→¬ qlt (q p) (q o)):=by
 unfold tp
 conv=>rhs;unfold adl
 rw[List.filter_filter]
 apply List.filter_congr
 intro p _
 rw[← Bool.decide_and,decide_eq_decide]
 constructor
 ·rintro⟨h1,h2⟩
  refine⟨fun o ho=>?_,h1⟩
  obtain⟨h3,h4⟩:=mem_adl.1 ho
  exact h2 o h3 h4
 ·rintro⟨h1,h2⟩
  exact⟨h2,fun o h3 h4=>h1 o (mem_adl.2 ⟨h3,h4⟩)⟩
theorem tp_cong {a b : Nat} (h : adl v a=adl v b) : tp v q a=tp v q b:=by rw[tp_adl,tp_adl,h]
def pix (v : Nat→Int) (k : Nat) : Nat:=(adl v 8).getD k 8
theorem pix_adl {k : Nat} (h : k≤(adl v 8).length) : adl v (pix v k)=(adl v 8).take k:=by
 unfold pix
 rw[List.getD_eq_getElem?_getD]
 by_cases hk : k<(adl v 8).length
 ·rw[List.getElem?_eq_getElem hk]
  have e : adl v 8=(adl v 8).take k++(adl v 8)[k]::(adl v 8).drop (k+1):=by
   rw[← List.drop_eq_getElem_cons hk,List.take_append_drop]
  exact (adl_split e).1
 ·rw[List.getElem?_eq_none (by omega),List.take_of_length_le (by omega)]
  rfl
theorem pix_at {k : Nat} (hk : k<(adl v 8).length) : (adl v 8)[k]=pix v k∧pix v k<8∧0<v (pix v k)∧∀ {q : Nat→Q2},tp v q (pix v (k+1))=tp v q (pix v k+1):=by
 have e0 : (adl v 8)[k]=pix v k:=by unfold pix;rw[List.getD_eq_getElem?_getD,List.getElem?_eq_getElem hk];rfl
 have hm:=mem_adl.1 (List.getElem_mem hk)
 rw[e0] at hm
 refine⟨e0,hm.1,hm.2,?_⟩
 intro q
 apply tp_cong
 rw[pix_adl (by omega)]
 have e : adl v 8=(adl v 8).take k++(adl v 8)[k]::(adl v 8).drop (k+1):=by
  rw[← List.drop_eq_getElem_cons hk,List.take_append_drop]
 rw[e0] at e
 rw[(adl_split e).2,← e0,List.take_succ_eq_append_getElem hk]
end Go.Xe.Sea
/- What the functions of the layer border come to: the streets of a district. Conditions: none. -/
-- MOD TB
namespace Go.Xe.TBX
open Go Go.Xe Go.Proofs
open Nat renaming reduceLeDiff → qA, reduceSub → qB, reduceAdd → qC, reduceEqDiff → qD, reduceLT → qE
open Int renaming reduceNegSucc → qF, reduceEq → qG
open Go.Xe.V renaming seq → sA, block → sB, scope → sC, skip → sD, close → sE
open Go.Xe renaming pth → P
open Go.Xe.Rnd
open Go.Xe.Sea (adl adl_1 adl_at mem_adl pix pix_at adl_len)
set_option maxRecDepth 100000
set_option maxHeartbeats 3200000
set_option linter.unusedSimpArgs false
noncomputable def d94 : FCode:=(.seq (.run (.go (.box 96 (tm 0)) (P 3)::
.go (.box 93 (tm 1)) (P 4)::
.go (.box 3 (tm 2)) (P 5)::
.go (.move (.con .nilFunc)) (P 6)::
[])) (.seq (.run (.go (.makeFunc 113 [] [(tm 3),(tm 4),(tm 5)]) (P 7)::
.go (.move (tm 7)) (P 6)::
[])) .ret))
theorem de94 : @compF Try.prog (Gl.none Try.prog) Try.f94 3=.mk d94 (mkTT 8) [(P 0),(P 1),(P 2)] [.tmp (P 6)]:=by kernel_rfl
theorem dg94 : Try.prog.funcs[94]?=some Try.f94:=Try.func94
theorem do94 : okF Try.prog Try.f94=true:=by kernel_rfl
noncomputable def d113 : FCode:=(.seq (.run (.go (.fieldAddr 0 (tm 1)) (P 6)::
.go (.fieldAddr 2 (tm 6)) (P 7)::
.go (.load1 (tm 7)) (P 8)::
.go (.len 0 (tm 8)) (P 9)::
.go (.move (.con (.int .i64 (.ofNat 0)))) (P 10)::
[])) (.block 0 (.loop (.seq (.run (.go (.bin .lss 3 (tm 10) (tm 9)) (P 11)::
[])) (.seq (.cond (tm 11) .skip (.exit 0)) (.seq (.block 1 (.seq (.run (.go (.move (tm 10)) (P 12)::
.go (.move (tm 12)) (P 5)::
[])) (.seq (.draw 11 (.go (.move (tm 5)) (P 13)::
.go (.indexAddr (some 8) 1 (tm 2) (tm 13)) (P 14)::
.go (.load1 (tm 14)) (P 15)::
.go (.load1 (tm 3)) (P 16)::
.go (.bin .eql 3 (tm 15) (tm 16)) (P 17)::
.go (.move (tm 17)) (P 18)::
.gd (P 18) true (.move (tm 0)) (P 19)::
.gd (P 18) true (.move (tm 5)) (P 20)::
.gd (P 18) true (.call (tm 19) [tm 20]) (P 21)::
.gd (P 18) true (.un .not (tm 21)) (P 22)::
.go (.pick (tm 18) (tm 22) (.con (.bool false))) (P 23)::
[]) [.ok,.ok,.ok,.ok,.ok,.ok,.ok,.ok,.ok,.ok,.ok]) (.cond (tm 23) .ret .skip)))) (.run (.go (.bin .add 3 (tm 10) (.con (.int .i64 (.ofNat 1)))) (P 24)::
.go (.move (tm 24)) (P 10)::
[]))))))))
theorem de113 : @compF Try.prog (Gl.none Try.prog) Try.f113 4=.mk d113 (mkTT 25) [(P 0),(P 1),(P 2),(P 3)] []:=by kernel_rfl
theorem dg113 : Try.prog.funcs[113]?=some Try.f113:=Try.func113
theorem do113 : okF Try.prog Try.f113=true:=by kernel_rfl
noncomputable def d112 : FCode:=(.seq (.run (.go (.box 22 (tm 0)) (P 2)::
.go (.move (.con (.slice none 0 0))) (P 4)::
[])) (.seq (.seq (.run (.go (.move (tm 1)) (P 6)::
[])) (.block 0 (.rangeFunc (tm 6) [(P 7)] (rfA Try.f112 0) (rfB Try.f112 0) (.run (.go (.move (tm 7)) (P 5)::
[])) (.block 1 (.run (.go (.load1 (tm 2)) (P 8)::
.go (.move (tm 5)) (P 9)::
.go (.buildSlice 3 1 [(.int .i64 (.ofNat 0))] [(0,1,(tm 9))]) (P 10)::
.go (.append 3 1 8 (tm 8) (tm 10)) (P 11)::
.un (.store 1 (tm 2) (tm 11))::
[])))))) (.seq (.run (.go (.load1 (tm 2)) (P 12)::
.go (.move (tm 12)) (P 4)::
[])) .ret)))
theorem de112 : @compF Try.prog (Gl.none Try.prog) Try.f112 2=.mk d112 (mkTT 13) [(P 0),(P 1)] [.tmp (P 4)]:=by kernel_rfl
theorem dg112 : Try.prog.funcs[112]?=some Try.f112:=Try.func112
theorem do112 : okF Try.prog Try.f112=true:=by kernel_rfl
noncomputable def d93 : FCode:=(.seq (.run (.go (.move (.con (.slice none 0 0))) (P 2)::
[])) (.seq (.run (.go (.move (tm 0)) (P 3)::
.go (.call (.con (.func (.func 112) ⟨[]⟩ ⟨[]⟩)) [(.con (.slice none 0 0)),(tm 3)]) (P 4)::
.go (.move (tm 4)) (P 2)::
[])) .ret))
theorem de93 : @compF Try.prog (Gl.none Try.prog) Try.f93 1=.mk d93 (mkTT 5) [(P 0)] [.tmp (P 2)]:=by kernel_rfl
theorem dg93 : Try.prog.funcs[93]?=some Try.f93:=Try.func93
theorem do93 : okF Try.prog Try.f93=true:=by kernel_rfl
def ind (n : Nat) (f : Nat→Int) (d : Int) : Nat→Int:=fun i=>if i<n∧f i=d then 1 else 0
theorem ind_pos {n : Nat} {f : Nat→Int} {d : Int} {i : Nat} : 0<ind n f d i↔i<n∧f i=d:=by
 unfold ind
 split
 ·rename_i h;exact⟨fun _=>h,fun _=>by omega⟩
 ·rename_i h;exact⟨fun h=>by omega,fun k=>absurd k h⟩
def yl (v : Nat→Int) : List (List Value):=(adl v 8).map fun p=>[I (p : Nat)]
theorem yl_len {v : Nat→Int} : (yl v).length=(adl v 8).length:=by simp[yl]
theorem yl_at {v : Nat→Int} {k : Nat} (h : k<(yl v).length) : (yl v)[k]=[I (pix v k : Nat)]:=by
 have hk : k<(adl v 8).length:=by rw[← yl_len];exact h
 simp only[yl,List.getElem_map,(pix_at hk).1]
theorem yl_pos {v : Nat→Int} {p : Nat} (hp : p<8) (h : 0<v p) : ∃ hk : (adl v p).length<(yl v).length,(yl v)[(adl v p).length]'hk=[I (p : Nat)]:=by
 have e:=adl_at hp h
 have hk:=(List.getElem?_eq_some_iff.1 e).1
 refine⟨by rw[yl_len];exact hk,?_⟩
 have e2 : (adl v 8)[(adl v p).length]=p:=by rw[List.getElem?_eq_getElem hk] at e;simpa using e
 simp only[yl,List.getElem_map,e2]
theorem adl_end {v : Nat→Int} {n : Nat} (h : ∀ p,n≤p→¬ 0<v p) : ∀ k,n≤k→adl v k=adl v n
 | 0,hk=>by
        have : n=0:=by omega
        subst this;rfl
 | k+1,hk=>by
  by_cases e : n=k+1
  ·rw[e]
  ·rw[adl_1,if_neg (h k (by omega))]
   exact adl_end h k (by omega)
theorem f94_ok {H : Heap} {cs : List Value} {f : Nat→Int} {d : Int} : F Try.prog 94 ⟨[.agg ⟨cs⟩,.agg ⟨n8 f⟩,I d]⟩ H (fun w X=>w=.func (.func 113) ⟨[]⟩ ⟨[PT H.next,PT (H.next+1),PT (H.next+2)]⟩∧Grow H X∧Bx X H.next cs 96∧Bx X (H.next+1) (n8 f) 93∧Bx X (H.next+2) [I d] 3):=by
 refine F.entryL rfl dg94 do94 de94 rfl (by kernel_rfl) ?_
 simp only[sets]
 refine V.re [(0,.agg ⟨cs⟩),(1,.agg ⟨n8 f⟩),(2,I d)] (N:=8) zE zY ?_
 intro t hF hA
 simp only[Kn,and_true] at hA
 refine zS ?_
 refine V.l0 ?_
 refine V.heap (fun X=>Grow H X∧Bx X H.next cs 96∧Bx X (H.next+1) (n8 f) 93∧Bx X (H.next+2) [I d] 3) ⟨?_,?_,?_,?_⟩ ?_
 ·exact zW
 ·exact zB
 ·exact zB
 ·exact zB
 rintro H1 ⟨g1,b1,c1,d1⟩
 refine zS ?_
 refine V.l0 ?_
 refine zS ?_
 refine V.ret (V.rets rfl (Lv.retF (by simp +contextual (disch:=first|omega|simp only[nx];omega) only[D1,cells_alloc_at,cells_alloc_ne,cells_set_at,cells_set_ne,yres,yres1,yresL,qA,qB,qC,D5,hF,hA,↓reduceIte,qD,qE];rfl) ?_))
 exact⟨rfl,g1,b1,c1,d1⟩
theorem f113_iter {H0 : Heap} {o s j m : Value} {N : Int} {fo fn' : Nat→Int} {f : Nat→Int} {d : Int} {n pb pf pd : Nat} (hn8 : n≤8) (hl : ∀ X,ylen 0 X s=some (I n)) (hb : Bx H0 pb (ac o s j N fo fn' m) 96) (hf : Bx H0 pf (n8 f) 93) (hd : Bx H0 pd [I d] 3) :
  Iter Try.prog 113 [] [PT pb,PT pf,PT pd] (fun i=>i=pb∨i=pf∨i=pd) H0 (yl (ind n f d)):=by
 intro y W I0 J H hH hD sI sJ hY h0
 have keep : ∀ {i : Nat} {c : List Value} {e : TypeId},(i=pb∨i=pf∨i=pd)→Bx H0 i c e→Bx H i c e∧¬ W i:=fun {i c e} hi h=>by
  obtain⟨_,hU,hp⟩:=hD i hi
  exact⟨⟨Nat.lt_of_lt_of_le h.1 hH,by have:=h.2;unfold Heap.cellsAt at this ⊢;rw[hp];exact this⟩,hU⟩
 obtain⟨bb,u1⟩:=keep (.inl rfl) hb
 obtain⟨bf,u2⟩:=keep (.inr (.inl rfl)) hf
 obtain⟨bd,u3⟩:=keep (.inr (.inr rfl)) hd
 show F Try.prog 113 ⟨[y,PT pb,PT pf,PT pd]⟩ H _
 refine F.entryL rfl dg113 do113 de113 rfl (by kernel_rfl) ?_
 simp only[sets]
 refine V.re [(0,y),(1,PT pb),(2,PT pf),(3,PT pd)] (N:=25) zE zY ?_
 intro t hF hA
 simp only[Kn,and_true] at hA
 refine zS ?_
 have zf:=And.intro bb.2<|And.intro @AC<|@hl
 refine V.lz ?_
 refine zS ?_
 refine V.loop (fun z t mm X=>∃ (p : Nat),p≤n∧z=n-p∧mm=[]∧GrowS W H X∧I0 (adl (ind n f d) p).length X∧Full 25 t∧Kn [(0,y),(1,PT pb),(2,PT pf),(3,PT pd),(9,I n),(10,I p)] t) n ?_ ?_
 ·exact⟨0,by omega,by omega,rfl,.refl _,h0,zF,zK⟩
 clear hF hA
 rintro z t mm X ⟨p,hp,rfl,rfl,hg,hI,hF,hA⟩
 simp only[Kn,and_true] at hA
 have fx:=bf.growS hg u2
 have dx:=bd.growS hg u3
 refine zS ?_
 refine V.l0 ?_
 refine zS ?_
 refine V.condP zP (fun hlt=>?_) (fun hlt=>?_)
 ·have hlt' : p<n:=by omega
  have hp8 : p<8:=by omega
  have ia:=idx_arr (len:=8) (i:=pf) (o:=0) (kd:=.i64) hp8
  have is':=n8_get (f:=f) hp8
  refine zS ?_
  refine V.l0 ?_
  refine zS ?_
  by_cases h : f p=d
  ·have hpos : 0<ind n f d p:=ind_pos.2 ⟨hlt',h⟩
   obtain⟨hk,hyl⟩:=yl_pos hp8 hpos
   have hyy:=hY _ hk
   rw[hyl] at hyy
   have hdt : decide (f p=d)=true:=decide_eq_true h
   have ht : (f p=d)=True:=eq_true h
   refine V.draw ?_
   have zf:=And.intro @ht<|And.intro fx.2<|And.intro dx.2<|And.intro @ia<|@is'
   refine VD.nz 8 ?_
   simp only[ds]
   refine VD.callVT zG zA (hyy X hI hg) zA (fun w3 X3 ⟨g3,hw3⟩=>?_)
   have m3:=g3.1
   rcases hw3 with⟨rfl,hI3⟩|⟨rfl,hJ⟩
   ·refine VD.d0 ?_ ?_ rfl ?_
    ·exact zM
    ·simp only[dcAll,dcOk,wantD,List.cons_append,List.nil_append,true_and,and_true]
    refine zS ?_
    refine V.condF zA ?_
    refine zS ?_
    refine V.l0 ?_
    refine V.nil (Or.inl ⟨rfl,n-(p+1),by omega,?_⟩)
    refine⟨p+1,hlt',rfl,rfl,hg.trans g3,?_,zF,zK⟩
    rw[adl_1,if_pos hpos,List.length_append]
    exact hI3
   ·refine VD.d0 ?_ ?_ rfl ?_
    ·exact zM
    ·simp only[dcAll,dcOk,wantD,List.cons_append,List.nil_append,true_and,and_true]
    refine zS ?_
    refine V.condT zA ?_
    refine zS ?_
    refine V.ret (V.rets rfl (Or.inr ⟨by simp,V.rets rfl (Lv.retF (by simp +contextual (disch:=first|omega|simp only[nx];omega) only[D1,cells_alloc_at,cells_alloc_ne,cells_set_at,cells_set_ne,yres,yres1,yresL,qA,qB,qC,D5,hF,hA,↓reduceIte,qD,qE];rfl) ?_)⟩))
    exact⟨hg.trans g3,.inr hJ⟩
  ·have hpos : ¬ 0<ind n f d p:=fun k=>h (ind_pos.1 k).2
   have ht : (f p=d)=False:=eq_false h
   refine V.draw ?_
   have zf:=And.intro @ht<|And.intro fx.2<|And.intro dx.2<|And.intro @ia<|@is'
   refine VD.nz 8 ?_
   simp only[ds]
   refine VD.gdF zG ?_
   refine VD.d0 ?_ ?_ rfl ?_
   ·exact zM
   ·simp only[dcAll,dcOk,wantD,List.cons_append,List.nil_append,true_and,and_true]
   refine zS ?_
   refine V.condF zA ?_
   refine zS ?_
   refine V.l0 ?_
   refine V.nil (Or.inl ⟨rfl,n-(p+1),by omega,?_⟩)
   refine⟨p+1,hlt',rfl,rfl,hg,?_,zF,zK⟩
   rw[adl_1,if_neg hpos]
   exact hI
 ·obtain rfl : p=n:=by omega
  refine V.exit ?_
  refine zX ?_
  refine V.nil (Or.inr ⟨by simp,?_⟩)
  refine zX ?_
  refine zS ?_
  refine V.nil (Lv.normal (by simp only[yres,yresL,Option.map_some];rfl) ?_)
  rw[yl_len,adl_end (v:=ind p f d) (n:=p) (fun q hq=>fun k=>by have:=(ind_pos.1 k).1;omega) 8 hn8]
  exact⟨hg,.inl hI⟩
def ix (v : Nat→Int) (k : Nat) : List Int:=((adl v 8).take k).map fun p : Nat=>(p : Int)
theorem ix_1 {v : Nat→Int} {k : Nat} (h : k<(adl v 8).length) : ix v (k+1)=ix v k++[(pix v k : Int)]:=by
 unfold ix
 rw[tk1 h,List.map_append,(pix_at h).1]
 rfl
def ixl (v : Nat→Int) : List Int:=(adl v 8).map fun p : Nat=>(p : Int)
theorem ix_end {v : Nat→Int} : ix v (adl v 8).length=ixl v:=by unfold ix ixl;rw[List.take_length]
theorem f112_ok {H : Heap} {v : Nat→Int} {g : Nat} {cap : List Value} {D : Nat→Prop} (hI : Iter Try.prog g [] cap D H (yl v)) (hD : ∀ i,D i→i<H.next) : F Try.prog 112 ⟨[.slice none 0 0,.func (.func g) ⟨[]⟩ ⟨cap⟩]⟩ H (fun w X=>Grow H X∧Ow H X 3 w (Li (ixl v))):=by
 refine F.entryL rfl dg112 do112 de112 rfl (by kernel_rfl) ?_
 simp only[sets]
 refine V.re [(0,.slice none 0 0),(1,.func (.func g) ⟨[]⟩ ⟨cap⟩)] (N:=13) zE zY ?_
 intro t hF hA
 simp only[Kn,and_true] at hA
 refine zS ?_
 refine V.l0 ?_
 refine V.heap (fun X=>Grow H X∧Bx X H.next [.slice none 0 0] 22) ⟨?_,?_⟩ ?_
 ·exact zW
 ·exact zB
 rintro H1 ⟨g1,b1⟩
 have n1:=b1.1
 refine zS ?_
 refine V.l0 ?_
 refine zS ?_
 refine V.re [(2,PT H.next),(6,.func (.func g) ⟨[]⟩ ⟨cap⟩)] (N:=13) zF zK ?_
 clear hF hA
 intro t hF hA
 simp only[Kn,and_true] at hA
 refine V.rangeL hI (fun y=>y=H.next∨H1.next+1<y) (fun k X=>∃ sl,isS sl∧Bx X H.next [sl] 22∧Ow (cutH X (H1.next+2)) X 3 sl (Li (ix v k))) (fun _ _=>False)
  zA rfl (by simp only[Heap.next_alloc];omega) ?_ ?_ ?_ (fun _ _ _ _ _ h=>h.elim) ?_ ?_ ?_
 ·intro i hi
  have:=hD i hi
  refine⟨this,by omega,?_⟩
  rw[Heap.get_alloc,if_neg (by omega)]
  exact g1.2 i this
 ·intro l hl
  obtain⟨q,_,rfl⟩:=List.mem_map.1 hl
  rfl
 ·rintro k X X' r1 r2 ⟨sl,h0,h1,h2⟩ _ _ gg
  simp only[Heap.next_alloc] at gg
  exact⟨sl,h0,h1.growS gg (by omega),h2.growS gg (fun i (hi : H1.next+2≤i)=>by omega) (Nat.le_refl _)⟩
 ·intro r
  have gg : Grow H1 ((H1.alloc (.deferred true)).alloc (.loop r)):=((Grow.refl H1).alloc _).alloc _
  exact⟨_,⟨_,_,_,rfl⟩,b1.grow gg,.inl ⟨rfl,rfl⟩⟩
 ·rintro k hk r X ⟨sl,⟨p0,n0,c0,rfl⟩,h1,h2⟩ hg hlX hl hr
  rw[yl_at hk]
  rw[yl_len] at hk
  simp only[sets]
  simp only[Heap.next_alloc] at hlX hl
  refine zS ?_
  refine V.l0 ?_
  refine V.nil ⟨rfl,hl,.refl _,?_⟩
  intro X2 _ hl2 g2'
  simp only[Heap.next_alloc] at g2' hl2
  have h1:=h1.growS g2' (by omega)
  have h2 : Ow (cutH X2 (H1.next+2)) X2 3 (.slice p0 n0 c0) (Li (ix v k)):=h2.growS g2' (fun i (hi : H1.next+2≤i)=>by omega) (Nat.le_refl _)
  have n2':=g2'.1
  have gc:=cutH_grow (X:=X2) (n:=H1.next+2) (by omega)
  have hlk : (ix v k).length≤8:=by
   unfold ix
   rw[List.length_map,List.length_take]
   have:=adl_len (v:=v) 8
   omega
  obtain⟨u,Y,a1,a2,a3,a4,a5,_,a7,_⟩:=h2.push (bytes:=8) (r:=[I (pix v k : Nat)]) gc rfl (by simp) (by rw[Li_len];simp;omega) (by rw[Li_len];simp;omega)
  replace a1 : yappend 3 1 8 (X2.alloc (.cells ⟨[I (pix v k : Nat)]⟩ 3 true)) (.slice p0 n0 c0) (.slice (some ⟨X2.next,0,none⟩) 1 1)=some (u,Y):=a1
  have hfr : ∀ i,blk (.slice p0 n0 c0)=some i→H1.next+2≤i:=fun i hi=>by
   rcases h2 with⟨e,_⟩|⟨i',i1,_,i3,_⟩
   ·rw[e] at hi;cases hi
   ·rw[i3] at hi
    have hh : some i'=some i:=hi
    have:=Option.some.inj hh
    have i1' : H1.next+2≤i':=i1
    omega
  have h3 : Bx Y H.next [.slice p0 n0 c0] 22:=h1.apart a4 (fun e=>by have:=hfr _ e;omega)
  obtain⟨pu,nu,cu,rfl⟩:=a2.slice
  have m4:=a4.1
  have nY:=h3.1
  have hlY : Y.get (H1.next+1)=X2.get (H1.next+1):=a4.2 _ (by omega) (fun o n c e=>by have:=hfr (H1.next+1) (by rw[e];rfl);omega)
  refine zS ?_
  have zf:=And.intro h1.2<|And.intro @a1<|h3.2
  refine V.lz ?_
  refine zS ?_
  refine V.nil ⟨?_,?_,.inl ⟨rfl,_,⟨_,_,_,rfl⟩,Bx.put nY _ _,?_⟩⟩
  ·simp only[Heap.next_alloc]
   rw[Heap.get_set,if_neg (by omega),hlY]
   exact hl2
  ·refine GrowS.set (U:=fun y=>y=H.next∨H1.next+1<y) (A:=X2) (B:=Y) ⟨m4,fun i hi hu=>a4.2 i hi (fun o n c e=>?_)⟩ (.inl (.inl rfl)) _
   have:=hfr i (by rw[e];rfl)
   exact hu (.inr (by omega))
  ·rw[ix_1 hk]
   have e : Li (ix v k)++[I (pix v k : Nat)]=Li (ix v k++[(pix v k : Int)]):=by simp[Li]
   rw[e] at a2
   rcases a2 with⟨e1,e2⟩|⟨i',i1,i2,i3,i4⟩
   ·exact .inl ⟨e1,e2⟩
   ·have i1' : H1.next+2≤i':=i1
    exact .inr ⟨i',i1',i2,i3,by rw[cells_set_ne _ _ (by omega)];exact i4⟩
 ·rintro e X he hg hn
  simp only[Heap.next_alloc] at hg hn
  rcases he with⟨rfl,sl,⟨p0,n0,c0,rfl⟩,h1,h2⟩|⟨_,h⟩
  rotate_left
  ·exact h.elim
  rw[yl_len,ix_end] at h2
  have hgd : X.get H1.next=some (.deferred true):=by
   rw[hg.2 _ (by simp only[Heap.next_alloc];omega) (by simp only[Heap.next_alloc];omega),Heap.get_alloc,if_pos rfl]
  refine zS ?_
  have zf:=h1.2
  refine V.lz ?_
  refine zS ?_
  refine V.ret (V.rets rfl (Lv.retM hgd (by simp only[yres,yres1,D5,hF,hA,↓reduceIte,qD,qE];rfl) ?_))
  have q1:=g1.1
  have gX : Grow H (X.set H1.next .dead):=⟨by simp only[Heap.next_set];omega,fun i hi=>by
   rw[Heap.get_set,if_neg (by omega),hg.2 i (by simp only[Heap.next_alloc];omega) (by simp only[Heap.next_alloc];omega),Heap.get_alloc,if_neg (by omega)]
   exact g1.2 i hi⟩
  have h2 : Ow (cutH (X.set H1.next .dead) (H1.next+2)) (X.set H1.next .dead) 3 (.slice p0 n0 c0) (Li (ixl v)):=h2.growS (U:=(·=H1.next)) (GrowS.setAt X H1.next _) (fun i (hi : H1.next+2≤i)=>by omega) (Nat.le_refl _)
  exact⟨gX,h2.base (show H.next≤H1.next+2 by omega)⟩
theorem f93_ok {H : Heap} {v : Nat→Int} {g : Nat} {cap : List Value} {D : Nat→Prop} (hI : Iter Try.prog g [] cap D H (yl v)) (hD : ∀ i,D i→i<H.next) : F Try.prog 93 ⟨[.func (.func g) ⟨[]⟩ ⟨cap⟩]⟩ H (fun w X=>Grow H X∧Ow H X 3 w (Li (ixl v))):=by
 refine F.entryL rfl dg93 do93 de93 rfl (by kernel_rfl) ?_
 simp only[sets]
 refine V.re [(0,.func (.func g) ⟨[]⟩ ⟨cap⟩)] (N:=5) zE zY ?_
 intro t hF hA
 simp only[Kn,and_true] at hA
 refine zS ?_
 refine V.l0 ?_
 refine zS ?_
 refine V.run ?_
 refine VI.s0 1 ?_
 simp only[ds]
 refine VI.callR zA (f112_ok hI hD) zA (fun w1 H1 ⟨g1,q1⟩=>?_)
 refine VI.l0 ?_
 refine zS ?_
 refine V.ret (V.rets rfl (Lv.retF (by simp +contextual (disch:=first|omega|simp only[nx];omega) only[D1,cells_alloc_at,cells_alloc_ne,cells_set_at,cells_set_ne,yres,yres1,yresL,qA,qB,qC,D5,hF,hA,↓reduceIte,qD,qE];rfl) ?_))
 exact⟨g1,q1⟩
end Go.Xe.TBX
/- What the functions of the layer border come to: shares of the streets. Conditions: none. -/
-- MOD TB
namespace Go.Xe.TBX
open Go Go.Xe Go.Proofs
open Nat renaming reduceLeDiff → qA, reduceSub → qB, reduceAdd → qC, reduceEqDiff → qD, reduceLT → qE
open Int renaming reduceNegSucc → qF, reduceEq → qG
open Go.Xe.V renaming seq → sA, block → sB, scope → sC, skip → sD, close → sE
open Go.Xe renaming pth → P
open Go.Xe.Rnd
open Go.Xe.Sea (adl adl_1 adl_at mem_adl pix pix_at pix_adl adl_len)
set_option maxRecDepth 100000
set_option maxHeartbeats 3200000
set_option linter.unusedSimpArgs false
theorem mk_row (H : Heap) (g : Nat) (hg : g≤1048576) : ymakeSlice 3 8 [I 0] H (I g) (I g)=some (.slice (some ⟨H.next,0,none⟩) g g,H.alloc (.cells ⟨Li (fl g fun _=>0)⟩ 3 true)):=by
 have e48 : (2 : Nat) ^ 48=281474976710656:=by decide
 have ez : zeros ⟨[I 0]⟩ ((g : Int).toNat*[I 0].length)=⟨Li (fl g fun _=>0)⟩:=by
  apply Array.toList_inj.1
  simp only[zeros,Array.toList_map,Array.toList_range,Li,fl,List.map_map,List.length_cons,List.length_nil]
  apply List.ext_getElem
  ·simp
  ·intro j h1 h2
   simp[Nat.mod_one]
 simp only[ymakeSlice]
 rw[if_pos ⟨by omega,by omega,by omega,by omega⟩,ez]
 simp[Li_len,fl_len]
theorem inb_fl (n m : Nat) (f : Nat→Int) : (Li (fl n f)).all (inBound m 2)=true:=by
 simp[Li,fl,inBound]
theorem fl_set {n p : Nat} {g : Nat→Int} {b : Int} : (Li (fl n g)).set p (I b)=Li (fl n fun q=>if q=p then b else g q):=by
 rw[Li_set]
 congr 1
 apply List.ext_getElem
 ·rw[List.length_set,fl_len,fl_len]
 ·intro i h1 h2
  rw[List.getElem_set,fl_at]
  split
  ·rename_i e;rw[fl_at,if_pos e.symm]
  ·rename_i e;rw[fl_at,if_neg (fun k=>e k.symm)]
theorem fl_get {n p : Nat} {g : Nat→Int} (h : p<n) : (Li (fl n g))[p]?=some (I (g p)):=by
 rw[Li_at (by rw[fl_len];exact h),fl_at]
theorem fl_cong {n : Nat} {f g : Nat→Int} (h : ∀ i,i<n→f i=g i) : fl n f=fl n g:=List.map_congr_left fun i hi=>h i (List.mem_range.1 hi)
theorem Li_fl_len (n : Nat) (f : Nat→Int) : (Li (fl n f)).length=n:=by rw[Li_len,fl_len]
def wF (M : BM) : Nat→Int:=fun i=>match M.S[i]? with
 | some s=>s.w
 | none=>0
theorem wF_at {M : BM} {i : Nat} (h : i<M.S.length) : wF M i=M.S[i].w:=by unfold wF;rw[List.getElem?_eq_getElem h]
def vd (M : BM) (d : Nat) : Nat→Int:=ind M.S.length (oldF M) (d : Int)
theorem vd_pos {M : BM} {d i : Nat} : 0<vd M d i↔i<M.S.length∧oldF M i=d:=ind_pos
def wsl (M : BM) (d : Nat) (k : Nat) : List Int:=((adl (vd M d) 8).take k).map (wF M)
theorem wsl_1 {M : BM} {d k : Nat} (h : k<(adl (vd M d) 8).length) : wsl M d (k+1)=wsl M d k++[wF M (pix (vd M d) k)]:=by
 unfold wsl
 rw[tk1 h,(pix_at h).1]
 simp
def wsa (M : BM) (d : Nat) : List Int:=(adl (vd M d) 8).map (wF M)
theorem wsl_end {M : BM} {d : Nat} : wsl M d (adl (vd M d) 8).length=wsa M d:=by unfold wsl wsa;rw[List.take_length]
theorem wsa_len {M : BM} {d : Nat} : (wsa M d).length=(adl (vd M d) 8).length:=by unfold wsa;rw[List.length_map]
theorem adl_8 {M : BM} {d : Nat} (h8 : M.S.length≤8) : adl (vd M d) 8=adl (vd M d) M.S.length:=
 adl_end (fun p hp hh=>by have:=(vd_pos.1 hh).1;omega) 8 h8
theorem wsa_sm {M : BM} {d : Nat} (h8 : M.S.length≤8) : sm (wsa M d)=so (·.w) (d : Int) M.S:=by
 have : ∀ k,k≤M.S.length→sm ((adl (vd M d) k).map (wF M))=so (·.w) (d : Int) (M.S.take k):=by
  intro k
  induction k with
  | zero=>intro _;rfl
  | succ k ih=>
   intro hk
   have hk' : k<M.S.length:=by omega
   have e:=ih (by omega)
   rw[so_take hk',adl_1]
   by_cases h : M.S[k].old=d
   ·rw[if_pos (vd_pos.2 ⟨hk',by rw[oldF_at hk'];exact h⟩),if_pos h,List.map_append,sm_app,e]
    simp[sm,wF_at hk']
   ·rw[if_neg (fun hh=>h (by rw[← oldF_at hk'];exact (vd_pos.1 hh).2)),if_neg h,e];omega
 unfold wsa
 rw[adl_8 h8,this _ (Nat.le_refl _),List.take_length]
def dsh (M : BM) (d : Nat) : List Int:=dv (wsa M d) (M.O.getD d 0)
def shr (M : BM) (i : Nat) : Int:=(dsh M (oldF M i).toNat).getD (adl (vd M (oldF M i).toNat) i).length 0
structure VM (M : BM) : Prop where
 o4 : M.O.length≤4
 s8 : M.S.length≤8
 j20 : M.J.length≤20
 o : ∀ v∈M.O,0≤v∧v≤10000
 n : 1≤M.N∧M.N≤4
 s0 : 0<M.S.length
 s : ∀ s∈M.S,sok M s
 j : ∀ r∈M.J,jok M r
 w : ∀ d,d<M.O.length→0<so (·.w) (d : Int) M.S
theorem VM.of {M : BM} (hf : fits M) (hv : vld M) : VM M:=by
 obtain⟨a,b,c⟩:=hf
 obtain⟨v1,v2,v3,v4,v5,v6,v7⟩:=hv
 refine⟨by omega,by omega,by omega,v2,v3,by omega,v5,v6,fun d hd=>?_⟩
 exact v7 _ (List.mem_map.2 ⟨d,List.mem_range.2 hd,rfl⟩)
section
variable {M : BM} (V : VM M)
include V
theorem VM.old {i : Nat} (h : i<M.S.length) : 0≤oldF M i∧oldF M i<M.O.length:=by
 have:=(V.s _ (List.getElem_mem h)).1
 rw[oldF_at h]
 omega
theorem VM.new {i : Nat} (h : i<M.S.length) : 0≤newF M i∧newF M i<M.N:=by
 have:=(V.s _ (List.getElem_mem h)).2.1
 rw[newF_at h]
 omega
theorem VM.wt {i : Nat} (h : i<M.S.length) : 0≤wF M i∧wF M i≤1000:=by
 have:=(V.s _ (List.getElem_mem h)).2.2.1
 rw[wF_at h]
 omega
theorem VM.wb {d : Nat} : ∀ v∈wsa M d,0≤v∧v≤10000:=by
 intro v hv
 obtain⟨p,hp,rfl⟩:=List.mem_map.1 hv
 have:=V.wt (vd_pos.1 (mem_adl.1 hp).2).1
 omega
omit V in
theorem VM.wl {d : Nat} : (wsa M d).length≤8:=by
 rw[wsa_len]
 exact adl_len 8
theorem VM.ot {d : Nat} (hd : d<M.O.length) : M.O.getD d 0=M.O[d]∧0≤M.O[d]∧M.O[d]≤10000:=by
 have:=V.o _ (List.getElem_mem hd)
 refine⟨by simp[hd],this⟩
theorem VM.sp {d : Nat} (hd : d<M.O.length) : 0<sm (wsa M d):=by
 rw[wsa_sm V.s8]
 exact V.w d hd
theorem VM.de0 {d : Nat} (hd : d<M.O.length) : de (wsa M d) M.O[d]=0:=by
 have:=VM.wl (M:=M) (d:=d)
 have:=V.ot hd
 exact de_0.2 ⟨by omega,V.wb,by omega,V.sp hd⟩
theorem VM.dshE {d : Nat} (hd : d<M.O.length) : dv (wsa M d) M.O[d]=dsh M d:=by unfold dsh;rw[(V.ot hd).1]
theorem VM.dsh_len {d : Nat} (hd : d<M.O.length) : (dsh M d).length=(adl (vd M d) 8).length:=by
 have h:=V.ot hd
 unfold dsh
 rw[h.1,(dv_shares h.2.1 (fun w hw=>(V.wb w hw).1) (V.sp hd)).1,wsa_len]
theorem VM.dsh_bd {d : Nat} (hd : d<M.O.length) : ∀ x∈dsh M d,0≤x∧x≤10000:=by
 have h:=V.ot hd
 intro x hx
 unfold dsh at hx
 rw[h.1] at hx
 have:=(dv_shares h.2.1 (fun w hw=>(V.wb w hw).1) (V.sp hd)).2.2.1 x hx
 omega
theorem VM.lst {d i : Nat} (h : i<M.S.length) (e : oldF M i=d) : (adl (vd M d) i).length<(adl (vd M d) 8).length:=by
 have:=adl_at (v:=vd M d) (p:=i) (n:=8) (by have:=V.s8;omega) (vd_pos.2 ⟨h,e⟩)
 exact (List.getElem?_eq_some_iff.1 this).1
theorem VM.shr_bd {i : Nat} (h : i<M.S.length) : 0≤shr M i∧shr M i≤10000:=by
 have ho:=V.old h
 have hd : (oldF M i).toNat<M.O.length:=by omega
 have hl:=V.lst (d:=(oldF M i).toNat) h (by omega)
 rw[← V.dsh_len hd] at hl
 unfold shr
 have e : (dsh M (oldF M i).toNat).getD (adl (vd M (oldF M i).toNat) i).length 0=(dsh M (oldF M i).toNat)[(adl (vd M (oldF M i).toNat) i).length]:=by simp[hl]
 rw[e]
 exact V.dsh_bd hd _ (List.getElem_mem hl)
end
theorem pix_vd {M : BM} {d k : Nat} (h : k<(adl (vd M d) 8).length) : pix (vd M d) k<M.S.length∧oldF M (pix (vd M d) k)=d∧(adl (vd M d) (pix (vd M d) k)).length=k:=by
 have h1:=pix_at h
 have h2:=vd_pos.1 h1.2.2.1
 refine⟨h2.1,h2.2,?_⟩
 rw[pix_adl (Nat.le_of_lt h),List.length_take]
 omega
theorem shr_pix {M : BM} {d k : Nat} (h : k<(adl (vd M d) 8).length) : shr M (pix (vd M d) k)=(dsh M d).getD k 0:=by
 obtain⟨h1,h2,h3⟩:=pix_vd h
 unfold shr
 rw[h2,Int.toNat_natCast,h3]
def ownS (M : BM) (d k : Nat) : Nat→Int:=fun i=>if i<M.S.length∧(oldF M i<d∨(oldF M i=d∧(adl (vd M d) i).length<k)) then shr M i else 0
theorem ownS_1 {M : BM} {d k : Nat} (h8 : M.S.length≤8) (h : k<(adl (vd M d) 8).length) : (ownS M d (k+1)=fun i=>if i=pix (vd M d) k then shr M (pix (vd M d) k) else ownS M d k i)∧ownS M d k (pix (vd M d) k)=0:=by
 obtain⟨h1,h2,h3⟩:=pix_vd h
 constructor
 ·funext i
  unfold ownS
  by_cases e : i=pix (vd M d) k
  ·subst e
   rw[if_pos ⟨h1,.inr ⟨h2,by omega⟩⟩,if_pos rfl]
  ·rw[if_neg e]
   have hne : i<M.S.length→oldF M i=d→(adl (vd M d) i).length≠k:=fun hi ho hh=>by
    have:=adl_at (v:=vd M d) (p:=i) (n:=8) (by omega) (vd_pos.2 ⟨hi,ho⟩)
    rw[hh,List.getElem?_eq_getElem h,(pix_at h).1] at this
    exact e (Option.some.inj this).symm
   by_cases c : i<M.S.length∧(oldF M i<d∨(oldF M i=d∧(adl (vd M d) i).length<k))
   ·rw[if_pos c,if_pos ⟨c.1,c.2.imp id (fun x=>⟨x.1,by omega⟩)⟩]
   ·rw[if_neg c,if_neg]
    rintro⟨c1,c2|⟨c2,c3⟩⟩
    ·exact c ⟨c1,.inl c2⟩
    ·have:=hne c1 c2
     exact c ⟨c1,.inr ⟨c2,by omega⟩⟩
 ·unfold ownS
  rw[if_neg]
  rintro⟨_,c|⟨_,c⟩⟩
  ·omega
  ·omega
theorem ownS_d {M : BM} (V : VM M) {d : Nat} : ownS M d (adl (vd M d) 8).length=ownS M (d+1) 0:=by
 funext i
 unfold ownS
 by_cases hi : i<M.S.length
 ·by_cases c : oldF M i<d∨oldF M i=d
  ·rw[if_pos,if_pos ⟨hi,.inl (by omega)⟩]
   refine⟨hi,c.imp id fun e=>⟨e,V.lst hi e⟩⟩
  ·rw[if_neg,if_neg]
   ·rintro⟨_,c2|⟨_,c2⟩⟩
    ·omega
    ·omega
   ·rintro⟨_,c2|⟨c2,_⟩⟩
    ·exact c (.inl c2)
    ·exact c (.inr c2)
 ·rw[if_neg (fun k=>hi k.1),if_neg (fun k=>hi k.1)]
theorem ownS_0 {M : BM} (V : VM M) : ownS M 0 0=fun _=>0:=by
 funext i
 unfold ownS
 rw[if_neg]
 rintro⟨h,c|⟨_,c⟩⟩
 ·have:=(V.old h).1
  omega
 ·omega
theorem ownS_end {M : BM} (V : VM M) {i : Nat} (h : i<M.S.length) : ownS M M.O.length 0 i=shr M i:=by
 unfold ownS
 rw[if_pos ⟨h,.inl (V.old h).2⟩]
theorem ownS_bd {M : BM} (V : VM M) {d k i : Nat} : 0≤ownS M d k i∧ownS M d k i≤10000:=by
 unfold ownS
 split
 ·rename_i c
  exact V.shr_bd c.1
 ·omega
def sF (n : Nat) (g f : Nat→Int) (k : Int) : Int:=sm ((List.range n).map fun i=>if g i=k then f i else 0)
theorem sF_1 {n : Nat} {g f : Nat→Int} {k : Int} : sF (n+1) g f k=sF n g f k+if g n=k then f n else 0:=by
 unfold sF
 rw[List.range_succ,List.map_append,sm_app]
 simp[sm]
theorem sF_0 {n : Nat} {g : Nat→Int} {k : Int} : sF n g (fun _=>0) k=0:=by
 induction n with
 | zero=>rfl
 | succ n ih=>rw[sF_1,ih];simp
theorem sF_cong {n : Nat} {g f f' : Nat→Int} {k : Int} (h : ∀ i,i<n→f i=f' i) : sF n g f k=sF n g f' k:=by
 unfold sF
 congr 1
 exact List.map_congr_left fun i hi=>by rw[h i (List.mem_range.1 hi)]
theorem sF_upd {g f : Nat→Int} {k x : Int} {p : Nat} (h0 : f p=0) : ∀ {n : Nat},p<n→sF n g (fun i=>if i=p then x else f i) k=sF n g f k+if g p=k then x else 0
 | 0,h=>absurd h (by omega)
 | n+1,h=>by
  rw[sF_1,sF_1]
  by_cases e : p=n
  ·subst e
   rw[if_pos rfl,h0,sF_cong (f':=f) (fun i hi=>if_neg (by omega))]
   split<;>omega
  ·rw[sF_upd h0 (by omega),if_neg (fun q : n=p=>e q.symm)]
   omega
theorem sF_bd {n : Nat} {g f : Nat→Int} {k c : Int} (hc : 0≤c) (h : ∀ i,i<n→0≤f i∧f i≤c) : 0≤sF n g f k∧sF n g f k≤n*c:=by
 have:=sm_bound (c:=c) (l:=(List.range n).map fun i=>if g i=k then f i else 0) (fun x hx=>by
  obtain⟨i,hi,rfl⟩:=List.mem_map.1 hx
  have:=h i (List.mem_range.1 hi)
  split<;>omega)
 rw[List.length_map,List.length_range] at this
 exact this
theorem ixl_len {v : Nat→Int} : (ixl v).length=(adl v 8).length:=by simp[ixl]
theorem ixl_at {v : Nat→Int} {k : Nat} (h : k<(ixl v).length) : (ixl v)[k]=(pix v k : Nat):=by
 have hk : k<(adl v 8).length:=by rw[← ixl_len];exact h
 simp only[ixl,List.getElem_map,(pix_at hk).1]
end Go.Xe.TBX
