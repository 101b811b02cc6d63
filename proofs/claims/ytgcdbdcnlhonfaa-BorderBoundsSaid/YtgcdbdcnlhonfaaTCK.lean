/- Mathematics of seats (part 1): quotients, and which of them are the greatest. Conditions: none. -/
import Derived.Test.YtgcdbdcnlhonfaaXq
import Derived.Test.YtgcdbdcnlhonfaaTCE
import Derived.Test.YtgcdbdcnlhonfaaZv
namespace Go.Xe.Sea
abbrev Q2:=Int×Int
def qlt (a b : Q2) : Prop:=if a.2=0∧b.2=0 then a.1<b.1 else a.1*b.2<b.1*a.2
instance (a b : Q2) : Decidable (qlt a b):=by unfold qlt;infer_instance
def qok (a : Q2) : Prop:=0≤a.1∧0≤a.2∧(a.2=0→0<a.1)
end Go.Xe.Sea
/- Mathematics of seats (part 2): seats that are given one by one to the greatest quotients. Conditions: none. -/
namespace Go.Xe.Sea
variable {v : Nat→Int} {q : Nat→Q2} {c : Nat→Int→Q2} {k p : Nat}
def tp (v : Nat→Int) (q : Nat→Q2) (k : Nat) : List Nat:=(List.range k).filter fun p=>decide (0<v p∧∀ o,o<k→0<v o→¬ qlt (q p) (q o))
def sm (s : Nat→Int) : Nat→Int
 | 0=>0
 | n+1=>sm s n+s n
def up (low : Nat→Int) (T : List Nat) : Nat→Int:=fun p=>if p∈T then low p+1 else low p
structure Low (v : Nat→Int) (c : Nat→Int→Q2) (low : Nat→Int) : Prop where
 nn : ∀ p,0≤low p
 adm : ∀ p,¬ (p<8∧0<v p)→low p=0
 weak : ∀ p o t,p<8→0<v p→o<8→0<v o→0≤t→t<low p→¬ qlt (c p t) (c o (low o))
 strict : (∀ p t,0<v p→0≤t→qlt (c p (t+1)) (c p t))→∀ p o t,p<8→0<v p→o<8→0<v o→0≤t→t<low p→qlt (c o (low o)) (c p t)
variable (hq : ∀ p t,0<v p→0≤t→qok (c p t)) (hd : ∀ p t,0<v p→0≤t→¬ qlt (c p t) (c p (t+1)))
include hq hd
end Go.Xe.Sea
/- Mathematics of seats (part 3): the parties that take part, one by one. Conditions: none. -/
namespace Go.Xe.Sea
variable {v : Nat→Int} {q : Nat→Q2}
def adl (v : Nat→Int) (k : Nat) : List Nat:=(List.range k).filter fun p=>decide (0<v p)
theorem adl_1 (k : Nat) : adl v (k+1)=if 0<v k then adl v k++[k] else adl v k:=by
 unfold adl
 rw[List.range_succ,List.filter_append]
 split
 ·rw[List.filter_cons_of_pos (by simp;omega)];rfl
 ·rw[List.filter_cons_of_neg (by simp;omega)];simp
theorem mem_adl {k p : Nat} : p∈adl v k↔p<k∧0<v p:=by
 unfold adl;rw[List.mem_filter,List.mem_range,decide_eq_true_eq]
theorem adl_pre {v : Nat→Int} : ∀ {a b : Nat},a≤b→∃ r,adl v b=adl v a++r
 | a,0,h=>⟨[],by rw[Nat.le_zero.1 h,List.append_nil]⟩
 | a,b+1,h=>by
  by_cases he : a=b+1
  ·exact⟨[],by rw[he,List.append_nil]⟩
  ·obtain⟨r,hr⟩:=adl_pre (v:=v) (a:=a) (b:=b) (by omega)
   rw[adl_1]
   split
   ·exact⟨r++[b],by rw[hr,List.append_assoc]⟩
   ·exact⟨r,hr⟩
theorem adl_len (k : Nat) : (adl v k).length≤k:=by
 have:=List.length_filter_le (fun p=>decide (0<v p)) (List.range k)
 rw[List.length_range] at this
 exact this
theorem adl_at {p n : Nat} (hp : p<n) (hv : 0<v p) : (adl v n)[(adl v p).length]?=some p:=by
 obtain⟨r,hr⟩:=adl_pre (v:=v) (show p+1≤n by omega)
 rw[hr,adl_1,if_pos hv,List.append_assoc,List.getElem?_append_right (Nat.le_refl _)]
 simp
theorem adl_split {n : Nat} {a b : List Nat} {p : Nat} (h : adl v n=a++p::b) : adl v p=a∧adl v (p+1)=a++[p]:=by
 have hm : p∈adl v n:=by rw[h];simp
 obtain⟨hp,hv⟩:=mem_adl.1 hm
 have h1:=adl_at hp hv
 obtain⟨r,hr⟩:=adl_pre (v:=v) (show p≤n by omega)
 have hnd : (adl v n).Nodup:=List.nodup_range.sublist List.filter_sublist
 have h2 : (adl v n)[a.length]?=some p:=by rw[h];simp
 have hlt : a.length<(adl v n).length:=by rw[h];simp
 have hl : (adl v p).length=a.length:=((List.getElem?_inj hlt hnd).1 (h2.trans h1.symm)).symm
 have e : adl v p=a:=by
  have e1 : (adl v n).take a.length=a:=by rw[h];simp
  have e2 : (adl v n).take a.length=adl v p:=by rw[hr,← hl];simp
  rw[← e1,e2]
 refine⟨e,?_⟩
 rw[adl_1,if_pos hv,e]
theorem tp_adl (k : Nat) : tp v q k=(adl v k).filter fun p=>decide (∀ o,o∈adl v k→¬ qlt (q p) (q o)):=by
 unfold tp
 conv=>rhs;unfold adl
 rw[List.filter_filter]
 apply List.filter_congr
 intro p _
 rw[← Bool.decide_and,decide_eq_decide]
 constructor
 ·rintro⟨h1,h2⟩
  refine⟨fun o ho=>?_,h1⟩
  obtain⟨h3,h4⟩:=mem_adl.1 ho
  exact h2 o h3 h4
 ·rintro⟨h1,h2⟩
  exact⟨h2,fun o h3 h4=>h1 o (mem_adl.2 ⟨h3,h4⟩)⟩
theorem tp_cong {a b : Nat} (h : adl v a=adl v b) : tp v q a=tp v q b:=by rw[tp_adl,tp_adl,h]
def pix (v : Nat→Int) (k : Nat) : Nat:=(adl v 8).getD k 8
theorem pix_adl {k : Nat} (h : k≤(adl v 8).length) : adl v (pix v k)=(adl v 8).take k:=by
 unfold pix
 rw[List.getD_eq_getElem?_getD]
 by_cases hk : k<(adl v 8).length
 ·rw[List.getElem?_eq_getElem hk]
  have e : adl v 8=(adl v 8).take k++(adl v 8)[k]::(adl v 8).drop (k+1):=by
   rw[← List.drop_eq_getElem_cons hk,List.take_append_drop]
  exact (adl_split e).1
 ·rw[List.getElem?_eq_none (by omega),List.take_of_length_le (by omega)]
  rfl
theorem pix_at {k : Nat} (hk : k<(adl v 8).length) : (adl v 8)[k]=pix v k∧pix v k<8∧0<v (pix v k)∧∀ {q : Nat→Q2},tp v q (pix v (k+1))=tp v q (pix v k+1):=by
 have e0 : (adl v 8)[k]=pix v k:=by unfold pix;rw[List.getD_eq_getElem?_getD,List.getElem?_eq_getElem hk];rfl
 have hm:=mem_adl.1 (List.getElem_mem hk)
 rw[e0] at hm
 refine⟨e0,hm.1,hm.2,?_⟩
 intro q
 apply tp_cong
 rw[pix_adl (by omega)]
 have e : adl v 8=(adl v 8).take k++(adl v 8)[k]::(adl v 8).drop (k+1):=by
  rw[← List.drop_eq_getElem_cons hk,List.take_append_drop]
 rw[e0] at e
 rw[(adl_split e).2,← e0,List.take_succ_eq_append_getElem hk]
end Go.Xe.Sea
/- What the functions of the layer border come to: the streets of a district. Conditions: none. -/
-- MOD TB
namespace Go.Xe.TBX
open Go Go.Xe Go.Proofs
open Nat renaming reduceLeDiff → qA, reduceSub → qB, reduceAdd → qC, reduceEqDiff → qD, reduceLT → qE
open Int renaming reduceNegSucc → qF, reduceEq → qG
open Go.Xe.V renaming seq → sA, block → sB, scope → sC, skip → sD, close → sE
open Go.Xe renaming pth → P
open Go.Xe.Rnd
open Go.Xe.Sea (adl adl_1 adl_at mem_adl pix pix_at adl_len)
set_option maxRecDepth 100000
set_option maxHeartbeats 3200000
set_option linter.unusedSimpArgs false
noncomputable def d94 : FCode:=(.seq (.run (.go (.box 96 (tm 0)) (P 3)::
.go (.box 93 (tm 1)) (P 4)::
.go (.box 3 (tm 2)) (P 5)::
.go (.move (.con .nilFunc)) (P 6)::
[])) (.seq (.run (.go (.makeFunc 113 [] [(tm 3),(tm 4),(tm 5)]) (P 7)::
.go (.move (tm 7)) (P 6)::
[])) .ret))
theorem de94 : @compF Try.prog (Gl.none Try.prog) Try.f94 3=.mk d94 (mkTT 8) [(P 0),(P 1),(P 2)] [.tmp (P 6)]:=by kernel_rfl
theorem dg94 : Try.prog.funcs[94]?=some Try.f94:=Try.func94
theorem do94 : okF Try.prog Try.f94=true:=by kernel_rfl
noncomputable def d113 : FCode:=(.seq (.run (.go (.fieldAddr 0 (tm 1)) (P 6)::
.go (.fieldAddr 2 (tm 6)) (P 7)::
.go (.load1 (tm 7)) (P 8)::
.go (.len 0 (tm 8)) (P 9)::
.go (.move (.con (.int .i64 (.ofNat 0)))) (P 10)::
[])) (.block 0 (.loop (.seq (.run (.go (.bin .lss 3 (tm 10) (tm 9)) (P 11)::
[])) (.seq (.cond (tm 11) .skip (.exit 0)) (.seq (.block 1 (.seq (.run (.go (.move (tm 10)) (P 12)::
.go (.move (tm 12)) (P 5)::
[])) (.seq (.draw 11 (.go (.move (tm 5)) (P 13)::
.go (.indexAddr (some 8) 1 (tm 2) (tm 13)) (P 14)::
.go (.load1 (tm 14)) (P 15)::
.go (.load1 (tm 3)) (P 16)::
.go (.bin .eql 3 (tm 15) (tm 16)) (P 17)::
.go (.move (tm 17)) (P 18)::
.gd (P 18) true (.move (tm 0)) (P 19)::
.gd (P 18) true (.move (tm 5)) (P 20)::
.gd (P 18) true (.call (tm 19) [tm 20]) (P 21)::
.gd (P 18) true (.un .not (tm 21)) (P 22)::
.go (.pick (tm 18) (tm 22) (.con (.bool false))) (P 23)::
[]) [.ok,.ok,.ok,.ok,.ok,.ok,.ok,.ok,.ok,.ok,.ok]) (.cond (tm 23) .ret .skip)))) (.run (.go (.bin .add 3 (tm 10) (.con (.int .i64 (.ofNat 1)))) (P 24)::
.go (.move (tm 24)) (P 10)::
[]))))))))
theorem de113 : @compF Try.prog (Gl.none Try.prog) Try.f113 4=.mk d113 (mkTT 25) [(P 0),(P 1),(P 2),(P 3)] []:=by kernel_rfl
theorem dg113 : Try.prog.funcs[113]?=some Try.f113:=Try.func113
theorem do113 : okF Try.prog Try.f113=true:=by kernel_rfl
def ind (n : Nat) (f : Nat→Int) (d : Int) : Nat→Int:=fun i=>if i<n∧f i=d then 1 else 0
theorem ind_pos {n : Nat} {f : Nat→Int} {d : Int} {i : Nat} : 0<ind n f d i↔i<n∧f i=d:=by
 unfold ind
 split
 ·rename_i h;exact⟨fun _=>h,fun _=>by omega⟩
 ·rename_i h;exact⟨fun h=>by omega,fun k=>absurd k h⟩
def yl (v : Nat→Int) : List (List Value):=(adl v 8).map fun p=>[I (p : Nat)]
theorem yl_len {v : Nat→Int} : (yl v).length=(adl v 8).length:=by simp[yl]
theorem yl_at {v : Nat→Int} {k : Nat} (h : k<(yl v).length) : (yl v)[k]=[I (pix v k : Nat)]:=by
 have hk : k<(adl v 8).length:=by rw[← yl_len];exact h
 simp only[yl,List.getElem_map,(pix_at hk).1]
theorem yl_pos {v : Nat→Int} {p : Nat} (hp : p<8) (h : 0<v p) : ∃ hk : (adl v p).length<(yl v).length,(yl v)[(adl v p).length]'hk=[I (p : Nat)]:=by
 have e:=adl_at hp h
 have hk:=(List.getElem?_eq_some_iff.1 e).1
 refine⟨by rw[yl_len];exact hk,?_⟩
 have e2 : (adl v 8)[(adl v p).length]=p:=by rw[List.getElem?_eq_getElem hk] at e;simpa using e
 simp only[yl,List.getElem_map,e2]
theorem adl_end {v : Nat→Int} {n : Nat} (h : ∀ p,n≤p→¬ 0<v p) : ∀ k,n≤k→adl v k=adl v n
 | 0,hk=>by
        have : n=0:=by omega
        subst this;rfl
 | k+1,hk=>by
  by_cases e : n=k+1
  ·rw[e]
  ·rw[adl_1,if_neg (h k (by omega))]
   exact adl_end h k (by omega)
theorem f94_ok {H : Heap} {cs : List Value} {f : Nat→Int} {d : Int} : F Try.prog 94 ⟨[.agg ⟨cs⟩,.agg ⟨n8 f⟩,I d]⟩ H (fun w X=>w=.func (.func 113) ⟨[]⟩ ⟨[PT H.next,PT (H.next+1),PT (H.next+2)]⟩∧Grow H X∧Bx X H.next cs 96∧Bx X (H.next+1) (n8 f) 93∧Bx X (H.next+2) [I d] 3):=by
 refine F.entryL rfl dg94 do94 de94 rfl (by kernel_rfl) ?_
 simp only[sets]
 refine V.re [(0,.agg ⟨cs⟩),(1,.agg ⟨n8 f⟩),(2,I d)] (N:=8) zE zY ?_
 intro t hF hA
 simp only[Kn,and_true] at hA
 refine zS ?_
 refine V.l0 ?_
 refine V.heap (fun X=>Grow H X∧Bx X H.next cs 96∧Bx X (H.next+1) (n8 f) 93∧Bx X (H.next+2) [I d] 3) ⟨?_,?_,?_,?_⟩ ?_
 ·exact zW
 ·exact zB
 ·exact zB
 ·exact zB
 rintro H1 ⟨g1,b1,c1,d1⟩
 refine zS ?_
 refine V.l0 ?_
 refine zS ?_
 refine V.ret (V.rets rfl (Lv.retF (by simp +contextual (disch:=first|omega|simp only[nx];omega) only[D1,cells_alloc_at,cells_alloc_ne,cells_set_at,cells_set_ne,yres,yres1,yresL,qA,qB,qC,D5,hF,hA,↓reduceIte,qD,qE];rfl) ?_))
 exact⟨rfl,g1,b1,c1,d1⟩
theorem f113_iter {H0 : Heap} {o s j m : Value} {N : Int} {fo fn' : Nat→Int} {f : Nat→Int} {d : Int} {n pb pf pd : Nat} (hn8 : n≤8) (hl : ∀ X,ylen 0 X s=some (I n)) (hb : Bx H0 pb (ac o s j N fo fn' m) 96) (hf : Bx H0 pf (n8 f) 93) (hd : Bx H0 pd [I d] 3) :
  Iter Try.prog 113 [] [PT pb,PT pf,PT pd] (fun i=>i=pb∨i=pf∨i=pd) H0 (yl (ind n f d)):=by
 intro y W I0 J H hH hD sI sJ hY h0
 have keep : ∀ {i : Nat} {c : List Value} {e : TypeId},(i=pb∨i=pf∨i=pd)→Bx H0 i c e→Bx H i c e∧¬ W i:=fun {i c e} hi h=>by
  obtain⟨_,hU,hp⟩:=hD i hi
  exact⟨⟨Nat.lt_of_lt_of_le h.1 hH,by have:=h.2;unfold Heap.cellsAt at this ⊢;rw[hp];exact this⟩,hU⟩
 obtain⟨bb,u1⟩:=keep (.inl rfl) hb
 obtain⟨bf,u2⟩:=keep (.inr (.inl rfl)) hf
 obtain⟨bd,u3⟩:=keep (.inr (.inr rfl)) hd
 show F Try.prog 113 ⟨[y,PT pb,PT pf,PT pd]⟩ H _
 refine F.entryL rfl dg113 do113 de113 rfl (by kernel_rfl) ?_
 simp only[sets]
 refine V.re [(0,y),(1,PT pb),(2,PT pf),(3,PT pd)] (N:=25) zE zY ?_
 intro t hF hA
 simp only[Kn,and_true] at hA
 refine zS ?_
 have zf:=And.intro bb.2<|And.intro @AC<|@hl
 refine V.lz ?_
 refine zS ?_
 refine V.loop (fun z t mm X=>∃ (p : Nat),p≤n∧z=n-p∧mm=[]∧GrowS W H X∧I0 (adl (ind n f d) p).length X∧Full 25 t∧Kn [(0,y),(1,PT pb),(2,PT pf),(3,PT pd),(9,I n),(10,I p)] t) n ?_ ?_
 ·exact⟨0,by omega,by omega,rfl,.refl _,h0,zF,zK⟩
 clear hF hA
 rintro z t mm X ⟨p,hp,rfl,rfl,hg,hI,hF,hA⟩
 simp only[Kn,and_true] at hA
 have fx:=bf.growS hg u2
 have dx:=bd.growS hg u3
 refine zS ?_
 refine V.l0 ?_
 refine zS ?_
 refine V.condP zP (fun hlt=>?_) (fun hlt=>?_)
 ·have hlt' : p<n:=by omega
  have hp8 : p<8:=by omega
  have ia:=idx_arr (len:=8) (i:=pf) (o:=0) (kd:=.i64) hp8
  have is':=n8_get (f:=f) hp8
  refine zS ?_
  refine V.l0 ?_
  refine zS ?_
  by_cases h : f p=d
  ·have hpos : 0<ind n f d p:=ind_pos.2 ⟨hlt',h⟩
   obtain⟨hk,hyl⟩:=yl_pos hp8 hpos
   have hyy:=hY _ hk
   rw[hyl] at hyy
   have hdt : decide (f p=d)=true:=decide_eq_true h
   have ht : (f p=d)=True:=eq_true h
   refine V.draw ?_
   have zf:=And.intro @ht<|And.intro fx.2<|And.intro dx.2<|And.intro @ia<|@is'
   refine VD.nz 8 ?_
   simp only[ds]
   refine VD.callVT zG zA (hyy X hI hg) zA (fun w3 X3 ⟨g3,hw3⟩=>?_)
   have m3:=g3.1
   rcases hw3 with⟨rfl,hI3⟩|⟨rfl,hJ⟩
   ·refine VD.d0 ?_ ?_ rfl ?_
    ·exact zM
    ·simp only[dcAll,dcOk,wantD,List.cons_append,List.nil_append,true_and,and_true]
    refine zS ?_
    refine V.condF zA ?_
    refine zS ?_
    refine V.l0 ?_
    refine V.nil (Or.inl ⟨rfl,n-(p+1),by omega,?_⟩)
    refine⟨p+1,hlt',rfl,rfl,hg.trans g3,?_,zF,zK⟩
    rw[adl_1,if_pos hpos,List.length_append]
    exact hI3
   ·refine VD.d0 ?_ ?_ rfl ?_
    ·exact zM
    ·simp only[dcAll,dcOk,wantD,List.cons_append,List.nil_append,true_and,and_true]
    refine zS ?_
    refine V.condT zA ?_
    refine zS ?_
    refine V.ret (V.rets rfl (Or.inr ⟨by simp,V.rets rfl (Lv.retF (by simp +contextual (disch:=first|omega|simp only[nx];omega) only[D1,cells_alloc_at,cells_alloc_ne,cells_set_at,cells_set_ne,yres,yres1,yresL,qA,qB,qC,D5,hF,hA,↓reduceIte,qD,qE];rfl) ?_)⟩))
    exact⟨hg.trans g3,.inr hJ⟩
  ·have hpos : ¬ 0<ind n f d p:=fun k=>h (ind_pos.1 k).2
   have ht : (f p=d)=False:=eq_false h
   refine V.draw ?_
   have zf:=And.intro @ht<|And.intro fx.2<|And.intro dx.2<|And.intro @ia<|@is'
   refine VD.nz 8 ?_
   simp only[ds]
   refine VD.gdF zG ?_
   refine VD.d0 ?_ ?_ rfl ?_
   ·exact zM
   ·simp only[dcAll,dcOk,wantD,List.cons_append,List.nil_append,true_and,and_true]
   refine zS ?_
   refine V.condF zA ?_
   refine zS ?_
   refine V.l0 ?_
   refine V.nil (Or.inl ⟨rfl,n-(p+1),by omega,?_⟩)
   refine⟨p+1,hlt',rfl,rfl,hg,?_,zF,zK⟩
   rw[adl_1,if_neg hpos]
   exact hI
 ·obtain rfl : p=n:=by omega
  refine V.exit ?_
  refine zX ?_
  refine V.nil (Or.inr ⟨by simp,?_⟩)
  refine zX ?_
  refine zS ?_
  refine V.nil (Lv.normal (by simp only[yres,yresL,Option.map_some];rfl) ?_)
  rw[yl_len,adl_end (v:=ind p f d) (n:=p) (fun q hq=>fun k=>by have:=(ind_pos.1 k).1;omega) 8 hn8]
  exact⟨hg,.inl hI⟩
def ix (v : Nat→Int) (k : Nat) : List Int:=((adl v 8).take k).map fun p : Nat=>(p : Int)
end Go.Xe.TBX
/- What the functions of the layer border come to: shares of the streets. Conditions: none. -/
-- MOD TB
namespace Go.Xe.TBX
open Go Go.Xe Go.Proofs
open Nat renaming reduceLeDiff → qA, reduceSub → qB, reduceAdd → qC, reduceEqDiff → qD, reduceLT → qE
open Int renaming reduceNegSucc → qF, reduceEq → qG
open Go.Xe.V renaming seq → sA, block → sB, scope → sC, skip → sD, close → sE
open Go.Xe renaming pth → P
open Go.Xe.Rnd
open Go.Xe.Sea (adl adl_1 adl_at mem_adl pix pix_at pix_adl adl_len)
set_option maxRecDepth 100000
set_option maxHeartbeats 3200000
set_option linter.unusedSimpArgs false
theorem mk_row (H : Heap) (g : Nat) (hg : g≤1048576) : ymakeSlice 3 8 [I 0] H (I g) (I g)=some (.slice (some ⟨H.next,0,none⟩) g g,H.alloc (.cells ⟨Li (fl g fun _=>0)⟩ 3 true)):=by
 have e48 : (2 : Nat) ^ 48=281474976710656:=by decide
 have ez : zeros ⟨[I 0]⟩ ((g : Int).toNat*[I 0].length)=⟨Li (fl g fun _=>0)⟩:=by
  apply Array.toList_inj.1
  simp only[zeros,Array.toList_map,Array.toList_range,Li,fl,List.map_map,List.length_cons,List.length_nil]
  apply List.ext_getElem
  ·simp
  ·intro j h1 h2
   simp[Nat.mod_one]
 simp only[ymakeSlice]
 rw[if_pos ⟨by omega,by omega,by omega,by omega⟩,ez]
 simp[Li_len,fl_len]
theorem fl_set {n p : Nat} {g : Nat→Int} {b : Int} : (Li (fl n g)).set p (I b)=Li (fl n fun q=>if q=p then b else g q):=by
 rw[Li_set]
 congr 1
 apply List.ext_getElem
 ·rw[List.length_set,fl_len,fl_len]
 ·intro i h1 h2
  rw[List.getElem_set,fl_at]
  split
  ·rename_i e;rw[fl_at,if_pos e.symm]
  ·rename_i e;rw[fl_at,if_neg (fun k=>e k.symm)]
theorem fl_get {n p : Nat} {g : Nat→Int} (h : p<n) : (Li (fl n g))[p]?=some (I (g p)):=by
 rw[Li_at (by rw[fl_len];exact h),fl_at]
theorem fl_cong {n : Nat} {f g : Nat→Int} (h : ∀ i,i<n→f i=g i) : fl n f=fl n g:=List.map_congr_left fun i hi=>h i (List.mem_range.1 hi)
theorem Li_fl_len (n : Nat) (f : Nat→Int) : (Li (fl n f)).length=n:=by rw[Li_len,fl_len]
def wF (M : BM) : Nat→Int:=fun i=>match M.S[i]? with
 | some s=>s.w
 | none=>0
theorem wF_at {M : BM} {i : Nat} (h : i<M.S.length) : wF M i=M.S[i].w:=by unfold wF;rw[List.getElem?_eq_getElem h]
def vd (M : BM) (d : Nat) : Nat→Int:=ind M.S.length (oldF M) (d : Int)
theorem vd_pos {M : BM} {d i : Nat} : 0<vd M d i↔i<M.S.length∧oldF M i=d:=ind_pos
def wsa (M : BM) (d : Nat) : List Int:=(adl (vd M d) 8).map (wF M)
theorem adl_8 {M : BM} {d : Nat} (h8 : M.S.length≤8) : adl (vd M d) 8=adl (vd M d) M.S.length:=
 adl_end (fun p hp hh=>by have:=(vd_pos.1 hh).1;omega) 8 h8
theorem wsa_sm {M : BM} {d : Nat} (h8 : M.S.length≤8) : sm (wsa M d)=so (·.w) (d : Int) M.S:=by
 have : ∀ k,k≤M.S.length→sm ((adl (vd M d) k).map (wF M))=so (·.w) (d : Int) (M.S.take k):=by
  intro k
  induction k with
  | zero=>intro _;rfl
  | succ k ih=>
   intro hk
   have hk' : k<M.S.length:=by omega
   have e:=ih (by omega)
   rw[so_take hk',adl_1]
   by_cases h : M.S[k].old=d
   ·rw[if_pos (vd_pos.2 ⟨hk',by rw[oldF_at hk'];exact h⟩),if_pos h,List.map_append,sm_app,e]
    simp[sm,wF_at hk']
   ·rw[if_neg (fun hh=>h (by rw[← oldF_at hk'];exact (vd_pos.1 hh).2)),if_neg h,e];omega
 unfold wsa
 rw[adl_8 h8,this _ (Nat.le_refl _),List.take_length]
def dsh (M : BM) (d : Nat) : List Int:=dv (wsa M d) (M.O.getD d 0)
def shr (M : BM) (i : Nat) : Int:=(dsh M (oldF M i).toNat).getD (adl (vd M (oldF M i).toNat) i).length 0
structure VM (M : BM) : Prop where
 o4 : M.O.length≤4
 s8 : M.S.length≤8
 j20 : M.J.length≤20
 o : ∀ v∈M.O,0≤v∧v≤10000
 n : 1≤M.N∧M.N≤4
 s0 : 0<M.S.length
 s : ∀ s∈M.S,sok M s
 j : ∀ r∈M.J,jok M r
 w : ∀ d,d<M.O.length→0<so (·.w) (d : Int) M.S
theorem VM.of {M : BM} (hf : fits M) (hv : vld M) : VM M:=by
 obtain⟨a,b,c⟩:=hf
 obtain⟨v1,v2,v3,v4,v5,v6,v7⟩:=hv
 refine⟨by omega,by omega,by omega,v2,v3,by omega,v5,v6,fun d hd=>?_⟩
 exact v7 _ (List.mem_map.2 ⟨d,List.mem_range.2 hd,rfl⟩)
section
variable {M : BM} (V : VM M)
include V
theorem VM.old {i : Nat} (h : i<M.S.length) : 0≤oldF M i∧oldF M i<M.O.length:=by
 have:=(V.s _ (List.getElem_mem h)).1
 rw[oldF_at h]
 omega
theorem VM.new {i : Nat} (h : i<M.S.length) : 0≤newF M i∧newF M i<M.N:=by
 have:=(V.s _ (List.getElem_mem h)).2.1
 rw[newF_at h]
 omega
theorem VM.ot {d : Nat} (hd : d<M.O.length) : M.O.getD d 0=M.O[d]∧0≤M.O[d]∧M.O[d]≤10000:=by
 have:=V.o _ (List.getElem_mem hd)
 refine⟨by simp[hd],this⟩
theorem VM.sp {d : Nat} (hd : d<M.O.length) : 0<sm (wsa M d):=by
 rw[wsa_sm V.s8]
 exact V.w d hd
end
theorem pix_vd {M : BM} {d k : Nat} (h : k<(adl (vd M d) 8).length) : pix (vd M d) k<M.S.length∧oldF M (pix (vd M d) k)=d∧(adl (vd M d) (pix (vd M d) k)).length=k:=by
 have h1:=pix_at h
 have h2:=vd_pos.1 h1.2.2.1
 refine⟨h2.1,h2.2,?_⟩
 rw[pix_adl (Nat.le_of_lt h),List.length_take]
 omega
end Go.Xe.TBX
/- What the functions of the layer border come to: numbers are carried. Conditions: none. -/
-- MOD TB
namespace Go.Xe.TBX
open Go Go.Xe Go.Proofs
open Nat renaming reduceLeDiff → qA, reduceSub → qB, reduceAdd → qC, reduceEqDiff → qD, reduceLT → qE
open Int renaming reduceNegSucc → qF, reduceEq → qG
open Go.Xe.V renaming seq → sA, block → sB, scope → sC, skip → sD, close → sE
open Go.Xe renaming pth → P
open Go.Xe.Rnd
open Go.Xe.Sea (adl adl_1 adl_at mem_adl pix pix_at pix_adl adl_len)
set_option maxRecDepth 100000
set_option maxHeartbeats 3200000
set_option linter.unusedSimpArgs false
end Go.Xe.TBX
/- What the functions of the layer border come to: numbers are carried, as the reference has it. Conditions: none. -/
-- MOD TB
namespace Go.Xe.TBX
open Go Go.Xe Go.Proofs
open Nat renaming reduceLeDiff → qA, reduceSub → qB, reduceAdd → qC, reduceEqDiff → qD, reduceLT → qE
open Int renaming reduceNegSucc → qF, reduceEq → qG
open Go.Xe.V renaming seq → sA, block → sB, scope → sC, skip → sD, close → sE
open Go.Xe renaming pth → P
open Go.Xe.Rnd
open Go.Xe.Sea (adl adl_1 adl_at mem_adl pix pix_at pix_adl adl_len)
set_option maxRecDepth 100000
set_option maxHeartbeats 3200000
set_option linter.unusedSimpArgs false
noncomputable def d25 : FCode:=(.seq (.run (.go (.box 26 (tm 0)) (P 1)::
.go (.move (.con (.slice none 0 0))) (P 2)::
[])) (.seq (.run (.go (.move (.con (.slice none 0 0))) (P 3)::
[])) (.seq (.seq (.run (.go (.move (.con (.int .i64 (.ofNat 0)))) (P 4)::
[])) (.block 0 (.loop (.seq (.seq (.run (.go (.move (tm 4)) (P 5)::
.go (.fieldAddr 2 (tm 1)) (P 6)::
.go (.load1 (tm 6)) (P 7)::
.go (.len 0 (tm 7)) (P 8)::
.go (.bin .lss 3 (tm 5) (tm 8)) (P 9)::
[])) (.cond (tm 9) .skip (.exit 0))) (.seq (.block 1 (.run (.go (.move (tm 3)) (P 12)::
.go (.fieldAddr 2 (tm 1)) (P 13)::
.go (.load1 (tm 13)) (P 14)::
.go (.move (tm 4)) (P 15)::
.go (.indexAddr none 5 (tm 14) (tm 15)) (P 16)::
.go (.fieldAddr 1 (tm 16)) (P 17)::
.go (.load1 (tm 17)) (P 18)::
.go (.buildSlice 3 1 [(.int .i64 (.ofNat 0))] [(0,1,(tm 18))]) (P 19)::
.go (.append 3 1 8 (tm 12) (tm 19)) (P 20)::
.go (.move (tm 20)) (P 3)::
[]))) (.run (.go (.move (tm 4)) (P 10)::
.go (.bin .add 3 (tm 10) (.con (.int .i64 (.ofNat 1)))) (P 11)::
.go (.move (tm 11)) (P 4)::
[]))))))) (.seq (.run (.go (.move (tm 3)) (P 21)::
.go (.move (tm 21)) (P 2)::
[])) .ret))))
theorem de25 : @compF Try.prog (Gl.none Try.prog) Try.f25 1=.mk d25 (mkTT 22) [(P 0)] [.tmp (P 2)]:=by kernel_rfl
theorem dg25 : Try.prog.funcs[25]?=some Try.f25:=Try.func25
theorem do25 : okF Try.prog Try.f25=true:=by kernel_rfl
theorem fl_1 (n : Nat) (f : Nat→Int) : fl (n+1) f=fl n f++[f n]:=by unfold fl;rw[List.range_succ,List.map_append];rfl
theorem f25_ok {H : Heap} {o s j : Value} {M : BM} (h : MV H o s j M) (hS : M.S.length≤20) : F Try.prog 25 ⟨[.agg ⟨mc o s j M.N⟩]⟩ H (fun w X=>Grow H X∧LS X w (fl M.S.length (newF M))):=by
 have hl:=h.s.len
 obtain⟨po,no,co,rfl⟩:=h.o.s.isS
 obtain⟨ps,ns,cs,rfl⟩:=h.s.isS
 obtain⟨pj,nj,cj,rfl⟩:=h.j.isS
 refine F.entryL rfl dg25 do25 de25 rfl (by kernel_rfl) ?_
 simp only[sets]
 refine V.re [(0,.agg ⟨mc (.slice po no co) (.slice ps ns cs) (.slice pj nj cj) M.N⟩)] (N:=22) zE zY ?_
 intro t hF hA
 simp only[Kn,and_true] at hA
 refine zS ?_
 refine V.l0 ?_
 refine V.heap (fun X=>Grow H X∧Bx X H.next (mc (.slice po no co) (.slice ps ns cs) (.slice pj nj cj) M.N) 26) ⟨?_,?_⟩ ?_
 ·exact zW
 ·exact zB
 rintro H1 ⟨g1,b1⟩
 refine zS ?_
 refine V.l0 ?_
 refine zS ?_
 refine V.l0 ?_
 refine zS ?_
 refine V.loop (fun z t mm X=>∃ (k : Nat) (w : Value),k≤M.S.length∧z=M.S.length-k∧mm=[]∧Grow H1 X∧isS w∧Ow H1 X 3 w (Li (fl k (newF M)))∧Full 22 t∧Kn [(1,PT H.next),(3,w),(4,I k)] t) M.S.length ?_ ?_
 ·exact⟨0,.slice none 0 0,by omega,by omega,rfl,.refl _,⟨_,_,_,rfl⟩,.nil,zF,zK⟩
 clear hF hA
 rintro z t mm X ⟨k,w,hk,rfl,rfl,gX,hw,ow,hF,hA⟩
 obtain⟨pw,nw',cw,rfl⟩:=hw
 simp only[Kn,and_true] at hA
 have bX:=b1.grow gX
 refine zS ?_
 have zf:=And.intro bX.2<|@hl
 refine V.lz ?_
 refine zS ?_
 refine V.condP zP (fun hlt=>?_) (fun hlt=>?_)
 ·have hlt' : k<M.S.length:=by omega
  obtain⟨si,so',h1,h2⟩:=h.s.at hlt'
  have h3:=(h2 X (g1.trans gX)).2.2.1
  rw[← newF_at hlt'] at h3
  obtain⟨u,Z,a1,a2,a3,a4,a5,_,a7,_⟩:=ow.push (bytes:=8) (r:=[I (newF M k)]) gX rfl (by simp) (by rw[Li_fl_len];simp;omega) (by rw[Li_fl_len];simp;omega)
  replace a1 : yappend 3 1 8 (X.alloc (.cells ⟨[I (newF M k)]⟩ 3 true)) (.slice pw nw' cw) (.slice (some ⟨X.next,0,none⟩) 1 1)=some (u,Z):=a1
  obtain⟨pu,nu,cu,rfl⟩:=a2.slice
  refine zS ?_
  have zf:=And.intro bX.2<|And.intro @h1<|And.intro @h3<|@a1
  refine V.lz ?_
  refine zS ?_
  refine V.l0 ?_
  refine V.nil (Or.inl ⟨rfl,M.S.length-(k+1),by omega,?_⟩)
  refine⟨k+1,_,hlt',rfl,rfl,a3,⟨_,_,_,rfl⟩,?_,zF,zK⟩
  have e : Li (fl (k+1) (newF M))=Li (fl k (newF M))++[I (newF M k)]:=by rw[fl_1];simp[Li]
  rw[e]
  exact a2
 ·obtain rfl : k=M.S.length:=by omega
  refine V.exit ?_
  refine zX ?_
  refine V.nil (Or.inr ⟨by simp,?_⟩)
  refine zX ?_
  refine zS ?_
  refine V.l0 ?_
  refine zS ?_
  refine V.ret (V.rets rfl (Lv.retF (by simp +contextual (disch:=first|omega|simp only[nx];omega) only[D1,cells_alloc_at,cells_alloc_ne,cells_set_at,cells_set_ne,yres,yres1,yresL,qA,qB,qC,D5,hF,hA,↓reduceIte,qD,qE];rfl) ?_))
  exact⟨g1.trans gX,ow_ls ow⟩
end Go.Xe.TBX
/- BorderCarries: a map's numbers are carried as the reference carries them. Conditions: none. -/
-- MOD TB
namespace Go.Xe.TBX
open Go Go.Xe Go.Proofs
open Nat renaming reduceLeDiff → qA, reduceSub → qB, reduceAdd → qC, reduceEqDiff → qD, reduceLT → qE
open Int renaming reduceNegSucc → qF, reduceEq → qG
open Go.Xe.V renaming seq → sA, block → sB, scope → sC, skip → sD, close → sE
open Go.Xe renaming pth → P
open Go.Xe.Rnd
set_option maxRecDepth 100000
set_option maxHeartbeats 3200000
set_option linter.unusedSimpArgs false
noncomputable def d3 : FCode:=(.seq (.run (.go (.box 26 (tm 0)) (P 1)::
.go (.move (.con (.bool false))) (P 2)::
[])) (.seq (.seq (.run (.go (.loadN 4 (tm 1)) (P 9)::
.go (.call (.con (.func (.func 16) ⟨[]⟩ ⟨[]⟩)) [tm 9]) (P 10)::
.go (.un .not (tm 10)) (P 11)::
[])) (.cond (tm 11) (.seq (.run (.go (.call (.con (.func (.func 17) ⟨[]⟩ ⟨[]⟩)) []) (P 12)::
.go (.move (tm 12)) (P 2)::
[])) .ret) .skip)) (.seq (.run (.go (.loadN 4 (tm 1)) (P 13)::
.go (.call (.con (.func (.func 19) ⟨[]⟩ ⟨[]⟩)) [tm 13]) (P 14)::
.go (.call (.con (.func (.func 18) ⟨[]⟩ ⟨[]⟩)) [tm 14]) (P 15)::
.go (.move (tm 15)) (P 3)::
[])) (.seq (.run (.go (.loadN 4 (tm 1)) (P 17)::
.go (.call (.con (.func (.func 19) ⟨[]⟩ ⟨[]⟩)) [tm 17]) (P 18)::
.go (.call (.con (.func (.func 20) ⟨[]⟩ ⟨[]⟩)) [tm 18]) (P 19)::
.go (.move (tm 19)) (P 16)::
.go (.extract (tm 16) 0) (P 20)::
.go (.extract (tm 16) 1) (P 21)::
.go (.extract (tm 16) 2) (P 22)::
.go (.move (tm 20)) (P 4)::
.go (.move (tm 21)) (P 5)::
.go (.move (tm 22)) (P 6)::
[])) (.seq (.run (.go (.loadN 4 (tm 1)) (P 23)::
.go (.call (.con (.func (.func 21) ⟨[]⟩ ⟨[]⟩)) [tm 23]) (P 24)::
.go (.move (tm 24)) (P 7)::
[])) (.seq (.seq (.run (.go (.move (tm 3)) (P 25)::
.go (.move (tm 7)) (P 26)::
.go (.bin .neq 29 (tm 25) (tm 26)) (P 27)::
[])) (.cond (tm 27) (.seq (.run (.go (.move (.con (.bool false))) (P 2)::
[])) .ret) .skip)) (.seq (.seq (.run (.go (.move (tm 7)) (P 28)::
.go (.bin .neq 29 (tm 28) (.con (.int .i64 (.ofNat 0)))) (P 29)::
[])) (.cond (tm 29) (.seq (.run (.go (.move (tm 6)) (P 30)::
.go (.move (tm 7)) (P 31)::
.go (.bin .eql 29 (tm 30) (tm 31)) (P 32)::
.go (.move (tm 32)) (P 33)::
.gd (P 33) true (.move (tm 4)) (P 34)::
.gd (P 33) true (.len 0 (tm 34)) (P 35)::
.gd (P 33) true (.move (tm 5)) (P 36)::
.gd (P 33) true (.len 0 (tm 36)) (P 37)::
.gd (P 33) true (.bin .add 3 (tm 35) (tm 37)) (P 38)::
.gd (P 33) true (.bin .eql 3 (tm 38) (.con (.int .i64 (.ofNat 0)))) (P 39)::
.go (.pick (tm 33) (tm 39) (.con (.bool false))) (P 40)::
.go (.move (tm 40)) (P 41)::
.gd (P 41) true (.call (.con (.func (.func 17) ⟨[]⟩ ⟨[]⟩)) []) (P 42)::
.go (.pick (tm 41) (tm 42) (.con (.bool false))) (P 43)::
.go (.move (tm 43)) (P 2)::
[])) .ret) .skip)) (.seq (.run (.go (.loadN 4 (tm 1)) (P 44)::
.go (.call (.con (.func (.func 22) ⟨[]⟩ ⟨[]⟩)) [tm 44]) (P 45)::
.go (.move (tm 45)) (P 8)::
[])) (.seq (.draw 20 (.go (.move (tm 6)) (P 46)::
.go (.bin .eql 29 (tm 46) (.con (.int .i64 (.ofNat 0)))) (P 47)::
.go (.move (tm 47)) (P 48)::
.gd (P 48) true (.move (tm 4)) (P 49)::
.gd (P 48) true (.move (tm 8)) (P 50)::
.gd (P 48) true (.call (.con (.func (.func 23) ⟨[]⟩ ⟨[]⟩)) [(tm 49),(tm 50)]) (P 51)::
.go (.pick (tm 48) (tm 51) (.con (.bool false))) (P 52)::
.go (.move (tm 52)) (P 53)::
.gd (P 53) true (.move (tm 5)) (P 54)::
.gd (P 53) true (.loadN 4 (tm 1)) (P 55)::
.gd (P 53) true (.loadN 4 (tm 1)) (P 56)::
.gd (P 53) true (.call (.con (.func (.func 25) ⟨[]⟩ ⟨[]⟩)) [tm 56]) (P 57)::
.gd (P 53) true (.move (tm 8)) (P 58)::
.gd (P 53) true (.call (.con (.func (.func 24) ⟨[]⟩ ⟨[]⟩)) [(tm 55),(tm 57),(tm 58)]) (P 59)::
.gd (P 53) true (.call (.con (.func (.func 23) ⟨[]⟩ ⟨[]⟩)) [(tm 54),(tm 59)]) (P 60)::
.go (.pick (tm 53) (tm 60) (.con (.bool false))) (P 61)::
.go (.move (tm 61)) (P 62)::
.gd (P 62) true (.call (.con (.func (.func 17) ⟨[]⟩ ⟨[]⟩)) []) (P 63)::
.go (.pick (tm 62) (tm 63) (.con (.bool false))) (P 64)::
.go (.move (tm 64)) (P 2)::
[]) [.ok,.ok,.ok,.ok,.ok,.ok,.ok,.ok,.ok,.rd (some ((P 53),true)) (.loadN 4 (tm 1)) (some (P 55)) [12],.ok,.ok,.ok,.ok,.ok,.ok,.ok,.ok,.ok,.ok]) .ret)))))))))
end Go.Xe.TBX
/- Rules of reasoning over the executable reading of the model's code (part Z23): a slice of any shape that came in. Conditions: none; for every program. -/
namespace Go.Xe
open Go Go.RowKit Go.ChangeShapes Go.WideShapes
end Go.Xe
/- Maps that come in: what lies where. Conditions: none. -/
namespace Go.Xe.TBX
open Go Go.Xe Go.Proofs
abbrev shJn : Sh:=.pair (.int .i64) (.pair (.int .i64) .unit)
abbrev shSt : Sh:=.pair (.int .i64) (.pair (.int .i64) (.pair (.int .i64) (.pair shJn .unit)))
abbrev shMp : Sh:=.pair (.slice 1 (.int .i64)) (.pair (.int .i64) (.pair (.slice 5 shSt) (.pair (.slice 2 shJn) .unit)))
theorem rs_of {A : Heap} {cs : List Value} {y : Ty (.slice 2 shJn)} (h : Sem A (.slice 2 shJn) cs y) : ∃ v R,cs=[v]∧RS A v R:=by
 obtain⟨v,rows,rfl,h1,h2,_,h3⟩:=h
 refine⟨v,(y : List (Ty shJn)).map fun x=>(x.1,x.2.1),rfl,⟨?_⟩⟩
 have e : rows=((y : List (Ty shJn)).map fun x=>(x.1,x.2.1)).map q2:=by
  apply List.ext_getElem
  ·simp[h2]
  ·intro k k1 k2
   have hk : k<(y : List (Ty shJn)).length:=by omega
   obtain⟨c1,c2,e1,⟨rfl,_⟩,d1,d2,e2,⟨rfl,_⟩,e5⟩:=h3 k rows[k] ((y : List (Ty shJn))[k]) (by simp) (by simp[hk])
   rw[e1,e2,e5]
   simp[q2]
 have:=h1.sw
 rw[e] at this
 exact this
theorem ss_of {A : Heap} {cs : List Value} {y : Ty (.slice 5 shSt)} (h : Sem A (.slice 5 shSt) cs y) : ∃ v S,cs=[v]∧SS A v S:=by
 obtain⟨v,rows,rfl,h1,h2,_,h3⟩:=h
 refine⟨v,(y : List (Ty shSt)).map fun x=>⟨x.1,x.2.1,x.2.2.1,x.2.2.2.1.1,x.2.2.2.1.2.1⟩,rfl,⟨?_⟩⟩
 have e : rows=((y : List (Ty shSt)).map fun x=>(⟨x.1,x.2.1,x.2.2.1,x.2.2.2.1.1,x.2.2.2.1.2.1⟩ : St)).map s5:=by
  apply List.ext_getElem
  ·simp[h2]
  ·intro k k1 k2
   have hk : k<(y : List (Ty shSt)).length:=by omega
   obtain⟨c1,c2,e1,⟨rfl,_⟩,d1,d2,e2,⟨rfl,_⟩,w1,w2,e3,⟨rfl,_⟩,p1,p2,e4,⟨q1,q2,e5,⟨rfl,_⟩,r1,r2,e6,⟨rfl,_⟩,e7⟩,e8⟩:=h3 k rows[k] ((y : List (Ty shSt))[k]) (by simp) (by simp[hk])
   have e7' : r2=[]:=e7
   have e8' : p2=[]:=e8
   rw[e1,e2,e3,e4,e5,e6,e7',e8']
   simp[s5]
 have:=h1.sw
 rw[e] at this
 exact this
theorem ls_of {A : Heap} {cs : List Value} {y : Ty (.slice 1 (.int .i64))} (h : Sem A (.slice 1 (.int .i64)) cs y) : ∃ v l,cs=[v]∧LS A v l:=by
 obtain⟨v,rows,rfl,h1,h2,_,h3⟩:=h
 refine⟨v,y,rfl,?_⟩
 have e : rows=((y : List Int).map I).map fun x=>[x]:=by
  apply List.ext_getElem
  ·simp[h2]
  ·intro k k1 k2
   have hk : k<(y : List Int).length:=by omega
   obtain⟨e1,_⟩:=h3 k rows[k] ((y : List Int)[k]) (by simp) (by simp[hk])
   rw[e1]
   simp
 rw[e] at h1
 exact⟨h1.one⟩
theorem mv_of {A : Heap} {l : List Value} {y : Ty shMp} (h : Sem A shMp l y) : ∃ o s j M,l=mc o s j M.N∧MV A o s j M:=by
 obtain⟨c1,c2,rfl,h1,d1,d2,rfl,⟨rfl,_⟩,e1,e2,rfl,h3,f1,f2,rfl,h4,h5⟩:=h
 obtain⟨o,O,rfl,ho⟩:=ls_of h1
 obtain⟨s,S,rfl,hs⟩:=ss_of h3
 obtain⟨j,J,rfl,hj⟩:=rs_of h4
 have h5' : f2=[]:=h5
 subst h5'
 exact⟨o,s,j,⟨O,_,S,J⟩,rfl,ho,hs,hj⟩
end Go.Xe.TBX
