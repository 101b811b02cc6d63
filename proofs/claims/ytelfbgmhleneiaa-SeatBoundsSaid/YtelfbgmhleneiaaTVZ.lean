/- What the functions of the layer seat come to: checks of arguments, and quotients. Conditions: none. -/
import Derived.Test.YtelfbgmhleneiaaTVX
-- MOD TV
namespace Go.Xe.TVX
open Go Go.Xe Go.Proofs
open Nat renaming reduceLeDiff → qA, reduceSub → qB, reduceAdd → qC, reduceEqDiff → qD, reduceLT → qE
open Int renaming reduceNegSucc → qF, reduceEq → qG
open Go.Xe.V renaming seq → sA, block → sB, scope → sC, skip → sD, close → sE
open Go.Xe renaming pth → P
open Go.Xe.Sea
set_option maxRecDepth 100000
set_option maxHeartbeats 3200000
set_option linter.unusedSimpArgs false
noncomputable def d87 : FCode:=(.seq (.run (.go (.box 115 (tm 0)) (P 2)::
.go (.box 115 (tm 1)) (P 3)::
.go (.move (.con (.bool false))) (P 4)::
[])) (.seq (.seq (.run (.go (.fieldAddr 1 (tm 2)) (P 5)::
.go (.load1 (tm 5)) (P 6)::
.go (.bin .eql 3 (tm 6) (.con (.int .i64 (.ofNat 0)))) (P 7)::
.go (.move (tm 7)) (P 8)::
.gd (P 8) true (.fieldAddr 1 (tm 3)) (P 9)::
.gd (P 8) true (.load1 (tm 9)) (P 10)::
.gd (P 8) true (.bin .eql 3 (tm 10) (.con (.int .i64 (.ofNat 0)))) (P 11)::
.go (.pick (tm 8) (tm 11) (.con (.bool false))) (P 12)::
[])) (.cond (tm 12) (.seq (.run (.go (.fieldAddr 0 (tm 2)) (P 13)::
.go (.load1 (tm 13)) (P 14)::
.go (.fieldAddr 0 (tm 3)) (P 15)::
.go (.load1 (tm 15)) (P 16)::
.go (.bin .lss 3 (tm 14) (tm 16)) (P 17)::
.go (.move (tm 17)) (P 4)::
[])) .ret) .skip)) (.seq (.run (.go (.fieldAddr 0 (tm 2)) (P 18)::
.go (.load1 (tm 18)) (P 19)::
.go (.fieldAddr 1 (tm 3)) (P 20)::
.go (.load1 (tm 20)) (P 21)::
.go (.bin .mul 3 (tm 19) (tm 21)) (P 22)::
.go (.fieldAddr 0 (tm 3)) (P 23)::
.go (.load1 (tm 23)) (P 24)::
.go (.fieldAddr 1 (tm 2)) (P 25)::
.go (.load1 (tm 25)) (P 26)::
.go (.bin .mul 3 (tm 24) (tm 26)) (P 27)::
.go (.bin .lss 3 (tm 22) (tm 27)) (P 28)::
.go (.move (tm 28)) (P 4)::
[])) .ret)))
theorem de87 : @compF Try.prog (Gl.none Try.prog) Try.f87 2=.mk d87 (mkTT 29) [(P 0),(P 1)] [.tmp (P 4)]:=by kernel_rfl
theorem dg87 : Try.prog.funcs[87]?=some Try.f87:=Try.func87
theorem do87 : okF Try.prog Try.f87=true:=by kernel_rfl
def flt (m S L : Int) (l : List Int) : Int:=if rvalid m S L then (if l.length≤8 then (if ∀ v∈l,0≤v∧v≤10000 then 0 else 2) else 3) else 1
abbrev Qv (q : Q2) : Value:=.agg ⟨A2 q.1 q.2⟩
def qb (q : Q2) : Prop:=(0≤q.1∧q.1≤100000000)∧0≤q.2∧q.2≤100000000
theorem mul_bd {a b : Int} (ha : 0≤a∧a≤100000000) (hb : 0≤b∧b≤100000000) : 0≤a*b∧a*b≤10000000000000000:=⟨Int.mul_nonneg ha.1 hb.1,Int.le_trans (Int.mul_le_mul ha.2 hb.2 hb.1 (by omega)) (by omega)⟩
theorem f87_ok {H : Heap} {a b : Q2} (ha : qb a) (hb : qb b) : Gives Try.prog 87 [Qv a,Qv b] H (.bool (decide (qlt a b))):=by
 have e1:=mul_bd ha.1 hb.2
 have e2:=mul_bd hb.1 ha.2
 refine F.entryL rfl dg87 do87 de87 rfl (by kernel_rfl) ?_
 simp only[sets]
 refine V.re [(0,Qv a),(1,Qv b)] (N:=29) zE zY ?_
 intro t hF hA
 simp only[Kn,and_true] at hA
 refine zS ?_
 refine V.l0 ?_
 refine V.heap (fun X=>Grow H X∧Bx X H.next (A2 a.1 a.2) 115∧Bx X (H.next+1) (A2 b.1 b.2) 115) ⟨?_,?_,?_⟩ ?_
 ·exact zW
 ·exact zB
 ·exact zB
 rintro H1 ⟨g1,b1,c1⟩
 refine zS ?_
 have zf:=And.intro b1.2<|c1.2
 refine V.lz ?_
 refine zS ?_
 refine V.condP zP (fun hz=>?_) (fun hz=>?_)
 ·refine zS ?_
  have zf:=And.intro b1.2<|c1.2
  refine V.lz ?_
  refine zS ?_
  refine V.ret (V.rets rfl (Lv.retG (by simp +contextual (disch:=first|omega|simp only[nx];omega) only[D1,cells_alloc_at,cells_alloc_ne,cells_set_at,cells_set_ne,yres,yres1,yresL,qA,qB,qC,D5,hF,hA,↓reduceIte,qD,qE];rfl) ?_ ?_))
  ·exact g1
  ·congr 1
   rw[decide_eq_decide,qlt,if_pos hz]
 ·refine zS ?_
  have zf:=And.intro b1.2<|c1.2
  refine V.lz ?_
  refine zS ?_
  refine V.ret (V.rets rfl (Lv.retG (by simp +contextual (disch:=first|omega|simp only[nx];omega) only[D1,cells_alloc_at,cells_alloc_ne,cells_set_at,cells_set_ne,yres,yres1,yresL,qA,qB,qC,D5,hF,hA,↓reduceIte,qD,qE];rfl) ?_ ?_))
  ·exact g1
  ·congr 1
   rw[decide_eq_decide,qlt,if_neg hz]
end Go.Xe.TVX
/- What the functions of the layer seat come to: lowest terms, sums, and the numbers of all parties. Conditions: none. -/
-- MOD TV
namespace Go.Xe.TVX
open Go Go.Xe Go.Proofs
open Nat renaming reduceLeDiff → qA, reduceSub → qB, reduceAdd → qC, reduceEqDiff → qD, reduceLT → qE
open Int renaming reduceNegSucc → qF, reduceEq → qG
open Go.Xe.V renaming seq → sA, block → sB, scope → sC, skip → sD, close → sE
open Go.Xe renaming pth → P
open Go.Xe.Sea
set_option maxRecDepth 100000
set_option maxHeartbeats 3200000
set_option linter.unusedSimpArgs false
noncomputable def d82 : FCode:=(.seq (.run (.go (.alloc 115 [(.int .i64 (.ofNat 0)),(.int .i64 (.ofNat 0))]) (P 4)::
[])) (.seq (.seq (.run (.go (.move (tm 1)) (P 7)::
.go (.bin .eql 3 (tm 7) (.con (.int .i64 (.ofNat 0)))) (P 8)::
[])) (.cond (tm 8) (.seq (.run (.go (.move (tm 0)) (P 9)::
.go (.build [(.int .i64 (.ofNat 0)),(.int .i64 (.ofNat 0))] [(0,1,(tm 9)),(1,1,(.con (.int .i64 (.ofNat 0))))]) (P 10)::
.un (.store 2 (tm 4) (tm 10))::
[])) .ret) .skip)) (.seq (.run (.go (.move (tm 0)) (P 11)::
.go (.move (tm 1)) (P 12)::
.go (.move (tm 11)) (P 5)::
.go (.move (tm 12)) (P 6)::
[])) (.seq (.block 0 (.loop (.seq (.seq (.run (.go (.move (tm 6)) (P 13)::
.go (.bin .neq 3 (tm 13) (.con (.int .i64 (.ofNat 0)))) (P 14)::
[])) (.cond (tm 14) .skip (.exit 0))) (.block 1 (.draw 6 (.go (.move (tm 6)) (P 15)::
.go (.move (tm 5)) (P 16)::
.go (.move (tm 6)) (P 17)::
.go (.bin .rem 3 (tm 16) (tm 17)) (P 18)::
.go (.move (tm 15)) (P 5)::
.go (.move (tm 18)) (P 6)::
[]) [.ok,.ok,.ok,.ok,.ok,.ok]))))) (.seq (.draw 8 (.go (.move (tm 0)) (P 19)::
.go (.move (tm 5)) (P 20)::
.go (.bin .quo 3 (tm 19) (tm 20)) (P 21)::
.go (.move (tm 1)) (P 22)::
.go (.move (tm 5)) (P 23)::
.go (.bin .quo 3 (tm 22) (tm 23)) (P 24)::
.go (.build [(.int .i64 (.ofNat 0)),(.int .i64 (.ofNat 0))] [(0,1,(tm 21)),(1,1,(tm 24))]) (P 25)::
.un (.store 2 (tm 4) (tm 25))::
[]) [.ok,.ok,.ok,.ok,.ok,.ok,.ok,.ok]) .ret)))))
theorem de82 : @compF Try.prog (Gl.none Try.prog) Try.f82 2=.mk d82 (mkTT 26) [(P 0),(P 1)] [.many (P 4) 2]:=by kernel_rfl
theorem dg82 : Try.prog.funcs[82]?=some Try.f82:=Try.func82
theorem do82 : okF Try.prog Try.f82=true:=by kernel_rfl
noncomputable def d96 : FCode:=(.seq (.run (.go (.move (.con (.int .i64 (.ofNat 0)))) (P 2)::
[])) (.seq (.run (.go (.move (.con (.int .i64 (.ofNat 0)))) (P 3)::
[])) (.seq (.seq (.run (.go (.move (tm 0)) (P 6)::
.go (.len 0 (tm 6)) (P 7)::
.go (.move (.con (.int .i64 (.ofNat 0)))) (P 8)::
[])) (.block 0 (.loop (.seq (.run (.go (.bin .lss 3 (tm 8) (tm 7)) (P 9)::
[])) (.seq (.cond (tm 9) .skip (.exit 0)) (.seq (.block 1 (.seq (.run (.go (.indexAddr none 1 (tm 6) (tm 8)) (P 10)::
.go (.load1 (tm 10)) (P 11)::
.go (.move (tm 11)) (P 5)::
[])) (.run (.go (.move (tm 3)) (P 12)::
.go (.move (tm 5)) (P 13)::
.go (.bin .add 3 (tm 12) (tm 13)) (P 14)::
.go (.move (tm 14)) (P 3)::
[])))) (.run (.go (.bin .add 3 (tm 8) (.con (.int .i64 (.ofNat 1)))) (P 15)::
.go (.move (tm 15)) (P 8)::
[])))))))) (.seq (.run (.go (.move (tm 3)) (P 16)::
.go (.move (tm 16)) (P 2)::
[])) .ret))))
theorem de96 : @compF Try.prog (Gl.none Try.prog) Try.f96 1=.mk d96 (mkTT 17) [(P 0)] [.tmp (P 2)]:=by kernel_rfl
theorem dg96 : Try.prog.funcs[96]?=some Try.f96:=Try.func96
theorem do96 : okF Try.prog Try.f96=true:=by kernel_rfl
noncomputable def d62 : FCode:=(.seq (.run (.go (.alloc 78 [(.int .i64 (.ofNat 0)),(.int .i64 (.ofNat 0)),(.int .i64 (.ofNat 0)),(.int .i64 (.ofNat 0)),(.int .i64 (.ofNat 0)),(.int .i64 (.ofNat 0)),(.int .i64 (.ofNat 0)),(.int .i64 (.ofNat 0))]) (P 2)::
[])) (.seq (.run (.go (.alloc 78 [(.int .i64 (.ofNat 0)),(.int .i64 (.ofNat 0)),(.int .i64 (.ofNat 0)),(.int .i64 (.ofNat 0)),(.int .i64 (.ofNat 0)),(.int .i64 (.ofNat 0)),(.int .i64 (.ofNat 0)),(.int .i64 (.ofNat 0))]) (P 3)::
[])) (.seq (.run (.go (.sliceSlow 78 (tm 3) none none) (P 4)::
.go (.move (tm 0)) (P 5)::
.go (.copy 1 (tm 4) (tm 5)) (P 6)::
[])) (.seq (.run (.go (.loadN 8 (tm 3)) (P 7)::
.un (.store 8 (tm 2) (tm 7))::
[])) .ret))))
theorem de62 : @compF Try.prog (Gl.none Try.prog) Try.f62 1=.mk d62 (mkTT 8) [(P 0)] [.many (P 2) 8]:=by kernel_rfl
theorem dg62 : Try.prog.funcs[62]?=some Try.f62:=Try.func62
theorem do62 : okF Try.prog Try.f62=true:=by kernel_rfl
theorem tmod_bd {a b : Int} (ha : 0≤a) (hb : 0<b) : 0≤a.tmod b∧a.tmod b<b:=⟨Int.tmod_nonneg b ha,Int.tmod_lt_of_pos a hb⟩
theorem tdiv_bd {a b : Int} (ha : 0≤a) (hb : 0<b) : 0≤a.tdiv b∧a.tdiv b≤a:=by
 rw[Int.tdiv_eq_ediv_of_nonneg ha]
 exact⟨Int.ediv_nonneg ha (Int.le_of_lt hb),Int.ediv_le_self b ha⟩
theorem gcd_mod {a b : Int} (ha : 0≤a) (hb : 0≤b) : Int.gcd b (a.tmod b)=Int.gcd a b:=by
 obtain⟨m,rfl⟩:=Int.eq_ofNat_of_zero_le ha
 obtain⟨n,rfl⟩:=Int.eq_ofNat_of_zero_le hb
 rw[Int.tmod_eq_emod_of_nonneg ha]
 show Nat.gcd n (m%n)=Nat.gcd m n
 rw[Nat.gcd_comm n,← Nat.gcd_rec,Nat.gcd_comm]
theorem f82_ok {H : Heap} {c d : Int} (hc : 0≤c∧c≤100000000) (hd : 0≤d∧d≤100000000) : Gives Try.prog 82 [I c,I d] H (Qv (lw (c,d))):=by
 refine F.entryL rfl dg82 do82 de82 rfl (by kernel_rfl) ?_
 simp only[sets]
 refine V.re [(0,I c),(1,I d)] (N:=26) zE zY ?_
 intro t hF hA
 simp only[Kn,and_true] at hA
 refine zS ?_
 refine V.l0 ?_
 refine V.heap (fun X=>Grow H X∧Bx X H.next [I 0,I 0] 115) ⟨?_,?_⟩ ?_
 ·exact zW
 ·exact zB
 rintro H1 ⟨g1,b1⟩
 refine zS ?_
 refine V.l0 ?_
 refine zS ?_
 refine V.condP zP (fun hz=>?_) (fun hz=>?_)
 ·refine zS ?_
  have zf:=b1.2
  refine V.lz ?_
  refine zS ?_
  refine V.ret (V.rets rfl (Lv.retG (by simp +contextual (disch:=first|omega|simp only[nx];omega) only[D1,cells_alloc_at,cells_alloc_ne,cells_set_at,cells_set_ne,yres,yres1,yresL,qA,qB,qC,D5,hF,hA,↓reduceIte,qD,qE];rfl) ?_ ?_))
  ·exact zW
  ·unfold lw
   rw[if_pos hz]
 ·refine zS ?_
  refine V.l0 ?_
  refine zS ?_
  refine V.loop (fun z t m X=>∃ (a b : Int),0≤a∧a≤100000000∧0≤b∧b≤100000000∧z=b.toNat∧m=[]∧X=H1∧Int.gcd a b=Int.gcd c d∧Full 26 t∧Kn [(0,I c),(1,I d),(4,PT H.next),(5,I a),(6,I b)] t) d.toNat ?_ ?_
  ·exact⟨c,d,hc.1,hc.2,hd.1,hd.2,rfl,rfl,rfl,rfl,zF,zK⟩
  clear hF hA
  rintro z t m X ⟨a,b,ha0,ha1,hb0,hb1,rfl,rfl,rfl,hg,hF,hA⟩
  simp only[Kn,and_true] at hA
  refine zS ?_
  refine V.l0 ?_
  refine zS ?_
  refine V.condP zP (fun hb=>?_) (fun hb=>?_)
  ·have hbp : 0<b:=by omega
   have hbn : ¬ b=0:=by omega
   have hm:=tmod_bd ha0 hbp
   refine zS ?_
   have zf:=@hbn
   refine V.dz ?_ ?_ rfl ?_
   ·exact zM
   ·simp only[dcAll,dcOk,wantD,List.cons_append,List.nil_append,true_and,and_true]
   refine zS ?_
   refine V.nil (Or.inl ⟨rfl,(a.tmod b).toNat,by omega,?_⟩)
   refine⟨b,a.tmod b,hb0,hb1,hm.1,by omega,rfl,rfl,rfl,?_,zF,zK⟩
   rw[← hg]
   exact gcd_mod ha0 hb0
  ·obtain rfl : b=0:=Decidable.not_not.1 hb
   have ga : (Int.gcd c d : Int)=a:=by rw[← hg,Int.gcd_zero_right,Int.natAbs_of_nonneg ha0]
   have hap : 0<a:=by
    have:=Int.gcd_pos_of_ne_zero_right c hz
    omega
   have han : ¬ a=0:=by omega
   have e1:=tdiv_bd hc.1 hap
   have e2:=tdiv_bd hd.1 hap
   refine V.exit ?_
   refine zX ?_
   refine V.nil (Or.inr ⟨by simp,?_⟩)
   refine zX ?_
   refine zS ?_
   have zf:=And.intro @han<|b1.2
   refine V.dz ?_ ?_ rfl ?_
   ·exact zM
   ·simp only[dcAll,dcOk,wantD,List.cons_append,List.nil_append,true_and,and_true]
   refine zS ?_
   refine V.ret (V.rets rfl (Lv.retG (by simp +contextual (disch:=first|omega|simp only[nx];omega) only[D1,cells_alloc_at,cells_alloc_ne,cells_set_at,cells_set_ne,yres,yres1,yresL,qA,qB,qC,D5,hF,hA,↓reduceIte,qD,qE];rfl) ?_ ?_))
   ·exact zW
   ·unfold lw
    rw[if_neg hz]
    simp only
    rw[ga,Int.tdiv_eq_ediv_of_nonneg hc.1,Int.tdiv_eq_ediv_of_nonneg hd.1]
def sl (l : List Int) : Int:=l.foldl (·+·) 0
theorem sl_app (l : List Int) (x : Int) : sl (l++[x])=sl l+x:=by simp[sl]
theorem f96_ok {H : Heap} {x : Value} {l : List Int} (h : LS H x l) (hn : l.length≤100) (hb : ∀ v∈l,-10000000≤v∧v≤10000000) : Gives Try.prog 96 [x] H (I (sl l)):=by
 have hl:=h.len
 refine F.entryL rfl dg96 do96 de96 rfl (by kernel_rfl) ?_
 simp only[sets]
 refine V.re [(0,x)] (N:=17) zE zY ?_
 intro t hF hA
 simp only[Kn,and_true] at hA
 refine zS ?_
 refine V.l0 ?_
 refine zS ?_
 refine V.l0 ?_
 refine zS ?_
 have zf:=@hl
 refine V.lz ?_
 refine zS ?_
 refine V.loop (fun z t m X=>∃ (k : Nat),k≤l.length∧z=l.length-k∧m=[]∧X=H∧(-(10000000*(k : Int))≤sl (l.take k)∧sl (l.take k)≤10000000*k)∧Full 17 t∧Kn [(0,x),(3,I (sl (l.take k))),(6,x),(7,I l.length),(8,I k)] t) l.length ?_ ?_
 ·exact⟨0,by omega,by omega,rfl,rfl,by simp[sl],zF,zK⟩
 clear hF hA
 rintro z t m X ⟨k,hk,rfl,rfl,rfl,hs,hF,hA⟩
 simp only[Kn,and_true] at hA
 refine zS ?_
 refine V.l0 ?_
 refine zS ?_
 refine V.condP zP (fun hlt=>?_) (fun hlt=>?_)
 ·have hlt' : k<l.length:=by omega
  obtain⟨p,hp,hx⟩:=h.at hlt'
  have hx1:=hx X (.refl _)
  have hbk:=hb _ (List.getElem_mem hlt')
  have e1 : sl (l.take (k+1))=sl (l.take k)+l[k]:=by rw[tk1 hlt',sl_app]
  refine zS ?_
  have zf:=And.intro @hp<|@hx1
  refine V.lz ?_
  refine zS ?_
  refine V.l0 ?_
  refine zS ?_
  refine V.l0 ?_
  refine V.nil (Or.inl ⟨rfl,l.length-(k+1),by omega,?_⟩)
  refine⟨k+1,hlt',rfl,rfl,rfl,by rw[e1];omega,?_⟩
  rw[e1]
  exact⟨zF,zK⟩
 ·obtain rfl : k=l.length:=by omega
  rw[List.take_length] at hA hs
  refine V.exit ?_
  refine zX ?_
  refine V.nil (Or.inr ⟨by simp,?_⟩)
  refine zX ?_
  refine zS ?_
  refine V.l0 ?_
  refine zS ?_
  refine V.ret (V.rets rfl (Lv.retG (by simp +contextual (disch:=first|omega|simp only[nx];omega) only[D1,cells_alloc_at,cells_alloc_ne,cells_set_at,cells_set_ne,yres,yres1,yresL,qA,qB,qC,D5,hF,hA,↓reduceIte,qD,qE];rfl) ?_ ?_))
  ·exact .refl _
  ·rfl
def n8 (f : Nat→Int) : List Value:=An 8 fun i=>I (f i)
theorem n8_len (f : Nat→Int) : (n8 f).length=8:=rfl
theorem n8_ok (f : Nat→Int) : (n8 f).all ok1=true:=rfl
theorem n8_get {f : Nat→Int} {p : Nat} (h : p<8) : (n8 f)[p]?=some (I (f p)):=An_get h
theorem n8_set {f : Nat→Int} {p : Nat} {x : Int} : (n8 f).set p (I x)=n8 (fun i=>if i=p then x else f i):=by
 unfold n8
 rw[An_set]
 congr 1
 funext i
 show (if i=p then I x else I (f i))=I (if i=p then x else f i)
 split<;>rfl
theorem n8_cong {f g : Nat→Int} (h : ∀ i,i<8→f i=g i) : n8 f=n8 g:=An_cong (fun i hi=>by rw[h i hi])
theorem n8_0 : [I 0,I 0,I 0,I 0,I 0,I 0,I 0,I 0]=n8 fun _=>0:=rfl
theorem n8_take (f : Nat→Int) : (n8 f).take 8=n8 f:=rfl
theorem n8_set0 (f g : Nat→Int) : setCells (n8 f) 0 ⟨n8 g⟩=⟨n8 f⟩:=setC_An
theorem n8_ix {f : Nat→Int} {p : Nat} (h : p<8) {k : IntKind} : yindex 8 1 true (.agg ⟨n8 f⟩) (.int k (p : Nat))=some (I (f p)):=by
 simp only[yindex]
 rw[if_pos ⟨by omega,by omega⟩]
 simp only[if_true,Int.toNat_natCast,Nat.mul_one]
 rw[arr_get]
 exact n8_get h
theorem sl78 (i : Nat) : xslice Try.prog 78 (PT i) none none none=some (.slice (some ⟨i,0,none⟩) 8 8):=by
 simp only[xslice,Try.underlying78,xbound]
 rfl
def gl0 (l : List Int) : Nat→Int:=fun i=>l.getD i 0
theorem set_gl : ∀ (l : List Int),l.length≤8→setCells (Li l) 0 ⟨n8 fun _=>0⟩=⟨n8 (gl0 l)⟩
 | [],_=>rfl
 | [_],_=>rfl
 | [_,_],_=>rfl
 | [_,_,_],_=>rfl
 | [_,_,_,_],_=>rfl
 | [_,_,_,_,_],_=>rfl
 | [_,_,_,_,_,_],_=>rfl
 | [_,_,_,_,_,_,_],_=>rfl
 | [_,_,_,_,_,_,_,_],_=>rfl
 | _::_::_::_::_::_::_::_::_::_,h=>by simp at h
theorem Sl.lead {H : Heap} {b : Option Addr} {n c : Nat} {l : List Value} (h : Sl H (.slice b n c) l) (hn : n≠0) : xsource H 1 n b=some ⟨l⟩∧l.length=n:=Sl.source h hn
theorem copy8 {X : Heap} {x : Value} {l : List Int} {i : Nat} (h : LS X x l) (hl : l.length≤8) (hb : Bx X i (n8 fun _=>0) 78) :
  ∃ n Y,ycopy 1 X (.slice (some ⟨i,0,none⟩) 8 8) x=some (n,Y)∧Bx Y i (n8 (gl0 l)) 78∧(∀ H,Grow H X→H.next≤i→Grow H Y)∧∀ j c e,j≠i→Bx X j c e→Bx Y j c e:=by
 obtain⟨h⟩:=h
 obtain⟨b,n,c,rfl⟩:=h.isS
 have hln : l.length=n:=by
  have:=h.len
  rw[Li_len] at this
  simp only[ylen,Option.some.injEq,Value.int.injEq,true_and] at this
  omega
 unfold ycopy
 simp only
 by_cases h0 : n=0
 ·rw[if_pos (by omega)]
  refine⟨_,_,rfl,?_,fun _ g _=>g,fun _ _ _ _ b=>b⟩
  have e : l=[]:=List.length_eq_zero_iff.1 (by omega)
  subst e
  exact hb
 ·rw[if_neg (by omega),Nat.min_eq_left (by omega),(Sl.lead h h0).1]
  simp only[hb.2]
  rw[if_pos]
  ·refine⟨_,_,rfl,?_,fun _ g hi=>g.set hi _,fun _ _ _ hj b=>b.set hj _⟩
   have e : setCells (⟨Li l⟩ : Array Value).toList 0 ⟨n8 fun _=>0⟩=⟨n8 (gl0 l)⟩:=set_gl l hl
   rw[e]
   exact Bx.put hb.1 _ _
  ·refine⟨Li_ok l,?_⟩
   rw[arr_size,n8_len];omega
theorem f62_ok {H : Heap} {x : Value} {l : List Int} (h : LS H x l) (hl : l.length≤8) : Gives Try.prog 62 [x] H (.agg ⟨n8 (gl0 l)⟩):=by
 refine F.entryL rfl dg62 do62 de62 rfl (by kernel_rfl) ?_
 simp only[sets]
 refine V.re [(0,x)] (N:=8) zE zY ?_
 intro t hF hA
 simp only[Kn,and_true] at hA
 refine zS ?_
 refine V.l0 ?_
 refine V.heap (fun X=>Grow H X∧Bx X H.next (n8 fun _=>0) 78∧X.next=H.next+1) ⟨?_,?_,?_⟩ ?_
 ·exact zW
 ·rw[← n8_0];exact zB
 ·rfl
 rintro H1 ⟨g1,b1,e1⟩
 refine zS ?_
 refine V.l0 ?_
 refine V.heap (fun X=>Grow H X∧Bx X H.next (n8 fun _=>0) 78∧Bx X H1.next (n8 fun _=>0) 78) ⟨?_,?_,?_⟩ ?_
 ·exact zW
 ·exact b1.alloc _
 ·rw[← n8_0];exact Bx.new _ _ _
 rintro H2 ⟨g2,b2,c2⟩
 obtain⟨n,Y,hc,cY,gY,kY⟩:=copy8 (h.grow g2) hl c2
 have gHY:=gY _ g2 (by omega)
 have bY:=kY _ _ _ (by omega) b2
 have s78:=sl78 H1.next
 refine zS ?_
 have zf:=And.intro @s78<|@hc
 refine V.lz ?_
 refine zS ?_
 have zf:=And.intro cY.2<|And.intro bY.2<|And.intro @n8_len<|And.intro @n8_take<|And.intro @n8_ok<|@n8_set0
 refine V.lz ?_
 refine zS ?_
 refine V.ret (V.rets rfl (Lv.retG (by simp +contextual (disch:=first|omega|simp only[nx];omega) only[D1,cells_alloc_at,cells_alloc_ne,cells_set_at,cells_set_ne,yres,yres1,yresL,qA,qB,qC,D5,hF,hA,↓reduceIte,qD,qE,n8_len,n8_take];rfl) ?_ ?_))
 ·exact zW
 ·rfl
end Go.Xe.TVX
