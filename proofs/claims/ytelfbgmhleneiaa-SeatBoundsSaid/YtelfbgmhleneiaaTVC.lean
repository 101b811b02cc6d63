/- What the functions of the layer seat come to: a rule at work on counts. Conditions: none. -/
import Derived.Test.YtelfbgmhleneiaaTVZ
-- MOD TV
namespace Go.Xe.TVX
open Go Go.Xe Go.Proofs
open Nat renaming reduceLeDiff → qA, reduceSub → qB, reduceAdd → qC, reduceEqDiff → qD, reduceLT → qE
open Int renaming reduceNegSucc → qF, reduceEq → qG
open Go.Xe.V renaming seq → sA, block → sB, scope → sC, skip → sD, close → sE
open Go.Xe renaming pth → P
open Go.Xe.Sea
set_option maxRecDepth 100000
set_option maxHeartbeats 3200000
set_option linter.unusedSimpArgs false
noncomputable def d78 : FCode:=(.seq (.run (.go (.box 83 (tm 0)) (P 1)::
.go (.alloc 83 [(.int .u8 (.ofNat 0)),(.int .i64 (.ofNat 0)),(.int .i64 (.ofNat 0)),(.int .i64 (.ofNat 0)),(.int .i64 (.ofNat 0)),(.int .i64 (.ofNat 0)),(.int .i64 (.ofNat 0)),(.int .i64 (.ofNat 0)),(.int .i64 (.ofNat 0)),(.int .i64 (.ofNat 0)),(.int .i64 (.ofNat 0)),(.int .i64 (.ofNat 0)),(.int .i64 (.ofNat 0)),(.int .i64 (.ofNat 0)),(.int .i64 (.ofNat 0)),(.int .i64 (.ofNat 0)),(.int .i64 (.ofNat 0)),(.int .i64 (.ofNat 0)),(.int .i64 (.ofNat 0)),(.int .i64 (.ofNat 0)),.nilFunc,.nilFunc]) (P 2)::
[])) (.seq (.run (.go (.fieldAddr 0 (tm 1)) (P 6)::
.go (.loadN 3 (tm 6)) (P 7)::
.go (.makeFunc 95 [tm 7] []) (P 8)::
.go (.move (tm 8)) (P 3)::
[])) (.seq (.run (.go (.build [(.int .i64 (.ofNat 0)),(.int .i64 (.ofNat 0)),(.int .i64 (.ofNat 0)),(.int .i64 (.ofNat 0)),(.int .i64 (.ofNat 0)),(.int .i64 (.ofNat 0)),(.int .i64 (.ofNat 0)),(.int .i64 (.ofNat 0))] []) (P 9)::
.go (.fieldAddr 11 (tm 1)) (P 10)::
.un (.store 8 (tm 10) (tm 9))::
[])) (.seq (.seq (.run (.go (.fieldAddr 3 (tm 1)) (P 11)::
.go (.loadN 8 (tm 11)) (P 12)::
.go (.move (.con (.int .i64 (.ofNat 0)))) (P 13)::
[])) (.block 0 (.loop (.seq (.run (.go (.bin .lss 3 (tm 13) (.con (.int .i64 (.ofNat 8)))) (P 14)::
[])) (.seq (.cond (tm 14) .skip (.exit 0)) (.seq (.block 1 (.seq (.run (.go (.move (tm 13)) (P 15)::
.go (.index 8 1 true (tm 12) (tm 13)) (P 16)::
.go (.move (tm 15)) (P 4)::
.go (.move (tm 16)) (P 5)::
[])) (.seq (.run (.go (.move (tm 3)) (P 17)::
.go (.move (tm 5)) (P 18)::
.go (.call (tm 17) [tm 18]) (P 19)::
[])) (.cond (tm 19) (.run (.go (.move (tm 4)) (P 20)::
.go (.move (tm 5)) (P 21)::
.go (.fieldAddr 11 (tm 1)) (P 22)::
.go (.indexAddr (some 8) 1 (tm 22) (tm 20)) (P 23)::
.un (.store 1 (tm 23) (tm 21))::
[])) .skip)))) (.run (.go (.bin .add 3 (tm 13) (.con (.int .i64 (.ofNat 1)))) (P 24)::
.go (.move (tm 24)) (P 13)::
[])))))))) (.seq (.run (.go (.fieldAddr 11 (tm 1)) (P 25)::
.go (.sliceSlow 78 (tm 25) none none) (P 26)::
.go (.call (.con (.func (.func 96) ⟨[]⟩ ⟨[]⟩)) [tm 26]) (P 27)::
.go (.fieldAddr 19 (tm 1)) (P 28)::
.un (.store 1 (tm 28) (tm 27))::
[])) (.seq (.run (.go (.loadN 22 (tm 1)) (P 29)::
.un (.store 22 (tm 2) (tm 29))::
[])) .ret))))))
theorem de78 : @compF Try.prog (Gl.none Try.prog) Try.f78 1=.mk d78 (mkTT 30) [(P 0)] [.many (P 2) 22]:=by kernel_rfl
theorem dg78 : Try.prog.funcs[78]?=some Try.f78:=Try.func78
theorem do78 : okF Try.prog Try.f78=true:=by kernel_rfl
abbrev fn (g : Nat) : Value:=.func (.func g) ⟨[]⟩ ⟨[]⟩
def pc (m S L : Int) (c v : Nat→Int) (tot : Int) (d k : Value) : List Value:=A3 m S L++(n8 c++(n8 v++[I tot,d,k]))
section
variable {m S L : Int} {c v : Nat→Int} {tot : Int} {d k : Value}
theorem pc_len : (pc m S L c v tot d k).length=22:=rfl
theorem pc_m : (pc m S L c v tot d k)[0]?=some (.int .u8 m):=rfl
theorem pc_S : (pc m S L c v tot d k)[1]?=some (I S):=rfl
theorem pc_L : (pc m S L c v tot d k)[2]?=some (I L):=rfl
theorem pc_t : (pc m S L c v tot d k)[19]?=some (I tot):=rfl
theorem pc_d : (pc m S L c v tot d k)[20]?=some d:=rfl
theorem pc_k : (pc m S L c v tot d k)[21]?=some k:=rfl
theorem pc_v : ∀ {p : Nat},p<8→(pc m S L c v tot d k)[11+p]?=some (I (v p))
 | 0,_=>rfl
 | 1,_=>rfl
 | 2,_=>rfl
 | 3,_=>rfl
 | 4,_=>rfl
 | 5,_=>rfl
 | 6,_=>rfl
 | 7,_=>rfl
 | _+8,h=>absurd h (by omega)
theorem pc_setv {x : Int} : ∀ {p : Nat},p<8→(pc m S L c v tot d k).set (11+p) (I x)=pc m S L c (fun i=>if i=p then x else v i) tot d k
 | 0,_=>rfl
 | 1,_=>rfl
 | 2,_=>rfl
 | 3,_=>rfl
 | 4,_=>rfl
 | 5,_=>rfl
 | 6,_=>rfl
 | 7,_=>rfl
 | _+8,h=>absurd h (by omega)
theorem pc_sett {x : Int} : (pc m S L c v tot d k).set 19 (I x)=pc m S L c v x d k:=rfl
theorem pc_setk {x : Value} : (pc m S L c v tot d k).set 21 x=pc m S L c v tot d x:=rfl
theorem pc_setS {x : Int} : (pc m S L c v tot d k).set 1 (I x)=pc m x L c v tot d k:=rfl
theorem pc_z : ((((((((pc m S L c v tot d k).set 11 (I 0)).set 12 (I 0)).set 13 (I 0)).set 14 (I 0)).set 15 (I 0)).set 16 (I 0)).set 17 (I 0)).set 18 (I 0)=pc m S L c (fun _=>0) tot d k:=rfl
theorem pc_3 : (pc m S L c v tot d k).take 3=A3 m S L:=rfl
theorem pc_22 : (pc m S L c v tot d k).take 22=pc m S L c v tot d k:=rfl
theorem pc_c8 : ((pc m S L c v tot d k).drop 3).take 8=n8 c:=rfl
theorem pc_v8 : ((pc m S L c v tot d k).drop 11).take 8=n8 v:=rfl
theorem pc_ok (h1 : ok1 d=true) (h2 : ok1 k=true) : (pc m S L c v tot d k).all ok1=true:=by
 have e : (pc m S L c v tot d k).all ok1=(true && (ok1 d && (ok1 k && true))):=rfl
 rw[e,h1,h2];rfl
theorem pc_put {x : List Value} (h : x.length=22) : setCells (pc m S L c v tot d k) 0 ⟨x⟩=⟨pc m S L c v tot d k⟩:=by
 rw[setC_pre _ _ _ (by rw[pc_len];omega),pc_len,List.drop_eq_nil_of_le (by omega)]
 simp
end
theorem PC : type_of% (And.intro @pc_len<|And.intro @pc_m<|And.intro @pc_S<|And.intro @pc_L<|And.intro @pc_t<|And.intro @pc_d<|And.intro @pc_k<|And.intro @pc_sett<|And.intro @pc_setk<|And.intro @pc_setS<|And.intro @pc_z<|And.intro @pc_3<|And.intro @pc_22<|And.intro @pc_c8 @pc_v8):=
 And.intro @pc_len<|And.intro @pc_m<|And.intro @pc_S<|And.intro @pc_L<|And.intro @pc_t<|And.intro @pc_d<|And.intro @pc_k<|And.intro @pc_sett<|And.intro @pc_setk<|And.intro @pc_setS<|And.intro @pc_z<|And.intro @pc_3<|And.intro @pc_22<|And.intro @pc_c8 @pc_v8
def vts (L : Int) (c : Nat→Int) : Nat→Int:=fun p=>if adm L (c p) then c p else 0
theorem sl78o (i o : Nat) : xslice Try.prog 78 (.pointer (some ⟨i,o,none⟩)) none none none=some (.slice (some ⟨i,o,none⟩) 8 8):=by
 simp only[xslice,Try.underlying78,xbound]
 rfl
def l8 (f : Nat→Int) : List Int:=(List.range 8).map f
theorem sl_l8 (f : Nat→Int) : sl (l8 f)=sm f 8:=by
 show List.foldl (·+·) 0 [f 0,f 1,f 2,f 3,f 4,f 5,f 6,f 7]=_
 simp only[List.foldl,sm]
theorem l8_bd {f : Nat→Int} {a b : Int} (h : ∀ i,i<8→a≤f i∧f i≤b) : ∀ x∈l8 f,a≤x∧x≤b:=by
 intro x hx
 obtain⟨i,hi,rfl⟩:=List.mem_map.1 hx
 exact h i (List.mem_range.1 hi)
theorem ls_pc {X : Heap} {i : Nat} {e : TypeId} {m S L : Int} {c v : Nat→Int} {tot : Int} {d k : Value} (b : Bx X i (pc m S L c v tot d k) e) : LS X (.slice (some ⟨i,11,none⟩) 8 8) (l8 v):=
 ⟨.at b.1 b.2 (Nat.le_refl _) rfl (by rw[arr_size,pc_len];omega) (fun p x hx=>by
  have hp : p<8:=by
   have:=(List.getElem?_eq_some_iff.1 hx).1
   simpa [Li,l8] using this
  rw[arr_get,pc_v hp]
  simpa [Li,l8,hp] using hx)⟩
theorem vts_bd {L : Int} {c : Nat→Int} {p : Nat} (h : 0≤c p∧c p≤10000) : 0≤vts L c p∧vts L c p≤10000:=by unfold vts;split<;>omega
theorem f78_ok {H : Heap} {m S L : Int} {c v : Nat→Int} {tot : Int} {d k : Value} (h1 : ok1 d=true) (h2 : ok1 k=true) (hc : ∀ i,i<8→0≤c i∧c i≤10000) :
  Gives Try.prog 78 [.agg ⟨pc m S L c v tot d k⟩] H (.agg ⟨pc m S L c (vts L c) (sm (vts L c) 8) d k⟩):=by
 have hok:=fun v' t'=>pc_ok (m:=m) (S:=S) (L:=L) (c:=c) (v:=v') (tot:=t') h1 h2
 refine F.entryL rfl dg78 do78 de78 rfl (by kernel_rfl) ?_
 simp only[sets]
 refine V.re [(0,.agg ⟨pc m S L c v tot d k⟩)] (N:=30) zE zY ?_
 intro t hF hA
 simp only[Kn,and_true] at hA
 refine zS ?_
 refine V.l0 ?_
 refine V.heap (fun X=>Grow H X∧Bx X H.next (pc m S L c v tot d k) 83∧Bx X (H.next+1) [.int .u8 0,I 0,I 0,I 0,I 0,I 0,I 0,I 0,I 0,I 0,I 0,I 0,I 0,I 0,I 0,I 0,I 0,I 0,I 0,I 0,.nilFunc,.nilFunc] 83) ⟨?_,?_,?_⟩ ?_
 ·exact zW
 ·exact zB
 ·exact zB
 rintro H1 ⟨g1,b1,c1⟩
 refine zS ?_
 have zf:=And.intro b1.2<|@PC
 refine V.lz ?_
 refine zS ?_
 have zf:=And.intro b1.2<|@PC
 refine V.lz ?_
 refine V.heap (fun X=>Grow H X∧Bx X H.next (pc m S L c (fun _=>0) tot d k) 83∧Bx X (H.next+1) [.int .u8 0,I 0,I 0,I 0,I 0,I 0,I 0,I 0,I 0,I 0,I 0,I 0,I 0,I 0,I 0,I 0,I 0,I 0,I 0,I 0,.nilFunc,.nilFunc] 83) ⟨?_,?_,?_⟩ ?_
 ·exact zW
 ·exact Bx.put b1.1 _ _
 ·exact c1.set (by omega) _
 rintro H2 ⟨g2,b2,c2⟩
 refine zS ?_
 have zf:=And.intro b2.2<|@PC
 refine V.lz ?_
 refine zS ?_
 refine V.loop (fun z t mm X=>∃ (p : Nat),p≤8∧z=8-p∧mm=[]∧Grow H X∧Bx X H.next (pc m S L c (fun i=>if i<p then vts L c i else 0) tot d k) 83∧Bx X (H.next+1) [.int .u8 0,I 0,I 0,I 0,I 0,I 0,I 0,I 0,I 0,I 0,I 0,I 0,I 0,I 0,I 0,I 0,I 0,I 0,I 0,I 0,.nilFunc,.nilFunc] 83∧Full 30 t∧Kn [(1,PT H.next),(2,PT (H.next+1)),(3,.func (.func 95) ⟨[.agg ⟨A3 m S L⟩]⟩ ⟨[]⟩),(12,.agg ⟨n8 c⟩),(13,I p)] t) 8 ?_ ?_
 ·exact⟨0,by omega,by omega,rfl,g2,b2,c2,zF,zK⟩
 clear hF hA
 rintro z t mm X ⟨p,hp,rfl,rfl,hg,bx,cx,hF,hA⟩
 simp only[Kn,and_true] at hA
 refine zS ?_
 refine V.l0 ?_
 refine zS ?_
 refine V.condP zP (fun hlt=>?_) (fun hlt=>?_)
 ·have hlt' : p<8:=by omega
  have ix:=n8_ix (f:=c) hlt' (k:=.i64)
  refine zS ?_
  have zf:=@ix
  refine V.lz ?_
  refine zS ?_
  refine V.run ?_
  refine VI.s0 2 ?_
  simp only[ds]
  refine VI.callV (y:=.func (.func 95) ⟨[.agg ⟨A3 m S L⟩]⟩ ⟨[]⟩) zA (by simp only[List.map_cons,List.map_nil,D6,D5,hF,hA,↓reduceIte,qD,qE];exact f95_fv m S L X (c p)) (fun v X2 hv=>?_)
  obtain⟨rfl,g2'⟩:=hv
  have bx2:=bx.grow g2'
  have cx2:=cx.grow g2'
  refine VI.l0 ?_
  refine zS ?_
  refine V.condP zP (fun ha=>?_) (fun ha=>?_)
  ·have ia:=idx_arr (i:=H.next) (o:=11) (kd:=.i64) hlt'
   have h22 : 11+p<22:=by omega
   have es:=pc_setv (m:=m) (S:=S) (L:=L) (c:=c) (v:=fun i=>if i<p then vts L c i else 0) (tot:=tot) (d:=d) (k:=k) (x:=c p) hlt'
   refine zS ?_
   have zf:=And.intro bx2.2<|And.intro @ia<|And.intro @PC<|And.intro @h22<|@es
   refine V.lz ?_
   refine zS ?_
   refine V.l0 ?_
   refine V.nil (Or.inl ⟨rfl,8-(p+1),by omega,?_⟩)
   refine⟨p+1,hlt',rfl,rfl,?_,?_,?_,zF,zK⟩
   ·exact (hg.trans g2').set (Nat.le_refl _) _
   ·have e : (fun i=>if i<p+1 then vts L c i else 0)=fun i=>if i=p then c p else (if i<p then vts L c i else 0):=by
     funext i
     by_cases hi : i=p
     ·subst hi;rw[if_pos (by omega),if_pos rfl,vts,if_pos ha]
     ·rw[if_neg hi];by_cases h3 : i<p
      ·rw[if_pos (by omega),if_pos h3]
      ·rw[if_neg (by omega),if_neg h3]
    rw[e]
    exact Bx.put bx2.1 _ _
   ·exact cx2.set (by omega) _
  ·refine zS ?_
   refine V.l0 ?_
   refine V.nil (Or.inl ⟨rfl,8-(p+1),by omega,?_⟩)
   refine⟨p+1,hlt',rfl,rfl,hg.trans g2',?_,cx2,zF,zK⟩
   have e : (fun i=>if i<p+1 then vts L c i else 0)=fun i=>if i<p then vts L c i else 0:=by
    funext i
    by_cases hi : i=p
    ·subst hi;rw[if_pos (by omega),if_neg (by omega),vts,if_neg ha]
    ·by_cases h3 : i<p
     ·rw[if_pos (by omega),if_pos h3]
     ·rw[if_neg (by omega),if_neg h3]
   rw[e]
   exact bx2
 ·obtain rfl : p=8:=by omega
  have e8 : ∀ i,i<8→(if i<8 then vts L c i else 0)=vts L c i:=fun i hi=>if_pos hi
  have ep : pc m S L c (fun i=>if i<8 then vts L c i else 0) tot d k=pc m S L c (vts L c) tot d k:=by unfold pc;rw[n8_cong e8]
  rw[ep] at bx
  have hls:=ls_pc bx
  have hs:=sl78o H.next 11
  refine V.exit ?_
  refine zX ?_
  refine V.nil (Or.inr ⟨by simp,?_⟩)
  refine zX ?_
  refine zS ?_
  refine V.run ?_
  have zf:=@hs
  refine VI.sz 2 ?_
  simp only[ds]
  refine VI.callA rfl (f96_ok hls (by simp[l8]) (l8_bd fun i hi=>by have:=vts_bd (L:=L) (hc i hi);omega)) zA (fun H4 g4=>?_)
  rw[sl_l8]
  have bx4:=bx.grow g4
  have cx4:=cx.grow g4
  have zf:=And.intro bx4.2<|@PC
  refine VI.lz ?_
  refine V.heap (fun X=>Grow H X∧Bx X H.next (pc m S L c (vts L c) (sm (vts L c) 8) d k) 83∧Bx X (H.next+1) [.int .u8 0,I 0,I 0,I 0,I 0,I 0,I 0,I 0,I 0,I 0,I 0,I 0,I 0,I 0,I 0,I 0,I 0,I 0,I 0,I 0,.nilFunc,.nilFunc] 83) ⟨?_,?_,?_⟩ ?_
  ·exact (hg.trans g4).set (Nat.le_refl _) _
  ·exact Bx.put bx4.1 _ _
  ·exact cx4.set (by omega) _
  rintro H5 ⟨g5,b5,c5⟩
  have epu:=fun x0 h0=>pc_put (m:=m) (S:=S) (L:=L) (c:=c) (v:=vts L c) (tot:=sm (vts L c) 8) (d:=d) (k:=k) (x:=x0) h0
  have hok':=hok (vts L c) (sm (vts L c) 8)
  have epu':=pc_put (m:=m) (S:=S) (L:=L) (c:=c) (v:=vts L c) (tot:=sm (vts L c) 8) (d:=d) (k:=k) (x:=[.int .u8 0,I 0,I 0,I 0,I 0,I 0,I 0,I 0,I 0,I 0,I 0,I 0,I 0,I 0,I 0,I 0,I 0,I 0,I 0,I 0,.nilFunc,.nilFunc]) rfl
  refine zS ?_
  have zf:=And.intro b5.2<|And.intro c5.2<|And.intro @PC<|And.intro @hok'<|@epu'
  refine V.lz ?_
  refine zS ?_
  refine V.ret (V.rets rfl (Lv.retG (by simp +contextual (disch:=first|omega|simp only[nx];omega) only[D1,cells_alloc_at,cells_alloc_ne,cells_set_at,cells_set_ne,yres,yres1,yresL,qA,qB,qC,D5,hF,hA,↓reduceIte,qD,qE,PC];rfl) ?_ ?_))
  ·exact zW
  ·rfl
end Go.Xe.TVX
/- What the functions of the layer seat come to: a rule at work, shares and quotients. Conditions: none. -/
-- MOD TV
namespace Go.Xe.TVX
open Go Go.Xe Go.Proofs
open Nat renaming reduceLeDiff → qA, reduceSub → qB, reduceAdd → qC, reduceEqDiff → qD, reduceLT → qE
open Int renaming reduceNegSucc → qF, reduceEq → qG
open Go.Xe.V renaming seq → sA, block → sB, scope → sC, skip → sD, close → sE
open Go.Xe renaming pth → P
open Go.Xe.Sea
set_option maxRecDepth 100000
set_option maxHeartbeats 3200000
set_option linter.unusedSimpArgs false
noncomputable def d75 : FCode:=(.seq (.run (.go (.move (.con (.map none))) (P 0)::
[])) (.seq (.run (.go (.makeMap 5) (P 1)::
.un (.mapUpdate 5 (tm 1) (.con (.int .u8 (.ofNat 1))) (.con (.func (.func 91) ⟨[]⟩ ⟨[]⟩)))::
.un (.mapUpdate 5 (tm 1) (.con (.int .u8 (.ofNat 2))) (.con (.func (.func 92) ⟨[]⟩ ⟨[]⟩)))::
.un (.mapUpdate 5 (tm 1) (.con (.int .u8 (.ofNat 3))) (.con (.func (.func 93) ⟨[]⟩ ⟨[]⟩)))::
.un (.mapUpdate 5 (tm 1) (.con (.int .u8 (.ofNat 4))) (.con (.func (.func 94) ⟨[]⟩ ⟨[]⟩)))::
.go (.move (tm 1)) (P 2)::
.go (.move (tm 2)) (P 0)::
[])) .ret))
theorem de75 : @compF Try.prog (Gl.none Try.prog) Try.f75 0=.mk d75 (mkTT 3) [] [.tmp (P 0)]:=by kernel_rfl
theorem dg75 : Try.prog.funcs[75]?=some Try.f75:=Try.func75
theorem do75 : okF Try.prog Try.f75=true:=by kernel_rfl
noncomputable def d55 : FCode:=(.seq (.run (.go (.box 28 (tm 0)) (P 2)::
.go (.alloc 83 [(.int .u8 (.ofNat 0)),(.int .i64 (.ofNat 0)),(.int .i64 (.ofNat 0)),(.int .i64 (.ofNat 0)),(.int .i64 (.ofNat 0)),(.int .i64 (.ofNat 0)),(.int .i64 (.ofNat 0)),(.int .i64 (.ofNat 0)),(.int .i64 (.ofNat 0)),(.int .i64 (.ofNat 0)),(.int .i64 (.ofNat 0)),(.int .i64 (.ofNat 0)),(.int .i64 (.ofNat 0)),(.int .i64 (.ofNat 0)),(.int .i64 (.ofNat 0)),(.int .i64 (.ofNat 0)),(.int .i64 (.ofNat 0)),(.int .i64 (.ofNat 0)),(.int .i64 (.ofNat 0)),(.int .i64 (.ofNat 0)),.nilFunc,.nilFunc]) (P 4)::
[])) (.seq (.draw 10 (.go (.loadN 3 (tm 2)) (P 6)::
.go (.move (tm 1)) (P 7)::
.go (.call (.con (.func (.func 62) ⟨[]⟩ ⟨[]⟩)) [tm 7]) (P 8)::
.go (.call (.con (.func (.func 75) ⟨[]⟩ ⟨[]⟩)) []) (P 9)::
.go (.fieldAddr 0 (tm 2)) (P 10)::
.go (.load1 (tm 10)) (P 11)::
.go (.lookup 5 .nilFunc (tm 9) (tm 11) false) (P 12)::
.go (.build [(.int .u8 (.ofNat 0)),(.int .i64 (.ofNat 0)),(.int .i64 (.ofNat 0)),(.int .i64 (.ofNat 0)),(.int .i64 (.ofNat 0)),(.int .i64 (.ofNat 0)),(.int .i64 (.ofNat 0)),(.int .i64 (.ofNat 0)),(.int .i64 (.ofNat 0)),(.int .i64 (.ofNat 0)),(.int .i64 (.ofNat 0)),(.int .i64 (.ofNat 0)),(.int .i64 (.ofNat 0)),(.int .i64 (.ofNat 0)),(.int .i64 (.ofNat 0)),(.int .i64 (.ofNat 0)),(.int .i64 (.ofNat 0)),(.int .i64 (.ofNat 0)),(.int .i64 (.ofNat 0)),(.int .i64 (.ofNat 0)),.nilFunc,.nilFunc] [(0,3,(tm 6)),(3,8,(tm 8)),(20,1,(tm 12)),(21,1,(.con (.func (.func 76) ⟨[]⟩ ⟨[]⟩)))]) (P 13)::
.go (.alloc 83 [(.int .u8 (.ofNat 0)),(.int .i64 (.ofNat 0)),(.int .i64 (.ofNat 0)),(.int .i64 (.ofNat 0)),(.int .i64 (.ofNat 0)),(.int .i64 (.ofNat 0)),(.int .i64 (.ofNat 0)),(.int .i64 (.ofNat 0)),(.int .i64 (.ofNat 0)),(.int .i64 (.ofNat 0)),(.int .i64 (.ofNat 0)),(.int .i64 (.ofNat 0)),(.int .i64 (.ofNat 0)),(.int .i64 (.ofNat 0)),(.int .i64 (.ofNat 0)),(.int .i64 (.ofNat 0)),(.int .i64 (.ofNat 0)),(.int .i64 (.ofNat 0)),(.int .i64 (.ofNat 0)),(.int .i64 (.ofNat 0)),.nilFunc,.nilFunc]) (P 5)::
.un (.store 22 (tm 5) (tm 13))::
[]) [.rd none (.loadN 3 (tm 2)) (some (P 6)) [3,4],.ok,.ok,.ok,.ok,.rd none (.load1 (tm 10)) (some (P 11)) [0,3],.ok,.ok,.nw none (some (P 5)) 8 true,.ok]) (.seq (.seq (.run (.go (.fieldAddr 0 (tm 2)) (P 14)::
.go (.load1 (tm 14)) (P 15)::
.go (.bin .eql 5 (tm 15) (.con (.int .u8 (.ofNat 5)))) (P 16)::
[])) (.cond (tm 16) (.run (.go (.fieldAddr 21 (tm 5)) (P 17)::
.un (.store 1 (tm 17) (.con (.func (.func 77) ⟨[]⟩ ⟨[]⟩)))::
[])) .skip)) (.seq (.run (.go (.loadN 22 (tm 5)) (P 18)::
.go (.call (.con (.func (.func 78) ⟨[]⟩ ⟨[]⟩)) [tm 18]) (P 19)::
.un (.store 22 (tm 4) (tm 19))::
[])) .ret))))
theorem de55 : @compF Try.prog (Gl.none Try.prog) Try.f55 2=.mk d55 (mkTT 20) [(P 0),(P 1)] [.many (P 4) 22]:=by kernel_rfl
theorem dg55 : Try.prog.funcs[55]?=some Try.f55:=Try.func55
theorem do55 : okF Try.prog Try.f55=true:=by kernel_rfl
def ku (a : Int) : Value:=.int .u8 a
theorem ku_ok : KeyOk Try.prog 5 ku (fun a=>0≤a∧a≤255) where
 keyed:=by kernel_rfl
 keyish _:=rfl
 keyOf a h:=by
  have hw : (Lit.int .u8 a).wf=true:=by
   simp only[Lit.wf,Bool.and_eq_true,decide_eq_true_eq]
   show (0 : Int)≤a∧a≤255
   omega
  unfold keyOf ku
  simp[Try.underlying5,mapKey,hw]
 eq a b:=by simp[ku,valEq,cellEq]
def dmp (a : Int) : Option Value:=if a=4 then some (fn 94) else if a=3 then some (fn 93) else if a=2 then some (fn 92) else if a=1 then some (fn 91) else none
def dvf (m : Int) : Value:=(dmp m).getD .nilFunc
def clf (m : Int) : Value:=if m=5 then fn 77 else fn 76
theorem dvf_ok (m : Int) : ok1 (dvf m)=true:=by
 unfold dvf dmp
 repeat' split
 all_goals rfl
theorem clf_ok (m : Int) : ok1 (clf m)=true:=by
 unfold clf
 split<;>rfl
theorem f75_ok (H : Heap) : F Try.prog 75 ⟨[]⟩ H (fun w X=>∃ i,w=.map (some i)∧Grow H X∧MpF X i 5 ku dmp):=by
 have h0:=MpF.new (α:=Int) H 5 ku
 obtain⟨o1,e1,h1⟩:=h0.upd ku_ok (a:=1) (by omega) (fn 91)
 obtain⟨o2,e2,h2⟩:=h1.upd ku_ok (a:=2) (by omega) (fn 92)
 obtain⟨o3,e3,h3⟩:=h2.upd ku_ok (a:=3) (by omega) (fn 93)
 obtain⟨o4,e4,h4⟩:=h3.upd ku_ok (a:=4) (by omega) (fn 94)
 simp only[ku] at e1 e2 e3 e4
 refine F.entryL rfl dg75 do75 de75 rfl (by kernel_rfl) ?_
 simp only[sets]
 refine V.re [] (N:=3) zE zY ?_
 intro t hF hA
 refine zS ?_
 refine V.l0 ?_
 refine zS ?_
 have zf:=And.intro @e1<|And.intro @e2<|And.intro @e3<|@e4
 refine V.lz ?_
 refine zS ?_
 refine V.ret (V.rets rfl (Lv.retF (by simp +contextual (disch:=first|omega|simp only[nx];omega) only[D1,cells_alloc_at,cells_alloc_ne,cells_set_at,cells_set_ne,yres,yres1,yresL,qA,qB,qC,D5,hF,hA,↓reduceIte,qD,qE];rfl) ?_))
 refine⟨_,rfl,?_,?_⟩
 ·exact zW
 ·exact h4
theorem dv_look {X : Heap} {i : Nat} (h : MpF X i 5 ku dmp) {m : Int} (hm : 0≤m∧m≤255) : ylookup Try.prog 5 .nilFunc X (.map (some i)) (.int .u8 m) false=some (dvf m):=MpF.look ku_ok h hm .nilFunc
abbrev pw (m S L : Int) (c : Nat→Int) : List Value:=pc m S L c (vts L c) (sm (vts L c) 8) (dvf m) (clf m)
theorem dvf_fill (m : Int) (off : Nat) (c : List Value) (f : List Value→Option (Array Value)) : yfillV (dvf m) off 1 c f=if off<c.length then f (c.set off (dvf m)) else none:=by
 have h : notTop (dvf m)=true∧(dvf m).cells=#[dvf m]:=by
  unfold dvf dmp
  by_cases h4 : m=4
  ·rw[if_pos h4];exact⟨rfl,rfl⟩
  ·rw[if_neg h4]
   by_cases h3 : m=3
   ·rw[if_pos h3];exact⟨rfl,rfl⟩
   ·rw[if_neg h3]
    by_cases h2 : m=2
    ·rw[if_pos h2];exact⟨rfl,rfl⟩
    ·rw[if_neg h2]
     split<;>exact⟨rfl,rfl⟩
 exact yfV_one h.1 h.2
theorem bc8 (m S L : Int) (g : Nat→Int) : setCells (n8 g) 3 ⟨[.int .u8 m,I S,I L,I 0,I 0,I 0,I 0,I 0,I 0,I 0,I 0,I 0,I 0,I 0,I 0,I 0,I 0,I 0,I 0,I 0,.nilFunc,.nilFunc]⟩=⟨pc m S L g (fun _=>0) 0 .nilFunc .nilFunc⟩:=rfl
theorem pc_setd {m S L : Int} {c v : Nat→Int} {tot : Int} {d k x : Value} : (pc m S L c v tot d k).set 20 x=pc m S L c v tot x k:=rfl
theorem f55_ok {H : Heap} {m S L : Int} {x : Value} {l : List Int} (h : LS H x l) (hl : l.length≤8) (hb : ∀ v∈l,0≤v∧v≤10000) (hm : 1≤m∧m≤5) : Gives Try.prog 55 [.agg ⟨A3 m S L⟩,x] H (.agg ⟨pw m S L (gl0 l)⟩):=by
 have hgb : ∀ i,i<8→0≤gl0 l i∧gl0 l i≤10000:=by
  intro i _
  unfold gl0
  by_cases hi : i<l.length
  ·rw[List.getD_eq_getElem?_getD,List.getElem?_eq_getElem hi]
   exact hb _ (List.getElem_mem hi)
  ·rw[List.getD_eq_getElem?_getD,List.getElem?_eq_none (by omega)]
   simp
 have hdo:=dvf_ok m
 have hf76 : ok1 (fn 76)=true:=rfl
 obtain⟨Z22,hZ⟩ : ∃ Z : List Value,Z=[.int .u8 0,I 0,I 0,I 0,I 0,I 0,I 0,I 0,I 0,I 0,I 0,I 0,I 0,I 0,I 0,I 0,I 0,I 0,I 0,I 0,.nilFunc,.nilFunc]:=⟨_,rfl⟩
 have hZl : Z22.length=22:=by rw[hZ];rfl
 refine F.entryL rfl dg55 do55 de55 rfl (by kernel_rfl) ?_
 simp only[sets]
 refine V.re [(0,.agg ⟨A3 m S L⟩),(1,x)] (N:=20) zE zY ?_
 intro t hF hA
 simp only[Kn,and_true] at hA
 refine zS ?_
 refine V.l0 ?_
 refine V.heap (fun X=>Grow H X∧Bx X H.next (A3 m S L) 28∧Bx X (H.next+1) Z22 83) ⟨?_,?_,?_⟩ ?_
 ·exact zW
 ·exact zB
 ·rw[hZ];exact zB
 rintro H1 ⟨g1,b1,c1⟩
 refine zS ?_
 refine V.draw ?_
 have zf:=b1.2
 refine VD.nz 2 ?_
 simp only[ds]
 refine VD.callA zA (f62_ok (h.grow g1) hl) zA (fun H2 g2=>?_)
 have b2:=b1.grow g2
 have c2:=c1.grow g2
 have g12:=g1.trans g2
 refine VD.callR zA (f75_ok H2) zA (fun w3 H3 ⟨im,hw3,g3,hm3⟩=>?_)
 subst hw3
 have b3:=b2.grow g3
 have c3:=c2.grow g3
 have g13:=g12.trans g3
 have hlk:=dv_look hm3 (m:=m) (by omega)
 have hlk2 : ∀ o,ylookup Try.prog 5 .nilFunc (H3.alloc o) (.map (some im)) (.int .u8 m) false=some (dvf m):=fun o=>dv_look (hm3.grow ((Grow.refl H3).alloc o)) (by omega)
 have m2:=g2.1
 have m3:=g3.1
 have hfl:=dvf_fill m
 have hbc:=bc8 m S L (gl0 l)
 have epu:=pc_put (m:=m) (S:=S) (L:=L) (c:=gl0 l) (v:=fun _=>0) (tot:=0) (d:=dvf m) (k:=fn 76) (x:=[.int .u8 0,I 0,I 0,I 0,I 0,I 0,I 0,I 0,I 0,I 0,I 0,I 0,I 0,I 0,I 0,I 0,I 0,I 0,I 0,I 0,.nilFunc,.nilFunc]) rfl
 have hok:=pc_ok (m:=m) (S:=S) (L:=L) (c:=gl0 l) (v:=fun _=>0) (tot:=0) hdo hf76
 have n3 : H.next+2≤H3.next:=by
  have:=c3.1
  omega
 have zf:=And.intro b3.2<|@hlk
 refine VD.nz 3 ?_
 simp only[ds]
 have zf:=And.intro @hfl<|And.intro @hbc<|And.intro @n8_len<|And.intro @PC<|And.intro @pc_setd<|And.intro @epu<|@hok
 refine VD.dz ?_ ?_ rfl ?_
 ·exact zM
 ·simp only[dcAll,dcOk,wantD,List.cons_append,List.nil_append,true_and,and_true]
  have zf:=And.intro b1.2<|And.intro b2.2<|b3.2
  exact⟨zR,zR,fun _=>⟨_,_,_,rfl,rfl,rfl,(by simp only[D5,hF,hA,↓reduceIte,qD,qE];simp[inBound]),fun _=>⟨_,_,_,cells_alloc _ _ _ _,(by first|exact An_inb|rfl)⟩⟩⟩
 refine V.heap (fun X=>Grow H X∧Bx X H.next (A3 m S L) 28∧Bx X (H.next+1) Z22 83∧Bx X H3.next (pc m S L (gl0 l) (fun _=>0) 0 (dvf m) (fn 76)) 83) ⟨?_,?_,?_,?_⟩ ?_
 ·exact zW
 ·exact (b3.alloc _).set (by have:=b3.1;omega) _
 ·exact (c3.alloc _).set (by have:=c3.1;omega) _
 ·exact Bx.put (by simp only[Heap.next_alloc];omega) _ _
 rintro H4 ⟨g4,b4,c4,d4⟩
 refine zS ?_
 have zf:=b4.2
 refine V.lz ?_
 refine zS ?_
 refine V.join (fun t m' X=>m'=[]∧Grow H X∧Bx X (H.next+1) Z22 83∧Bx X H3.next (pc m S L (gl0 l) (fun _=>0) 0 (dvf m) (clf m)) 83∧Full 20 t∧Kn [(4,PT (H.next+1)),(5,PT H3.next)] t) ?_ ?_
 ·refine V.condP zP (fun h5=>?_) (fun h5=>?_)
  ·refine zS ?_
   have zf:=And.intro d4.2<|@PC
   refine V.lz ?_
   refine V.nil (Or.inl ⟨rfl,rfl,?_,?_,?_,zF,zK⟩)
   ·exact zW
   ·exact c4.set (by omega) _
   ·have e : clf m=fn 77:=if_pos h5
    rw[e]
    exact Bx.put d4.1 _ _
  ·refine zS ?_
   refine V.nil (Or.inl ⟨rfl,rfl,g4,c4,?_,zF,zK⟩)
   have e : clf m=fn 76:=if_neg h5
   rw[e]
   exact d4
 clear hF hA
 rintro t _ X ⟨rfl,gX,cX,dX,hF,hA⟩
 simp only[Kn,and_true] at hA
 refine zS ?_
 refine V.run ?_
 have zf:=And.intro dX.2<|@PC
 refine VI.sz 1 ?_
 simp only[ds]
 refine VI.callA rfl (f78_ok (dvf_ok m) (clf_ok m) hgb) zA (fun H6 g6=>?_)
 have c6:=cX.grow g6
 have g16:=gX.trans g6
 have hok6:=pc_ok (m:=m) (S:=S) (L:=L) (c:=gl0 l) (v:=vts L (gl0 l)) (tot:=sm (vts L (gl0 l)) 8) (dvf_ok m) (clf_ok m)
 have epu6:=pc_put (m:=m) (S:=S) (L:=L) (c:=gl0 l) (v:=vts L (gl0 l)) (tot:=sm (vts L (gl0 l)) 8) (d:=dvf m) (k:=clf m) hZl
 have zf:=And.intro c6.2<|And.intro @PC<|And.intro @hok6<|And.intro @epu6<|@hZl
 refine VI.lz ?_
 refine zS ?_
 refine V.ret (V.rets rfl (Lv.retG (by simp +contextual (disch:=first|omega|simp only[nx];omega) only[D1,cells_alloc_at,cells_alloc_ne,cells_set_at,cells_set_ne,yres,yres1,yresL,qA,qB,qC,D5,hF,hA,↓reduceIte,qD,qE,PC];rfl) ?_ ?_))
 ·exact zW
 ·rfl
end Go.Xe.TVX
