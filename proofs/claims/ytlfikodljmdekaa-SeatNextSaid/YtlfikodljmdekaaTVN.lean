/- What the functions of the layer seat come to: SeatKind. Conditions: none. -/
import Derived.Test.YtlfikodljmdekaaTVJ
-- MOD TV
namespace Go.Xe.TVX
open Go Go.Xe Go.Proofs
open Nat renaming reduceLeDiff → qA, reduceSub → qB, reduceAdd → qC, reduceEqDiff → qD, reduceLT → qE
open Int renaming reduceNegSucc → qF, reduceEq → qG
open Go.Xe.V renaming seq → sA, block → sB, scope → sC, skip → sD, close → sE
open Go.Xe renaming pth → P
open Go.Xe.Sea
set_option maxRecDepth 100000
set_option maxHeartbeats 3200000
set_option linter.unusedSimpArgs false
theorem mm2 (a d : Int) : a*a*(d*d)=a*d*(a*d):=by ac_rfl
theorem sq_lt {x y : Int} (hx : 0≤x) (h : x<y) : x*x<y*y:=by
 have h1:=Int.mul_le_mul_of_nonneg_left (Int.le_of_lt h) hx
 have h2:=Int.mul_lt_mul_of_pos_right h (show 0<y by omega)
 omega
theorem SR.ok {m S L : Int} {l : List Int} {X : Heap} {w : Value} (h : SR m S L l X w) (h0 : flt m S L l=0) : ∃ y e,w=.tuple ⟨[y,I e]⟩∧((¬ sure m S (vl L l)∧y=.slice none 0 0∧e=10)∨(sure m S (vl L l)∧e=0∧LS X y (fl l.length (otc m S (vl L l)).1))):=by
 obtain⟨y,e,hw,h⟩:=h
 refine⟨y,e,hw,?_⟩
 rcases h with⟨h,_⟩|⟨_,h⟩|⟨_,h⟩
 ·exact absurd h0 h
 ·exact .inl h
 ·exact .inr h
end Go.Xe.TVX
/- What the functions of the layer seat come to: SeatVotes. Conditions: none. -/
-- MOD TV
namespace Go.Xe.TVX
open Go Go.Xe Go.Proofs
open Nat renaming reduceLeDiff → qA, reduceSub → qB, reduceAdd → qC, reduceEqDiff → qD, reduceLT → qE
open Int renaming reduceNegSucc → qF, reduceEq → qG
open Go.Xe.V renaming seq → sA, block → sB, scope → sC, skip → sD, close → sE
open Go.Xe renaming pth → P
open Go.Xe.Sea
set_option maxRecDepth 100000
set_option maxHeartbeats 3200000
set_option linter.unusedSimpArgs false
noncomputable def d36 : FCode:=(.seq (.run (.go (.box 23 (tm 0)) (P 2)::
.go (.move (.con (.int .i64 (.ofNat 0)))) (P 4)::
[])) (.seq (.run (.go (.move (.con (.int .i64 (.ofNat 0)))) (P 5)::
[])) (.seq (.seq (.run (.go (.move (.con (.int .i64 (.ofNat 0)))) (P 6)::
[])) (.block 0 (.loop (.seq (.seq (.run (.go (.move (tm 6)) (P 7)::
.go (.move (tm 1)) (P 8)::
.go (.len 0 (tm 8)) (P 9)::
.go (.bin .lss 3 (tm 7) (tm 9)) (P 10)::
[])) (.cond (tm 10) .skip (.exit 0))) (.seq (.block 1 (.seq (.draw 6 (.go (.loadN 3 (tm 2)) (P 13)::
.go (.move (tm 1)) (P 14)::
.go (.move (tm 6)) (P 15)::
.go (.indexAddr none 1 (tm 14) (tm 15)) (P 16)::
.go (.load1 (tm 16)) (P 17)::
.go (.call (.con (.func (.func 37) ⟨[]⟩ ⟨[]⟩)) [(tm 13),(tm 17)]) (P 18)::
[]) [.ok,.ok,.ok,.ok,.ok,.ok]) (.cond (tm 18) (.run (.go (.move (tm 5)) (P 19)::
.go (.move (tm 1)) (P 20)::
.go (.move (tm 6)) (P 21)::
.go (.indexAddr none 1 (tm 20) (tm 21)) (P 22)::
.go (.load1 (tm 22)) (P 23)::
.go (.bin .add 3 (tm 19) (tm 23)) (P 24)::
.go (.move (tm 24)) (P 5)::
[])) .skip))) (.run (.go (.move (tm 6)) (P 11)::
.go (.bin .add 3 (tm 11) (.con (.int .i64 (.ofNat 1)))) (P 12)::
.go (.move (tm 12)) (P 6)::
[]))))))) (.seq (.run (.go (.move (tm 5)) (P 25)::
.go (.move (tm 25)) (P 4)::
[])) .ret))))
theorem de36 : @compF Try.prog (Gl.none Try.prog) Try.f36 2=.mk d36 (mkTT 26) [(P 0),(P 1)] [.tmp (P 4)]:=by kernel_rfl
theorem dg36 : Try.prog.funcs[36]?=some Try.f36:=Try.func36
theorem do36 : okF Try.prog Try.f36=true:=by kernel_rfl
noncomputable def d34 : FCode:=(.seq (.run (.go (.box 23 (tm 0)) (P 2)::
.go (.move (.con (.bool false))) (P 4)::
[])) (.seq (.run (.go (.loadN 3 (tm 2)) (P 5)::
.go (.move (tm 1)) (P 6)::
.go (.call (.con (.func (.func 36) ⟨[]⟩ ⟨[]⟩)) [(tm 5),(tm 6)]) (P 7)::
.go (.bin .gtr 3 (tm 7) (.con (.int .i64 (.ofNat 0)))) (P 8)::
.go (.move (tm 8)) (P 4)::
[])) .ret))
theorem de34 : @compF Try.prog (Gl.none Try.prog) Try.f34 2=.mk d34 (mkTT 9) [(P 0),(P 1)] [.tmp (P 4)]:=by kernel_rfl
theorem dg34 : Try.prog.funcs[34]?=some Try.f34:=Try.func34
theorem do34 : okF Try.prog Try.f34=true:=by kernel_rfl
theorem clq_le {m S : Int} {v : Nat→Int} (hv : vok v) (hS : 0≤S∧S≤61) {p : Nat} (hp : p<8) (h : 0<v p) : ∀ {n : Nat} {s : Int},0≤s→¬ qlt (clq m S v p s) (clq m S v p (s+n))
 | 0,s,_=>by
  have e : s+((0 : Nat) : Int)=s:=by omega
  rw[e];exact qlt_irr _
 | n+1,s,hs=>by
  have h1:=clq_le (m:=m) hv hS hp h (n:=n) hs
  have h2:=clq_dec (m:=m) hv hS hp h (s:=s+n) (by omega)
  have e : s+((n+1 : Nat) : Int)=s+n+1:=by omega
  rw[e]
  exact qlt_neg (clq_ok hv hS hp h hs) (clq_ok hv hS hp h (by omega)) (clq_ok hv hS hp h (by omega)) h1 h2
theorem clq_le' {m S : Int} {v : Nat→Int} (hv : vok v) (hS : 0≤S∧S≤61) {p : Nat} (hp : p<8) (h : 0<v p) {s t : Int} (hs : 0≤s) (hst : s≤t) : ¬ qlt (clq m S v p s) (clq m S v p t):=by
 have:=clq_le (m:=m) hv hS hp h (n:=(t-s).toNat) hs
 have e : s+((t-s).toNat : Int)=t:=by omega
 rw[e] at this
 exact this
theorem sure_sum {m S : Int} {v : Nat→Int} (hv : vok v) (hS : 0≤S∧S≤61) (hv8 : ∀ p,¬ p<8→v p=0) (hs : sure m S v) : ((∃ p,p<8∧0<v p)∧sm (otc m S v).1 8=S)∨((∀ p,p<8→¬ 0<v p)∧(otc m S v).1=fun _=>0):=by
 have F:=otc_fin (m:=m) hv hS hv8
 rcases F.2 with⟨h,e,_⟩|⟨h,e,_⟩|⟨h,e1,e2,e3⟩
 ·exact .inr ⟨h,e⟩
 ·exact .inl ⟨h,e⟩
 ·exfalso
  obtain⟨T,hT⟩ : ∃ T,T=tp v (fun p=>clq m S v p ((otc m S v).1 p)) 8:=⟨_,rfl⟩
  rw[← hT] at e2 e3
  have hne : T≠[]:=fun h=>by rw[h] at e2;simp at e2;omega
  obtain⟨p,hp⟩:=List.exists_mem_of_ne_nil _ hne
  have hp8 : p<8:=by rw[hT] at hp;exact (mem_tp.1 hp).1
  have:=hs p hp8
  rw[e3] at this
  unfold up at this
  rw[if_pos hp] at this
  omega
theorem sm_out {v : Nat→Int} : ∀ {k n : Nat},(∀ p,n≤p→v p=0)→sm v (n+k)=sm v n
 | 0,_,_=>rfl
 | k+1,n,h=>by
  show sm v (n+k)+v (n+k)=_
  rw[sm_out h,h (n+k) (by omega)];omega
theorem vl_sum {L : Int} {l : List Int} (hl : l.length≤8) : sm (vl L l) 8=sm (vl L l) l.length:=by
 have:=sm_out (v:=vl L l) (n:=l.length) (k:=8-l.length) (fun p hp=>vl_out hp)
 rw[show l.length+(8-l.length)=8 by omega] at this
 exact this
theorem f36_ok {H : Heap} {m S L : Int} {x : Value} {l : List Int} (h : LS H x l) (hl8 : l.length≤8) (hb : ∀ v∈l,0≤v∧v≤10000) : Gives Try.prog 36 [.agg ⟨A3 m S L⟩,x] H (I (sm (vl L l) 8)):=by
 have hl:=h.len
 obtain⟨px,nx',cx,rfl⟩:=h.s.isS
 refine F.entryL rfl dg36 do36 de36 rfl (by kernel_rfl) ?_
 simp only[sets]
 refine V.re [(0,.agg ⟨A3 m S L⟩),(1,.slice px nx' cx)] (N:=26) zE zY ?_
 intro t hF hA
 simp only[Kn,and_true] at hA
 refine zS ?_
 refine V.l0 ?_
 refine V.heap (fun X=>Grow H X∧Bx X H.next (A3 m S L) 23) ⟨?_,?_⟩ ?_
 ·exact zW
 ·exact zB
 rintro H1 ⟨g1,b1⟩
 refine zS ?_
 refine V.l0 ?_
 refine zS ?_
 refine V.l0 ?_
 refine zS ?_
 refine V.loop (fun z t mm X=>∃ (k : Nat),k≤l.length∧z=l.length-k∧mm=[]∧Grow H X∧Bx X H.next (A3 m S L) 23∧(0≤sm (vl L l) k∧sm (vl L l) k≤10000*k)∧Full 26 t∧Kn [(1,.slice px nx' cx),(2,PT H.next),(5,I (sm (vl L l) k)),(6,I k)] t) l.length ?_ ?_
 ·exact⟨0,by omega,by omega,rfl,g1,b1,by simp[sm],zF,zK⟩
 clear hF hA
 rintro z t mm X ⟨k,hk,rfl,rfl,hg,bx,hsb,hF,hA⟩
 simp only[Kn,and_true] at hA
 refine zS ?_
 have zf:=@hl
 refine V.lz ?_
 refine zS ?_
 refine V.condP zP (fun hlt=>?_) (fun hlt=>?_)
 ·have hlt' : k<l.length:=by omega
  obtain⟨p,hp,hx⟩:=h.at hlt'
  have hx1:=hx X hg
  have hbk:=hb _ (List.getElem_mem hlt')
  have ev : sm (vl L l) (k+1)=sm (vl L l) k+(if adm L l[k] then l[k] else 0):=by
   show sm (vl L l) k+vl L l k=_
   congr 1
   unfold vl vts
   rw[gl0_at hlt']
  refine zS ?_
  refine V.draw ?_
  have zf:=And.intro bx.2<|And.intro @hp<|@hx1
  refine VD.nz 5 ?_
  simp only[ds]
  refine VD.callA zA (f37_ok m S L l[k] X) zA (fun X2 g2=>?_)
  have bx2:=bx.grow g2
  have hg2:=hg.trans g2
  have hx2:=hx X2 hg2
  have m2:=g2.1
  refine VD.d0 ?_ ?_ rfl ?_
  ·exact zM
  ·simp only[dcAll,dcOk,wantD,List.cons_append,List.nil_append,true_and,and_true]
  refine zS ?_
  refine V.condP zP (fun ha=>?_) (fun ha=>?_)
  ·rw[if_pos ha] at ev
   refine zS ?_
   have zf:=And.intro @hp<|@hx2
   refine V.lz ?_
   refine zS ?_
   refine V.l0 ?_
   refine V.nil (Or.inl ⟨rfl,l.length-(k+1),by omega,?_⟩)
   refine⟨k+1,hlt',rfl,rfl,hg2,bx2,by rw[ev];omega,?_⟩
   rw[ev]
   exact⟨zF,zK⟩
  ·rw[if_neg ha] at ev
   refine zS ?_
   refine V.l0 ?_
   refine V.nil (Or.inl ⟨rfl,l.length-(k+1),by omega,?_⟩)
   refine⟨k+1,hlt',rfl,rfl,hg2,bx2,by rw[ev];omega,?_⟩
   rw[ev,Int.add_zero]
   exact⟨zF,zK⟩
 ·obtain rfl : k=l.length:=by omega
  refine V.exit ?_
  refine zX ?_
  refine V.nil (Or.inr ⟨by simp,?_⟩)
  refine zX ?_
  refine zS ?_
  refine V.l0 ?_
  refine zS ?_
  refine V.ret (V.rets rfl (Lv.retG (by simp +contextual (disch:=first|omega|simp only[nx];omega) only[D1,cells_alloc_at,cells_alloc_ne,cells_set_at,cells_set_ne,yres,yres1,yresL,qA,qB,qC,D5,hF,hA,↓reduceIte,qD,qE];rfl) ?_ ?_))
  ·exact hg
  ·rw[vl_sum hl8]
theorem f34_ok {H : Heap} {m S L : Int} {x : Value} {l : List Int} (h : LS H x l) (hl8 : l.length≤8) (hb : ∀ v∈l,0≤v∧v≤10000) : Gives Try.prog 34 [.agg ⟨A3 m S L⟩,x] H (.bool (decide (0<sm (vl L l) 8))):=by
 obtain⟨px,nx',cx,rfl⟩:=h.s.isS
 refine F.entryL rfl dg34 do34 de34 rfl (by kernel_rfl) ?_
 simp only[sets]
 refine V.re [(0,.agg ⟨A3 m S L⟩),(1,.slice px nx' cx)] (N:=9) zE zY ?_
 intro t hF hA
 simp only[Kn,and_true] at hA
 refine zS ?_
 refine V.l0 ?_
 refine V.heap (fun X=>Grow H X∧Bx X H.next (A3 m S L) 23) ⟨?_,?_⟩ ?_
 ·exact zW
 ·exact zB
 rintro H1 ⟨g1,b1⟩
 refine zS ?_
 refine V.run ?_
 have zf:=b1.2
 refine VI.sz 2 ?_
 simp only[ds]
 refine VI.callA rfl (f36_ok (m:=m) (S:=S) (h.grow g1) hl8 hb) zA (fun H2 g2=>?_)
 refine VI.l0 ?_
 refine zS ?_
 refine V.ret (V.rets rfl (Lv.retG (by simp +contextual (disch:=first|omega|simp only[nx];omega) only[D1,cells_alloc_at,cells_alloc_ne,cells_set_at,cells_set_ne,yres,yres1,yresL,qA,qB,qC,D5,hF,hA,↓reduceIte,qD,qE];rfl) ?_ ?_))
 ·exact g1.trans g2
 ·rfl
theorem sure_none {m S : Int} {v : Nat→Int} (h : ∀ p,p<8→¬ 0<v p) (F : Fin v (clq m S v) S (otc m S v).1 (otc m S v).2) : (otc m S v).1=fun _=>0:=by
 rcases F.2 with⟨_,e,_⟩|⟨⟨p,h1,h2⟩,_⟩|⟨⟨p,h1,h2⟩,_⟩
 ·exact e
 ·exact absurd h2 (h p h1)
 ·exact absurd h2 (h p h1)
theorem sm_pos' {v : Nat→Int} (hv : vok v) : 0<sm v 8↔∃ p,p<8∧0<v p:=by
 constructor
 ·intro h
  apply Decidable.by_contra
  intro hn
  have : sm v 8=sm (fun _=>0) 8:=sm_cong fun p hp=>by
   apply Decidable.by_contra
   intro hh
   exact hn ⟨p,hp,by have:=(hv p hp).1;omega⟩
  rw[this,sm_0] at h
  omega
 ·rintro⟨p,hp,h⟩
  exact sm_pos hv hp h
end Go.Xe.TVX
/- What the functions of the layer seat come to: SeatVotes. Conditions: none. -/
-- MOD TV
namespace Go.Xe.TVX
open Go Go.Xe Go.Proofs
open Nat renaming reduceLeDiff → qA, reduceSub → qB, reduceAdd → qC, reduceEqDiff → qD, reduceLT → qE
open Int renaming reduceNegSucc → qF, reduceEq → qG
open Go.Xe.V renaming seq → sA, block → sB, scope → sC, skip → sD, close → sE
open Go.Xe renaming pth → P
open Go.Xe.Sea
set_option maxRecDepth 100000
set_option maxHeartbeats 3200000
set_option linter.unusedSimpArgs false
theorem own_idx {y n c g : Nat} (h : g<n) : yindexAddr none 1 (.slice (some ⟨y,0,none⟩) n c) (I (g : Nat))=some (.pointer (some ⟨y,g,none⟩)):=by
 simp only[yindexAddr]
 rw[if_pos ⟨by omega,by omega⟩]
 simp
theorem Li_set (l : List Int) (k : Nat) (y : Int) : (Li l).set k (I y)=Li (l.set k y):=by simp[Li,List.map_set]
end Go.Xe.TVX
/- What the functions of the layer seat come to: one seat more. Conditions: none. -/
-- MOD TV
namespace Go.Xe.TVX
open Go Go.Xe Go.Proofs
open Nat renaming reduceLeDiff → qA, reduceSub → qB, reduceAdd → qC, reduceEqDiff → qD, reduceLT → qE
open Int renaming reduceNegSucc → qF, reduceEq → qG
open Go.Xe.V renaming seq → sA, block → sB, scope → sC, skip → sD, close → sE
open Go.Xe renaming pth → P
open Go.Xe.Sea
set_option maxRecDepth 100000
set_option maxHeartbeats 3200000
set_option linter.unusedSimpArgs false
noncomputable def d64 : FCode:=(.seq (.run (.go (.box 78 (tm 0)) (P 2)::
.go (.box 78 (tm 1)) (P 3)::
.go (.move (.con (.int .i64 (.ofNat 0)))) (P 4)::
.go (.move (.con (.int .i64 (.ofNat 0)))) (P 5)::
[])) (.seq (.seq (.run (.go (.loadN 8 (tm 2)) (P 8)::
.go (.move (.con (.int .i64 (.ofNat 0)))) (P 9)::
[])) (.block 0 (.loop (.seq (.run (.go (.bin .lss 3 (tm 9) (.con (.int .i64 (.ofNat 8)))) (P 10)::
[])) (.seq (.cond (tm 10) .skip (.exit 0)) (.seq (.block 1 (.seq (.run (.go (.move (tm 9)) (P 11)::
.go (.index 8 1 true (tm 8) (tm 9)) (P 12)::
.go (.move (tm 11)) (P 6)::
.go (.move (tm 12)) (P 7)::
[])) (.seq (.run (.go (.move (tm 7)) (P 13)::
.go (.move (tm 6)) (P 14)::
.go (.indexAddr (some 8) 1 (tm 3) (tm 14)) (P 15)::
.go (.load1 (tm 15)) (P 16)::
.go (.bin .lss 3 (tm 13) (tm 16)) (P 17)::
[])) (.cond (tm 17) (.seq (.run (.go (.move (tm 6)) (P 18)::
.go (.move (tm 18)) (P 4)::
.go (.move (.con (.int .i64 (.ofNat 0)))) (P 5)::
[])) .ret) .skip)))) (.run (.go (.bin .add 3 (tm 9) (.con (.int .i64 (.ofNat 1)))) (P 19)::
.go (.move (tm 19)) (P 9)::
[])))))))) (.seq (.run (.go (.move (.con (.int .i64 (.ofNat 0)))) (P 4)::
.go (.move (.con (.int .i64 (.ofNat 7)))) (P 5)::
[])) .ret)))
theorem de64 : @compF Try.prog (Gl.none Try.prog) Try.f64 2=.mk d64 (mkTT 20) [(P 0),(P 1)] [.tmp (P 4),.tmp (P 5)]:=by kernel_rfl
theorem dg64 : Try.prog.funcs[64]?=some Try.f64:=Try.func64
theorem do64 : okF Try.prog Try.f64=true:=by kernel_rfl
noncomputable def d63 : FCode:=(.seq (.run (.go (.box 83 (tm 0)) (P 1)::
.go (.alloc 78 [(.int .i64 (.ofNat 0)),(.int .i64 (.ofNat 0)),(.int .i64 (.ofNat 0)),(.int .i64 (.ofNat 0)),(.int .i64 (.ofNat 0)),(.int .i64 (.ofNat 0)),(.int .i64 (.ofNat 0)),(.int .i64 (.ofNat 0))]) (P 2)::
.go (.alloc 78 [(.int .i64 (.ofNat 0)),(.int .i64 (.ofNat 0)),(.int .i64 (.ofNat 0)),(.int .i64 (.ofNat 0)),(.int .i64 (.ofNat 0)),(.int .i64 (.ofNat 0)),(.int .i64 (.ofNat 0)),(.int .i64 (.ofNat 0))]) (P 3)::
.go (.move (.con (.int .i64 (.ofNat 0)))) (P 4)::
[])) (.seq (.run (.go (.loadN 22 (tm 1)) (P 6)::
.go (.call (.con (.func (.func 56) ⟨[]⟩ ⟨[]⟩)) [tm 6]) (P 7)::
.go (.move (tm 7)) (P 5)::
.go (.extract (tm 5) 0) (P 8)::
.go (.extract (tm 5) 1) (P 9)::
.un (.store 8 (tm 2) (tm 8))::
.go (.move (tm 9)) (P 4)::
[])) (.seq (.seq (.run (.go (.move (tm 4)) (P 10)::
.go (.bin .neq 26 (tm 10) (.con (.int .i64 (.ofNat 0)))) (P 11)::
[])) (.cond (tm 11) (.seq (.run (.go (.build [(.int .i64 (.ofNat 0)),(.int .i64 (.ofNat 0)),(.int .i64 (.ofNat 0)),(.int .i64 (.ofNat 0)),(.int .i64 (.ofNat 0)),(.int .i64 (.ofNat 0)),(.int .i64 (.ofNat 0)),(.int .i64 (.ofNat 0))] []) (P 12)::
.go (.build [(.int .i64 (.ofNat 0)),(.int .i64 (.ofNat 0)),(.int .i64 (.ofNat 0)),(.int .i64 (.ofNat 0)),(.int .i64 (.ofNat 0)),(.int .i64 (.ofNat 0)),(.int .i64 (.ofNat 0)),(.int .i64 (.ofNat 0))] []) (P 13)::
.go (.move (tm 4)) (P 14)::
.un (.store 8 (tm 2) (tm 12))::
.un (.store 8 (tm 3) (tm 13))::
.go (.move (tm 14)) (P 4)::
[])) .ret) .skip)) (.seq (.run (.go (.fieldAddr 0 (tm 1)) (P 15)::
.go (.fieldAddr 1 (tm 15)) (P 16)::
.go (.load1 (tm 16)) (P 17)::
.go (.bin .add 3 (tm 17) (.con (.int .i64 (.ofNat 1)))) (P 18)::
.go (.fieldAddr 0 (tm 1)) (P 19)::
.go (.fieldAddr 1 (tm 19)) (P 20)::
.un (.store 1 (tm 20) (tm 18))::
[])) (.seq (.run (.go (.loadN 22 (tm 1)) (P 22)::
.go (.call (.con (.func (.func 56) ⟨[]⟩ ⟨[]⟩)) [tm 22]) (P 23)::
.go (.move (tm 23)) (P 21)::
.go (.extract (tm 21) 0) (P 24)::
.go (.extract (tm 21) 1) (P 25)::
.un (.store 8 (tm 3) (tm 24))::
.go (.move (tm 25)) (P 4)::
[])) (.seq (.draw 6 (.go (.loadN 8 (tm 2)) (P 26)::
.go (.loadN 8 (tm 3)) (P 27)::
.go (.move (tm 4)) (P 28)::
.un (.store 8 (tm 2) (tm 26))::
.un (.store 8 (tm 3) (tm 27))::
.go (.move (tm 28)) (P 4)::
[]) [.ok,.rd none (.loadN 8 (tm 3)) (some (P 27)) [4],.ok,.ok,.ok,.ok]) .ret))))))
theorem de63 : @compF Try.prog (Gl.none Try.prog) Try.f63 1=.mk d63 (mkTT 29) [(P 0)] [.many (P 2) 8,.many (P 3) 8,.tmp (P 4)]:=by kernel_rfl
theorem dg63 : Try.prog.funcs[63]?=some Try.f63:=Try.func63
theorem do63 : okF Try.prog Try.f63=true:=by kernel_rfl
def FB (a b : Nat→Int) (p e : Int) : Prop:=(∃ k : Nat,k<8∧a k<b k∧(∀ i,i<k→¬ a i<b i)∧p=k∧e=0)∨((∀ i,i<8→¬ a i<b i)∧p=0∧e=7)
theorem f64_ok {H : Heap} {a b : Nat→Int} : F Try.prog 64 ⟨[.agg ⟨n8 a⟩,.agg ⟨n8 b⟩]⟩ H (fun w X=>Grow H X∧∃ p e,w=.tuple ⟨[I p,I e]⟩∧FB a b p e):=by
 refine F.entryL rfl dg64 do64 de64 rfl (by kernel_rfl) ?_
 simp only[sets]
 refine V.re [(0,.agg ⟨n8 a⟩),(1,.agg ⟨n8 b⟩)] (N:=20) zE zY ?_
 intro t hF hA
 simp only[Kn,and_true] at hA
 refine zS ?_
 refine V.l0 ?_
 refine V.heap (fun X=>Grow H X∧Bx X H.next (n8 a) 78∧Bx X (H.next+1) (n8 b) 78) ⟨?_,?_,?_⟩ ?_
 ·exact zW
 ·exact zB
 ·exact zB
 rintro H1 ⟨g1,b1,c1⟩
 refine zS ?_
 have zf:=And.intro b1.2<|And.intro @n8_len<|@n8_take
 refine V.lz ?_
 refine zS ?_
 refine V.loop (fun z t mm X=>∃ (p : Nat),p≤8∧z=8-p∧mm=[]∧X=H1∧(∀ i,i<p→¬ a i<b i)∧Full 20 t∧Kn [(3,PT (H.next+1)),(8,.agg ⟨n8 a⟩),(9,I p)] t) 8 ?_ ?_
 ·exact⟨0,by omega,by omega,rfl,rfl,fun i hi=>by omega,zF,zK⟩
 clear hF hA
 rintro z t mm X ⟨p,hp,rfl,rfl,hX,hno,hF,hA⟩
 obtain rfl : H1=X:=hX.symm
 simp only[Kn,and_true] at hA
 refine zS ?_
 refine V.l0 ?_
 refine zS ?_
 refine V.condP zP (fun hlt=>?_) (fun hlt=>?_)
 ·have hlt' : p<8:=by omega
  have ix:=n8_ix (f:=a) hlt' (k:=.i64)
  have ia:=idx_arr (i:=H.next+1) (o:=0) (kd:=.i64) hlt'
  have ib:=n8_get (f:=b) hlt'
  refine zS ?_
  have zf:=@ix
  refine V.lz ?_
  refine zS ?_
  have zf:=And.intro c1.2<|And.intro @ia<|@ib
  refine V.lz ?_
  refine zS ?_
  refine V.condP zP (fun hb=>?_) (fun hb=>?_)
  ·refine zS ?_
   refine V.l0 ?_
   refine zS ?_
   refine V.ret (V.rets rfl (Or.inr ⟨by simp,V.rets rfl (Lv.retF (by simp +contextual (disch:=first|omega|simp only[nx];omega) only[D1,cells_alloc_at,cells_alloc_ne,cells_set_at,cells_set_ne,yres,yres1,yresL,qA,qB,qC,D5,hF,hA,↓reduceIte,qD,qE];rfl) ?_)⟩))
   exact⟨g1,_,_,rfl,.inl ⟨p,hlt',hb,hno,rfl,rfl⟩⟩
  ·refine zS ?_
   refine V.l0 ?_
   refine V.nil (Or.inl ⟨rfl,8-(p+1),by omega,?_⟩)
   refine⟨p+1,hlt',rfl,rfl,rfl,fun i hi=>?_,zF,zK⟩
   rcases Nat.lt_succ_iff_lt_or_eq.1 hi with h|rfl
   ·exact hno i h
   ·exact hb
 ·obtain rfl : p=8:=by omega
  refine V.exit ?_
  refine zX ?_
  refine V.nil (Or.inr ⟨by simp,?_⟩)
  refine zX ?_
  refine zS ?_
  refine V.l0 ?_
  refine zS ?_
  refine V.ret (V.rets rfl (Lv.retF (by simp +contextual (disch:=first|omega|simp only[nx];omega) only[D1,cells_alloc_at,cells_alloc_ne,cells_set_at,cells_set_ne,yres,yres1,yresL,qA,qB,qC,D5,hF,hA,↓reduceIte,qD,qE];rfl) ?_))
  exact⟨g1,_,_,rfl,.inr ⟨hno,rfl,rfl⟩⟩
def ONE (m S : Int) (v : Nat→Int) (w : Value) : Prop:=∃ a b e,w=.tuple ⟨[.agg ⟨n8 a⟩,.agg ⟨n8 b⟩,I e]⟩∧((e=10∧¬ (sure m S v∧sure m (S+1) v))∨(e=0∧sure m S v∧sure m (S+1) v∧a=(otc m S v).1∧b=(otc m (S+1) v).1))
theorem f63_ok {H : Heap} {m S L : Int} {c v : Nat→Int} (hm : 1≤m∧m≤5) (hv : vok v) (hS : 0≤S∧S≤60) (hv8 : ∀ p,¬ p<8→v p=0) :
  F Try.prog 63 ⟨[.agg ⟨pc m S L c v (sm v 8) (dvf m) (clf m)⟩]⟩ H (fun w X=>Grow H X∧ONE m S v w):=by
 refine F.entryL rfl dg63 do63 de63 rfl (by kernel_rfl) ?_
 simp only[sets]
 refine V.re [(0,.agg ⟨pc m S L c v (sm v 8) (dvf m) (clf m)⟩)] (N:=29) zE zY ?_
 intro t hF hA
 simp only[Kn,and_true] at hA
 refine zS ?_
 refine V.l0 ?_
 refine V.heap (fun X=>Grow H X∧Bx X H.next (pc m S L c v (sm v 8) (dvf m) (clf m)) 83∧Bx X (H.next+1) (n8 fun _=>0) 78∧Bx X (H.next+2) (n8 fun _=>0) 78) ⟨?_,?_,?_,?_⟩ ?_
 ·exact zW
 ·exact zB
 ·rw[← n8_0];exact zB
 ·rw[← n8_0];exact zB
 rintro H1 ⟨g1,b1,c1,d1⟩
 obtain⟨r1,hr1⟩ : ∃ r,r=(if sure m S v then (otc m S v).1 else fun _=>0):=⟨_,rfl⟩
 have f56a:=fun X=>f56_ok (H:=X) (L:=L) (c:=c) hm hv (show 0≤S∧S≤61 by omega) hv8
 rw[← hr1] at f56a
 have n8a:=n8_set0 r1 (fun _=>0)
 have n1:=d1.1
 refine zS ?_
 refine V.run ?_
 have zf:=And.intro b1.2<|@PC
 refine VI.sz 1 ?_
 simp only[ds]
 refine VI.callA rfl (f56a H1) zA (fun H2 g2=>?_)
 have b2:=b1.grow g2
 have c2:=c1.grow g2
 have d2:=d1.grow g2
 have g12:=g1.trans g2
 have zf:=And.intro c2.2<|And.intro @n8_take<|And.intro @n8_len<|And.intro @n8_ok<|@n8a
 refine VI.lz ?_
 refine V.heap (fun X=>Grow H X∧Bx X H.next (pc m S L c v (sm v 8) (dvf m) (clf m)) 83∧Bx X (H.next+1) (n8 r1) 78∧Bx X (H.next+2) (n8 fun _=>0) 78) ⟨?_,?_,?_,?_⟩ ?_
 ·exact zW
 ·exact b2.set (by omega) _
 ·exact Bx.put c2.1 _ _
 ·exact d2.set (by omega) _
 rintro H3 ⟨g3,b3,c3,d3⟩
 refine zS ?_
 refine V.l0 ?_
 refine zS ?_
 by_cases hs1 : sure m S v
 ·have e0 : ((if sure m S v then (0 : Int) else 10)≠0)=False:=by rw[if_pos hs1];simp
  refine V.condP zP (fun ht=>?_) (fun ht=>?_)
  ·exact absurd ht (by rw[if_pos hs1];simp)
  obtain⟨r2,hr2⟩ : ∃ r,r=(if sure m (S+1) v then (otc m (S+1) v).1 else fun _=>0):=⟨_,rfl⟩
  have f56b:=fun X=>f56_ok (H:=X) (L:=L) (c:=c) (m:=m) (S:=S+1) hm hv (by omega) hv8
  rw[← hr2] at f56b
  have n8b:=n8_set0 r2 (fun _=>0)
  have n8c:=n8_set0 r1 r1
  have n8d:=n8_set0 r2 r2
  have ve1:=n8_vEq r1
  have ve2:=n8_vEq r2
  refine zS ?_
  have zf:=And.intro b3.2<|@PC
  refine V.lz ?_
  refine V.heap (fun X=>Grow H X∧Bx X H.next (pc m (S+1) L c v (sm v 8) (dvf m) (clf m)) 83∧Bx X (H.next+1) (n8 r1) 78∧Bx X (H.next+2) (n8 fun _=>0) 78) ⟨?_,?_,?_,?_⟩ ?_
  ·exact zW
  ·exact Bx.put b3.1 _ _
  ·exact c3.set (by omega) _
  ·exact d3.set (by omega) _
  rintro H4 ⟨g4,b4,c4,d4⟩
  refine zS ?_
  refine V.run ?_
  have zf:=And.intro b4.2<|@PC
  refine VI.sz 1 ?_
  simp only[ds]
  refine VI.callA rfl (f56b H4) zA (fun H5 g5=>?_)
  have c5:=c4.grow g5
  have d5:=d4.grow g5
  have g15:=g4.trans g5
  have zf:=And.intro d5.2<|And.intro @n8_take<|And.intro @n8_len<|And.intro @n8_ok<|@n8b
  refine VI.lz ?_
  refine V.heap (fun X=>Grow H X∧Bx X (H.next+1) (n8 r1) 78∧Bx X (H.next+2) (n8 r2) 78) ⟨?_,?_,?_⟩ ?_
  ·exact zW
  ·exact c5.set (by omega) _
  ·exact Bx.put d5.1 _ _
  rintro H6 ⟨g6,c6,d6⟩
  refine zS ?_
  have zf:=And.intro c6.2<|And.intro d6.2<|And.intro @n8_take<|And.intro @n8_len<|And.intro @n8_ok<|And.intro @n8c<|@n8d
  refine V.dz ?_ ?_ rfl ?_
  ·exact zM
  ·simp only[dcAll,dcOk,wantD,List.cons_append,List.nil_append,true_and,and_true]
   have zf:=And.intro c6.2<|And.intro d6.2<|And.intro @n8_take<|And.intro @n8_len<|And.intro @n8_ok<|And.intro @n8c<|@n8d
   exact zR
  refine zS ?_
  refine V.ret (V.rets rfl (Lv.retF (by simp +contextual (disch:=first|omega|simp only[nx];omega) only[D1,cells_alloc_at,cells_alloc_ne,cells_set_at,cells_set_ne,yres,yres1,yresL,qA,qB,qC,D5,hF,hA,↓reduceIte,qD,qE,n8_take,n8_len];rfl) ?_))
  refine⟨?_,r1,r2,(if sure m (S+1) v then 0 else 10),rfl,?_⟩
  ·exact (g6.set (by omega) _).set (by omega) _
  by_cases hs2 : sure m (S+1) v
  ·rw[if_pos hs2] at hr2 ⊢
   rw[if_pos hs1] at hr1
   exact .inr ⟨rfl,hs1,hs2,hr1,hr2⟩
  ·rw[if_neg hs2]
   exact .inl ⟨rfl,fun h=>hs2 h.2⟩
 ·refine V.condP zP (fun ht=>?_) (fun ht=>?_)
  ·have n8z:=n8_set0 (fun _=>0) r1
   have n8y:=n8_set0 (fun _=>0) (fun _=>0)
   refine zS ?_
   have zf:=And.intro c3.2<|And.intro d3.2<|And.intro @n8_take<|And.intro @n8_len<|And.intro @n8_ok<|And.intro @n8z<|And.intro @n8y<|@n8_0
   refine V.lz ?_
   refine zS ?_
   refine V.ret (V.rets rfl (Lv.retF (by simp +contextual (disch:=first|omega|simp only[nx];omega) only[D1,cells_alloc_at,cells_alloc_ne,cells_set_at,cells_set_ne,yres,yres1,yresL,qA,qB,qC,D5,hF,hA,↓reduceIte,qD,qE,n8_take,n8_len];rfl) ?_))
   refine⟨?_,_,_,10,by rw[if_neg hs1],.inl ⟨rfl,fun h=>hs1 h.1⟩⟩
   exact (g3.set (by omega) _).set (by omega) _
  ·exact absurd ht (by rw[if_neg hs1];simp)
end Go.Xe.TVX
