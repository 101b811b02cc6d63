/- What the functions of the layer flow come to: truths, and who survives. Conditions: none. -/
import Derived.Test.YtbbdafmehaohkaaTFZ
import Derived.Test.YtbbdafmehaohkaaZu
-- MOD TF
namespace Go.Xe.TFX
open Go Go.Xe Go.Proofs
open Nat renaming reduceLeDiff → qA, reduceSub → qB, reduceAdd → qC, reduceEqDiff → qD, reduceLT → qE
open Int renaming reduceNegSucc → qF, reduceEq → qG
open Go.Xe.V renaming seq → sA, block → sB, scope → sC, skip → sD, close → sE
open Go.Xe renaming pth → P
open Go.Xe.Flw
set_option maxRecDepth 100000
set_option maxHeartbeats 3200000
set_option linter.unusedSimpArgs false
noncomputable def d71 : FCode:=(.seq (.run (.go (.box 62 (tm 1)) (P 3)::
.go (.alloc 62 [(.int .i64 (.ofNat 0)),(.int .i64 (.ofNat 0))]) (P 4)::
[])) (.seq (.run (.go (.move (tm 0)) (P 5)::
.go (.fieldAddr 0 (tm 3)) (P 6)::
.go (.load1 (tm 6)) (P 7)::
.go (.bin .mul 3 (tm 5) (tm 7)) (P 8)::
.go (.bin .quo 3 (tm 8) (.con (.int .i64 (.ofNat 1000)))) (P 9)::
.go (.move (tm 0)) (P 10)::
.go (.fieldAddr 1 (tm 3)) (P 11)::
.go (.load1 (tm 11)) (P 12)::
.go (.bin .mul 3 (tm 10) (tm 12)) (P 13)::
.go (.bin .add 3 (tm 13) (.con (.int .i64 (.ofNat 999)))) (P 14)::
.go (.bin .quo 3 (tm 14) (.con (.int .i64 (.ofNat 1000)))) (P 15)::
.go (.build [(.int .i64 (.ofNat 0)),(.int .i64 (.ofNat 0))] [(0,1,(tm 9)),(1,1,(tm 15))]) (P 16)::
.un (.store 2 (tm 4) (tm 16))::
[])) .ret))
theorem de71 : @compF Try.prog (Gl.none Try.prog) Try.f71 2=.mk d71 (mkTT 17) [(P 0),(P 1)] [.many (P 4) 2]:=by kernel_rfl
theorem dg71 : Try.prog.funcs[71]?=some Try.f71:=Try.func71
theorem do71 : okF Try.prog Try.f71=true:=by kernel_rfl
noncomputable def d133 : FCode:=(.seq (.run (.go (.box 69 (tm 0)) (P 2)::
.go (.alloc 69 [(.int .i64 (.ofNat 0)),(.int .i64 (.ofNat 0))]) (P 4)::
[])) (.seq (.run (.go (.move (tm 1)) (P 5)::
.go (.fieldAddr 0 (tm 2)) (P 6)::
.go (.load1 (tm 6)) (P 7)::
.go (.bin .mul 3 (tm 5) (tm 7)) (P 8)::
.go (.bin .quo 3 (tm 8) (.con (.int .i64 (.ofNat 1000)))) (P 9)::
.go (.move (tm 1)) (P 10)::
.go (.fieldAddr 1 (tm 2)) (P 11)::
.go (.load1 (tm 11)) (P 12)::
.go (.bin .mul 3 (tm 10) (tm 12)) (P 13)::
.go (.bin .add 3 (tm 13) (.con (.int .i64 (.ofNat 1000)))) (P 14)::
.go (.bin .sub 3 (tm 14) (.con (.int .i64 (.ofNat 1)))) (P 15)::
.go (.bin .quo 3 (tm 15) (.con (.int .i64 (.ofNat 1000)))) (P 16)::
.go (.build [(.int .i64 (.ofNat 0)),(.int .i64 (.ofNat 0))] [(0,1,(tm 9)),(1,1,(tm 16))]) (P 17)::
.un (.store 2 (tm 4) (tm 17))::
[])) .ret))
theorem de133 : @compF Try.prog (Gl.none Try.prog) Try.f133 2=.mk d133 (mkTT 18) [(P 0),(P 1)] [.many (P 4) 2]:=by kernel_rfl
theorem dg133 : Try.prog.funcs[133]?=some Try.f133:=Try.func133
theorem do133 : okF Try.prog Try.f133=true:=by kernel_rfl
abbrev W (x : Int) : Int:=IntKind.i64.wrap x
theorem wrap_i (x : Int) : IntKind.i64.wrap x=(x+9223372036854775808)%18446744073709551616-9223372036854775808:=by
 unfold IntKind.wrap
 have e1 : (2 ^ IntKind.i64.bits : Int)=18446744073709551616:=by decide
 have e2 : IntKind.i64.signed=true:=rfl
 have e3 : (2 ^ (IntKind.i64.bits-1) : Int)=9223372036854775808:=by decide
 simp only[e1,e2,e3,Bool.true_and]
 split
 ·rename_i h
  simp only[decide_eq_true_eq] at h
  omega
 ·rename_i h
  simp only[decide_eq_true_eq] at h
  omega
def dd (n : Int) (r : R2) : R2:=(W ((W (n*r.1)).tdiv 1000),W ((W (W (n*r.2)+999)).tdiv 1000))
theorem f71_ok (n : Int) (r : R2) (H : Heap) : Gives Try.prog 71 [I n,.agg ⟨r2 r⟩] H (.agg ⟨r2 (dd n r)⟩):=by
 obtain⟨x,y⟩:=r
 refine F.entryL rfl dg71 do71 de71 rfl (by kernel_rfl) ?_
 simp only[sets]
 refine V.re [(0,I n),(1,.agg ⟨A2 x y⟩)] (N:=17) zE zY ?_
 intro t hF hA
 simp only[Kn,and_true] at hA
 refine zS ?_
 refine V.l0 ?_
 refine zS ?_
 refine V.l0 ?_
 refine zS ?_
 refine V.ret (V.rets rfl (Lv.retG (by simp +contextual (disch:=first|omega|simp only[nx];omega) only[D1,cells_alloc_at,cells_alloc_ne,cells_set_at,cells_set_ne,yres,yres1,yresL,qA,qB,qC,D5,hF,hA,↓reduceIte,qD,qE];rfl) ?_ ?_))
 ·exact zW
 ·rfl
theorem f133_ok (n : Int) (r : R2) (H : Heap) : Gives Try.prog 133 [.agg ⟨r2 r⟩,I n] H (.agg ⟨r2 (dd n r)⟩):=by
 obtain⟨x,y⟩:=r
 have e : IntKind.i64.wrap (IntKind.i64.wrap (IntKind.i64.wrap (n*y)+1000)-1)=IntKind.i64.wrap (IntKind.i64.wrap (n*y)+999):=by
  simp only[wrap_i];omega
 refine F.entryL rfl dg133 do133 de133 rfl (by kernel_rfl) ?_
 simp only[sets]
 refine V.re [(0,.agg ⟨A2 x y⟩),(1,I n)] (N:=18) zE zY ?_
 intro t hF hA
 simp only[Kn,and_true] at hA
 refine zS ?_
 refine V.l0 ?_
 refine zS ?_
 have zf:=@e
 refine V.lz ?_
 refine zS ?_
 refine V.ret (V.rets rfl (Lv.retG (by simp +contextual (disch:=first|omega|simp only[nx];omega) only[D1,cells_alloc_at,cells_alloc_ne,cells_set_at,cells_set_ne,yres,yres1,yresL,qA,qB,qC,D5,hF,hA,↓reduceIte,qD,qE];rfl) ?_ ?_))
 ·exact zW
 ·rfl
def RI (H : Heap) (x : Value) (l : List Int) : Prop:=Sl H x (l.map I)
theorem ri : RP RI:=RP.ofSl _
theorem RI.len {H : Heap} {x : Value} {l : List Int} (h : RI H x l) (X : Heap) : ylen 0 X x=some (I l.length):=by
 have:=Sl.len h
 rw[List.length_map] at this
 obtain⟨p,n,c,rfl⟩:=ri.sl h
 exact this
theorem RI.at {H : Heap} {x : Value} {l : List Int} (h : RI H x l) {k : Nat} (hk : k<l.length) : ∃ p,yindexAddr none 1 x (I k)=some p∧∀ H',Grow H H'→yload1 H' p=some (I l[k]):=
 Sl.get h (k:=k) (x:=I l[k]) (by simp[hk]) rfl
structure Tr where
 F : List Int
 B : List Int
 D : List (List Int)
 M : List (List Int)
structure XV (H : Heap) (f b d m : Value) (X : Tr) : Prop where
 f : RI H f X.F
 b : RI H b X.B
 d : Nest RI H d X.D
 m : Nest RI H m X.M
theorem XV.grow {A B : Heap} (g : Grow A B) {f b d m : Value} {X : Tr} (h : XV A f b d m X) : XV B f b d m X:=⟨ri.grow g h.f,ri.grow g h.b,h.d.grow ri g,h.m.grow ri g⟩
def alI (rs : List R2) (ns : List Int) : Prop:=rs.length=ns.length∧∀ p∈rs.zip ns,p.1.1≤p.2∧p.2≤p.1.2
instance (rs : List R2) (ns : List Int) : Decidable (alI rs ns):=by unfold alI;infer_instance
theorem tk1 {α : Type} {l : List α} {k : Nat} (h : k<l.length) : l.take (k+1)=l.take k++[l[k]]:=List.take_succ_eq_append_getElem h
def okFs (l : List Int) : Prop:=∀ n∈l,0≤n∧n≤500
def okD (k : Nat) (L : List (List Int)) : Prop:=∀ row∈L,row.length=k
def okM (rs : List R2) (L : List (List Int)) : Prop:=∀ row∈L,alI rs row
instance okFsd (l : List Int) : Decidable (okFs l):=inferInstanceAs (Decidable (∀ n∈l,0≤n∧n≤500))
instance okDd (k : Nat) (L : List (List Int)) : Decidable (okD k L):=inferInstanceAs (Decidable (∀ row∈L,row.length=k))
instance okMd (rs : List R2) (L : List (List Int)) : Decidable (okM rs L):=inferInstanceAs (Decidable (∀ row∈L,alI rs row))
def hld (T : Tb) (X : Tr) : Prop:=X.F.length=grp T∧okFs X.F∧alI T.B X.B∧X.D.length=T.B.length∧okD T.Rt.length X.D∧X.M.length=T.B.length∧okM T.N X.M
instance (T : Tb) (X : Tr) : Decidable (hld T X):=by unfold hld;infer_instance
end Go.Xe.TFX
/- What the functions of the layer flow come to: whether a truth is one of a table; lists that are copied. Conditions: none. -/
-- MOD TF
namespace Go.Xe.TFX
open Go Go.Xe Go.Proofs
open Nat renaming reduceLeDiff → qA, reduceSub → qB, reduceAdd → qC, reduceEqDiff → qD, reduceLT → qE
open Int renaming reduceNegSucc → qF, reduceEq → qG
open Go.Xe.V renaming seq → sA, block → sB, scope → sC, skip → sD, close → sE
open Go.Xe renaming pth → P
open Go.Xe.Flw
set_option maxRecDepth 100000
set_option maxHeartbeats 3200000
set_option linter.unusedSimpArgs false
theorem ow_ri {H0 H : Heap} {e : TypeId} {v : Value} {l : List Int} (h : Ow H0 H e v (l.map I)) : RI H v l:=h.sl
end Go.Xe.TFX
/- What the functions of the layer flow come to: from census to census. Conditions: none. -/
-- MOD TF
namespace Go.Xe.TFX
open Go Go.Xe Go.Proofs
open Nat renaming reduceLeDiff → qA, reduceSub → qB, reduceAdd → qC, reduceEqDiff → qD, reduceLT → qE
open Int renaming reduceNegSucc → qF, reduceEq → qG
open Go.Xe.V renaming seq → sA, block → sB, scope → sC, skip → sD, close → sE
open Go.Xe renaming pth → P
open Go.Xe.Flw
set_option maxRecDepth 100000
set_option maxHeartbeats 3200000
set_option linter.unusedSimpArgs false
def cd (rs : List R2) (bs es : List Int) : Prop:=∀ q∈rs.zip (bs.zip es),(dd q.2.1 q.1).1≤q.2.2∧q.2.2≤(dd q.2.1 q.1).2
instance (rs : List R2) (bs es : List Int) : Decidable (cd rs bs es):=by unfold cd;infer_instance
def nxk (be de mo : List Int) : Nat→List Int
 | 0=>mo
 | k+1=>(nxk be de mo k).set (min k (mo.length-1)) (W ((nxk be de mo k).getD (min k (mo.length-1)) 0+W (be.getD k 0-de.getD k 0)))
def nxt (be de mo : List Int) : List Int:=nxk be de mo be.length
theorem nxk_len (be de mo : List Int) : ∀ k,(nxk be de mo k).length=mo.length
 | 0=>rfl
 | k+1=>by simp only[nxk,List.length_set,nxk_len be de mo k]
theorem own_idx {y n c g : Nat} (h : g<n) : yindexAddr none 1 (.slice (some ⟨y,0,none⟩) n c) (I (g : Nat))=some (.pointer (some ⟨y,g,none⟩)):=by
 simp only[yindexAddr]
 rw[if_pos ⟨by omega,by omega⟩]
 simp
theorem getD_at {l : List Int} {k : Nat} (h : k<l.length) : l.getD k 0=l[k]:=by simp[h]
end Go.Xe.TFX
/- What the functions of the layer flow come to: the sizes to which a truth leads. Conditions: none. -/
-- MOD TF
namespace Go.Xe.TFX
open Go Go.Xe Go.Proofs
open Nat renaming reduceLeDiff → qA, reduceSub → qB, reduceAdd → qC, reduceEqDiff → qD, reduceLT → qE
open Int renaming reduceNegSucc → qF, reduceEq → qG
open Go.Xe.V renaming seq → sA, block → sB, scope → sC, skip → sD, close → sE
open Go.Xe renaming pth → P
open Go.Xe.Flw
set_option maxRecDepth 100000
set_option maxHeartbeats 3200000
set_option linter.unusedSimpArgs false
def rw (X : Tr) : Nat→List Int
 | 0=>X.F
 | k+1=>nxt (X.B.getD k 0::rw X k) (X.D.getD k []) (X.M.getD k [])
def cn (T : Tb) (X : Tr) : Nat→Prop
 | 0=>True
 | k+1=>(cn T X k∧cd T.Rt (X.B.getD k 0::rw X k) (X.D.getD k []))∧∀ n∈rw X (k+1),0≤n
instance cnd (T : Tb) (X : Tr) : ∀ k,Decidable (cn T X k)
 | 0=>inferInstanceAs (Decidable True)
 | k+1=>by
  have:=cnd T X k
  unfold cn
  infer_instance
def szs (X : Tr) (k : Nat) : List (List Int):=(List.range k).map (rw X)
theorem szs_s (X : Tr) (k : Nat) : szs X (k+1)=szs X k++[rw X k]:=by unfold szs;rw[List.range_succ,List.map_append];rfl
theorem szs_len (X : Tr) (k : Nat) : (szs X k).length=k:=by simp[szs]
theorem getD_nest {L : List (List Int)} {k : Nat} (h : k<L.length) : L.getD k []=L[k]:=by simp[h]
theorem rw_len {T : Tb} {X : Tr} (hv : val T) (hh : hld T X) : ∀ k,k≤T.B.length→(rw X k).length=grp T
 | 0,_=>hh.1
 | k+1,hk=>by
  obtain⟨q1,q2,q3,q4,q5,q6,q7⟩:=hh
  have hm : k<X.M.length:=by omega
  simp only[rw,nxt]
  rw[nxk_len,getD_nest hm,← (q7 _ (List.getElem_mem hm)).1]
  exact hv.2.2.2.1
end Go.Xe.TFX
/- What the functions of the layer flow come to: Play and ProveTruth. Conditions: none. -/
-- MOD TF
namespace Go.Xe.TFX
open Go Go.Xe Go.Proofs
open Nat renaming reduceLeDiff → qA, reduceSub → qB, reduceAdd → qC, reduceEqDiff → qD, reduceLT → qE
open Int renaming reduceNegSucc → qF, reduceEq → qG
open Go.Xe.V renaming seq → sA, block → sB, scope → sC, skip → sD, close → sE
open Go.Xe renaming pth → P
open Go.Xe.Flw
set_option maxRecDepth 100000
set_option maxHeartbeats 3200000
set_option linter.unusedSimpArgs false
def ags (C : List (List R2)) (S : List (List Int)) : Prop:=∀ p∈C.zip S,alI p.1 p.2
instance (C : List (List R2)) (S : List (List Int)) : Decidable (ags C S):=by unfold ags;infer_instance
theorem flt_0 {T : Tb} : flt T=0↔fit T∧val T:=by
 unfold flt
 by_cases h : fit T
 ·rw[if_neg (not_not_intro h)]
  by_cases hv : val T
  ·rw[if_neg (not_not_intro hv)];simp[h,hv]
  ·rw[if_pos hv];simp[hv]
 ·rw[if_pos h];simp[h]
def prv (T : Tb) (X : Tr) : Prop:=flt T=0∧hld T X∧cn T X T.B.length∧ags T.C (szs X (T.B.length+1))
instance (T : Tb) (X : Tr) : Decidable (prv T X):=by unfold prv;infer_instance
end Go.Xe.TFX
/- What the functions of the layer flow come to: lists that are compared. Conditions: none. -/
-- MOD TF
namespace Go.Xe.TFX
open Go Go.Xe Go.Proofs
open Nat renaming reduceLeDiff → qA, reduceSub → qB, reduceAdd → qC, reduceEqDiff → qD, reduceLT → qE
open Int renaming reduceNegSucc → qF, reduceEq → qG
open Go.Xe.V renaming seq → sA, block → sB, scope → sC, skip → sD, close → sE
open Go.Xe renaming pth → P
open Go.Xe.Flw
set_option maxRecDepth 100000
set_option maxHeartbeats 3200000
set_option linter.unusedSimpArgs false
def small (X : Tr) : Prop:=((∀ row∈X.D.take 8,row.length≤7)∧∀ row∈X.M.take 8,row.length≤7)∧X.F.length≤7∧X.B.length≤7∧X.D.length≤7∧X.M.length≤7
instance (X : Tr) : Decidable (small X):=by unfold small;infer_instance
end Go.Xe.TFX
/- What the functions of the layer flow come to: truths and counts, as the statements have them. Conditions: none. -/
-- MOD TF
namespace Go.Xe.TFX
open Go Go.Xe Go.Proofs
open Nat renaming reduceLeDiff → qA, reduceSub → qB, reduceAdd → qC, reduceEqDiff → qD, reduceLT → qE
open Int renaming reduceNegSucc → qF, reduceEq → qG
open Go.Xe.V renaming seq → sA, block → sB, scope → sC, skip → sD, close → sE
open Go.Xe renaming pth → P
open Go.Xe.Flw
set_option maxRecDepth 100000
set_option maxHeartbeats 6400000
set_option linter.unusedSimpArgs false
theorem idx_arr4 {len o i k : Nat} {kd : IntKind} (h : k<len) : yindexAddr (some len) 4 (.pointer (some ⟨i,o,none⟩)) (.int kd (k : Int))=some (.pointer (some ⟨i,o+k*4,none⟩)):=by
 simp only[yindexAddr]
 rw[if_pos ⟨by omega,by omega⟩]
 simp
end Go.Xe.TFX
/- Rules of reasoning over the executable reading of the model's code (part Z24): maps as functions of their keys. Conditions: none; for every program. -/
namespace Go.Xe
open Go
variable {α : Type} [DecidableEq α]
structure KeyOk (P : Program) (kt : TypeId) (ke : α→Value) (D : α→Prop) : Prop where
 keyed : keyedB P kt=true
 keyish : ∀ a,keyishV (ke a)=true
 keyOf : ∀ a,D a→(keyOf P kt (ke a)).isSome=true
 eq : ∀ a b,valEq (ke a) (ke b)=decide (a=b)
def lookE (k : Value) : List MapEntry→Option Value
 | []=>none
 | e::es=>if valEq k e.key then some e.val else lookE k es
theorem xfind_look {k : Value} : ∀ (es : List MapEntry) (n : Nat),(xfind k es n=none∧lookE k es=none)∨∃ x e,xfind k es n=some (n+x)∧es[x]?=some e∧lookE k es=some e.val
 | [],_=>.inl ⟨rfl,rfl⟩
 | e::es,n=>by
  simp only[xfind,lookE]
  by_cases h : valEq k e.key=true
  ·rw[if_pos h,if_pos h]
   exact .inr ⟨0,e,rfl,rfl,rfl⟩
  ·rw[if_neg h,if_neg h]
   rcases xfind_look es (n+1) with⟨h1,h2⟩|⟨x,e',h1,h2,h3⟩
   ·exact .inl ⟨h1,h2⟩
   ·exact .inr ⟨x+1,e',by rw[h1];congr 1;omega,by simpa using h2,h3⟩
theorem look_push {k : Value} {e : MapEntry} : ∀ (es : List MapEntry),lookE k (es++[e])=match lookE k es with
  | some v=>some v
  | none=>if valEq k e.key then some e.val else none
 | []=>by simp only[List.nil_append,lookE]
 | e'::es=>by
  simp only[List.cons_append,lookE]
  by_cases h : valEq k e'.key=true
  ·rw[if_pos h,if_pos h]
  ·rw[if_neg h,if_neg h,look_push es]
theorem look_modify {P : Program} {kt : TypeId} {ke : α→Value} {D : α→Prop} (hk : KeyOk P kt ke D) {a : α} {v : Value} : ∀ (es : List MapEntry) (n x : Nat),(∀ e∈es,∃ c,e.key=ke c)→xfind (ke a) es n=some (n+x)→∀ b,lookE (ke b) (es.modify x fun e=>{ e with key:=ke a,val:=v })=if b=a then some v else lookE (ke b) es
 | [],n,x,_,h,_=>by simp[xfind] at h
 | e::es,n,x,hes,h,b=>by
  obtain⟨c,hc⟩:=hes e (by simp)
  simp only[xfind] at h
  by_cases he : valEq (ke a) e.key=true
  ·rw[if_pos he] at h
   have hx : x=0:=by simp only[Option.some.injEq] at h;omega
   subst hx
   rw[hc,hk.eq,decide_eq_true_eq] at he
   subst he
   simp only[List.modify_zero_cons,lookE,hc,hk.eq,decide_eq_true_eq]
   by_cases hb : b=a
   ·rw[if_pos hb,if_pos hb]
   ·rw[if_neg hb,if_neg hb,if_neg hb]
  ·rw[if_neg he] at h
   obtain⟨x',rfl⟩ : ∃ x',x=x'+1:=by
    rcases xfind_look (k:=ke a) es (n+1) with⟨h1,_⟩|⟨y,_,h1,_⟩
    ·rw[h1] at h;cases h
    ·rw[h1] at h
     simp only[Option.some.injEq] at h
     exact⟨y,by omega⟩
   have h' : xfind (ke a) es (n+1)=some (n+1+x'):=by rw[h];congr 1;omega
   have ih:=look_modify hk (v:=v) es (n+1) x' (fun e he=>hes e (by simp[he])) h' b
   rw[hc,hk.eq,decide_eq_true_eq] at he
   simp only[List.modify_succ_cons,lookE,hc,hk.eq,decide_eq_true_eq]
   by_cases hb : b=c
   ·rw[if_pos hb,if_pos hb,if_neg (fun h=>he (by rw[← h,hb]))]
   ·rw[if_neg hb,if_neg hb,ih]
def MpF (H : Heap) (i : Nat) (kt : TypeId) (ke : α→Value) (f : α→Option Value) : Prop:=∃ es,Mp H i kt es∧(∀ e∈es,∃ c,e.key=ke c)∧∀ a,lookE (ke a) es=f a
omit [DecidableEq α] in
theorem MpF.lt {H : Heap} {i : Nat} {kt : TypeId} {ke : α→Value} {f : α→Option Value} (h : MpF H i kt ke f) : i<H.next:=by
 obtain⟨es,h1,_⟩:=h
 exact h1.1
omit [DecidableEq α] in
theorem MpF.grow {A B : Heap} (g : Grow A B) {i : Nat} {kt : TypeId} {ke : α→Value} {f : α→Option Value} (h : MpF A i kt ke f) : MpF B i kt ke f:=by
 obtain⟨es,h1,h2⟩:=h
 exact⟨es,h1.grow g,h2⟩
omit [DecidableEq α] in
theorem MpF.loc {A B : Heap} {i : Nat} {kt : TypeId} {ke : α→Value} {f : α→Option Value} (h : MpF A i kt ke f) (hn : A.next≤B.next) (hg : B.get i=A.get i) : MpF B i kt ke f:=by
 obtain⟨es,⟨h1,clk,h2⟩,h3⟩:=h
 refine⟨es,⟨Nat.lt_of_lt_of_le h1 hn,clk,?_⟩,h3⟩
 unfold Heap.mapAt at h2 ⊢
 rw[hg];exact h2
omit [DecidableEq α] in
theorem MpF.new (A : Heap) (kt : TypeId) (ke : α→Value) : MpF (A.alloc (.map kt #[] 0)) A.next kt ke (fun _=>none):=
 ⟨[],⟨Nat.lt_succ_self _,0,maps_alloc A kt #[] 0⟩,fun e he=>by simp at he,fun _=>rfl⟩
theorem MpF.look {P : Program} {H : Heap} {i : Nat} {kt : TypeId} {ke : α→Value} {D : α→Prop} {f : α→Option Value} (hk : KeyOk P kt ke D) (h : MpF H i kt ke f) {a : α} (ha : D a) (z : Value) : ylookup P kt z H (.map (some i)) (ke a) false=some ((f a).getD z):=by
 obtain⟨es,⟨h1,clk,h2⟩,h3,h4⟩:=h
 simp only[ylookup,h2]
 rw[if_pos ⟨trivial,hk.keyed,hk.keyish a,hk.keyOf a ha⟩,← h4 a]
 rcases xfind_look (k:=ke a) es 0 with⟨k1,k2⟩|⟨x,e,k1,k2,k3⟩
 ·rw[k1,k2];rfl
 ·rw[k1,k3]
  have e1 : (⟨es⟩ : Array MapEntry)[0+x]?=some e:=by rw[Nat.zero_add];simpa using k2
  simp only[e1]
  rfl
theorem MpF.upd {P : Program} {H : Heap} {i : Nat} {kt : TypeId} {ke : α→Value} {D : α→Prop} {f : α→Option Value} (hk : KeyOk P kt ke D) (h : MpF H i kt ke f) {a : α} (ha : D a) (v : Value) :
  ∃ o,ymapUpdate P kt H (.map (some i)) (ke a) v=some (H.set i o)∧MpF (H.set i o) i kt ke (fun b=>if b=a then some v else f b):=by
 obtain⟨es,⟨h1,clk,h2⟩,h3,h4⟩:=h
 rcases xfind_look (k:=ke a) es 0 with⟨k1,k2⟩|⟨x,e,k1,k2,k3⟩
 ·refine⟨.map kt ((⟨es⟩ : Array MapEntry).push { key:=ke a,val:=v,born:=clk }) (clk+1),upd_miss h2 hk.keyed (hk.keyish a) (hk.keyOf a ha) k1,es++[{ key:=ke a,val:=v,born:=clk }],⟨h1,clk+1,?_⟩,?_,?_⟩
  ·have:=maps_set H i kt ((⟨es⟩ : Array MapEntry).push { key:=ke a,val:=v,born:=clk }) (clk+1)
   simpa using this
  ·intro e he
   rcases List.mem_append.1 he with he|he
   ·exact h3 e he
   ·rw[List.mem_singleton.1 he];exact⟨a,rfl⟩
  ·intro b
   rw[look_push,h4 b,hk.eq]
   by_cases hb : b=a
   ·subst hb
    rw[← h4 b,k2];simp
   ·simp only[decide_eq_true_eq,if_neg hb]
    cases f b<;>rfl
 ·refine⟨.map kt ((⟨es⟩ : Array MapEntry).modify (0+x) fun e=>{ e with key:=ke a,val:=v }) clk,?_,es.modify x (fun e=>{ e with key:=ke a,val:=v }),⟨h1,clk,?_⟩,?_,?_⟩
  ·simp only[ymapUpdate,h2]
   rw[if_pos ⟨trivial,hk.keyed,hk.keyish a,hk.keyOf a ha⟩,k1]
  ·have:=maps_set H i kt ((⟨es⟩ : Array MapEntry).modify (0+x) fun e=>{ e with key:=ke a,val:=v }) clk
   have e2 : ((⟨es⟩ : Array MapEntry).modify (0+x) fun e=>{ e with key:=ke a,val:=v })=⟨es.modify x fun e=>{ e with key:=ke a,val:=v }⟩:=by
    apply Array.toList_inj.1
    simp
   rw[this,e2]
  ·intro e he
   obtain⟨j,hj,rfl⟩:=List.mem_iff_getElem.1 he
   rw[List.getElem_modify]
   split
   ·exact⟨a,rfl⟩
   ·exact h3 _ (List.getElem_mem _)
  ·intro b
   rw[look_modify hk es 0 x h3 k1 b,h4 b]
end Go.Xe
