/- What the functions of the layer border come to: shares of the streets. Conditions: none. -/
import Derived.Test.YtgcdbdcnlhonfaaTCF
-- MOD TB
namespace Go.Xe.TBX
open Go Go.Xe Go.Proofs
open Nat renaming reduceLeDiff → qA, reduceSub → qB, reduceAdd → qC, reduceEqDiff → qD, reduceLT → qE
open Int renaming reduceNegSucc → qF, reduceEq → qG
open Go.Xe.V renaming seq → sA, block → sB, scope → sC, skip → sD, close → sE
open Go.Xe renaming pth → P
open Go.Xe.Rnd
open Go.Xe.Sea (adl adl_1 adl_at mem_adl pix pix_at pix_adl adl_len)
set_option maxRecDepth 100000
set_option maxHeartbeats 3200000
set_option linter.unusedSimpArgs false
theorem mk_row (H : Heap) (g : Nat) (hg : g≤1048576) : ymakeSlice 3 8 [I 0] H (I g) (I g)=some (.slice (some ⟨H.next,0,none⟩) g g,H.alloc (.cells ⟨Li (fl g fun _=>0)⟩ 3 true)):=by
 have e48 : (2 : Nat) ^ 48=281474976710656:=by decide
 have ez : zeros ⟨[I 0]⟩ ((g : Int).toNat*[I 0].length)=⟨Li (fl g fun _=>0)⟩:=by
  apply Array.toList_inj.1
  simp only[zeros,Array.toList_map,Array.toList_range,Li,fl,List.map_map,List.length_cons,List.length_nil]
  apply List.ext_getElem
  ·simp
  ·intro j h1 h2
   simp[Nat.mod_one]
 simp only[ymakeSlice]
 rw[if_pos ⟨by omega,by omega,by omega,by omega⟩,ez]
 simp[Li_len,fl_len]
theorem inb_fl (n m : Nat) (f : Nat→Int) : (Li (fl n f)).all (inBound m 2)=true:=by
 simp[Li,fl,inBound]
theorem fl_set {n p : Nat} {g : Nat→Int} {b : Int} : (Li (fl n g)).set p (I b)=Li (fl n fun q=>if q=p then b else g q):=by
 rw[Li_set]
 congr 1
 apply List.ext_getElem
 ·rw[List.length_set,fl_len,fl_len]
 ·intro i h1 h2
  rw[List.getElem_set,fl_at]
  split
  ·rename_i e;rw[fl_at,if_pos e.symm]
  ·rename_i e;rw[fl_at,if_neg (fun k=>e k.symm)]
theorem fl_get {n p : Nat} {g : Nat→Int} (h : p<n) : (Li (fl n g))[p]?=some (I (g p)):=by
 rw[Li_at (by rw[fl_len];exact h),fl_at]
theorem fl_cong {n : Nat} {f g : Nat→Int} (h : ∀ i,i<n→f i=g i) : fl n f=fl n g:=List.map_congr_left fun i hi=>h i (List.mem_range.1 hi)
theorem Li_fl_len (n : Nat) (f : Nat→Int) : (Li (fl n f)).length=n:=by rw[Li_len,fl_len]
def wF (M : BM) : Nat→Int:=fun i=>match M.S[i]? with
 | some s=>s.w
 | none=>0
theorem wF_at {M : BM} {i : Nat} (h : i<M.S.length) : wF M i=M.S[i].w:=by unfold wF;rw[List.getElem?_eq_getElem h]
def vd (M : BM) (d : Nat) : Nat→Int:=ind M.S.length (oldF M) (d : Int)
theorem vd_pos {M : BM} {d i : Nat} : 0<vd M d i↔i<M.S.length∧oldF M i=d:=ind_pos
def wsl (M : BM) (d : Nat) (k : Nat) : List Int:=((adl (vd M d) 8).take k).map (wF M)
theorem wsl_1 {M : BM} {d k : Nat} (h : k<(adl (vd M d) 8).length) : wsl M d (k+1)=wsl M d k++[wF M (pix (vd M d) k)]:=by
 unfold wsl
 rw[tk1 h,(pix_at h).1]
 simp
def wsa (M : BM) (d : Nat) : List Int:=(adl (vd M d) 8).map (wF M)
theorem wsl_end {M : BM} {d : Nat} : wsl M d (adl (vd M d) 8).length=wsa M d:=by unfold wsl wsa;rw[List.take_length]
theorem wsa_len {M : BM} {d : Nat} : (wsa M d).length=(adl (vd M d) 8).length:=by unfold wsa;rw[List.length_map]
theorem adl_8 {M : BM} {d : Nat} (h8 : M.S.length≤8) : adl (vd M d) 8=adl (vd M d) M.S.length:=
 adl_end (fun p hp hh=>by have:=(vd_pos.1 hh).1;omega) 8 h8
theorem wsa_sm {M : BM} {d : Nat} (h8 : M.S.length≤8) : sm (wsa M d)=so (·.w) (d : Int) M.S:=by
 have : ∀ k,k≤M.S.length→sm ((adl (vd M d) k).map (wF M))=so (·.w) (d : Int) (M.S.take k):=by
  intro k
  induction k with
  | zero=>intro _;rfl
  | succ k ih=>
   intro hk
   have hk' : k<M.S.length:=by omega
   have e:=ih (by omega)
   rw[so_take hk',adl_1]
   by_cases h : M.S[k].old=d
   ·rw[if_pos (vd_pos.2 ⟨hk',by rw[oldF_at hk'];exact h⟩),if_pos h,List.map_append,sm_app,e]
    simp[sm,wF_at hk']
   ·rw[if_neg (fun hh=>h (by rw[← oldF_at hk'];exact (vd_pos.1 hh).2)),if_neg h,e];omega
 unfold wsa
 rw[adl_8 h8,this _ (Nat.le_refl _),List.take_length]
def dsh (M : BM) (d : Nat) : List Int:=dv (wsa M d) (M.O.getD d 0)
def shr (M : BM) (i : Nat) : Int:=(dsh M (oldF M i).toNat).getD (adl (vd M (oldF M i).toNat) i).length 0
structure VM (M : BM) : Prop where
 o4 : M.O.length≤4
 s8 : M.S.length≤8
 j20 : M.J.length≤20
 o : ∀ v∈M.O,0≤v∧v≤10000
 n : 1≤M.N∧M.N≤4
 s0 : 0<M.S.length
 s : ∀ s∈M.S,sok M s
 j : ∀ r∈M.J,jok M r
 w : ∀ d,d<M.O.length→0<so (·.w) (d : Int) M.S
theorem VM.of {M : BM} (hf : fits M) (hv : vld M) : VM M:=by
 obtain⟨a,b,c⟩:=hf
 obtain⟨v1,v2,v3,v4,v5,v6,v7⟩:=hv
 refine⟨by omega,by omega,by omega,v2,v3,by omega,v5,v6,fun d hd=>?_⟩
 exact v7 _ (List.mem_map.2 ⟨d,List.mem_range.2 hd,rfl⟩)
section
variable {M : BM} (V : VM M)
include V
theorem VM.old {i : Nat} (h : i<M.S.length) : 0≤oldF M i∧oldF M i<M.O.length:=by
 have:=(V.s _ (List.getElem_mem h)).1
 rw[oldF_at h]
 omega
theorem VM.new {i : Nat} (h : i<M.S.length) : 0≤newF M i∧newF M i<M.N:=by
 have:=(V.s _ (List.getElem_mem h)).2.1
 rw[newF_at h]
 omega
theorem VM.wt {i : Nat} (h : i<M.S.length) : 0≤wF M i∧wF M i≤1000:=by
 have:=(V.s _ (List.getElem_mem h)).2.2.1
 rw[wF_at h]
 omega
theorem VM.wb {d : Nat} : ∀ v∈wsa M d,0≤v∧v≤10000:=by
 intro v hv
 obtain⟨p,hp,rfl⟩:=List.mem_map.1 hv
 have:=V.wt (vd_pos.1 (mem_adl.1 hp).2).1
 omega
omit V in
theorem VM.wl {d : Nat} : (wsa M d).length≤8:=by
 rw[wsa_len]
 exact adl_len 8
theorem VM.ot {d : Nat} (hd : d<M.O.length) : M.O.getD d 0=M.O[d]∧0≤M.O[d]∧M.O[d]≤10000:=by
 have:=V.o _ (List.getElem_mem hd)
 refine⟨by simp[hd],this⟩
theorem VM.sp {d : Nat} (hd : d<M.O.length) : 0<sm (wsa M d):=by
 rw[wsa_sm V.s8]
 exact V.w d hd
theorem VM.de0 {d : Nat} (hd : d<M.O.length) : de (wsa M d) M.O[d]=0:=by
 have:=VM.wl (M:=M) (d:=d)
 have:=V.ot hd
 exact de_0.2 ⟨by omega,V.wb,by omega,V.sp hd⟩
theorem VM.dshE {d : Nat} (hd : d<M.O.length) : dv (wsa M d) M.O[d]=dsh M d:=by unfold dsh;rw[(V.ot hd).1]
theorem VM.dsh_len {d : Nat} (hd : d<M.O.length) : (dsh M d).length=(adl (vd M d) 8).length:=by
 have h:=V.ot hd
 unfold dsh
 rw[h.1,(dv_shares h.2.1 (fun w hw=>(V.wb w hw).1) (V.sp hd)).1,wsa_len]
theorem VM.dsh_bd {d : Nat} (hd : d<M.O.length) : ∀ x∈dsh M d,0≤x∧x≤10000:=by
 have h:=V.ot hd
 intro x hx
 unfold dsh at hx
 rw[h.1] at hx
 have:=(dv_shares h.2.1 (fun w hw=>(V.wb w hw).1) (V.sp hd)).2.2.1 x hx
 omega
theorem VM.lst {d i : Nat} (h : i<M.S.length) (e : oldF M i=d) : (adl (vd M d) i).length<(adl (vd M d) 8).length:=by
 have:=adl_at (v:=vd M d) (p:=i) (n:=8) (by have:=V.s8;omega) (vd_pos.2 ⟨h,e⟩)
 exact (List.getElem?_eq_some_iff.1 this).1
theorem VM.shr_bd {i : Nat} (h : i<M.S.length) : 0≤shr M i∧shr M i≤10000:=by
 have ho:=V.old h
 have hd : (oldF M i).toNat<M.O.length:=by omega
 have hl:=V.lst (d:=(oldF M i).toNat) h (by omega)
 rw[← V.dsh_len hd] at hl
 unfold shr
 have e : (dsh M (oldF M i).toNat).getD (adl (vd M (oldF M i).toNat) i).length 0=(dsh M (oldF M i).toNat)[(adl (vd M (oldF M i).toNat) i).length]:=by simp[hl]
 rw[e]
 exact V.dsh_bd hd _ (List.getElem_mem hl)
end
theorem pix_vd {M : BM} {d k : Nat} (h : k<(adl (vd M d) 8).length) : pix (vd M d) k<M.S.length∧oldF M (pix (vd M d) k)=d∧(adl (vd M d) (pix (vd M d) k)).length=k:=by
 have h1:=pix_at h
 have h2:=vd_pos.1 h1.2.2.1
 refine⟨h2.1,h2.2,?_⟩
 rw[pix_adl (Nat.le_of_lt h),List.length_take]
 omega
theorem shr_pix {M : BM} {d k : Nat} (h : k<(adl (vd M d) 8).length) : shr M (pix (vd M d) k)=(dsh M d).getD k 0:=by
 obtain⟨h1,h2,h3⟩:=pix_vd h
 unfold shr
 rw[h2,Int.toNat_natCast,h3]
def ownS (M : BM) (d k : Nat) : Nat→Int:=fun i=>if i<M.S.length∧(oldF M i<d∨(oldF M i=d∧(adl (vd M d) i).length<k)) then shr M i else 0
theorem ownS_1 {M : BM} {d k : Nat} (h8 : M.S.length≤8) (h : k<(adl (vd M d) 8).length) : (ownS M d (k+1)=fun i=>if i=pix (vd M d) k then shr M (pix (vd M d) k) else ownS M d k i)∧ownS M d k (pix (vd M d) k)=0:=by
 obtain⟨h1,h2,h3⟩:=pix_vd h
 constructor
 ·funext i
  unfold ownS
  by_cases e : i=pix (vd M d) k
  ·subst e
   rw[if_pos ⟨h1,.inr ⟨h2,by omega⟩⟩,if_pos rfl]
  ·rw[if_neg e]
   have hne : i<M.S.length→oldF M i=d→(adl (vd M d) i).length≠k:=fun hi ho hh=>by
    have:=adl_at (v:=vd M d) (p:=i) (n:=8) (by omega) (vd_pos.2 ⟨hi,ho⟩)
    rw[hh,List.getElem?_eq_getElem h,(pix_at h).1] at this
    exact e (Option.some.inj this).symm
   by_cases c : i<M.S.length∧(oldF M i<d∨(oldF M i=d∧(adl (vd M d) i).length<k))
   ·rw[if_pos c,if_pos ⟨c.1,c.2.imp id (fun x=>⟨x.1,by omega⟩)⟩]
   ·rw[if_neg c,if_neg]
    rintro⟨c1,c2|⟨c2,c3⟩⟩
    ·exact c ⟨c1,.inl c2⟩
    ·have:=hne c1 c2
     exact c ⟨c1,.inr ⟨c2,by omega⟩⟩
 ·unfold ownS
  rw[if_neg]
  rintro⟨_,c|⟨_,c⟩⟩
  ·omega
  ·omega
theorem ownS_d {M : BM} (V : VM M) {d : Nat} : ownS M d (adl (vd M d) 8).length=ownS M (d+1) 0:=by
 funext i
 unfold ownS
 by_cases hi : i<M.S.length
 ·by_cases c : oldF M i<d∨oldF M i=d
  ·rw[if_pos,if_pos ⟨hi,.inl (by omega)⟩]
   refine⟨hi,c.imp id fun e=>⟨e,V.lst hi e⟩⟩
  ·rw[if_neg,if_neg]
   ·rintro⟨_,c2|⟨_,c2⟩⟩
    ·omega
    ·omega
   ·rintro⟨_,c2|⟨c2,_⟩⟩
    ·exact c (.inl c2)
    ·exact c (.inr c2)
 ·rw[if_neg (fun k=>hi k.1),if_neg (fun k=>hi k.1)]
theorem ownS_0 {M : BM} (V : VM M) : ownS M 0 0=fun _=>0:=by
 funext i
 unfold ownS
 rw[if_neg]
 rintro⟨h,c|⟨_,c⟩⟩
 ·have:=(V.old h).1
  omega
 ·omega
theorem ownS_end {M : BM} (V : VM M) {i : Nat} (h : i<M.S.length) : ownS M M.O.length 0 i=shr M i:=by
 unfold ownS
 rw[if_pos ⟨h,.inl (V.old h).2⟩]
theorem ownS_bd {M : BM} (V : VM M) {d k i : Nat} : 0≤ownS M d k i∧ownS M d k i≤10000:=by
 unfold ownS
 split
 ·rename_i c
  exact V.shr_bd c.1
 ·omega
def sF (n : Nat) (g f : Nat→Int) (k : Int) : Int:=sm ((List.range n).map fun i=>if g i=k then f i else 0)
theorem sF_1 {n : Nat} {g f : Nat→Int} {k : Int} : sF (n+1) g f k=sF n g f k+if g n=k then f n else 0:=by
 unfold sF
 rw[List.range_succ,List.map_append,sm_app]
 simp[sm]
theorem sF_0 {n : Nat} {g : Nat→Int} {k : Int} : sF n g (fun _=>0) k=0:=by
 induction n with
 | zero=>rfl
 | succ n ih=>rw[sF_1,ih];simp
theorem sF_cong {n : Nat} {g f f' : Nat→Int} {k : Int} (h : ∀ i,i<n→f i=f' i) : sF n g f k=sF n g f' k:=by
 unfold sF
 congr 1
 exact List.map_congr_left fun i hi=>by rw[h i (List.mem_range.1 hi)]
theorem sF_upd {g f : Nat→Int} {k x : Int} {p : Nat} (h0 : f p=0) : ∀ {n : Nat},p<n→sF n g (fun i=>if i=p then x else f i) k=sF n g f k+if g p=k then x else 0
 | 0,h=>absurd h (by omega)
 | n+1,h=>by
  rw[sF_1,sF_1]
  by_cases e : p=n
  ·subst e
   rw[if_pos rfl,h0,sF_cong (f':=f) (fun i hi=>if_neg (by omega))]
   split<;>omega
  ·rw[sF_upd h0 (by omega),if_neg (fun q : n=p=>e q.symm)]
   omega
theorem sF_bd {n : Nat} {g f : Nat→Int} {k c : Int} (hc : 0≤c) (h : ∀ i,i<n→0≤f i∧f i≤c) : 0≤sF n g f k∧sF n g f k≤n*c:=by
 have:=sm_bound (c:=c) (l:=(List.range n).map fun i=>if g i=k then f i else 0) (fun x hx=>by
  obtain⟨i,hi,rfl⟩:=List.mem_map.1 hx
  have:=h i (List.mem_range.1 hi)
  split<;>omega)
 rw[List.length_map,List.length_range] at this
 exact this
theorem ixl_len {v : Nat→Int} : (ixl v).length=(adl v 8).length:=by simp[ixl]
theorem ixl_at {v : Nat→Int} {k : Nat} (h : k<(ixl v).length) : (ixl v)[k]=(pix v k : Nat):=by
 have hk : k<(adl v 8).length:=by rw[← ixl_len];exact h
 simp only[ixl,List.getElem_map,(pix_at hk).1]
end Go.Xe.TBX
