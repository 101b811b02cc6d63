/- An executable reading of the model's code over an abstract heap (part 9): one operation in the walk, and a region in the order of its text. Conditions: what is executed at a lower depth agrees with the model (ExOk). -/
import Derived.Test.YtgcdbdcnlhonfaaXh
import Derived.Lib.ConvBytes
import Derived.Laws.BytesString
namespace Go.Xe
open Go
def xopv (P : Program) [Gl P] [Orc P] (ex : Ex) (ρ : Operand→Value) (op : Op) (H : Heap) : Option (Value×Heap):=
 match op with
 | .call { callee:=.value f,args,.. }=>match ρ f with
  | .func (.func g) first cap=>xcall P ex g (first++args.map ρ++cap) H
  | .func (.yield l) first _=>xround ex l (first++args.map ρ) H
  | _=>none
 | op=>xop P H ρ op
def put (tmps : Array Value) (dst : Option Tmp) (v : Value) : Array Value:=
 match dst with
 | some d=>tmps.setIfInBounds d v
 | none=>tmps
theorem put_rel {θ : Th} {a : Array Value} {b : Act} (h : AR θ a b.tmps) {v v' : Value} (hv : VR θ v v') (dst : Option Tmp) : AR θ (put a dst v) (b.put dst v').tmps:=by
 cases dst with
 | none=>exact h
 | some d=>exact h.set hv d
theorem put_defers (b : Act) (dst : Option Tmp) (v : Value) : (b.put dst v).defers=b.defers:=by cases dst<;>rfl
def Next' (P : Program) (θ : Th) (w : World) (v : Value) (H' : Heap) (K : Value→World→Prop) : Prop:=
 ∀ v' w' θ',Stp θ w θ' w'→Rel P θ' H' w'→VR θ' v v'→K v' w'
theorem xopv_ok {P : Program} [Gl P] [Orc P] {ex : Ex} (hex : ExOk P ex) {o : Oper} {ρ : Operand→Value} {b : Act} {H H' : Heap} {v : Value} {θ : Th} {w : World} (hr : Rel P θ H w) (hat : At P θ w) (hρ : ∀ x,VR θ (ρ x) (b.eval x))
  (h : xopv P ex ρ o.op H=some (v,H')) (r : Option Nat) (n : Nat) {next : Act→World→Prop} {Q : Exit→Act→World→Prop}
  (k : Next' P θ w v H' fun v' w'=>next (b.put o.dst v') w') : o.wpIn (FW r) n P b w next Q:=by
 have hdefer : ∀ c,o.op≠.defer c:=by
  intro c hc
  rw[hc] at h
  simp[xopv,xop] at h
 refine⟨fun _ _=>trivial,?_⟩
 rw[Oper.semAt_eq _ _ _ hdefer]
 have plain : xop P H ρ o.op=some (v,H')→o.uponIn (FW r) n P b next Q ((execOp b.eval o).run P w):=by
  intro h
  obtain⟨m,w',θ',h1,h2,h3,h4⟩:=xop_ok hr hρ h
  rw[h1]
  rcases h4 with⟨v',rfl,hv⟩|⟨rfl,rfl⟩
  ·exact k v' w' θ' h2 h3 hv
  ·exact k undef w' θ' h2 h3 VR.undef
 unfold xopv at h
 split at h
 ·rename_i f args ats hop
  have hx:=hρ f
  split at h
  ·rename_i g first cap hf
   rw[hf] at hx
   generalize hbf : b.eval f=fv at hx
   cases hx with
   | func hfn h1 h2 h3 h4=>
    rename_i f' first' cap'
    cases hfn
    have ha : AR θ (first++args.map ρ++cap) (first'++args.map b.eval++cap'):=(AR.append (AR.append ⟨h1,h2⟩ (AR.map ρ b.eval args hρ)) ⟨h3,h4⟩)
    obtain⟨hc,fn,hfn,hbody,hname⟩:=xcall_ok hex h hr hat ha r (n-1)
    have hrun : (execOp b.eval o).run P w=.ok (.enter g (first'++args.map b.eval++cap')) w:=by
     obtain⟨c,hc⟩:=Option.isSome_iff_exists.1 hbody
     have hname' : ¬ fn.name = "runtime.NumGoroutine" := by simpa using hname
     simp[execOp,hop,resolve,hbf,Deferred.ofValue,invoke,callFunc,hfn,hname',hc]
    rw[hrun,Oper.uponIn_enter]
    refine⟨FW_depth r n,hc.mono ?_⟩
    rintro e w' ⟨v',θ',rfl,hs,hr',hv⟩
    exact k v' w' θ' hs hr' hv
  ·rename_i l first cap hf
   rw[hf] at hx
   generalize hbf : b.eval f=fv at hx
   cases hx with
   | func hfn h1 h2 h3 h4=>
    rename_i f' first' cap'
    cases hfn with
    | same _ hno=>exact absurd rfl (hno l)
    | yield hp=>
     rename_i p
     have ha : AR θ (first++args.map ρ) (first'++args.map b.eval):=AR.append ⟨h1,h2⟩ (AR.map ρ b.eval args hρ)
     obtain⟨fn,tmps,assign,body,hy,hR⟩:=xround_ok hex h hr hat ha hp r (n-1)
     have hrun : (execOp b.eval o).run P w=.ok (.round p.blk fn tmps assign body) w:=by
      simp only[execOp,hop,resolve,hbf,Deferred.ofValue,invoke,Sem.run_bind,Sem.run_pure,Result.andThen_ok]
      exact hy
     rw[hrun,Oper.uponIn_round]
     refine⟨FW_depth r n,hR.mono ?_⟩
     rintro e w' ⟨v',θ',rfl,hs,hr',hv⟩
     exact k v' w' θ' hs hr' hv
  ·cases h
 ·exact plain h
def byteV (b : UInt8) : Value:=.int .u8 (.ofNat b.toNat)
def bytesV (s : ByteArray) : List Value:=s.data.toList.map byteV
def ofBytes : List Value→Option (List UInt8)
 | []=>some []
 | .int .u8 n::l=>match ofBytes l with
  | some r=>some (UInt8.ofNat n.toNat::r)
  | none=>none
 | _=>none
def isU8 (P : Program) (e : TypeId) : Bool:=match P.underlying e with
 | some (.int .u8)=>match P.info? e with
  | some ie=>ie.size == 1
  | none=>false
 | _=>false
def xconvS (P : Program) (H : Heap) (src dst : TypeId) (x : Value) : Option (Value×Heap):=
 match x with
 | .string s=>match P.underlying src,P.underlying dst with
  | some _,some (.slice e)=>if isU8 P e=true then some (.slice (some ⟨H.next,0,none⟩) s.data.toList.length s.data.toList.length,H.alloc (.cells ⟨bytesV s⟩ e true)) else none
  | _,_=>none
 | .slice a n _=>match P.underlying src,P.underlying dst with
  | some (.slice e),some .string=>if isU8 P e=true then match a with
   | some ⟨i,o,none⟩=>match H.cellsAt i with
    | some (c,_,_)=>if n=0 then some (.string ⟨⟨[]⟩⟩,H) else if o+n≤c.size then match ofBytes (c.extract o (o+n)).toList with
     | some l=>some (.string ⟨⟨l⟩⟩,H)
     | none=>none
     else none
    | none=>none
   | some ⟨_,_,some _⟩=>none
   | none=>some (.string ⟨⟨[]⟩⟩,H)
   else none
  | _,_=>none
 | _=>none
theorem bytesWorld_eq (w : World) (e : TypeId) (s : ByteArray) : Lib.bytesWorld w e s=w.drew.alloc (.cells (Lib.bytesCells w e s) e ((Lib.bytesCells w e s).size,(Lib.bytesCells w e s).size+1)):=by
 have h : (Lib.bytesWorld w e s).heap=(w.drew.alloc (.cells (Lib.bytesCells w e s) e ((Lib.bytesCells w e s).size,(Lib.bytesCells w e s).size+1))).heap:=by
  apply Array.ext_getElem?
  intro j
  by_cases h1 : j<w.heap.size
  ·rw[Lib.bytesWorld_at_old w e s j h1]
   exact (heap_alloc_lt w.drew _ j h1).symm
  ·by_cases h2 : j=w.heap.size
   ·subst h2
    rw[Lib.bytesWorld_at_new]
    exact (alloc_at w.drew _).symm
   ·rw[Array.getElem?_eq_none (by rw[Lib.bytesWorld_size];omega),Array.getElem?_eq_none]
    have : (w.drew.alloc (.cells (Lib.bytesCells w e s) e ((Lib.bytesCells w e s).size,(Lib.bytesCells w e s).size+1))).heap.size=w.heap.size+1:=by simp[World.alloc,World.drew,-World.alloc_eq,-World.drew_eq]
    omega
 have e1 : Lib.bytesWorld w e s={ w.drew.alloc (.cells (Lib.bytesCells w e s) e ((Lib.bytesCells w e s).size,(Lib.bytesCells w e s).size+1)) with heap:=(Lib.bytesWorld w e s).heap }:=rfl
 rw[e1,h]
theorem ofBytes_ok : ∀ {l : List Value} {r : List UInt8},ofBytes l=some r→∃ ns : List Int,l=ns.map (Value.int .u8)∧r=ns.map fun n=>UInt8.ofNat n.toNat
 | [],r,h=>by simp[ofBytes] at h;subst h;exact⟨[],rfl,rfl⟩
 | v::l,r,h=>by
  unfold ofBytes at h
  split at h
  ·rename_i heq;cases heq
  ·rename_i n l' heq
   cases heq
   split at h
   ·rename_i r' hr'
    cases h
    obtain⟨ns,h1,h2⟩:=ofBytes_ok hr'
    exact⟨n::ns,by rw[h1];rfl,by rw[h2];rfl⟩
   ·cases h
  ·cases h
theorem fold_push : ∀ (ns : List Int) (s : ByteArray),ns.foldl (fun r n=>r.push (UInt8.ofNat n.toNat)) s=⟨⟨s.data.toList++ns.map fun n=>UInt8.ofNat n.toNat⟩⟩
 | [],s=>by apply ByteArray.ext;apply Array.toList_inj.1;simp
 | n::ns,s=>by
  rw[List.foldl_cons,fold_push ns]
  apply ByteArray.ext;apply Array.toList_inj.1
  simp[ByteArray.push]
theorem isU8_ok {P : Program} {e : TypeId} (h : isU8 P e=true) : P.underlying e=some (.int .u8)∧∃ ie,P.info? e=some ie∧ie.size=1:=by
 unfold isU8 at h
 split at h
 ·rename_i hu
  split at h
  ·rename_i ie hi;exact⟨hu,ie,hi,by simpa using h⟩
  ·cases h
 ·cases h
theorem xconvS_ok {P : Program} {θ : Th} {H H' : Heap} {w : World} (hr : Rel P θ H w) {src dst : TypeId} {x x' v : Value} (h : xconvS P H src dst x=some (v,H')) (hx : VR θ x x') : NewOk P θ w (convert src dst x') v H':=by
 cases hx with
 | string s=>
  simp only[xconvS] at h
  split at h
  ·rename_i u e hs hd
   split at h
   ·rename_i hu
    obtain⟨h1,ie,h2,h3⟩:=isU8_ok hu
    cases h
    have hlen : s.size=s.data.toList.length:=(Array.length_toList).symm
    have hsz : (Lib.bytesCells w e s).size=s.size+(grownCap w s.size 0 e-s.size):=by simp[Lib.bytesCells]
    have hcap : s.size≤grownCap w s.size 0 e:=by simp[grownCap,Question.cut]
    have hc : P.cellsOf e=1:=by simp[Program.cellsOf,h2,h3]
    obtain⟨q1,q2⟩:=hr.drew.alloc (.cells ⟨bytesV s⟩ e true) (.cells (Lib.bytesCells w e s) e ((Lib.bytesCells w e s).size,(Lib.bytesCells w e s).size+1))
     { blk:=w.heap.size,base:=0,sz:=(Lib.bytesCells w e s).size,st:=P.cellsOf e,rw:=true } rfl rfl
     ⟨_,_,_,alloc_at w.drew _,rfl,fun _=>⟨rfl,.inr (Nat.le_refl _),rfl,rfl⟩,fun k v hk=>by
      have hk' : ((⟨bytesV s⟩ : Array Value).toList)[k]?=some v:=by rw[Array.getElem?_toList];exact hk
      simp only[bytesV,List.getElem?_map,Option.map_eq_some_iff] at hk'
      obtain⟨b,hb,rfl⟩:=hk'
      have hlt : k<s.data.size:=by
       have:=(List.getElem?_eq_some_iff.1 hb).1
       simpa using this
      refine⟨byteV b,?_,.int _ _⟩
      rw[Nat.zero_add]
      simp only[Lib.bytesCells]
      rw[Array.getElem?_append_left (by simpa using hlt),Array.getElem?_map,← Array.getElem?_toList,hb]
      rfl⟩
    refine⟨_,_,θ.put H.next { blk:=w.heap.size,base:=0,sz:=(Lib.bytesCells w e s).size,st:=P.cellsOf e,rw:=true },Lib.run_convert_string_bytes w src dst e s hs hd h1,?_,?_,?_⟩
    ·rw[bytesWorld_eq];exact Stp.of_drew q2
    ·rw[bytesWorld_eq];exact q1
    ·rw[← hlen]
     refine VR.slice (p:={ blk:=w.heap.size,base:=0,sz:=(Lib.bytesCells w e s).size,st:=P.cellsOf e,rw:=true }) (o:=0) (Th.put_same _ _ _) (Nat.le_refl _) hcap (fun _=>.inr ?_)
     simp only[hc,hsz];omega
   ·cases h
  ·cases h
 | snil n c=>
  simp only[xconvS] at h
  split at h
  ·rename_i e hs hd
   split at h
   ·rename_i hu
    obtain⟨h1,_⟩:=isU8_ok hu
    cases h
    refine⟨_,w,θ,?_,Stp.refl _ _,hr,.string _⟩
    rw[run_convert_bytes_string w src dst e _ n c hs h1 hd]
    simp[Conv.bytesToString];rfl
   ·cases h
  ·cases h
 | slice hp hn hc hsl=>
  rename_i i o n c c' p
  simp only[xconvS] at h
  split at h
  ·rename_i e hs hd
   split at h
   ·rename_i hu
    obtain⟨h1,_⟩:=isU8_ok hu
    split at h
    ·rename_i cd el rw' hcd
     obtain⟨_,q,hq,cs',elc,fz,hw,_,_,hcells⟩:=hr.cells hcd
     rw[hp] at hq;cases hq
     split at h
     ·rename_i hz
      subst hz
      cases h
      refine⟨_,w,θ,?_,Stp.refl _ _,hr,.string _⟩
      rw[run_convert_bytes_string w src dst e _ 0 c' hs h1 hd,run_bytesToString w _ 0 c' [] (by simp[loadCells,loadCellsFrom])]
      rfl
     ·rename_i hz
      split at h
      ·rename_i hb
       split at h
       ·rename_i l hl
        cases h
        obtain⟨ns,k1,k2⟩:=ofBytes_ok hl
        obtain⟨hlast,har⟩:=window hcells hb hz
        have hsame : cs'.extract (p.base+o) (p.base+o+n)=(ns.map (Value.int .u8)).toArray:=by
         apply Array.ext_getElem?
         intro k
         have hk1 : (cd.extract o (o+n))[k]?=(ns.map (Value.int .u8))[k]?:=by rw[← k1,Array.getElem?_toList]
         have hk2 : (ns.map (Value.int .u8)).toArray[k]?=(ns.map (Value.int .u8))[k]?:=by simp
         rw[hk2,← hk1]
         cases hv : (cd.extract o (o+n))[k]? with
         | none=>
          rw[Array.getElem?_eq_none_iff] at hv ⊢
          rw[← har.1];exact hv
         | some v=>
          obtain⟨v',hv',hvr⟩:=har.get hv
          rw[hv']
          rw[hk1,List.getElem?_map] at hv
          obtain⟨m,_,rfl⟩:=Option.map_eq_some_iff.1 hv
          cases hvr;rfl
        refine⟨_,w,θ,?_,Stp.refl _ _,hr,.string _⟩
        rw[run_convert_bytes_string w src dst e _ n c' hs h1 hd,run_bytesToString w _ n c' ns (by rw[run_loadCells hw _ _ hlast,hsame]),fold_push]
        rw[k2];rfl
       ·cases h
      ·cases h
    ·cases h
   ·cases h
  ·cases h
 | sempty i o s a c=>
  simp only[xconvS] at h
  split at h
  ·split at h<;>cases h
  ·cases h
 | _=>simp[xconvS] at h
def xopvS (P : Program) [Gl P] [Orc P] (ex : Ex) (ρ : Operand→Value) (op : Op) (H : Heap) : Option (Value×Heap):=
 match xopv P ex ρ op H with
 | some r=>some r
 | none=>match op with
  | .convert src dst x=>xconvS P H src dst (ρ x)
  | _=>none
theorem xopvS_ok {P : Program} [Gl P] [Orc P] {ex : Ex} (hex : ExOk P ex) {o : Oper} {ρ : Operand→Value} {b : Act} {H H' : Heap} {v : Value} {θ : Th} {w : World} (hr : Rel P θ H w) (hat : At P θ w) (hρ : ∀ x,VR θ (ρ x) (b.eval x))
  (h : xopvS P ex ρ o.op H=some (v,H')) (r : Option Nat) (n : Nat) {next : Act→World→Prop} {Q : Exit→Act→World→Prop}
  (k : Next' P θ w v H' fun v' w'=>next (b.put o.dst v') w') : o.wpIn (FW r) n P b w next Q:=by
 unfold xopvS at h
 split at h
 ·rename_i r0 h0
  cases h
  exact xopv_ok hex hr hat hρ h0 r n k
 ·split at h
  ·rename_i src dst x hop
   have hdefer : ∀ c,o.op≠.defer c:=by
    intro c hc
    rw[hc] at hop;cases hop
   refine⟨fun _ _=>trivial,?_⟩
   rw[Oper.semAt_eq _ _ _ hdefer]
   obtain⟨v',w',θ',h1,h2,h3,h4⟩:=xconvS_ok hr h (hρ x)
   have hrun : (execOp b.eval o).run P w=.ok (.value v') w':=by
    obtain⟨dst',op,type,pos,after,guard⟩:=o
    simp only at hop
    subst hop
    simp only[execOp,Sem.run_bind,h1,Result.andThen_ok,Sem.run_pure]
   rw[hrun]
   exact k v' w' θ' h2 h3 h4
  ·cases h
def xwanted (ops : Array Oper) (tmps : Array Value) (o : Oper) : Option Bool:=
 match o.guard with
 | none=>some true
 | some (j,want)=>match ((ops[j]?).bind (·.dst)).bind (tmps[·]?) with
  | some (.bool b)=>some (b == want)
  | some (.chan none)=>none
  | _=>some false
theorem xwanted_ok {θ : Th} {ops : Array Oper} {tmps tmps' : Array Value} (ht : AR θ tmps tmps') {o : Oper} {c : Bool} (h : xwanted ops tmps o=some c) : Region.wanted o (yielded ops tmps')=c:=by
 unfold xwanted at h
 unfold Region.wanted
 split at h
 ·rename_i hg;cases h;rw[hg]
 ·rename_i j want hg
  rw[hg]
  simp only
  unfold yielded
  cases hd : (ops[j]?).bind (·.dst) with
  | none=>
   rw[hd] at h
   simp at h;subst h;simp
  | some d=>
   rw[hd] at h
   simp only[Option.bind_some] at h ⊢
   cases hv : tmps[d]? with
   | none=>
    rw[hv] at h
    have : tmps'[d]?=none:=by rw[Array.getElem?_eq_none_iff] at hv ⊢;rw[← ht.1];exact hv
    rw[this]
    simp at h;subst h;simp
   | some v=>
    rw[hv] at h
    obtain⟨v',hv',hr⟩:=ht.get hv
    rw[hv']
    cases hr<;>simp at h<;>subst h<;>simp
def xrun (P : Program) [Gl P] [Orc P] (ex : Ex) (ops : Array Oper) : List Oper→Array Value→Heap→Option (Array Value×Heap)
 | [],t,H=>some (t,H)
 | o::rest,t,H=>match xwanted ops t o with
  | some true=>match xopvS P ex (ev P t) o.op H with
   | some (v,H')=>xrun P ex ops rest (put t o.dst v) H'
   | none=>none
  | some false=>xrun P ex ops rest (put t o.dst undef) H
  | none=>none
theorem xrun_ok {P : Program} [Gl P] [Orc P] {ex : Ex} (hex : ExOk P ex) {ops : Array Oper} {Q : Exit→Act→World→Prop} (r : Option Nat) (n : Nat) :
  ∀ (l : List Oper) (i : Nat) (t t' : Array Value) (H H' : Heap) (θ : Th) (w : World) (b : Act),(∀ j,l[j]?=ops[i+j]?)→xrun P ex ops l t H=some (t',H')→Rel P θ H w→At P θ w→AR θ t b.tmps →
  (∀ (θ' : Th) (w' : World) (b' : Act),Stp θ w θ' w'→Rel P θ' H' w'→AR θ' t' b'.tmps→b'.defers=b.defers→Q .normal b' w') →
  wpOpsIn (FW r) n P ops Q (List.range' i l.length) b w:=by
 intro l
 induction l with
 | nil=>
  intro i t t' H H' θ w b _ h hr hat ht k
  simp only[xrun] at h;cases h
  exact k θ w b (Stp.refl _ _) hr ht rfl
 | cons o l ih=>
  intro i t t' H H' θ w b hl h hr hat ht k
  have ho : ops[i]?=some o:=by have:=hl 0;simpa using this.symm
  have hl' : ∀ j,l[j]?=ops[i+1+j]?:=fun j=>by have:=hl (j+1);simp only[List.getElem?_cons_succ] at this;rw[this];congr 1;omega
  simp only[List.length_cons,List.range'_succ,wpOpsIn,ho]
  simp only[xrun] at h
  split at h
  ·rename_i hw
   rw[xwanted_ok ht hw]
   simp only[if_true]
   split at h
   ·rename_i v H1 hv
    refine xopvS_ok hex hr hat (ev_rel hat ht) hv r n ?_
    intro v' w' θ' hs hr' hvr
    refine ih (i+1) _ _ _ _ θ' w' _ hl' h hr' (hat.stp hs) (put_rel (ht.ext hs.ext) hvr o.dst) ?_
    intro θ2 w2 b2 hs2 hr2 ht2 hd2
    exact k θ2 w2 b2 (hs.trans hs2) hr2 ht2 (hd2.trans (put_defers _ _ _))
   ·cases h
  ·rename_i hw
   rw[xwanted_ok ht hw]
   simp only[Bool.false_eq_true,if_false]
   refine⟨fun _ _=>trivial,?_⟩
   refine ih (i+1) _ _ _ _ θ w _ hl' h hr hat (put_rel ht VR.undef o.dst) ?_
   intro θ2 w2 b2 hs2 hr2 ht2 hd2
   exact k θ2 w2 b2 hs2 hr2 ht2 (hd2.trans (put_defers _ _ _))
  ·cases h
end Go.Xe
