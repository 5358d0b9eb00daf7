import PyProof.Rows.All
import Wide.All
import OpenK.AllK
import Wide.FinOn
import Lean
import PyProof.EqAt
import PyProof.EqKinds
import PyProof.TupleCall
import PyProof.NeKinds
import PyProof.ZipIter
import PyProof.ReprRoads
import KE.KDictOf
import KE.KItemsList
import PyProof.AttrMissHeap
import KE.KRevIter
import PyProof.EnumMake
import PyProof.EnumFor
import PyProof.WalksEnum
import PyProof.Rows.EnumRows
import PyProof.FactsAll.range_2
import PyProof.AutoRange
import PySem.Challenge.RW_healhalves_k47_read_one_by_one
set_option genInjectivity false
set_option bootstrap.genMatcherCode false
set_option compiler.extract_closed false
set_option genSizeOf false
set_option genSizeOfSpec false
set_option Elab.async false
set_option linter.all false
set_option maxRecDepth 100000
def wA:=@List.getElem?_eq_getElem
def wB:=@List.getD_eq_getElem?_getD
def wC:=@Nat.lt_of_lt_of_le
def wD:=@List.not_mem_nil
def wE:=@List.mem_append
def wF:=@List.size_toArray
def wG:=@List.append_assoc
def wH:=@List.mem_append_left
def wI:=@List.mem_append_right
def wJ:=@List.getElem?_set_ne
def wK:=@List.mem_singleton
def wL:=@List.getElem?_set_self
def wM:=@Bool.false_ne_true
def wN:=@List.getElem?_map
def wO:=@List.length_map
def wP:=@Nat.add_sub_cancel_left
def wQ:=@Nat.ne_of_lt
def wR:=@List.map_append
def wS:=@List.mem_range
def wT:=@List.range_eq_range'
def wU:=@List.getElem?_eq_none
def wV:=@List.forall_mem_cons
def wW:=@List.map_congr_left
def wX:=@Bool.eq_iff_iff
def wY:=@List.filter_cons_of_neg
def wZ:=@List.nodup_append
def wa:=@List.length_filter_le
def wb:=@List.getElem?_take_of_lt
def wc:=@List.map_map
def we:=@List.range'_succ
def wg:=@Nat.testBit_lt_two_pow
def wj:=@Bool.xor_false
def wl:=@List.getElem?_range
def wm:=@List.eraseIdx_eq_take_drop_succ
def wn:=@Nat.le_add_right
def wo:=@Nat.lt_trans
def wp:=@List.mem_map
def wq:=@Bool.and_false
def wt:=@Nat.le_of_lt
def wu:=@Nat.pow_succ
def wv:=@List.length_take
def wx:=@List.lookup_append
def wy:=@Bool.false_xor
def wz:=@Nat.ne_of_gt
def vA:=@Nat.add_comm
def vB:=@Nat.min_eq_left
def vC:=@Bool.xor_self
def vD:=@List.ext_getElem?
def vE:=@List.nodup_nil
def vF:=@Bool.or_eq_false_iff
def vG:=@List.length_drop
def vH:=@List.mem_or_eq_of_mem_set
def vI:=@List.length_zipWith
def vJ:=@List.length_set
def vK:=@List.range_succ
def vL:=@List.getElem?_drop
def vM:=@Nat.zero_add
def vN:=@Nat.lt_trichotomy
def vO:=@List.set_append_right
def vP:=@Nat.succ_le_succ
def vQ:=@List.getElem_mem
def vR:=@List.nodup_range
def vS:=@List.mem_iff_getElem
def vT:=@Nat.pow_pos
def vU:=@Nat.pow_le_pow_right
def vV:=@List.set_append_left
def vW:=@List.forIn_cons
def vX:=@Bool.or_eq_true
def vY:=@Bool.false_and
def vZ:=@Bool.xor_assoc
open PySem PySem.Spec in def va:=@wpAny_bind
open PySem PySem.Spec in def vb:=@wpAny_pure
def vc:=@decide_eq_false
def vd:=@decide_eq_true
def ve:=@decide_eq_true_eq
def vf:=@of_decide_eq_true
open PySem PySem.Spec in def vg:=@wpAny_truthy_bool
def vh:=@beq_self_eq_true
namespace L2
open PySem PySem.Spec PyProof.Rows
noncomputable abbrev Key:=Sum Int Str
noncomputable def P6:Key->Value->Bool
 | .inl k,v=>Value.isInt k v
 | .inr x,v=>Value.isStrOf x v
noncomputable def qH7(w:World):Key->Int
 | .inl k=>hashInt k
 | .inr x=>hashStr w x
theorem qb:∀{k:Key}{v:Value},P6 k v=true->(∃i t,k=Sum.inl i/\v=Value.int i t)\/(∃x t,k=Sum.inr x/\v=Value.str x t)
 | .inl i,v,h=>by
  obtain⟨t,e⟩:=Value.isInt_shape (k:=i) (v:=v) h;exact .inl ⟨i,t,rfl,e⟩
 | .inr x,v,h=>by
  obtain⟨t,e⟩:=Value.isStrOf_shape (x:=x) (v:=v) h;exact .inr ⟨x,t,rfl,e⟩
theorem j6(i:Int)(t:Tok):P6 (.inl i) (.int i t)=true:=by simp[P6,Value.isInt]
theorem X5(x:Str)(t:Tok):P6 (.inr x) (.str x t)=true:=by simp[P6,Value.isStrOf]
theorem qEv(a b:Int):decide ((Sum.inl a:Key)=Sum.inl b)=(a==b):=by
 by_cases e:a=b
 ·subst e;simp
 ·have h:¬ (Sum.inl a:Key)=Sum.inl b:=λq=>e (Sum.inl.inj q);rw[vc h];exact(beq_eq_false_iff_ne.mpr e).symm
theorem qDX(a b:Str):decide ((Sum.inr a:Key)=Sum.inr b)=decide (a=b):=by
 by_cases e:a=b
 ·subst e;simp
 ·have h:¬ (Sum.inr a:Key)=Sum.inr b:=λq=>e (Sum.inr.inj q);rw[vc h,vc e]
theorem qEE(a:Int)(b:Str):decide ((Sum.inl a:Key)=Sum.inr b)=false:=vc (λq=>nomatch q)
theorem qET(a:Str)(b:Int):decide ((Sum.inr a:Key)=Sum.inl b)=false:=vc (λq=>nomatch q)
noncomputable def ql(prog:Program)(w:World):PySem.KeyKind prog w Key where
 is:=P6
 hash:=qH7 w
 inj:=λv a b ha hb=>by
  rcases qb ha with⟨i,t,rfl,rfl⟩|⟨x,t,rfl,rfl⟩
  ·rcases qb hb with⟨j,u,rfl,e⟩|⟨y,u,rfl,e⟩
   ·injection e with e1 _;rw[e1]
   ·exact nomatch e
  ·rcases qb hb with⟨j,u,rfl,e⟩|⟨y,u,rfl,e⟩
   ·exact nomatch e
   ·injection e with e1 _;rw[e1]
 byValue:=λk v h=>by
  rcases qb h with⟨i,t,rfl,rfl⟩|⟨x,t,rfl,rfl⟩<;>rfl
 pyHash:=λhv h=>by
  rcases qb hv with⟨i,t,rfl,rfl⟩|⟨x,t,rfl,rfl⟩
  ·exact wpAny_pyHash_int h
  ·exact wpAny_pyHash_str h
 eqBool:=λhu hv h=>by
  rcases qb hu with⟨i,t,rfl,rfl⟩|⟨x,t,rfl,rfl⟩
  ·rcases qb hv with⟨j,u,rfl,rfl⟩|⟨y,u,rfl,rfl⟩
   ·rw[qEv]at h;exact wpAny_eqBool_int h
   ·rw[qEE]at h;exact SeqAt.EqAt.int_str i t y u _ _ _ _ h
  ·rcases qb hv with⟨j,u,rfl,rfl⟩|⟨y,u,rfl,rfl⟩
   ·rw[qET]at h;exact SeqAt.EqAt.str_int x t j u _ _ _ _ h
   ·rw[qDX]at h;exact wpAny_eqBool_str h
 «strs»:=λk x t v h=>by
  rcases qb h with⟨i,u,rfl,e⟩|⟨y,u,rfl,e⟩
  ·exact nomatch e
  ·injection e with e1 _;subst e1;cases v<;>rfl
theorem B4(prog:Program)(w:World)(i:Int)(t:Tok):(ql prog w).is (.inl i) (.int i t)=true:=j6 i t
theorem E8(prog:Program)(w:World)(x:Str)(t:Tok):(ql prog w).is (.inr x) (.str x t)=true:=X5 x t
inductive V where
 |non|bl (b:Bool)|int (i:Int)|str (x:Str)|byt (b:Array UInt8)|flt (b:UInt64)|ref (a:Addr)|ty (n:String)
 deriving DecidableEq
def RelV:V->Value->Prop
 | .non,u=>u=Value.none
 | .bl b,u=>u=Value.bool b
 | .int i,u=>∃t,u=Value.int i t
 | .str x,u=>∃t,u=Value.str x t
 | .byt b,u=>∃t,u=Value.bytes b t
 | .flt b,u=>∃t,u=Value.float b t
 | .ref a,u=>u=Value.ref a
 | .ty n,u=>u=Value.type n
abbrev Vals:List V->List Value->Prop:=Paired RelV
theorem Vals.length{xs:List V}{us:List Value}(r:Vals xs us):xs.length=us.length:=Paired.length r
theorem Vals.get:∀{xs:List V}{us:List Value}{i:Nat}{x:V},Vals xs us->xs[i]?=some x->∃u,us[i]?=some u/\RelV x u
 |_,_,_,_,.nil,e=>by simp at e
 |_,_,0,_,.cons r _,e=>by simp at e;subst e;exact⟨_,rfl,r⟩
 |_,_,i+1,x,.cons _ t,e=>by
  obtain⟨u,h1,h2⟩:=Vals.get (i:=i) (x:=x) t (by simpa using e);exact⟨u,by simpa using h1,h2⟩
theorem Vals.set{x:V}{u:Value}(r:RelV x u):∀{xs:List V}{us:List Value}(i:Nat),Vals xs us->Vals (xs.set i x) (us.set i u)
 |_,_,_,.nil=>.nil
 |_,_,0,.cons _ t=>.cons r t
 |_,_,i+1,.cons q t=>.cons q (Vals.set r i t)
theorem Vals.append:∀{xs ys:List V}{us ws:List Value},Vals xs us->Vals ys ws->Vals (xs++ys) (us++ws)
 |_,_,_,_,.nil,s=>s
 |_,_,_,_,.cons r t,s=>.cons r (Vals.append t s)
theorem Vals.take:∀{xs:List V}{us:List Value}(n:Nat),Vals xs us->Vals (xs.take n) (us.take n)
 |_,_,0,_=>.nil
 |_,_,_+1,.nil=>.nil
 |_,_,n+1,.cons r t=>.cons r (Vals.take n t)
theorem Vals.drop:∀{xs:List V}{us:List Value}(n:Nat),Vals xs us->Vals (xs.drop n) (us.drop n)
 |_,_,0,r=>r
 |_,_,_+1,.nil=>.nil
 |_,_,n+1,.cons _ t=>Vals.drop n t
def RelO:Option V->Option Value->Prop
 |some v,some u=>RelV v u
 |none,none=>True
 |_,_=>False
def KV{κ:Type}:List (κ×V)->List (κ×Value)->Prop:=Paired λ(p:κ×V) (q:κ×Value)=>p.1=q.1/\RelV p.2 q.2
noncomputable def kV:Key->V
 | .inl i=>.int i
 | .inr x=>.str x
inductive HO where
 |lst (xs:List V)
 |tup (xs:List V)
 |dK (kvs:List (Key×V))|dT (kvs:List (List Key×V))
 |set (S:Int->Bool) (n:Nat)
 |ins (C dx:Addr) (fs:List (Str×V))
 |own (x:Addr)
 |xd (fs:List (Str×V))
 |met (f x:Addr)
 |rng (lo hi:Int)
 |frz (o:Obj) (u:HO)
 |tbl (ps:Array Value)
 |ext (φ:Heap->Prop)
noncomputable abbrev Hp:=Addr->Option HO
noncomputable def upd(H:Hp)(a:Addr)(o:HO):Hp:=λb=>if b=a then some o else H b
theorem qH{H:Hp}{a:Addr}{o:HO}:upd H a o a=some o:=by unfold upd;rw[if_pos rfl]
theorem qF{H:Hp}{a b:Addr}{o:HO}(h:b≠a):upd H a o b=H b:=by unfold upd;rw[if_neg h]
theorem qGM{H:Hp}{a b:Addr}{o u:HO}(h:H a=some o)(h':H b=some u)(d:o≠u):a≠b:=by
 intro e;subst e;rw[h]at h';exact d (Option.some.inj h')
theorem ne_of_none{H:Hp}{a b:Addr}{o:HO}(h:H a=some o)(h':H b=none):a≠b:=by
 intro e;subst e;rw[h]at h';cases h'
section
variable (P:Program)(w:World)
def ObjOk(H:Hp)(h:Heap)(a:Addr):HO->Prop
 | .lst xs=>xs.length<=sizeLine/\∃(its:List Value) (n:Nat),Vals xs its/\h.get? a=some { cls:=.type "list",data:=.seq its.toArray n }
 | .tup xs=>xs.length<=sizeLine/\∃its:List Value,Vals xs its/\IsTup h a its.toArray
 | .dK kvs=>kvs.length<=sizeLine/\(a==sysModules)=false/\∃vs,KV kvs vs/\h.DictOf (ql P w) a vs
 | .dT kvs=>kvs.length<=sizeLine/\(a==sysModules)=false/\∃xs:List (List Key×Addr×Value),
   Paired (λ(p:List Key×V) (q:List Key×Addr×Value)=>p.1=q.1/\H q.2.1=some (.tup (p.1.map kV))/\RelV p.2 q.2.2) kvs xs/\
   ∃o es ep,h.get? a=some o/\o.ExactDict/\o.data=.dict es ep/\es.toList=xs.map (entryOfKey (tupleKind (ql P w)))/\(xs.map (·.1)).Nodup
 | .set S n=>h.SetOf (intKind P w) a S n
 | .ins C dx fs=>H dx=some (.own a)/\fs.length<=1000/\dx≠a/\h.get? a=some (PySem.W.instObj C dx)/\
   ∃mA,h.Ns1 dx mA/\(∀f,RelO (fs.lookup f) (mA f))/\PySem.Within mA (fs.map (·.1))
 | .own _=>∃o,h.get? a=some o
 | .xd fs=>∃mA,h.Ns1 a mA/\∀f,RelO (fs.lookup f) (mA f)
 | .rng lo hi=>∃t u v,h.get? a=some { cls:=.type "range",data:=.fields #[.int lo t,.int hi u,.int 1 v] }
 | .frz o u=>h.get? a=some o/\ObjOk H h a u
 | .tbl ps=>h.get? a=some { cls:=.none,data:=.fields ps }
 | .met f x=>h.get? a=some (PySem.W.methodObj (.ref f) (.ref x))
 | .ext φ=>φ h/\(∃o,h.get? a=some o)/\∀h1 h2:Heap,φ h1->(∀o,h1.get? a=some o->h2.get? a=some o)->φ h2
def HOk(H:Hp)(h:Heap):Prop:=∀a o,H a=some o->ObjOk P w H h a o
end
section
variable{P:Program}{w:World}{H H':Hp}{h h':Heap}{a:Addr}{o:HO}
theorem ObjOk.lt(x:ObjOk P w H h a o):a<h.objs.size:=by
 cases o with
 |lst xs=>obtain⟨_,_,_,_,e⟩:=x;exact Heap.lt_size e
 |tup xs=>obtain⟨_,_,_,p⟩:=x;exact p.lt
 |dK kvs=>obtain⟨_,_,_,_,o,_,_,e,_⟩:=x;exact Heap.lt_size e
 |dT kvs=>obtain⟨_,_,_,_,o,_,_,e,_⟩:=x;exact Heap.lt_size e
 |set S n=>obtain⟨o,_,_,_,e,_⟩:=x;exact Heap.lt_size e
 |ins C dx fs=>obtain⟨_,_,_,e,_⟩:=x;exact Heap.lt_size e
 |own y=>obtain⟨_,e⟩:=x;exact Heap.lt_size e
 |xd fs=>obtain⟨_,⟨_,_,_,e,_⟩,_⟩:=x;exact Heap.lt_size e
 |rng lo hi=>obtain⟨_,_,_,e⟩:=x;exact Heap.lt_size e
 |frz ob u=>obtain⟨e,_⟩:=x;exact Heap.lt_size e
 |tbl ps=>exact Heap.lt_size (show h.get? a=some _ from x)
 |met f y=>exact Heap.lt_size (show h.get? a=some _ from x)
 |ext φ=>obtain⟨_,⟨_,e⟩,_⟩:=x;exact Heap.lt_size e
theorem Paired.mapP{α β:Type}{F G:α->β->Prop}:∀{l₁:List α}{l₂:List β},Paired F l₁ l₂->(∀a b,F a b->G a b)->Paired G l₁ l₂
 |_,_,.nil,_=>.nil
 |_,_,.cons r t,f=>.cons (f _ _ r) (Paired.mapP t f)
theorem ObjOk.stay(x:ObjOk P w H h a o)(k:∀b u,(b=a\/H b=some (.own a))->h.get? b=some u->h'.get? b=some u)
  (ho:∀b,H b=some (.own a)->H' b=some (.own a)) (ht:∀b xs,H b=some (.tup xs)->H' b=some (.tup xs)):ObjOk P w H' h' a o:=by
 induction o with
 |lst xs=>obtain⟨z,its,n,r,e⟩:=x;exact⟨z,its,n,r,k _ _ (.inl rfl) e⟩
 |tup xs=>obtain⟨z,its,r,ob,e,c⟩:=x;exact⟨z,its,r,ob,k _ _ (.inl rfl) e,c⟩
 |dK kvs=>obtain⟨z,y,vs,r,ob,es,ep,e,c⟩:=x;exact⟨z,y,vs,r,ob,es,ep,k _ _ (.inl rfl) e,c⟩
 |dT kvs=>
  obtain⟨z,y,xs,r,ob,es,ep,e,c⟩:=x;exact⟨z,y,xs,Paired.mapP r λp q z=>⟨z.1,ht _ _ z.2.1,z.2.2⟩,ob,es,ep,k _ _ (.inl rfl) e,c⟩
 |set S n=>obtain⟨ob,es,ep,t,e,c⟩:=x;exact⟨ob,es,ep,t,k _ _ (.inl rfl) e,c⟩
 |ins C dx fs=>
  obtain⟨d,z,ne,e,mA,⟨od,es,ep,e2,c⟩,r⟩:=x;exact⟨ho _ d,z,ne,k _ _ (.inl rfl) e,mA,⟨od,es,ep,k _ _ (.inr d) e2,c⟩,r⟩
 |own y=>obtain⟨ob,e⟩:=x;exact⟨ob,k _ _ (.inl rfl) e⟩
 |xd fs=>obtain⟨mA,⟨od,es,ep,e,c⟩,r⟩:=x;exact⟨mA,⟨od,es,ep,k _ _ (.inl rfl) e,c⟩,r⟩
 |rng lo hi=>obtain⟨t,u,v,e⟩:=x;exact⟨t,u,v,k _ _ (.inl rfl) e⟩
 |frz ob u ih=>obtain⟨e,q⟩:=x;exact⟨k _ _ (.inl rfl) e,ih q⟩
 |tbl ps=>
  have e:h.get? a=some { cls:=.none,data:=.fields ps }:=x;show h'.get? a=some { cls:=.none,data:=.fields ps };exact k a _ (.inl rfl) e
 |met f y=>
  have e:h.get? a=some (PySem.W.methodObj (.ref f) (.ref y)):=x;show h'.get? a=some (PySem.W.methodObj (.ref f) (.ref y));exact k a _ (.inl rfl) e
 |ext φ=>obtain⟨p,⟨o,e⟩,st⟩:=x;exact⟨st _ _ p λo q=>k _ _ (.inl rfl) q,⟨o,k _ _ (.inl rfl) e⟩,st⟩
theorem HOk.lt(x:HOk P w H h)(e:H a=some o):a<h.objs.size:=(x a o e).lt
theorem HOk.fresh(x:HOk P w H h)(e:h.objs.size<=a):H a=none:=by
 cases q:H a with
 |none=>rfl
 |some u=>exact absurd (wC (x.lt q) e) (Nat.lt_irrefl _)
theorem HOk.kept(x:HOk P w H h)(k:∀b u,h.get? b=some u->h'.get? b=some u):HOk P w H h':=λa o e=>
 (x a o e).stay (λb u _ q=>k b u q) (λ_ q=>q) λ_ _ q=>q
theorem HOk.laid(x:HOk P w H h)(k:∀b u,h.get? b=some u->h'.get? b=some u)(hp:h.objs.size<=a)(new:ObjOk P w (upd H a o) h' a o):HOk P w (upd H a o) h':=λb u e=>by
 have hn:=x.fresh hp;by_cases hb:b=a
 ·subst hb;rw[qH]at e;cases e;exact new
 ·rw[qF hb]at e;exact(x b u e).stay (λc v _ q=>k c v q) (λc q=>by rw[qF (ne_of_none q hn)];exact q) λc xs q=>by rw[qF (ne_of_none q hn)];exact q
end
def Rd(H:Hp)(a:Addr)(u:HO):Prop:=H a=some u\/∃o,H a=some (.frz o u)
theorem Rd.ok{P:Program}{w:World}{H:Hp}{h:Heap}{a:Addr}{u:HO}(r:Rd H a u)(x:HOk P w H h):ObjOk P w H h a u:=by
 rcases r with r|⟨o,r⟩
 ·exact x a u r
 ·obtain⟨_,q⟩:=x a _ r;exact q
def Mut:Option HO->Prop
 |some (.lst _)=>True
 |some (.dK _)=>True
 |some (.dT _)=>True
 |some (.set _ _)=>True
 |some (.ins _ _ _)=>True
 |some (.ext _)=>True
 |_=>False
section
variable{P:Program}{w:World}{H:Hp}{h h':Heap}{x e:Addr}{o':HO}
theorem HOk.write(ok:HOk P w H h)(mu:Mut (H x))(he:e=x\/H e=some (.own x))(k:∀b u,b≠e->h.get? b=some u->h'.get? b=some u)(heo:∃u,h'.get? e=some u)
  (new:ObjOk P w (upd H x o') h' x o'):HOk P w (upd H x o') h':=λb u q=>by
 have nown:∀c y,H c=some (.own y)->c≠x:=λc y r z=>by subst z;rw[r]at mu;exact mu
 have ntup:∀c xs,H c=some (.tup xs)->c≠x:=λc xs r z=>by subst z;rw[r]at mu;exact mu
 by_cases hb:b=x
 ·subst hb;rw[qH]at q;cases q;exact new
 ·rw[qF hb]at q;by_cases hbe:b=e
  ·have q':H b=some (.own x):=by
    rcases he with z|z
    ·exact absurd (hbe.trans z) hb
    ·rw[hbe];exact z
   rw[q]at q';cases q';obtain⟨v,hv⟩:=heo;exact⟨v,by rw[hbe];exact hv⟩
  ·refine(ok b u q).stay (λc v hc r=>k c v ?_ r) (λc r=>by rw[qF (nown c b r)];exact r) λc xs r=>by rw[qF (ntup c xs r)];exact r
   rcases hc with rfl|hc
   ·exact hbe
   ·rintro rfl;rcases he with z|z
    ·exact nown c b hc z
    ·rw[hc]at z;cases z;exact hb rfl
end
structure Un(fs ex:List Addr)(H H':Hp)(h h':Heap):Prop where
 keep:∀b o,h.get? b=some o->H b=none->b∉fs->b∉ex->h'.get? b=some o
 slot:∀b o,h.get? b=some o->H b=none->b∈fs->b∉ex->∃sl,h'.get? b=some { o with slots:=sl }
 free:∀b o,h.get? b=some o->H b=none->b∉ex->H' b=none
 there:∀b o,h.get? b=some o->b∉ex->∃o',h'.get? b=some o'
 tups:∀b xs,H b=some (.tup xs)->H' b=some (.tup xs)
 frzs:∀b o u,H b=some (.frz o u)->H' b=some (.frz o u)
 tbls:∀b ps,H b=some (.tbl ps)->∃more,H' b=some (.tbl (ps++more))
section
variable{fs fs' ex ex':List Addr}{H H1 H2:Hp}{h h1 h2 h':Heap}{a x e:Addr}{o:HO}
theorem Un.any(u:Un fs ex H H1 h h1){b:Addr}{ob:Obj}(q:h.get? b=some ob)(n:H b=none)(hx:b∉ex):∃sl,h1.get? b=some { ob with slots:=sl }:=by
 by_cases hb:b∈fs
 ·exact u.slot b ob q n hb hx
 ·exact⟨ob.slots,u.keep b ob q n hb hx⟩
theorem Un.kept(k:∀b u,h.get? b=some u->h'.get? b=some u):Un fs ex H H h h':=
 ⟨λb ob q _ _ _=>k b ob q,λb ob q _ _ _=>⟨ob.slots,k b ob q⟩,λ_ _ _ n _=>n,λb ob q _=>⟨ob,k b ob q⟩,λ_ _ q=>q,λ_ _ _ q=>q,λ_ ps q=>⟨#[],by rw[q];simp⟩⟩
theorem Un.refl:Un fs ex H H h h:=Un.kept λ_ _ q=>q
theorem Un.laid(k:∀b u,h.get? b=some u->h'.get? b=some u)(hp:h.objs.size<=a)(hn:H a=none):Un fs ex H (upd H a o) h h' where
 keep:=λb u q _ _ _=>k b u q
 slot:=λb u q _ _ _=>⟨u.slots,k b u q⟩
 free:=λb u q n _=>by rw[qF (wQ (wC (Heap.lt_size q) hp))];exact n
 there:=λb u q _=>⟨u,k b u q⟩
 tups:=λb xs q=>by rw[qF (ne_of_none q hn)];exact q
 frzs:=λb u xs q=>by rw[qF (ne_of_none q hn)];exact q
 tbls:=λb ps q=>⟨#[],by rw[qF (ne_of_none q hn),q];simp⟩
theorem Un.write(mu:Mut (H x))(he:e=x\/H e=some (.own x))(k:∀b u,b≠e->h.get? b=some u->h'.get? b=some u)(heo:∃u,h'.get? e=some u):Un fs ex H (upd H x o) h h':=by
 have hx:∀b,H b=none->b≠x:=λb n z=>by subst z;rw[n]at mu;exact mu
 have hb:∀b,H b=none->b≠e:=λb n z=>by
  subst z;rcases he with r|r
  ·exact hx b n r
  ·rw[n]at r;cases r
 have hm:∀b u,H b=some u->¬ Mut (some u)->b≠x:=λb u q nm z=>by subst z;rw[q]at mu;exact nm mu
 refine⟨λb u q n _ _=>k b u (hb b n) q,λb u q n _ _=>⟨u.slots,k b u (hb b n) q⟩,λb u q n _=>by rw[qF (hx b n)];exact n,λb u q _=>?_,
  λb xs q=>by rw[qF (hm b _ q λz=>z)];exact q,λb u xs q=>by rw[qF (hm b _ q λz=>z)];exact q,λb ps q=>⟨#[],by rw[qF (hm b _ q λz=>z),q];simp⟩⟩
 by_cases hbe:b=e
 ·subst hbe;exact heo
 ·exact⟨u,k b u hbe q⟩
end
noncomputable def trk(h:Heap)(H:Hp):List Addr:=(List.range h.objs.size).filter λa=>(H a).isSome
noncomputable def qAG(h:Heap)(H:Hp):Heap:=PySem.W.hideAll h (trk h H)
theorem j3(h:Heap)(H:Hp):(qAG h H).objs.size=h.objs.size:=PySem.W.hideAll_size _ _
theorem qAP{h:Heap}{H:Hp}{b:Addr}{o:Obj}(e:h.get? b=some o)(n:H b=none):(qAG h H).get? b=some o:=
 PySem.W.hideAll_get _ e λhm=>by
  have q:(H b).isSome=true:=(List.mem_filter.mp hm).2;rw[n]at q;simp at q
theorem qC4{h:Heap}{H:Hp}{b:Addr}{o:Obj}(e:(qAG h H).get? b=some o):h.get? b=some o/\H b=none:=by
 have e':h.get? b=some o:=PySem.W.of_hideAll (trk h H) e;refine⟨e',?_⟩;cases q:H b with
 |none=>rfl
 |some x=>
  have hm:b∈trk h H:=List.mem_filter.mpr ⟨wS.mpr (Heap.lt_size e'),by simp[q]⟩;have z:(qAG h H).get? b=none:=PySem.W.hideAll_none (trk h H) hm;rw[z]at e;cases e
noncomputable def qCt(g h:Heap)(L:Addr):List (Addr×Obj):=(List.range h.objs.size).filterMap λa=>if a=L\/(g.get? a).isSome=true then none else (h.get? a).map λo=>(a,o)
noncomputable def QN(g h:Heap)(L d:Addr):List (Addr×Obj):=(qCt g h L).filter λp=>decide (p.1≠d)
structure Mod(K:PySem.W.Frag)(mg:Str->Option Value)(base:Heap):Prop where
 kin:K.In base
 glob:base.Ns mainGlobals mg
 blt:∃mb,base.Ns builtinsNs mb/\∀x:Str,x≠"__name__" -> mb x=bootBuiltins x
 nolimit:base.NoLimit
structure Cx where
 prog:Program
 w:World
 K:PySem.W.Frag
 mg:Str->Option Value
 base:Heap
 A:Around
 N:List Str
 s₀:Shared
 H₀:Hp
 env:Env
 outer:List Env
 stack:List Env
 ex:List Addr
 fn:Str->Bool
 calm:Bool
 pn:List (Addr×Obj)
 xe:Value->Shared->Prop
noncomputable def frs(l:List Env):List Addr:=l.filterMap (·.frame)
noncomputable abbrev Cx.fs(X:Cx):List Addr:=frs X.outer
def Vis(sc:Scope)(x:Str):Prop:=sc.names.lookup x=some .local\/sc.names.lookup x=some .cell\/sc.names.lookup x=some .free
def Loc(sc:Scope)(x:Str):Prop:=sc.names.lookup x=some .local\/sc.names.lookup x=some .cell
def qHy(env:Env)(h:Heap)(m:Str->Option Value)(x:Str)(u:Value):Prop:=
 (env.kindOf x=some .local/\m x=some u)\/((env.kindOf x=some .cell\/env.kindOf x=some .free)/\∃c,env.cells.lookup x=some c/\h.IsCell c (some u))
structure Cx.Ok(X:Cx):Prop where
 mod:Mod X.K X.mg X.base
 kind:X.env.scope.kind=.function
 glob:X.env.globals=mainGlobals
 blt:X.env.builtins=builtinsNs
 above:X.s₀.heap.objs.size<=X.env.locals
 inj:∀x y c,X.env.cells.lookup x=some c->X.env.cells.lookup y=some c->x=y
 has:∀x,(X.env.kindOf x=some .cell\/X.env.kindOf x=some .free)->∃c,X.env.cells.lookup x=some c
 cab:∀x c,X.fn x=true->X.env.cells.lookup x=some c->X.s₀.heap.objs.size<=c
 hd:X.calm=true->X.A.handled=none
 frames:X.A.frames=some X.stack
 stk:X.stack=X.outer\/(X.stack=X.env::X.outer/\X.env.frame=some X.env.locals)
 exf:∀b∈X.ex,b≠X.env.locals/\∀x c,X.env.cells.lookup x=some c->c≠b
 bs:∀b o,X.base.get? b=some o->X.s₀.heap.get? b=some o/\X.H₀ b=none
 bsz:X.base.objs.size<=X.s₀.heap.objs.size
 noex:∀b o,X.base.get? b=some o->b∉X.ex
 exfs:∀b∈X.ex,b∉X.fs
 funs:X.s₀.heap.FunFrames X.base X.outer
 frf:∀b∈X.fs,X.H₀ b=none
structure Inv(X:Cx)(pins:List (Addr×Obj))(σ:List (Option V))(H:Hp)(s:Shared):Prop where
 ok:X.Ok
 os:s.os=X.s₀.os
 bare:AllBare s.gens
 base:Un X.fs X.ex X.H₀ H X.s₀.heap s.heap
 loc:∃m,s.heap.Ns X.env.locals m/\∀(i:Nat) (x:Str) (v:V),X.N[i]?=some x->σ[i]?=some (some v)->Vis X.env.scope x->∃u,RelV v u/\qHy X.env s.heap m x u
 cell:∀x c,X.env.cells.lookup x=some c->∃v,s.heap.IsCell c v
 free:H X.env.locals=none
 freeC:∀x c,X.env.cells.lookup x=some c->H c=none
 pin:∀p∈X.pn++pins,s.heap.get? p.1=some p.2/\H p.1=none/\p.1≠X.env.locals/\p.1∉X.fs/\∀v,p.2.data≠.cell v
 hok:HOk X.prog X.w H s.heap
 len:σ.length=X.N.length
section
variable{X:Cx}{pins:List (Addr×Obj)}{σ:List (Option V)}{H H':Hp}{s:Shared}{h':Heap}
theorem Cx.Ok.nofr(ok:X.Ok){b:Addr}{o:Obj}(e:X.base.get? b=some o):b∉X.fs:=λhb=>by
 have:=(ok.funs.mem hb).1;rw[e]at this;cases this
theorem Inv.bs(I:Inv X pins σ H s):∀b o,X.base.get? b=some o->s.heap.get? b=some o/\H b=none:=λb o e=>
 ⟨I.base.keep b o (I.ok.bs b o e).1 (I.ok.bs b o e).2 (I.ok.nofr e) (I.ok.noex b o e),I.base.free b o (I.ok.bs b o e).1 (I.ok.bs b o e).2 (I.ok.noex b o e)⟩
theorem Inv.bk(I:Inv X pins σ H s):∀b o,X.base.get? b=some o->s.heap.get? b=some o:=λb o e=>(I.bs b o e).1
theorem Inv.mod(I:Inv X pins σ H s):Mod X.K X.mg X.base:=I.ok.mod
theorem Inv.kIn(I:Inv X pins σ H s):X.K.In s.heap:=I.ok.mod.kin.keeps I.bk
theorem Inv.lt(I:Inv X pins σ H s):X.env.locals<s.heap.objs.size:=let ⟨_,hn,_⟩:=I.loc;hn.lt
theorem Inv.sz(I:Inv X pins σ H s):X.s₀.heap.objs.size<=s.heap.objs.size:=Nat.le_trans I.ok.above (wt I.lt)
theorem Inv.nofs(I:Inv X pins σ H s){a:Addr}(h:s.heap.objs.size<=a):a∉X.fs:=λhb=>by
 obtain⟨_,o,ho,_⟩:=I.ok.funs.mem hb;exact absurd (wC (Heap.lt_size ho) (Nat.le_trans I.sz h)) (Nat.lt_irrefl _)
theorem Inv.cne(I:Inv X pins σ H s):∀x c,X.env.cells.lookup x=some c->c≠X.env.locals:=λx c e z=>by
 obtain⟨v,o,ho,hd⟩:=I.cell x c e;obtain⟨m,⟨o',es,ep,ho',hd',_⟩,_⟩:=I.loc;rw[z,ho']at ho;cases ho;rw[hd']at hd;cases hd
theorem Inv.funs(I:Inv X pins σ H s):s.heap.FunFrames X.base X.outer:=by
 have all:∀(l:List Env),(∀b∈frs l,b∈X.fs)->X.s₀.heap.FunFrames X.base l->s.heap.FunFrames X.base l:=by
  intro l
  induction l with
  |nil=>intro _ _;trivial
  |cons env r ih=>
   intro hs hl;obtain⟨hk,⟨L,o,hf,hn,ho,hd⟩,hr⟩:=hl;have hL:L∈X.fs:=hs L (by unfold frs;rw[List.filterMap_cons,hf];exact List.mem_cons_self);obtain⟨sl,e⟩:=I.base.slot L o ho (I.ok.frf L hL) hL λz=>I.ok.exfs L z hL;exact⟨hk,⟨L,_,hf,hn,e,hd⟩,ih (λb hb=>hs b (by unfold frs;rw[List.filterMap_cons,hf];exact List.mem_cons_of_mem _ hb)) hr⟩
 exact all X.outer (λ_ hb=>hb) I.ok.funs
theorem Inv.stack(I:Inv X pins σ H s):s.heap.FunFrames X.base X.stack:=by
 rcases I.ok.stk with e|⟨e,hf⟩
 ·rw[e];exact I.funs
 ·rw[e];obtain⟨m,hn,_⟩:=I.loc;refine .cons (by rw[I.ok.kind];decide) hf hn ?_ I.funs;exact Heap.get?_none_of_le (Nat.le_trans I.ok.bsz I.ok.above)
theorem Inv.stkSub(I:Inv X pins σ H s):∀b∈frs X.stack,b∈X.env.locals::X.fs:=λb hb=>by
 rcases I.ok.stk with e|⟨e,hf⟩
 ·rw[e]at hb;exact List.mem_cons_of_mem _ hb
 ·rw[e]at hb;unfold frs at hb;rw[List.filterMap_cons,hf]at hb;exact hb
theorem Inv.stkFree(I:Inv X pins σ H s):∀b∈frs X.stack,H b=none:=λb hb=>by
 rcases List.mem_cons.mp (I.stkSub b hb) with e|hb
 ·rw[e];exact I.free
 ·obtain⟨_,o,ho,_⟩:=I.ok.funs.mem hb;exact I.base.free b o ho (I.ok.frf b hb) λz=>I.ok.exfs b z hb
theorem Inv.step{g':Array GenState}{t':Nat}{d':Drawn}{ch:List Addr}(I:Inv X pins σ H s)
  (hch:∀b∈ch,(b∈X.ex\/X.s₀.heap.objs.size<=b)/\b≠X.env.locals/\(∀x c,X.env.cells.lookup x=some c->c≠b)/\∀p∈X.pn++pins,p.1≠b)
  (keep:∀b o,b≠X.env.locals->b∉X.fs->b∉ch->s.heap.get? b=some o->H b=none->h'.get? b=some o)
  (slot:∀b o,b≠X.env.locals->b∈X.fs->b∉ch->s.heap.get? b=some o->H b=none->∃sl,h'.get? b=some { o with slots:=sl }) (free:∀b o,b∉ch->s.heap.get? b=some o->H b=none->H' b=none)
  (there:∀b o,b∉ch->s.heap.get? b=some o->∃o',h'.get? b=some o')
  (tups:∀b xs,H b=some (.tup xs)->H' b=some (.tup xs)) (frzs:∀b o u,H b=some (.frz o u)->H' b=some (.frz o u)) (tbls:∀b ps,H b=some (.tbl ps)->∃more,H' b=some (.tbl (ps++more)))
  (ns:∀m,s.heap.Ns X.env.locals m->h'.Ns X.env.locals m) (hok:HOk X.prog X.w H' h') (hg:AllBare g'):
  Inv X pins σ H' { s with heap:=h',gens:=g',drawn:=d',toks:=t' }:=by
 have neL:∀b o,X.s₀.heap.get? b=some o->b≠X.env.locals:=λb o e=>wQ (wC (Heap.lt_size e) I.ok.above);have neC:∀b o,X.s₀.heap.get? b=some o->b∉X.ex->b∉ch:=λb o e hx hb=>by
  rcases(hch b hb).1 with z|z
  ·exact hx z
  ·exact absurd (wC (Heap.lt_size e) z) (Nat.lt_irrefl _)
 have cellK:∀x c,X.env.cells.lookup x=some c->∀v,s.heap.IsCell c v->h'.IsCell c v:=λx c e v ⟨o,ho,hd⟩=>by
  have nch:c∉ch:=λz=>(hch c z).2.2.1 x c e rfl;by_cases hc:c∈X.fs
  ·obtain⟨sl,q⟩:=slot c o (I.cne x c e) hc nch ho (I.freeC x c e);exact⟨_,q,hd⟩
  ·exact⟨o,keep c o (I.cne x c e) hc nch ho (I.freeC x c e),hd⟩
 refine⟨I.ok,I.os,hg,⟨λb o e n hb hx=>?_,λb o e n hb hx=>?_,λb o e n hx=>?_,λb o e hx=>?_,λb xs e=>tups b xs (I.base.tups b xs e),λb o xs e=>frzs b o xs (I.base.frzs b o xs e),λb ps e=>?_⟩,?_,λx c e=>?_,?_,λx c e=>?_,λp hp=>?_,hok,I.len⟩
 ·exact keep b o (neL b o e) hb (neC b o e hx) (I.base.keep b o e n hb hx) (I.base.free b o e n hx)
 ·obtain⟨sl,e1⟩:=I.base.slot b o e n hb hx;obtain⟨sl',e2⟩:=slot b _ (neL b o e) hb (neC b o e hx) e1 (I.base.free b o e n hx);exact⟨sl',e2⟩
 ·obtain⟨o',e1⟩:=I.base.there b o e hx;exact free b o' (neC b o e hx) e1 (I.base.free b o e n hx)
 ·obtain⟨o',e1⟩:=I.base.there b o e hx;exact there b o' (neC b o e hx) e1
 ·obtain⟨m1,e1⟩:=I.base.tbls b ps e;obtain⟨m2,e2⟩:=tbls b _ e1;exact⟨m1++m2,by rw[e2,Array.append_assoc]⟩
 ·obtain⟨m,hn,hl⟩:=I.loc;refine⟨m,ns m hn,λi x v e1 e2 e3=>?_⟩;obtain⟨u,r,l⟩:=hl i x v e1 e2 e3;refine⟨u,r,?_⟩;rcases l with l|⟨k,c,e,z⟩
  ·exact .inl l
  ·exact .inr ⟨k,c,e,cellK x c e _ z⟩
 ·obtain⟨v,z⟩:=I.cell x c e;exact⟨v,cellK x c e v z⟩
 ·obtain⟨m,⟨o,_,_,ho,_⟩,_⟩:=I.loc;exact free _ o (λz=>(hch _ z).2.1 rfl) ho I.free
 ·obtain⟨v,o,ho,hd⟩:=I.cell x c e;exact free c o (λz=>(hch c z).2.2.1 x c e rfl) ho (I.freeC x c e)
 ·obtain⟨e,n,ne,nf,d⟩:=I.pin p hp;have nch:p.1∉ch:=λz=>(hch p.1 z).2.2.2 p hp rfl;exact⟨keep p.1 p.2 ne nf nch e n,free p.1 p.2 nch e n,ne,nf,d⟩
theorem Inv.un{t':Nat}(I:Inv X pins σ H s)(u:Un X.fs [] H H' s.heap h')(hok:HOk X.prog X.w H' h'):Inv X pins σ H' { s with heap:=h',toks:=t' }:=by
 obtain⟨m,⟨o,es,ep,ho,r⟩,_⟩:=id I.loc;obtain⟨sl,hL⟩:=u.any ho I.free (by simp);exact I.step (g':=s.gens) (d':=s.drawn) (ch:=[]) (λ_ z=>nomatch z) (λb o _ hb _ e n=>u.keep b o e n hb (by simp)) (λb o _ hb _ e n=>u.slot b o e n hb (by simp)) (λb o _ e n=>u.free b o e n (by simp)) (λb o _ e=>u.there b o e (by simp)) u.tups u.frzs u.tbls (λm' hm=>by
  obtain⟨o',es',ep',ho',r'⟩:=hm;rw[ho]at ho';cases ho';exact⟨_,es',ep',hL,r'⟩) hok I.bare
theorem Inv.call{g':Array GenState}{t':Nat}{d':Drawn}{ch:List Addr}(I:Inv X pins σ H s)(u:Un (frs X.stack) ch H H' s.heap h')(hok:HOk X.prog X.w H' h')(hg:AllBare g')
  (hch:∀b∈ch,(b∈X.ex\/X.s₀.heap.objs.size<=b)/\b≠X.env.locals/\(∀x c,X.env.cells.lookup x=some c->c≠b)/\∀p∈X.pn++pins,p.1≠b):
  Inv X pins σ H' { s with heap:=h',gens:=g',drawn:=d',toks:=t' }:=by
 obtain⟨m,⟨o,es,ep,ho,r⟩,_⟩:=id I.loc;obtain⟨sl,hL⟩:=u.any ho I.free λz=>(hch _ z).2.1 rfl;exact I.step (ch:=ch) hch (λb o hL hb hc e n=>u.keep b o e n (λz=>(List.mem_cons.mp (I.stkSub b z)).elim hL hb) hc) (λb o _ _ hc e n=>u.any e n hc) (λb o hc e n=>u.free b o e n hc) (λb o hc e=>u.there b o e hc) u.tups u.frzs u.tbls (λm' hm=>by
  obtain⟨o',es',ep',ho',r'⟩:=hm;rw[ho]at ho';cases ho';exact⟨_,es',ep',hL,r'⟩) hok hg
theorem Inv.turned{t':Nat}{it:Addr}(I:Inv X pins σ H s)(k:∀b o,b≠it->s.heap.get? b=some o->h'.get? b=some o)(hn:H it=none)(hL:it≠X.env.locals)
  (h1:it∈X.ex\/X.s₀.heap.objs.size<=it) (h2:∀x c,X.env.cells.lookup x=some c->c≠it) (h3:∀p∈X.pn++pins,p.1≠it):Inv X pins σ H { s with heap:=h',toks:=t' }:=by
 have nit:∀b u,H b=some u->b≠it:=λb u e z=>by rw[z,hn]at e;cases e
 refine I.step (g':=s.gens) (d':=s.drawn) (ch:=[it]) (λb hb=>?_) (λb o _ _ hc e _=>k b o (λz=>hc (by simp[z])) e) (λb o _ _ hc e _=>⟨o.slots,k b o (λz=>hc (by simp[z])) e⟩) (λ_ _ _ _ n=>n)
  (λb o hc e=>⟨o,k b o (λz=>hc (by simp[z])) e⟩) (λ_ _ e=>e) (λ_ _ _ e=>e) (λb ps e=>⟨#[],by rw[e];simp⟩) (λm hm=>?_) (λb u e=>?_) I.bare
 ·have e:b=it:=by simpa using hb
  subst e;exact⟨h1,hL,h2,h3⟩
 ·obtain⟨o,es,ep,ho,r⟩:=hm;exact⟨o,es,ep,k _ o (Ne.symm hL) ho,r⟩
 ·refine(I.hok b u e).stay (λc v hc q=>k c v ?_ q) (λ_ q=>q) λ_ _ q=>q;rcases hc with z|z
  ·rw[z];exact nit b u e
  ·exact nit c _ z
theorem Inv.tok(I:Inv X pins σ H s)(t:Nat):Inv X pins σ H { s with toks:=t }:=I.un (h':=s.heap) (t':=t) Un.refl I.hok
theorem Inv.kept{t':Nat}(I:Inv X pins σ H s)(k:∀b u,s.heap.get? b=some u->h'.get? b=some u):Inv X pins σ H { s with heap:=h',toks:=t' }:=I.un (Un.kept k) (I.hok.kept k)
theorem Inv.laid{a:Addr}{o:HO}{t':Nat}(I:Inv X pins σ H s)(k:∀b u,s.heap.get? b=some u->h'.get? b=some u)(hp:s.heap.objs.size<=a)(new:ObjOk X.prog X.w (upd H a o) h' a o):
  Inv X pins σ (upd H a o) { s with heap:=h',toks:=t' }:=I.un (Un.laid k hp (I.hok.fresh hp)) (I.hok.laid k hp new)
theorem Inv.write{x e:Addr}{o:HO}{t':Nat}(I:Inv X pins σ H s)(mu:Mut (H x))(he:e=x\/H e=some (.own x))(k:∀b u,b≠e->s.heap.get? b=some u->h'.get? b=some u)(heo:∃u,h'.get? e=some u)
  (new:ObjOk X.prog X.w (upd H x o) h' x o):Inv X pins σ (upd H x o) { s with heap:=h',toks:=t' }:=I.un (Un.write mu he k heo) (I.hok.write mu he k heo new)
theorem Inv.pins_of{pins':List (Addr×Obj)}(I:Inv X pins σ H s)(h:∀p∈pins',s.heap.get? p.1=some p.2/\H p.1=none/\p.1≠X.env.locals/\p.1∉X.fs/\∀v,p.2.data≠.cell v):Inv X pins' σ H s:=
 ⟨I.ok,I.os,I.bare,I.base,I.loc,I.cell,I.free,I.freeC,λp hp=>(wE.mp hp).elim (λz=>I.pin p (wH _ z)) (h p),I.hok,I.len⟩
theorem L7{N:List Str}(hN:N.Nodup){i j:Nat}{x:Str}(a:N[i]?=some x)(b:N[j]?=some x):i=j:=by
 obtain⟨h1,e1⟩:=List.getElem?_eq_some_iff.mp a;obtain⟨h2,e2⟩:=List.getElem?_eq_some_iff.mp b;exact(List.getElem_inj hN).mp (e1.trans e2.symm)
theorem A0{M:Model}{A:Around}{E:Value->Shared->Prop}{i:Nat}{x:Str}{v:V}{u:Value}{Q:Unit->Shared->Prop}(I:Inv X pins σ H s)(hN:X.N.Nodup)(hi:X.N[i]?=some x)(hx:Loc X.env.scope x)(r:RelV v u)
  (h:∀s',Inv X pins (σ.set i (some v)) H s'->(∃a,Heap.SameBut a s.heap s'.heap/\(a=X.env.locals\/X.env.cells.lookup x=some a))->Q () s') (hf:X.fn x=true\/X.env.scope.names.lookup x=some .local:=by first|exact .inl rfl|exact .inr rfl|assumption):wpAny M A (storeName X.env x u) Q E s:=by
 obtain⟨m,hn,hl⟩:=id I.loc;have hcls:(X.env.scope.kind==.class||(X.env.scope.kind==.module&&X.env.locals != X.env.globals))=false:=by rw[I.ok.kind];rfl
 have hiσ:i<σ.length:=by rw[I.len];exact(List.getElem?_eq_some_iff.mp hi).1
 have cne:=I.cne;have tracked:∀{a:Addr}{h':Heap},(∃o,s.heap.get? a=some o/\H a=none)->Heap.SameBut a s.heap h'->HOk X.prog X.w H h':=λ{a h'} ha hs b ob e=>by
  obtain⟨_,_,hfree⟩:=ha;refine(I.hok b ob e).stay (λc w' hc q=>(hs.2 c ?_).trans q) (λ_ q=>q) λ_ _ q=>q;rintro rfl;rcases hc with rfl|hc
  ·rw[hfree]at e;cases e
  ·rw[hfree]at hc;cases hc
 rcases hx with hk|hk
 ·refine wpAny_storeName_local hk hn (λh' hn' hs=>?_) hcls;obtain⟨oL,_,_,hoL,_⟩:=id hn;refine h _ ⟨I.ok,I.os,I.bare,⟨λb o e n hb hx=>?_,λb o e n hb hx=>?_,I.base.free,λb o e hx=>?_,I.base.tups,I.base.frzs,I.base.tbls⟩,⟨_,hn',λj y v' e1 e2 e3=>?_⟩,λy c e=>?_,I.free,I.freeC,λp hp=>?_,tracked ⟨oL,hoL,I.free⟩ hs,by simpa using I.len⟩ ⟨_,hs,.inl rfl⟩
  ·exact(hs.2 b (wQ (wC (Heap.lt_size e) I.ok.above))).trans (I.base.keep b o e n hb hx)
  ·obtain⟨sl,e1⟩:=I.base.slot b o e n hb hx;exact⟨sl,(hs.2 b (wQ (wC (Heap.lt_size e) I.ok.above))).trans e1⟩
  ·obtain⟨o',e1⟩:=I.base.there b o e hx;exact⟨o',(hs.2 b (wQ (wC (Heap.lt_size e) I.ok.above))).trans e1⟩
  ·by_cases hj:j=i
   ·subst hj;rw[hi]at e1;cases e1;rw[wL hiσ]at e2;cases e2;exact⟨u,r,.inl ⟨hk,by simp⟩⟩
   ·rw[wJ (Ne.symm hj)]at e2;obtain⟨u',r',q⟩:=hl j y v' e1 e2 e3;refine⟨u',r',?_⟩;rcases q with⟨k,e⟩|⟨k,c,e,z⟩
    ·refine .inl ⟨k,?_⟩;have:y≠x:=λe=>hj (L7 hN e1 (e ▸ hi));simp[this,e]
    ·exact .inr ⟨k,c,e,z.sameBut hs (cne y c e)⟩
  ·obtain⟨w',z⟩:=I.cell y c e;exact⟨w',z.sameBut hs (cne y c e)⟩
  ·obtain⟨e,n,ne,nf,d⟩:=I.pin p hp;exact⟨(hs.2 p.1 ne).trans e,n,ne,nf,d⟩
 ·have hfn:X.fn x=true:=by
   rcases hf with z|z
   ·exact z
   ·rw[z]at hk;cases hk
  obtain⟨c,hc⟩:=I.ok.has x (.inl hk);obtain⟨w',z⟩:=I.cell x c hc;refine wpAny_storeName_cell I.ok.kind hk hc z (λh' hc' hs=>?_);obtain⟨oc,hoc,hocd⟩:=id z;refine h { s with heap:=h' } ⟨I.ok,I.os,I.bare,⟨λb o e n hb hx=>?_,λb o e n hb hx=>?_,I.base.free,λb o e hx=>?_,I.base.tups,I.base.frzs,I.base.tbls⟩,⟨m,hn.sameBut hs (Ne.symm (cne x c hc)),λj y v' e1 e2 e3=>?_⟩,λy c' e=>?_,I.free,I.freeC,λp hp=>?_,tracked ⟨oc,hoc,I.freeC x c hc⟩ hs,by simpa using I.len⟩ ⟨c,hs,.inr hc⟩
  ·exact(hs.2 b (wQ (wC (Heap.lt_size e) (I.ok.cab x c hfn hc)))).trans (I.base.keep b o e n hb hx)
  ·obtain⟨sl,e1⟩:=I.base.slot b o e n hb hx;exact⟨sl,(hs.2 b (wQ (wC (Heap.lt_size e) (I.ok.cab x c hfn hc)))).trans e1⟩
  ·obtain⟨o',e1⟩:=I.base.there b o e hx;exact⟨o',(hs.2 b (wQ (wC (Heap.lt_size e) (I.ok.cab x c hfn hc)))).trans e1⟩
  ·by_cases hj:j=i
   ·subst hj;rw[hi]at e1;cases e1;rw[wL hiσ]at e2;cases e2;exact⟨u,r,.inr ⟨.inl hk,c,hc,hc'⟩⟩
   ·rw[wJ (Ne.symm hj)]at e2;obtain⟨u',r',q⟩:=hl j y v' e1 e2 e3;refine⟨u',r',?_⟩;rcases q with q|⟨k,c',e,z'⟩
    ·exact .inl q
    ·refine .inr ⟨k,c',e,z'.sameBut hs ?_⟩;rintro rfl;exact hj (L7 hN e1 (I.ok.inj _ _ _ e hc ▸ hi))
  ·by_cases hcc:c'=c
   ·subst hcc;exact⟨_,hc'⟩
   ·obtain⟨w2,z2⟩:=I.cell y c' e;exact⟨w2,z2.sameBut hs hcc⟩
  ·obtain⟨e,n,ne,nf,d⟩:=I.pin p hp;refine⟨(hs.2 p.1 ?_).trans e,n,ne,nf,d⟩;intro q;rw[q,hoc]at e;have q':oc=p.2:=Option.some.inj e;exact d w' (by rw[<-q'];exact hocd)
theorem jt{M:Model}{A:Around}{E:Value->Shared->Prop}{i:Nat}{x:Str}{v:V}{u:Value}{Q:Unit->Shared->Prop}(I:Inv X pins σ H s)(hN:X.N.Nodup)(hi:X.N[i]?=some x)(hx:Loc X.env.scope x)(r:RelV v u)
  (h:∀s',Inv X pins (σ.set i (some v)) H s'->Q () s') (hf:X.fn x=true\/X.env.scope.names.lookup x=some .local:=by first|exact .inl rfl|exact .inr rfl|assumption):wpAny M A (storeName X.env x u) Q E s:=
 A0 I hN hi hx r (λs' I' _=>h s' I') hf
theorem Inv.call'{s':Shared}{ch:List Addr}(I:Inv X pins σ H s)(ho:s'.os=s.os)(u:Un (frs X.stack) ch H H' s.heap s'.heap)(hok:HOk X.prog X.w H' s'.heap)(hg:AllBare s'.gens)
  (hch:∀b∈ch,(b∈X.ex\/X.s₀.heap.objs.size<=b)/\b≠X.env.locals/\(∀x c,X.env.cells.lookup x=some c->c≠b)/\∀p∈X.pn++pins,p.1≠b):Inv X pins σ H' s':=by
 obtain⟨h',g',d',t',o'⟩:=s';have e:o'=s.os:=ho;subst e;exact I.call (g':=g') (t':=t') (d':=d') u hok hg hch
end
noncomputable abbrev XK:=Value->Option Addr->Hp->Prop
noncomputable abbrev St:=List (Option V)
noncomputable abbrev VK:=V->Hp->Prop
noncomputable abbrev TE:=St->Hp->VK->Prop
noncomputable abbrev TT:=St->Hp->(Bool->Hp->Prop)->Prop
noncomputable abbrev TA:=St->Hp->(List V->Hp->Prop)->Prop
structure R8 where
 nx:St->Hp->Prop
 rt:VK
 bk:St->Hp->Prop:=λ_ _=>False
 ct:St->Hp->Prop:=λ_ _=>False
noncomputable abbrev TS:=R8->St->Hp->Prop
def EP(X:Cx)(pins:List (Addr×Obj))(σ:St)(Q:VK)(u:Value)(s':Shared):Prop:=∃v H',Inv X pins σ H' s'/\RelV v u/\Q v H'
def TP(X:Cx)(pins:List (Addr×Obj))(σ:St)(Q:Bool->Hp->Prop)(b:Bool)(s':Shared):Prop:=∃H',Inv X pins σ H' s'/\Q b H'
def AP(X:Cx)(pins:List (Addr×Obj))(σ:St)(Q:List V->Hp->Prop)(us:List Value)(s':Shared):Prop:=∃vs H',Inv X pins σ H' s'/\Vals vs us/\Q vs H'
def SP(X:Cx)(pins:List (Addr×Obj))(D:R8)(f:Flow)(s':Shared):Prop:=
 match f with
 | .next=>∃σ' H',Inv X pins σ' H' s'/\D.nx σ' H'
 | .brk=>∃σ' H',Inv X pins σ' H' s'/\D.bk σ' H'
 | .cont=>∃σ' H',Inv X pins σ' H' s'/\D.ct σ' H'
 | .ret u=>∃v σ' H',Inv X pins σ' H' s'/\RelV v u/\D.rt v H'
def PE(X:Cx)(e:Expr)(t:TE):Prop:=
 ∀(pins:List (Addr×Obj)) (s:Shared) (σ:St) (H:Hp) (Q:VK),Inv X pins σ H s->t σ H Q->wpAny (model X.prog X.w) X.A (eval e X.env) (EP X pins σ Q) X.xe s
def PT(X:Cx)(e:Expr)(t:TT):Prop:=
 ∀(pins:List (Addr×Obj)) (s:Shared) (σ:St) (H:Hp) (Q:Bool->Hp->Prop),Inv X pins σ H s->t σ H Q->wpAny (model X.prog X.w) X.A (isTrue e X.env (eval e X.env)) (TP X pins σ Q) X.xe s
def PW(X:Cx)(e:Expr)(t:TT):Prop:=
 ∀(whole:Sem Value) (pins:List (Addr×Obj)) (s:Shared) (σ:St) (H:Hp) (Q:Bool->Hp->Prop),Inv X pins σ H s->t σ H Q->wpAny (model X.prog X.w) X.A (isTrue e X.env whole) (TP X pins σ Q) X.xe s
theorem PW.pt{X:Cx}{e:Expr}{t:TT}(h:PW X e t):PT X e t:=h _
def PA(X:Cx)(es:List Expr)(t:TA):Prop:=
 ∀(pos:Pos) (pins:List (Addr×Obj)) (s:Shared) (σ:St) (H:Hp) (Q:List V->Hp->Prop),Inv X pins σ H s->t σ H Q->wpAny (model X.prog X.w) X.A (spliced (backTo pos (starEach es X.env))) (AP X pins σ Q) X.xe s
def PS(X:Cx)(st:Stmt)(t:TS):Prop:=
 ∀(pins:List (Addr×Obj)) (s:Shared) (σ:St) (H:Hp) (D:R8),Inv X pins σ H s->t D σ H->wpAny (model X.prog X.w) X.A (exec st X.env) (SP X pins D) X.xe s
def PSs(X:Cx)(st:List Stmt)(t:TS):Prop:=
 ∀(pins:List (Addr×Obj)) (s:Shared) (σ:St) (H:Hp) (D:R8),Inv X pins σ H s->t D σ H->wpAny (model X.prog X.w) X.A (execs st X.env) (SP X pins D) X.xe s
theorem thn{α:Type}{t:Sem α}{Q Q':α->Shared->Prop}{M:Model}{A:Around}{E:Value->Shared->Prop}{s:Shared}(h:wpAny M A t Q E s)(hQ:∀a s,Q a s->Q' a s):wpAny M A t Q' E s:=wpAny_mono h hQ λ_ _ x=>x
section
variable{X:Cx}
theorem bin{a b:Expr}{ta tb:TE}(ha:PE X a ta)(hb:PE X b tb){pins:List (Addr×Obj)}{s:Shared}{σ:St}{H:Hp}{R:V->V->Hp->Prop}(I:Inv X pins σ H s)(h:ta σ H λx H1=>tb σ H1 λy H2=>R x y H2)
  {α:Type}{Q:α->Shared->Prop}{f:Value->Value->Sem α}
  (hf:∀v u s2 x y H2,Inv X pins σ H2 s2->RelV x v->RelV y u->R x y H2->wpAny (model X.prog X.w) X.A (f v u) Q X.xe s2):
  wpAny (model X.prog X.w) X.A (eval a X.env) (λv s₁=>wpAny (model X.prog X.w) X.A (eval b X.env) (λu s₂=>wpAny (model X.prog X.w) X.A (f v u) Q X.xe s₂) X.xe s₁) X.xe s:=by
 refine thn (ha pins s σ H _ I h) λv s1 ⟨x,H1,I1,r1,q1⟩=>?_;refine thn (hb pins s1 σ H1 _ I1 q1) λu s2 ⟨y,H2,I2,r2,q2⟩=>?_;exact hf v u s2 x y H2 I2 r1 r2 q2
noncomputable def qIU(i:Nat):TE:=λσ H Q=>∃v,σ[i]?=some (some v)/\Q v H
noncomputable def tC(v:V):TE:=λ_ H Q=>Q v H
theorem pe_var{i:Nat}{x:Str}{pos:Pos}(hN:X.N[i]?=some x)(hv:Vis X.env.scope x)(hd:(x==("__debug__":Str))=false:=by decide)(hcd:(x==("__classdict__":Str))=false:=by decide):PE X (.Name x pos) (qIU i):=by
 intro pins s σ H Q I h;obtain⟨v,e,h⟩:=h;obtain⟨m,hn,hl⟩:=I.loc;obtain⟨u,r,l⟩:=hl i x v hN e hv;have fin:EP X pins σ Q u s:=⟨v,H,I,r,h⟩
 rcases l with⟨hk,hm⟩|⟨hk,c,hc,hcell⟩
 ·exact wpAny_Name (wpAny_loadName_local I.ok.kind hk hn hm fin) hd
 ·rcases hk with hk|hk
  ·exact wpAny_Name (wpAny_loadName_cell I.ok.kind hk hc hcell fin) hd
  ·exact wpAny_Name (wpAny_loadName_free I.ok.kind hk hc hcell fin hcd) hd
theorem pe_int {i j pos}:PE X (.Constant (.int i) j pos) (tC (.int i)):=λ_ _ _ H _ I h=>wpAny_Constant_int ⟨.int i,H,I.tok _,⟨_,rfl⟩,h⟩
theorem pe_bl {b j pos}:PE X (.Constant (.bool b) j pos) (tC (.bl b)):=λ_ _ _ H _ I h=>Constant_bool ⟨.bl b,H,I,rfl,h⟩
theorem pe_non {j pos}:PE X (.Constant .none j pos) (tC .non):=λ_ _ _ H _ I h=>Constant_none ⟨.non,H,I,rfl,h⟩
theorem pe_str {x j pos}:PE X (.Constant (.str x) j pos) (tC (.str x)):=λ_ _ _ H _ I h=>Calls.Constant_str ⟨.str x,H,I.tok _,⟨_,rfl⟩,h⟩
def Gl(X:Cx)(x:Str):Prop:=X.env.kindOf x=some .globalImplicit
theorem D0{E:Value->Shared->Prop}{pins:List (Addr×Obj)}{s:Shared}{σ:St}{H:Hp}{x:Str}{u:Value}{pos:Pos}{Q:Value->Shared->Prop}(I:Inv X pins σ H s)(hg:Gl X x)(hm:X.mg x=some u)(h:Q u s)
  (hd:(x==("__debug__":Str))=false:=by decide):wpAny (model X.prog X.w) X.A (eval (.Name x pos) X.env) Q E s:=
 Calls.Name_function_global I.ok.kind hg (Calls.loadGlobal_global (by rw[I.ok.glob];exact I.mod.glob.keeps I.bk) hm h) hd
theorem ld_blt{E:Value->Shared->Prop}{pins:List (Addr×Obj)}{s:Shared}{σ:St}{H:Hp}{x:Str}{u:Value}{pos:Pos}{Q:Value->Shared->Prop}(I:Inv X pins σ H s)(hg:Gl X x)(hm:X.mg x=none)(hv:bootBuiltins x=some u)(h:Q u s)
  (hn:x≠"__name__":=by decide) (hd:(x==("__debug__":Str))=false:=by decide):wpAny (model X.prog X.w) X.A (eval (.Name x pos) X.env) Q E s:=by
 obtain⟨mb,h1,h2⟩:=I.mod.blt;exact Calls.Name_function_global I.ok.kind hg (Calls.loadGlobal_builtin (by rw[I.ok.glob];exact I.mod.glob.keeps I.bk) hm (by rw[I.ok.blt];exact h1.keeps I.bk) ((h2 x hn).trans hv) h) hd
theorem pe_glob{x:Str}{v:V}{u:Value}{pos:Pos}(hg:Gl X x)(hm:X.mg x=some u)(r:RelV v u)(hd:(x==("__debug__":Str))=false:=by decide):PE X (.Name x pos) (tC v):=
 λ_ _ _ H _ I h=>D0 I hg hm ⟨v,H,I,r,h⟩ hd
theorem pe_bltn{x:Str}{v:V}{u:Value}{pos:Pos}(hg:Gl X x)(hm:X.mg x=none)(hv:bootBuiltins x=some u)(r:RelV v u)(hn:x≠"__name__":=by decide)(hd:(x==("__debug__":Str))=false:=by decide):PE X (.Name x pos) (tC v):=
 λ_ _ _ H _ I h=>ld_blt I hg hm hv ⟨v,H,I,r,h⟩ hn hd
variable{a b:Expr}{ta tb:TE}{pos:Pos}
def PC(X:Cx)(op:CmpOp)(a b:Expr)(t:TE):Prop:=
 ∀(pins:List (Addr×Obj)) (s:Shared) (σ:St) (H:Hp) (Q:VK),Inv X pins σ H s->t σ H Q ->
  wpAny (model X.prog X.w) X.A (eval a X.env) (λv s₁=>wpAny (model X.prog X.w) X.A (eval b X.env) (λu s₂=>wpAny (model X.prog X.w) X.A (compareOp op v u) (EP X pins σ Q) X.xe s₂) X.xe s₁) X.xe s
noncomputable def tB(t:TE):TT:=λσ H Q=>t σ H λx H1=>∃c,x=.bl c/\Q c H1
theorem X7{op:CmpOp}{t:TE}(h:PC X op a b t)(h1:behindInMarks op b=false:=by first|exact nobehind _ (by decide) (by decide)|rfl):PE X (.Compare a [op] [b] pos) t:=λpins s σ H Q I hw=>wpAny_Compare1 (h pins s σ H Q I hw) h1
theorem pt_val{e:Expr}{t:TE}(h:PE X e t)(he:∀whole,isTrue e X.env whole=(do let v <- whole;standAt e.pos;holding [v] (truthy v)):=by intro _;rfl):PT X e (tB t):=by
 intro pins s σ H Q I hw;refine isTrue_plain (thn (h pins s σ H _ I hw) λv s1 ⟨x,H1,I1,r1,q1⟩=>?_) (he _);obtain⟨d,rfl,q⟩:=q1;cases r1;exact vg ⟨H1,I1,q⟩
variable{tA tB':TT}{QN:List Expr}
noncomputable def tAnd(t u:TT):TT:=λσ H Q=>t σ H λc H1=>if c=true then u σ H1 Q else Q false H1
noncomputable def tOr(t u:TT):TT:=λσ H Q=>t σ H λc H1=>if c=true then Q true H1 else u σ H1 Q
noncomputable def qH1(t:TT):TT:=λσ H Q=>t σ H λc H1=>Q (!c) H1
theorem pw_and1(ha:PT X a tA):PW X (.BoolOp .And [a] pos) tA:=by
 intro wh pins s σ H Q I h;refine isTrue_and (thn (ha pins s σ H Q I h) λc s1 e=>?_);cases c with
 |true=>exact isTrue_and_nil e
 |false=>exact e
theorem pw_or1(ha:PT X a tA):PW X (.BoolOp .Or [a] pos) tA:=by
 intro wh pins s σ H Q I h;refine isTrue_or (thn (ha pins s σ H Q I h) λc s1 e=>?_);cases c with
 |false=>exact isTrue_or_nil e
 |true=>exact e
theorem pw_and(ha:PT X a tA)(hb:PW X (.BoolOp .And (b::QN) pos) tB'):PW X (.BoolOp .And (a::b::QN) pos) (tAnd tA tB'):=by
 intro wh pins s σ H Q I h;refine isTrue_and (thn (ha pins s σ H _ I h) λc s1 ⟨H1,I1,q1⟩=>?_);cases c with
 |true=>exact hb wh pins s1 σ H1 Q I1 q1
 |false=>exact⟨H1,I1,q1⟩
theorem pw_or(ha:PT X a tA)(hb:PW X (.BoolOp .Or (b::QN) pos) tB'):PW X (.BoolOp .Or (a::b::QN) pos) (tOr tA tB'):=by
 intro wh pins s σ H Q I h;refine isTrue_or (thn (ha pins s σ H _ I h) λc s1 ⟨H1,I1,q1⟩=>?_);cases c with
 |true=>exact⟨H1,I1,q1⟩
 |false=>exact hb wh pins s1 σ H1 Q I1 q1
theorem pt_not(ha:PT X a tA):PT X (.UnaryOp .Not a pos) (qH1 tA):=by
 intro pins s σ H Q I h;exact isTrue_not (ha pins s σ H (λc H1=>Q (!c) H1) I h)
noncomputable def tAndV(ta tb:TE):TE:=λσ H Q=>ta σ H λx H1=>∃c,x=.bl c/\if c=true then tb σ H1 Q else Q (.bl false) H1
noncomputable def tOrV(ta tb:TE):TE:=λσ H Q=>ta σ H λx H1=>∃c,x=.bl c/\if c=true then Q (.bl true) H1 else tb σ H1 Q
noncomputable def qFa(ta:TE):TE:=λσ H Q=>ta σ H λx H1=>∃c,x=.bl c/\Q (.bl (!c)) H1
theorem pe_one {op}{t:TE}(h:PE X a t):PE X (.BoolOp op [a] pos) t:=λpins s σ H Q I hw=>BoolOp_one (h pins s σ H Q I hw)
theorem pe_and(ha:PE X a ta)(hb:PE X (.BoolOp .And (b::QN) pos) tb):PE X (.BoolOp .And (a::b::QN) pos) (tAndV ta tb):=by
 intro pins s σ H Q I h;refine BoolOp_and (thn (ha pins s σ H _ I h) λv s1 ⟨x,H1,I1,r1,q1⟩=>?_);obtain⟨c,rfl,q1⟩:=q1;cases r1;refine vg ?_;cases c with
 |true=>exact hb pins s1 σ H1 Q I1 q1
 |false=>exact⟨.bl false,H1,I1,rfl,q1⟩
theorem pe_or(ha:PE X a ta)(hb:PE X (.BoolOp .Or (b::QN) pos) tb):PE X (.BoolOp .Or (a::b::QN) pos) (tOrV ta tb):=by
 intro pins s σ H Q I h;refine BoolOp_or (thn (ha pins s σ H _ I h) λv s1 ⟨x,H1,I1,r1,q1⟩=>?_);obtain⟨c,rfl,q1⟩:=q1;cases r1;refine vg ?_;cases c with
 |false=>exact hb pins s1 σ H1 Q I1 q1
 |true=>exact⟨.bl true,H1,I1,rfl,q1⟩
theorem pe_not(ha:PE X a ta):PE X (.UnaryOp .Not a pos) (qFa ta):=by
 intro pins s σ H Q I h;refine UnaryOp_ (thn (ha pins s σ H _ I h) λv s1 ⟨x,H1,I1,r1,q1⟩=>?_);obtain⟨c,rfl,q1⟩:=q1;cases r1;exact not_of (vg ⟨.bl (!c),H1,I1,rfl,q1⟩)
noncomputable def tIf(t:TT)(ta tb:TE):TE:=λσ H Q=>t σ H λc H1=>if c=true then ta σ H1 Q else tb σ H1 Q
theorem pe_ifExp{c:Expr}(hc:PT X c tA)(ha:PE X a ta)(hb:PE X b tb):PE X (.IfExp c a b pos) (tIf tA ta tb):=by
 intro pins s σ H Q I h;refine wpAny_IfExp (thn (hc pins s σ H _ I h) λd s1 ⟨H1,I1,q1⟩=>?_);cases d with
 |true=>exact ha pins s1 σ H1 Q I1 q1
 |false=>exact hb pins s1 σ H1 Q I1 q1
end
def SqL(K:PySem.W.Frag)(H:Hp)(a:Addr)(xs:List V):Prop:=
 Rd H a (.lst xs)\/
  ∃(o:Obj) (its:Array Value) (n:Nat),K.lookup a=some o/\o.cls=.type "list"/\o.dict=none/\o.data=.seq its n/\its.size<=sizeLine/\Vals xs its.toList
def SqT(K:PySem.W.Frag)(H:Hp)(a:Addr)(xs:List V):Prop:=
 Rd H a (.tup xs)\/
  ∃(o:Obj) (its:Array Value) (n:Nat),K.lookup a=some o/\o.cls=.type "tuple"/\o.data=.seq its n/\its.size<=sizeLine/\Vals xs its.toList
noncomputable def qIC:Value->Option V
 | .none=>some .non
 | .bool b=>some (.bl b)
 | .int i _=>some (.int i)
 | .str x _=>some (.str x)
 | .bytes b _=>some (.byt b)
 | .float b _=>some (.flt b)
 | .ref a=>some (.ref a)
 | .type n=>some (.ty n)
 |_=>none
theorem RelV.abs{x:V}{u:Value}(r:RelV x u):qIC u=some x:=by
 cases x with
 |non=>cases r;rfl
 |bl _=>cases r;rfl
 |int _=>obtain⟨t,rfl⟩:=r;rfl
 |str _=>obtain⟨t,rfl⟩:=r;rfl
 |byt _=>obtain⟨t,rfl⟩:=r;rfl
 |flt _=>obtain⟨t,rfl⟩:=r;rfl
 |ref _=>cases r;rfl
 |ty _=>cases r;rfl
theorem RelV.inj{x y:V}{u:Value}(r:RelV x u)(q:RelV y u):x=y:=Option.some.inj (r.abs.symm.trans q.abs)
theorem Vals.inj:∀{xs ys:List V}{us:List Value},Vals xs us->Vals ys us->xs=ys
 |_,_,_,.nil,.nil=>rfl
 |_,_,_,.cons r t,.cons r' t'=>by rw[r.inj r',Vals.inj t t']
section
variable{X:Cx}{pins:List (Addr×Obj)}{σ:St}{H:Hp}{s:Shared}{a:Addr}{xs ys:List V}
theorem Inv.list(I:Inv X pins σ H s)(h:SqL X.K H a xs):∃its:List Value,Vals xs its/\PlainL s.heap a its.toArray/\xs.length<=sizeLine:=by
 rcases h with h|⟨o,its,n,hk,hc,hd,hs,hz,r⟩
 ·obtain⟨z,its,n,r,e⟩:=h.ok I.hok;exact⟨its,r,⟨_,n,e,rfl,rfl,rfl⟩,z⟩
 ·refine⟨its.toList,r,⟨o,n,I.kIn a o hk,hc,hd,by simpa using hs⟩,?_⟩;have e:=r.length;simp only[Array.length_toList]at e;omega
theorem Inv.tuple(I:Inv X pins σ H s)(h:SqT X.K H a xs):∃its:List Value,Vals xs its/\IsTup s.heap a its.toArray/\xs.length<=sizeLine:=by
 rcases h with h|⟨o,its,n,hk,hc,hs,hz,r⟩
 ·obtain⟨z,its,r,p⟩:=h.ok I.hok;exact⟨its,r,p,z⟩
 ·refine⟨its.toList,r,⟨o,I.kIn a o hk,hc,n,by simpa using hs⟩,?_⟩;have e:=r.length;simp only[Array.length_toList]at e;omega
theorem Inv.list_inj(I:Inv X pins σ H s)(h:SqL X.K H a xs)(h':SqL X.K H a ys):xs=ys:=by
 obtain⟨its,r,⟨o,n,e,_,_,d⟩,_⟩:=I.list h;obtain⟨its',r',⟨o',n',e',_,_,d'⟩,_⟩:=I.list h';rw[e]at e';cases e';rw[d]at d';injection d' with d1 _;have:its=its':=by simpa using congrArg Array.toList d1
 subst this;exact r.inj r'
theorem Inv.tuple_inj(I:Inv X pins σ H s)(h:SqT X.K H a xs)(h':SqT X.K H a ys):xs=ys:=by
 obtain⟨its,r,⟨o,e,_,n,d⟩,_⟩:=I.tuple h;obtain⟨its',r',⟨o',e',_,n',d'⟩,_⟩:=I.tuple h';rw[e]at e';cases e';rw[d]at d';injection d' with d1 _;have:its=its':=by simpa using congrArg Array.toList d1
 subst this;exact r.inj r'
end
noncomputable abbrev Cx.wish(X:Cx)(E:Value->Shared->Prop):Cx:={ X with xe:=E }
noncomputable abbrev Cx.nox(X:Cx):Cx:=X.wish λ_ _=>False
theorem Cx.Ok.wish{X:Cx}(ok:X.Ok)(E:Value->Shared->Prop):(X.wish E).Ok:=
 ⟨ok.mod,ok.kind,ok.glob,ok.blt,ok.above,ok.inj,ok.has,ok.cab,ok.hd,ok.frames,ok.stk,ok.exf,ok.bs,ok.bsz,ok.noex,ok.exfs,ok.funs,ok.frf⟩
theorem Cx.Ok.unwish{X:Cx}{E:Value->Shared->Prop}(ok:(X.wish E).Ok):X.Ok:=
 ⟨ok.mod,ok.kind,ok.glob,ok.blt,ok.above,ok.inj,ok.has,ok.cab,ok.hd,ok.frames,ok.stk,ok.exf,ok.bs,ok.bsz,ok.noex,ok.exfs,ok.funs,ok.frf⟩
section
variable{X:Cx}{pins:List (Addr×Obj)}{σ:St}{H:Hp}{s:Shared}{E:Value->Shared->Prop}
theorem Inv.wish(I:Inv X pins σ H s)(E:Value->Shared->Prop):Inv (X.wish E) pins σ H s:=⟨I.ok.wish E,I.os,I.bare,I.base,I.loc,I.cell,I.free,I.freeC,I.pin,I.hok,I.len⟩
theorem Inv.unwish(I:Inv (X.wish E) pins σ H s):Inv X pins σ H s:=⟨I.ok.unwish,I.os,I.bare,I.base,I.loc,I.cell,I.free,I.freeC,I.pin,I.hok,I.len⟩
theorem SP.unwish{D:R8}{f:Flow}{s':Shared}(h:SP (X.wish E) pins D f s'):SP X pins D f s':=by
 cases f with
 |next=>obtain⟨σ',H',I,q⟩:=h;exact⟨σ',H',I.unwish,q⟩
 |brk=>obtain⟨σ',H',I,q⟩:=h;exact⟨σ',H',I.unwish,q⟩
 |cont=>obtain⟨σ',H',I,q⟩:=h;exact⟨σ',H',I.unwish,q⟩
 |ret u=>obtain⟨v,σ',H',I,r,q⟩:=h;exact⟨v,σ',H',I.unwish,r,q⟩
theorem PSs.nox{st:List Stmt}{t:TS}(h:PSs X.nox st t):PSs X st t:=λpins s σ H D I hw=>
 wpAny_mono (h pins s σ H D (I.wish _) hw) (λ_ _ q=>q.unwish) λ_ _ z=>False.elim z
end
section
variable{X:Cx}{st:Stmt}{QN:List Stmt}{t u:TS}{e:Expr}{te:TE}{pos:Pos}
noncomputable def qFv:TS:=λD σ H=>D.nx σ H
noncomputable def qII(t u:TS):TS:=λD σ H=>t { D with nx:=u D } σ H
theorem pss_nil:PSs X [] qFv:=λ_ _ σ H _ I h=>wpAny_execs_nil ⟨σ,H,I,h⟩
theorem pss_cons(h1:PS X st t)(h2:PSs X QN u):PSs X (st::QN) (qII t u):=by
 intro pins s σ H D I h;refine wpAny_execs_cons (thn (h1 pins s σ H { D with nx:=u D } I h) λf s1 q=>?_);cases f with
 |next=>
  obtain⟨σ',H',I',q⟩:=q;exact h2 pins s1 σ' H' D I' q
 |ret v=>exact q
 |brk=>exact q
 |cont=>exact q
theorem Inv.quiet{pins:List (Addr×Obj)}{σ:St}{H:Hp}{s:Shared}(I:Inv X pins σ H s):interactive X.env=false:=by simp[interactive,I.ok.kind]
noncomputable def qGX(te:TE):TS:=λD σ H=>te σ H λ_ H1=>D.nx σ H1
theorem ps_expr(he:PE X e te)(hs:swapsWith e none pos.line X.env=pure false:=by rfl):PS X (.Expr e pos) (qGX te):=by
 intro pins s σ H D I h;exact wpAny_Expr_any (thn (he pins s σ H _ I h) λv s1 ⟨x,H1,I1,r1,q1⟩=>⟨σ,H1,I1,q1⟩) I.quiet hs
noncomputable def qIa(te:TE):TS:=λD σ H=>te σ H D.rt
theorem ps_ret(he:PE X e te):PS X (.Return (some e) pos) (qIa te):=by
 intro pins s σ H D I h;exact wpAny_Return_some (thn (he pins s σ H _ I h) λv s1 ⟨x,H1,I1,r1,q1⟩=>⟨x,σ,H1,I1,r1,q1⟩)
noncomputable def qIl(c:TT)(t u:TS):TS:=λD σ H=>c σ H λb H1=>if b=true then t D σ H1 else u D σ H1
theorem ps_if{c:Expr}{a b:List Stmt}{tc:TT}(hc:PT X c tc)(ha:PSs X a t)(hb:PSs X b u):PS X (.If c a b pos) (qIl tc t u):=by
 intro pins s σ H D I h;refine wpAny_If (thn (hc pins s σ H _ I h) λd s1 ⟨H1,I1,q1⟩=>?_);cases d with
 |true=>exact ha pins s1 σ H1 D I1 q1
 |false=>exact hb pins s1 σ H1 D I1 q1
end
noncomputable abbrev TG:=V->St->Hp->(St->Hp->Prop)->Prop
noncomputable abbrev TGs:=List V->St->Hp->(St->Hp->Prop)->Prop
def PG(X:Cx)(target:Expr)(t:TG):Prop:=
 ∀(pins:List (Addr×Obj)) (s:Shared) (σ:St) (H:Hp) (v:V) (u:Value) (Q:St->Hp->Prop),Inv X pins σ H s->RelV v u->t v σ H Q ->
  wpAny (model X.prog X.w) X.A (assign target X.env u) (λ_ s'=>∃σ' H',Inv X pins σ' H' s'/\Q σ' H') X.xe s
def PGs(X:Cx)(ts:List Expr)(t:TGs):Prop:=
 ∀(pins:List (Addr×Obj)) (s:Shared) (σ:St) (H:Hp) (vs:List V) (us:List Value) (Q:St->Hp->Prop),Inv X pins σ H s->Vals vs us->t vs σ H Q ->
  wpAny (model X.prog X.w) X.A (assignInOrder ((assignEach ts X.env).map (·.2)) us) (λ_ s'=>∃σ' H',Inv X pins σ' H' s'/\Q σ' H') X.xe s
noncomputable abbrev TSet:=V->V->V->Hp->(Hp->Prop)->Prop
def PSet(X:Cx)(t:TSet):Prop:=
 ∀(pins:List (Addr×Obj)) (s:Shared) (σ:St) (H:Hp) (o i v:V) (ov iv u:Value) (Q:Hp->Prop),Inv X pins σ H s->RelV o ov->RelV i iv->RelV v u->t o i v H Q ->
  wpAny (model X.prog X.w) X.A (setItem ov iv u) (λ_ s'=>∃H',Inv X pins σ H' s'/\Q H') X.xe s
section
variable{X:Cx}{pos:Pos}
noncomputable def qDg(i:Nat):TG:=λv σ H Q=>Q (σ.set i (some v)) H
theorem pg_name{i:Nat}{x:Str}(hN:X.N.Nodup)(hi:X.N[i]?=some x)(hx:Loc X.env.scope x)(hf:X.fn x=true\/X.env.scope.names.lookup x=some .local:=by first|exact .inl rfl|exact .inr rfl|assumption):PG X (.Name x pos) (qDg i):=by
 intro pins s σ H v u Q I r h;exact wpAny_assign_Name (jt I hN hi hx r (λs' I'=>⟨_,H,I',h⟩) hf)
noncomputable def qIS:TGs:=λvs σ H Q=>vs=[]/\Q σ H
noncomputable def qFp(t:TG)(u:TGs):TGs:=λvs σ H Q=>∃v r,vs=v::r/\t v σ H λσ' H'=>u r σ' H' Q
theorem pgs_nil:PGs X [] qIS:=by
 intro pins s σ H vs us Q I r h;obtain⟨e,h⟩:=h;subst e;cases r;exact assignInOrder_nil ⟨σ,H,I,h⟩
theorem pgs_cons{e:Expr}{es:List Expr}{t:TG}{u:TGs}(h1:PG X e t)(h2:PGs X es u)
  (hs:(assignEach (e::es) X.env).map (·.2)=assign e X.env::(assignEach es X.env).map (·.2):=by rfl):PGs X (e::es) (qFp t u):=by
 intro pins s σ H vs us Q I r h;obtain⟨v,vr,e1,h⟩:=h;subst e1;cases r with
 |cons r rr=>
  rw[hs];refine assignInOrder_cons (thn (h1 pins s σ H _ _ _ I r h) λ_ s1 ⟨σ1,H1,I1,q1⟩=>?_);exact h2 pins s1 σ1 H1 _ _ Q I1 rr q1
noncomputable def qIL(K:PySem.W.Frag)(n:Nat)(t:TGs):TG:=λv σ H Q=>∃a xs,v=.ref a/\SqT K H a xs/\xs.length=n/\t xs σ H Q
theorem pg_tup{es:List Expr}{k:Nat}{t:TGs}{n:Nat}(hc:X.calm=true)(h:PGs X es t)
  (hn:(assignEach es X.env).length=n:=by rfl) (hst:(assignEach es X.env).findIdx? (·.1)=none:=by rfl):PG X (.Tuple es k pos) (qIL X.K n t):=by
 intro pins s σ H v u Q I r hw;obtain⟨a,xs,e1,hq,hl,hw⟩:=hw;subst e1;cases r;obtain⟨its,rv,ht,hz⟩:=I.tuple hq;refine assign_Tuple_tuple (I.ok.hd hc) ht (by simp[hn,<-hl,rv.length]) hst λh' hx=>?_;have I1:Inv X pins σ H { s with heap:=h' }:=I.kept (t':=s.toks) λb o e=>hx b o (wQ (Heap.lt_size e)) e;exact h pins _ σ H xs _ Q I1 (by simpa using rv) hw
noncomputable def qIb(to ti:TE)(t:TSet):TG:=λv σ H Q=>to σ H λo H1=>ti σ H1 λi H2=>t o i v H2 λH3=>Q σ H3
theorem pg_sub{o i:Expr}{to ti:TE}{t:TSet}(ho:PE X o to)(hi:PE X i ti)(hs:PSet X t)
  (ha:∀v,assign (.Subscript o i pos) X.env v=(do
   let ov <- holding [v] (eval o X.env)
   let iv <- holding [v,ov] (eval i X.env)
   standAt pos
   holding [v,ov,iv] (setItem ov iv v)
   release [v,ov,iv] []):=by intro _;rfl):PG X (.Subscript o i pos) (qIb to ti t):=by
 intro pins s σ H v u Q I r h;rw[ha];refine va (wpAny_holding (thn (ho pins s σ H _ I h) λov s1 ⟨x,H1,I1,r1,q1⟩=>?_));refine va (wpAny_holding (thn (hi pins s1 σ H1 _ I1 q1) λiv s2 ⟨y,H2,I2,r2,q2⟩=>?_));refine va (wpAny_standAt (va (wpAny_holding (thn (hs pins s2 σ H2 x y v ov iv u _ I2 r1 r2 r q2) λ_ s3 ⟨H3,I3,q3⟩=>?_))));exact wpAny_release ⟨σ,H3,I3,q3⟩
noncomputable def tAsg(te:TE)(g:TG):TS:=λD σ H=>te σ H λx H1=>g x σ H1 D.nx
theorem ps_asg{tg e:Expr}{te:TE}{g:TG}(he:PE X e te)(hg:PG X tg g)(hs:swapsWithSole [tg] e pos.line X.env=pure false:=by rfl)(hw:swappedStores [tg] e X.env=pure none:=by rfl)
  (h1:(assignEach [tg] X.env).map (·.2)=[assign tg X.env]:=by rfl):PS X (.Assign [tg] e pos) (tAsg te g):=by
 intro pins s σ H D I h;refine wpAny_Assign_stores (thn (he pins s σ H _ I h) λv s1 ⟨x,H1,I1,r1,q1⟩=>?_) hs hw;rw[h1];exact thn (hg pins s1 σ H1 x v _ I1 r1 q1) λ_ s2 q=>q
end
structure It where
 go:Nat->Hp->Prop
 yld:Nat->Hp->V->Hp->Prop
 stop:Nat->Hp->Prop
def ZJ(X:Cx)(pins:List (Addr×Obj))(H:Hp)(b:Addr):Prop:=
 H b=none/\b≠X.env.locals/\b∉X.fs/\(b∈X.ex\/X.s₀.heap.objs.size<=b)/\(∀x c,X.env.cells.lookup x=some c->c≠b)/\∀p∈X.pn++pins,p.1≠b
theorem Inv.fpOk{X:Cx}{pins:List (Addr×Obj)}{σ:St}{H H':Hp}{s:Shared}{b:Addr}(I:Inv X pins σ H s)(hb:s.heap.objs.size<=b)(hn:H' b=none):ZJ X pins H' b:=by
 refine⟨hn,wz (wC I.lt hb),I.nofs hb,.inr (Nat.le_trans I.sz hb),λx c e z=>?_,λp hp z=>?_⟩
 ·obtain⟨v,q⟩:=I.cell x c e;exact absurd (wC q.lt (by rw[z];exact hb)) (Nat.lt_irrefl _)
 ·exact absurd (wC (Heap.lt_size (I.pin p hp).1) (by rw[z];exact hb)) (Nat.lt_irrefl _)
structure JS(P:Program)(w:World)(K:PySem.W.Frag)(tg:Expr)(J:It)(fp:List Addr)(it:Addr)(tn:Nat->Heap->Prop):Prop where
 mem:it∈fp
 obj:∀i h,tn i h->∀b∈fp,∃o,h.get? b=some o/\∀v,o.data≠.cell v
 keep:∀i h h',tn i h->(∀b∈fp,∀o,h.get? b=some o->h'.get? b=some o)->tn i h'
 item:∀(X:Cx),X.prog=P->X.w=w->X.K=K->X.calm=true->∀(i:Nat) (pins:List (Addr×Obj)) (s:Shared) (σ:St) (H:Hp) (E:Value->Shared->Prop),Inv X pins σ H s->(∀b∈fp,ZJ X pins H b)->tn i s.heap->J.go i H ->
  wpAny (model P w) X.A (pyNext (.ref it)) (λr s1=>∃u,r=some u/\
   wpAny (model P w) X.A (letOwnedTupleGo tg (.ref it) u) (λ_ s2=>∃x H',Inv X pins σ H' s2/\RelV x u/\J.yld i H x H'/\tn (i+1) s2.heap/\∀b∈fp,H' b=none) E s1) E s
 done:∀(X:Cx),X.prog=P->X.w=w->X.K=K->X.calm=true->∀(i:Nat) (pins:List (Addr×Obj)) (s:Shared) (σ:St) (H:Hp) (E:Value->Shared->Prop),Inv X pins σ H s->(∀b∈fp,ZJ X pins H b)->tn i s.heap->J.stop i H ->
  wpAny (model P w) X.A (pyNext (.ref it)) (λr s1=>r=none/\Inv X pins σ H s1) E s
 self:∀(A:Around) (i:Nat) (s:Shared) (Q:Value->Shared->Prop) (E:Value->Shared->Prop),tn i s.heap->Q (.ref it) s->wpAny (model P w) A (pyIter (.ref it)) Q E s
noncomputable abbrev TI:=St->Hp->(It->Hp->Prop)->Prop
def PIE(X:Cx)(pins:List (Addr×Obj))(σ:St)(tg:Expr)(R:It->Hp->Prop)(itv:Value)(s2:Shared):Prop:=
 ∃(it:Addr) (fp:List Addr) (tn:Nat->Heap->Prop) (J:It) (H':Hp),itv=.ref it/\Inv X pins σ H' s2/\JS X.prog X.w X.K tg J fp it tn/\tn 0 s2.heap/\(∀b∈fp,ZJ X pins H' b)/\R J H'
def PI(X:Cx)(tg iter:Expr)(wi:TI):Prop:=
 ∀(pins:List (Addr×Obj)) (s:Shared) (σ:St) (H:Hp) (R:It->Hp->Prop),Inv X pins σ H s->wi σ H R ->
  wpAny (model X.prog X.w) X.A (eval iter X.env) (λv s1=>wpAny (model X.prog X.w) X.A (pyIter v) (PIE X pins σ tg R) X.xe s1) X.xe s
theorem qCA{M:Model}{A:Around}{E:Value->Shared->Prop}{s:Shared}{tg:Expr}{it:Addr}{u:Value}{o:Obj}{n:String}{vs:Array Value}{Q:Unit->Shared->Prop}(ho:s.heap.get? it=some o)(hc:o.cls=.type n)(hd:o.data=.fields vs)
  (hn:["enumerate","zip","dict_itemiterator","dict_reverseitemiterator","odict_iterator","itertools.zip_longest","itertools.pairwise"].contains n=false) (hQ:Q () s):wpAny M A (letOwnedTupleGo tg (.ref it) u) Q E s:=by
 unfold letOwnedTupleGo;cases tg<;>first
  |exact vb hQ
  | (cases u<;>first
    |exact vb hQ
    | (refine va (wpAny_load ho ?_)
       rw[hc,hd];show wpAny M A (if (["enumerate","zip","dict_itemiterator","dict_reverseitemiterator","odict_iterator","itertools.zip_longest","itertools.pairwise"].contains n&&vs[0]?==some (rawInt _))=true then _ else _) Q E s;rw[if_neg (by intro h;rw[hn,vY]at h;cases h)];exact vb hQ))
noncomputable def Itl(K:PySem.W.Frag)(a:Addr):It:=
 ⟨λi H=>∃xs x,SqL K H a xs/\xs[i]?=some x,λi H x H'=>H'=H/\∀xs,SqL K H a xs->xs[i]?=some x,λi H=>∃xs,SqL K H a xs/\xs.length<=i⟩
noncomputable def Itt(K:PySem.W.Frag)(a:Addr):It:=
 ⟨λi H=>∃xs x,SqT K H a xs/\xs[i]?=some x,λi H x H'=>H'=H/\∀xs,SqT K H a xs->xs[i]?=some x,λi H=>∃xs,SqT K H a xs/\xs.length<=i⟩
noncomputable def Itr(lo:Int)(n:Nat):It:=⟨λi _=>i<n,λi H x H'=>H'=H/\x=.int (lo+i),λi _=>n<=i⟩
theorem turn_list{P:Program}{w:World}{K:PySem.W.Frag}{tg:Expr}(a it:Addr):JS P w K tg (Itl K a) [it] it (λi h=>h.IsListIter it a i) where
 mem:=by simp
 obj:=λi h st b hb=>by
  have e:b=it:=by simpa using hb
  subst e;obtain⟨o,e,c,d⟩:=st;exact⟨o,e,λv z=>by rw[d]at z;cases z⟩
 keep:=λi h h' st k=>st.at λo e=>k it (by simp) o e
 item:=by
  intro X hP hw hK hc i pins s σ H E I hf st hg;subst hP hw hK;obtain⟨xs,x,hq,hx⟩:=hg;obtain⟨its,rv,p,hz⟩:=I.list hq;obtain⟨u,hu,ru⟩:=rv.get hx;obtain⟨f0,f1,f2,f3,f4,f5⟩:=hf it (by simp);refine wpAny_pyNext_list_item st p.isList (x:=u) (by simpa using hu) λh' st' sb=>?_;have I1:Inv X pins σ H { s with heap:=h' }:=I.turned (t':=s.toks) (λb o hb e=>(sb.2 b hb).trans e) f0 f1 f3 f4 f5;obtain⟨o,e,c,d⟩:=id st';exact⟨u,rfl,qCA (s:={ s with heap:=h' }) e c d (by decide) ⟨x,H,I1,ru,⟨rfl,λys hy=>by rw[I.list_inj hy hq];exact hx⟩,st',λb hb=>(hf b hb).1⟩⟩
 done:=by
  intro X hP hw hK hc i pins s σ H E I hf st hg;subst hP hw hK;obtain⟨xs,hq,hx⟩:=hg;obtain⟨its,rv,p,hz⟩:=I.list hq;obtain⟨f0,f1,f2,f3,f4,f5⟩:=hf it (by simp);have hl:=rv.length;exact wpAny_pyNext_list_end (I.ok.hd hc) st p.isList (by simp;omega) λh' eb=>⟨rfl,I.turned (t':=s.toks) (λb o hb e=>eb b o hb e) f0 f1 f3 f4 f5⟩
 self:=λ_ _ _ _ _ st h=>wpAny_pyIter_listiter st h
theorem turn_tuple{P:Program}{w:World}{K:PySem.W.Frag}{tg:Expr}(a it:Addr):JS P w K tg (Itt K a) [it] it (λi h=>h.IsTupleIter it a i) where
 mem:=by simp
 obj:=λi h st b hb=>by
  have e:b=it:=by simpa using hb
  subst e;obtain⟨o,e,c,d⟩:=st;exact⟨o,e,λv z=>by rw[d]at z;cases z⟩
 keep:=λi h h' st k=>st.at λo e=>k it (by simp) o e
 item:=by
  intro X hP hw hK hc i pins s σ H E I hf st hg;subst hP hw hK;obtain⟨xs,x,hq,hx⟩:=hg;obtain⟨its,rv,p,hz⟩:=I.tuple hq;obtain⟨u,hu,ru⟩:=rv.get hx;obtain⟨f0,f1,f2,f3,f4,f5⟩:=hf it (by simp);refine wpAny_pyNext_tuple_item st (show s.heap.IsTuple a its.toArray from p) (x:=u) (by simpa using hu) λh' st' sb=>?_;have I1:Inv X pins σ H { s with heap:=h' }:=I.turned (t':=s.toks) (λb o hb e=>(sb.2 b hb).trans e) f0 f1 f3 f4 f5;obtain⟨o,e,c,d⟩:=id st';exact⟨u,rfl,qCA (s:={ s with heap:=h' }) e c d (by decide) ⟨x,H,I1,ru,⟨rfl,λys hy=>by rw[I.tuple_inj hy hq];exact hx⟩,st',λb hb=>(hf b hb).1⟩⟩
 done:=by
  intro X hP hw hK hc i pins s σ H E I hf st hg;subst hP hw hK;obtain⟨xs,hq,hx⟩:=hg;obtain⟨its,rv,p,hz⟩:=I.tuple hq;obtain⟨f0,f1,f2,f3,f4,f5⟩:=hf it (by simp);have hl:=rv.length;exact wpAny_pyNext_tuple_end (I.ok.hd hc) st (show s.heap.IsTuple a its.toArray from p) (by simp;omega) λh' eb=>⟨rfl,I.turned (t':=s.toks) (λb o hb e=>eb b o hb e) f0 f1 f3 f4 f5⟩
 self:=λ_ _ _ _ _ st h=>wpAny_pyIter_tupleiter st h
theorem Q4{P:Program}{w:World}{K:PySem.W.Frag}{tg:Expr}(it:Addr)(lo:Int)(n:Nat):JS P w K tg (Itr lo n) [it] it (λi h=>IsRangeIter h it (lo+(i:Nat)*1) ((n:Int)-(i:Nat)) 1) where
 mem:=by simp
 obj:=λi h st b hb=>by
  have e:b=it:=by simpa using hb
  subst e;exact⟨_,st,λv z=>by
   have z':Data.fields _=Data.cell v:=z;cases z'⟩
 keep:=λi h h' st k=>k it (by simp) _ st
 item:=by
  intro X hP hw hK hc i pins s σ H E I hf st hg;subst hP hw hK;obtain⟨f0,f1,f2,f3,f4,f5⟩:=hf it (by simp);have W:=Walks.range (prog:=X.prog) (w:=X.w) (I.ok.hd hc) it lo 1 n;refine W.item i s _ _ hg st λv h' tk hv st' kk=>?_;obtain⟨t,rfl⟩:=hv;have I1:Inv X pins σ H { s with heap:=h',toks:=tk }:=I.turned (λb o hb e=>kk b o (by simpa using hb) e) f0 f1 f3 f4 f5;refine⟨_,rfl,qCA (s:={ s with heap:=h',toks:=tk }) (n:="range_iterator") st' rfl rfl (by decide) ⟨.int (lo+i),H,I1,⟨t,?_⟩,⟨rfl,rfl⟩,st',λb hb=>(hf b hb).1⟩⟩;rw[Int.mul_one]
 done:=by
  intro X hP hw hK hc i pins s σ H E I hf st hg;subst hP hw hK;obtain⟨f0,f1,f2,f3,f4,f5⟩:=hf it (by simp);exact wpAny_pyNext_range_end (I.ok.hd hc) st (by have:n<=i:=hg;omega) λh' eb=>⟨rfl,I.turned (t':=s.toks) (λb o hb e=>eb b o hb e) f0 f1 f3 f4 f5⟩
 self:=λ_ _ _ _ _ st h=>wpAny_pyIter_rangeiter st h
section
variable{X:Cx}{tg:Expr}
theorem qAZ{pins:List (Addr×Obj)}{σ:St}{H:Hp}{s:Shared}{R:It->Hp->Prop}{E:Value->Shared->Prop}{lo hi:Int}{t u v:Tok}{tk:Nat}(I:Inv X pins σ H s)(h1:-(2 ^ 62)<=lo)(h2:lo<2 ^ 62)(h3:-(2 ^ 62)<=hi)(h4:hi<2 ^ 62)
  (q:R (Itr lo (hi-lo).toNat) H):wpAny (model X.prog X.w) X.A (pyIter (.ref s.heap.objs.size)) (PIE X pins σ tg R) E { s with heap:=s.heap.push { cls:=.type "range",data:=.fields #[.int lo t,.int hi u,.int 1 v] },toks:=tk }:=by
 refine wpAny_pyIter_range (IsRange.new ..) (small_one h1 h2 h3 h4) ?_;have I1:Inv X pins σ H { s with heap:=s.heap.push { cls:=.type "range",data:=.fields #[.int lo t,.int hi u,.int 1 v] },toks:=tk }:=I.kept λb o e=>Heap.get?_push_of_some _ e;refine⟨(s.heap.push { cls:=.type "range",data:=.fields #[.int lo t,.int hi u,.int 1 v] }).objs.size,[(s.heap.push { cls:=.type "range",data:=.fields #[.int lo t,.int hi u,.int 1 v] }).objs.size],_,_,H,rfl,
  I1.kept (t':=tk) λb o e=>Heap.get?_push_of_some _ e,Q4 _ lo (hi-lo).toNat,?_,λb hb=>?_,q⟩
 ·have e1:lo+((0:Nat):Int)*1=lo:=by simp
  have e2:(((hi-lo).toNat:Nat):Int)-((0:Nat):Int)=Builtin.Range.rangeSize lo hi 1:=by rw[rangeSize_one];split<;>omega
  show IsRangeIter _ _ (lo+((0:Nat):Int)*1) ((((hi-lo).toNat:Nat):Int)-((0:Nat):Int)) 1;rw[e1,e2];exact Heap.get?_push_size _ rfl
 ·have e:b=(s.heap.push { cls:=.type "range",data:=.fields #[.int lo t,.int hi u,.int 1 v] }).objs.size:=by simpa using hb
  subst e;exact I1.fpOk (Nat.le_refl _) (I1.hok.fresh (Nat.le_refl _))
noncomputable def qFo(ta:TA):TI:=λσ H R=>ta σ H λvs H1=>∃j:Int,vs=[.int j]/\-(2 ^ 62)<=j/\j<2 ^ 62/\R (Itr 0 j.toNat) H1
theorem pi_range1{a:Expr}{ta:TA}{p pos:Pos}(hg:Gl X "range")(hm:X.mg "range"=none)(ha:PA X [a] ta)(hs:starEach [a] X.env=[(false,eval a X.env)]:=by rfl):PI X tg (.Call (.Name "range" p) [a] [] pos) (qFo ta):=by
 intro pins s σ H R I h;refine Call_ (ld_blt I hg hm boot_range (PyProof.Rows.callWith_type1 (thn (ha pos pins s σ H _ I h) λus s1 ⟨vs,H1,I1,r1,q1⟩=>?_) hs rfl));obtain⟨j,e,q1,q2,q⟩:=q1;subst e;cases r1 with
 |cons r rr=>
  cases rr;obtain⟨t,rfl⟩:=r;exact call_range_1 (qAZ I1 (by omega) (by omega) q1 q2 (by simpa using q))
noncomputable def qIp(wi:TI)(g:TG)(tb:TS):TS:=λD σ H=>wi σ H λJ H1=>∃W:Nat->Nat->St->Hp->Prop,(∃m,W 0 m σ H1)/\∀i m σ H,W i m σ H ->
 (J.stop i H/\D.nx σ H)\/(J.go i H/\∃N:St->Hp->Prop,(∀σ' H',N σ' H'->∃m',m'<m/\W (i+1) m' σ' H')/\∀x H',J.yld i H x H'->g x σ H' λσ2 H2=>tb { D with nx:=N,ct:=N,bk:=D.nx } σ2 H2)
noncomputable def JR(fp:List Addr)(h:Heap):List (Addr×Obj):=fp.filterMap λb=>(h.get? b).map λo=>(b,o)
theorem jK{fp:List Addr}{h:Heap}{b:Addr}{o:Obj}(hb:b∈fp)(e:h.get? b=some o):(b,o)∈JR fp h:=List.mem_filterMap.mpr ⟨b,hb,by rw[e];rfl⟩
theorem l5{fp:List Addr}{h:Heap}{p:Addr×Obj}(hp:p∈JR fp h):p.1∈fp/\h.get? p.1=some p.2:=by
 obtain⟨b,hb,e⟩:=List.mem_filterMap.mp hp;cases q:h.get? b with
 |none=>rw[q]at e;cases e
 |some o=>
  rw[q]at e;have e':(b,o)=p:=Option.some.inj e;subst e';exact⟨hb,q⟩
theorem Inv.pinned{pins:List (Addr×Obj)}{σ:St}{H:Hp}{s:Shared}{fp:List Addr}(I:Inv X pins σ H s)(hf:∀b∈fp,ZJ X pins H b)(ho:∀b∈fp,∃o,s.heap.get? b=some o/\∀v,o.data≠.cell v):Inv X (pins++JR fp s.heap) σ H s:=
 I.pins_of λp hp=>(wE.mp hp).elim (λz=>I.pin p (wI _ z)) λz=>by
  obtain⟨hb,e⟩:=l5 z;obtain⟨f0,f1,f2,_⟩:=hf p.1 hb;obtain⟨o,e',d⟩:=ho p.1 hb;rw[e]at e';cases e';exact⟨e,f0,f1,f2,d⟩
theorem Inv.unpinned{pins pl:List (Addr×Obj)}{σ:St}{H:Hp}{s:Shared}(I:Inv X (pins++pl) σ H s):Inv X pins σ H s:=I.pins_of λp hp=>I.pin p (wI _ (wH _ hp))
theorem ps_for{iter:Expr}{body:List Stmt}{wi:TI}{g:TG}{tb:TS}{pos:Pos}(hp:PassesOwn (model X.prog X.w) X.A X.env X.xe)(hc:X.calm=true)(hi:PI X tg iter wi)(hg:PG X tg g)(hb:PSs X body tb)
  (hs:∀x,foldedSetIterable iter X.env x=pure x:=by intro _;rfl):PS X (.For tg iter body [] pos) (qIp wi g tb):=by
 intro pins s σ H D I h;refine wpAny_For (thn (hi pins s σ H _ I h) λv s1 h1=>thn h1 λitv s2 h2=>?_) hs;obtain⟨it,fp,tn,J,H2,e,I2,T,st2,f2,W,⟨m0,w0⟩,qEV⟩:=h2;subst e;have stat:∀{H':Hp},(∀b∈fp,H' b=none)->∀b∈fp,ZJ X pins H' b:=λhn b hb=>⟨hn b hb,(f2 b hb).2⟩
 refine codeAny_forLoop_any (λn s'=>∃i σ' H',Inv X pins σ' H' s'/\tn i s'.heap/\(∀b∈fp,H' b=none)/\W i n σ' H') ?_ m0 ⟨0,σ,H2,I2,st2,λb hb=>(f2 b hb).1,w0⟩;rintro n s3 ⟨i,σ3,H3,I3,st3,fr3,w3⟩;rcases qEV i n σ3 H3 w3 with⟨stop,qn⟩|⟨go,N,hN,step⟩
 ·refine wpAny_passesOwn hp (thn (T.done X rfl rfl rfl hc i pins s3 σ3 H3 X.xe I3 (stat fr3) st3 stop) λr s4 ⟨hr,I4⟩=>?_);subst hr;exact wpAny_execs_nil ⟨σ3,H3,I4,qn⟩
 ·refine wpAny_passesOwn hp (thn (T.item X rfl rfl rfl hc i pins s3 σ3 H3 X.xe I3 (stat fr3) st3 go) λr s4 ⟨u,hr,h4⟩=>?_);subst hr;refine wpAny_passesOwn hp (thn h4 λ_ s5 ⟨x,H5,I5,r5,y5,st5,fr5⟩=>?_);have I5':=I5.pinned (stat fr5) (T.obj _ _ st5);refine wpAny_passesOwn hp (thn (hg _ s5 σ3 H5 x u _ I5' r5 (step x H5 y5)) λ_ s6 ⟨σ6,H6,I6,q6⟩=>?_);refine wpAny_passesOwn hp (thn (hb _ s6 σ6 H6 _ I6 q6) λf s7 q7=>?_);have again:∀{σ7:St}{H7:Hp},Inv X (pins++JR fp s5.heap) σ7 H7 s7->N σ7 H7->∃m,m<n/\∃i σ' H',Inv X pins σ' H' s7/\tn i s7.heap/\(∀b∈fp,H' b=none)/\W i m σ' H':=λ{σ7 H7} I7 n7=>by
   obtain⟨m',hm,w7⟩:=hN σ7 H7 n7;refine⟨m',hm,i+1,σ7,H7,I7.unpinned,T.keep _ _ _ st5 λb hb o e=>(I7.pin (b,o) (wI _ (wI _ (jK hb e)))).1,λb hb=>?_,w7⟩;obtain⟨o,e,d⟩:=T.obj _ _ st5 b hb;exact(I7.pin (b,o) (wI _ (wI _ (jK hb e)))).2.1
  cases f with
  |next=>obtain⟨σ7,H7,I7,n7⟩:=q7;exact again I7 n7
  |cont=>obtain⟨σ7,H7,I7,n7⟩:=q7;exact again I7 n7
  |brk=>obtain⟨σ7,H7,I7,q7⟩:=q7;exact⟨σ7,H7,I7.unpinned,q7⟩
  |ret v=>obtain⟨x7,σ7,H7,I7,r7,q7⟩:=q7;exact⟨x7,σ7,H7,I7.unpinned,r7,q7⟩
end
noncomputable abbrev R2:=V->V->Hp->VK->Prop
def OpR(X:Cx)(f:Value->Value->Sem Value)(r:R2):Prop:=
 ∀(pins:List (Addr×Obj)) (s:Shared) (σ:St) (H:Hp) (x y:V) (v u:Value) (Q:VK),Inv X pins σ H s->RelV x v->RelV y u->r x y H Q ->
  wpAny (model X.prog X.w) X.A (f v u) (EP X pins σ Q) X.xe s
def UnR(X:Cx)(f:Value->Sem Value)(r:V->Hp->VK->Prop):Prop:=
 ∀(pins:List (Addr×Obj)) (s:Shared) (σ:St) (H:Hp) (x:V) (v:Value) (Q:VK),Inv X pins σ H s->RelV x v->r x H Q ->
  wpAny (model X.prog X.w) X.A (f v) (EP X pins σ Q) X.xe s
def zJ(X:Cx)(f:Value)(r:List V->Hp->VK->Prop):Prop:=
 ∀(pins:List (Addr×Obj)) (s:Shared) (σ:St) (H:Hp) (xs:List V) (us:List Value) (Q:VK),Inv X pins σ H s->Vals xs us->r xs H Q ->
  wpAny (model X.prog X.w) X.A (call f us) (EP X pins σ Q) X.xe s
noncomputable def tOp(r:R2)(ta tb:TE):TE:=λσ H Q=>ta σ H λx H1=>tb σ H1 λy H2=>r x y H2 Q
noncomputable def tUn(r:V->Hp->VK->Prop)(ta:TE):TE:=λσ H Q=>ta σ H λx H1=>r x H1 Q
noncomputable def rI(C:Int->Int->Prop)(g:Int->Int->V):R2:=λx y H Q=>∃i j,x=.int i/\y=.int j/\C i j/\Q (g i j) H
noncomputable def rI0(g:Int->Int->V):R2:=λx y H Q=>∃i j,x=.int i/\y=.int j/\Q (g i j) H
def rU(g:Int->V):V->Hp->VK->Prop:=λx H Q=>∃i,x=.int i/\Q (g i) H
section
variable{X:Cx}{a b c:Expr}{ta tb tc:TE}{pos:Pos}
theorem qt(ha:PE X a ta)(hb:PE X b tb){pins:List (Addr×Obj)}{s:Shared}{σ:St}{H:Hp}{R:V->V->Hp->Prop}(I:Inv X pins σ H s)
  (h:ta σ H λx H1=>tb σ H1 λy H2=>R x y H2){Q:Value->Shared->Prop}{f:Value->Value->Sem Value}
  (hf:∀v u s2 x y H2,Inv X pins σ H2 s2->RelV x v->RelV y u->R x y H2->wpAny (model X.prog X.w) X.A (f v u) Q X.xe s2):
  wpAny (model X.prog X.w) X.A (eval a X.env) (λv s₁=>wpAny (model X.prog X.w) X.A (eval b X.env) (λu s₂=>wpAny (model X.prog X.w) X.A (f v u) Q X.xe s₂) X.xe s₁) X.xe s:=by
 refine thn (ha pins s σ H _ I h) λv s1 ⟨x,H1,I1,r1,q1⟩=>?_;refine thn (hb pins s1 σ H1 _ I1 q1) λu s2 ⟨y,H2,I2,r2,q2⟩=>?_;exact hf v u s2 x y H2 I2 r1 r2 q2
theorem pe_op{op:Operator}{r:R2}(ho:OpR X (binaryOp op) r)(ha:PE X a ta)(hb:PE X b tb):PE X (.BinOp a op b pos) (tOp r ta tb):=by
 intro pins s σ H Q I h;exact wpAny_BinOp (qt ha hb I h λv u s2 x y H2 I2 rx ry q=>ho pins s2 σ H2 x y v u Q I2 rx ry q)
theorem pe_un{op:UnaryOp}{r:V->Hp->VK->Prop}(ho:UnR X (unaryOp op) r)(ha:PE X a ta):PE X (.UnaryOp op a pos) (tUn r ta):=by
 intro pins s σ H Q I h;exact UnaryOp_ (thn (ha pins s σ H _ I h) λv s1 ⟨x,H1,I1,r1,q1⟩=>ho pins s1 σ H1 x v Q I1 r1 q1)
theorem opI{f:Value->Value->Sem Value}{C:Int->Int->Prop}{g:Int->Int->Int}
  (rule:∀(i j:Int) (t u:Tok) (s:Shared) (Q:Value->Shared->Prop) (E:Value->Shared->Prop),C i j->Q (.int (g i j) s.toks) { s with toks:=s.toks+1 }->wpAny (model X.prog X.w) X.A (f (.int i t) (.int j u)) Q E s):
  OpR X f (rI C λi j=>.int (g i j)):=by
 intro pins s σ H x y v u Q I rx ry h;obtain⟨i,j,rfl,rfl,hc,q⟩:=h;obtain⟨t,rfl⟩:=rx;obtain⟨t',rfl⟩:=ry;exact rule i j t t' s _ _ hc ⟨.int (g i j),H,I.tok _,⟨_,rfl⟩,q⟩
theorem qFk{f:Value->Value->Sem Value}{g:Int->Int->Int}
  (rule:∀(i j:Int) (t u:Tok) (s:Shared) (Q:Value->Shared->Prop) (E:Value->Shared->Prop),Q (.int (g i j) s.toks) { s with toks:=s.toks+1 }->wpAny (model X.prog X.w) X.A (f (.int i t) (.int j u)) Q E s):
  OpR X f (rI0 λi j=>.int (g i j)):=by
 intro pins s σ H x y v u Q I rx ry h;obtain⟨i,j,rfl,rfl,q⟩:=h;obtain⟨t,rfl⟩:=rx;obtain⟨t',rfl⟩:=ry;exact rule i j t t' s _ _ ⟨.int (g i j),H,I.tok _,⟨_,rfl⟩,q⟩
theorem qFA{f:Value->Value->Sem Value}{g:Int->Int->Bool}
  (rule:∀(i j:Int) (t u:Tok) (s:Shared) (Q:Value->Shared->Prop) (E:Value->Shared->Prop),Q (.bool (g i j)) s->wpAny (model X.prog X.w) X.A (f (.int i t) (.int j u)) Q E s):
  OpR X f (rI0 λi j=>.bl (g i j)):=by
 intro pins s σ H x y v u Q I rx ry h;obtain⟨i,j,rfl,rfl,q⟩:=h;obtain⟨t,rfl⟩:=rx;obtain⟨t',rfl⟩:=ry;exact rule i j t t' s _ _ ⟨.bl (g i j),H,I,rfl,q⟩
def CDiv(i j:Int):Prop:=0<j/\j<1073741824
def CPow(i j:Int):Prop:=0<=j/\j<=1000000/\i.natAbs<2 ^ 64
def CMul(i j:Int):Prop:=(-(2 ^ 64)<i/\i<2 ^ 64)\/(-(2 ^ 64)<j/\j<2 ^ 64)
theorem CMul.ok{i j:Int}(h:CMul i j):IntMulOk i j:=by
 rcases h with⟨h1,h2⟩|⟨h1,h2⟩
 ·exact .of_left (intBits_le_64 h1 h2)
 ·exact .of_right (intBits_le_64 h1 h2)
theorem op_add:OpR X (binaryOp .Add) (rI0 λi j=>.int (i+j)):=qFk λ_ _ _ _ _ _ _ q=>add_int q
theorem op_sub:OpR X (binaryOp .Sub) (rI0 λi j=>.int (i-j)):=qFk λ_ _ _ _ _ _ _ q=>sub_int q
theorem op_mul:OpR X (binaryOp .Mult) (rI CMul λi j=>.int (i*j)):=opI λ_ _ _ _ _ _ _ hc q=>mul_int q hc.ok
theorem op_fdiv:OpR X (binaryOp .FloorDiv) (rI CDiv λi j=>.int (i / j)):=opI λi j _ _ _ _ _ hc q=>by
 have h1:(0:Int)<j:=hc.1;have h2:j<1073741824:=hc.2;exact floordiv_int (by omega) (by rw[Int.fdiv_eq_ediv_of_nonneg i (by omega)];exact q) (.inl (PyProof.noPylong_small (by omega)))
theorem op_mod:OpR X (binaryOp .Mod) (rI (λ_ j=>0<j) λi j=>.int (i % j)):=opI λi j _ _ _ _ _ hc q=>by
 have h1:(0:Int)<j:=hc;exact mod_int' (by omega) (by rw[Int.fmod_eq_emod_of_nonneg i (by omega)];exact q)
theorem op_modN:OpR X (binaryOp .Mod) (rI (λ_ j=>j≠0) λi j=>.int (i.fmod j)):=opI λ_ _ _ _ _ _ _ hc q=>mod_int' hc q
theorem op_pow:OpR X (binaryOp .Pow) (rI CPow λi j=>.int (i ^ j.toNat)):=opI λ_ _ _ _ _ _ _ hc q=>pow_int_small hc.1 hc.2.1 hc.2.2 q
theorem op_and:OpR X (binaryOp .BitAnd) (rI0 λi j=>.int (Builtin.bitAnd i j)):=qFk λ_ _ _ _ _ _ _ q=>and_int q
theorem unI{f:Value->Sem Value}{g:Int->Int}
  (rule:∀(i:Int) (t:Tok) (s:Shared) (Q:Value->Shared->Prop) (E:Value->Shared->Prop),Q (.int (g i) s.toks) { s with toks:=s.toks+1 }->wpAny (model X.prog X.w) X.A (f (.int i t)) Q E s):
  UnR X f (rU λi=>.int (g i)):=by
 intro pins s σ H x v Q I rx h;obtain⟨i,rfl,q⟩:=h;obtain⟨t,rfl⟩:=rx;exact rule i t s _ _ ⟨.int (g i),H,I.tok _,⟨_,rfl⟩,q⟩
theorem un_neg:UnR X (unaryOp .USub) (rU λi=>.int (-i)):=unI λ_ _ _ _ _ q=>neg_int q
end
section
variable{X:Cx}{a b c:Expr}{ta tb tc:TE}{pos:Pos}
theorem qBb{pins:List (Addr×Obj)}{σ:St}{H:Hp}{s:Shared}{Q:VK}{k k':Bool}(I:Inv X pins σ H s)(q:Q (.bl k) H)(e:k=k'):EP X pins σ Q (.bool k') s:=by
 subst e;exact⟨.bl k,H,I,rfl,q⟩
theorem op_lt:OpR X (compareOp .Lt) (rI0 λi j=>.bl (decide (i<j))):=qFA λ_ _ _ _ _ _ _ q=>lt_int q
theorem op_le:OpR X (compareOp .LtE) (rI0 λi j=>.bl (decide (i<=j))):=qFA λ_ _ _ _ _ _ _ q=>le_int q
theorem op_gt:OpR X (compareOp .Gt) (rI0 λi j=>.bl (decide (j<i))):=qFA λ_ _ _ _ _ _ _ q=>gt_int q
theorem op_ge:OpR X (compareOp .GtE) (rI0 λi j=>.bl (decide (j<=i))):=qFA λ_ _ _ _ _ _ _ q=>ge_int q
theorem op_isN:OpR X (compareOp .Is) (λx y H Q=>y=.non/\Q (.bl (decide (x=.non))) H):=by
 intro pins s σ H x y v u Q I rx ry h;obtain⟨rfl,q⟩:=h;cases ry;refine is_none_gen (qBb I q ?_);cases x<;>first
  | (cases rx;rfl)
  | (obtain⟨t,rfl⟩:=rx;rfl)
theorem op_notN:OpR X (compareOp .IsNot) (λx y H Q=>y=.non/\Q (.bl (!decide (x=.non))) H):=by
 intro pins s σ H x y v u Q I rx ry h;obtain⟨rfl,q⟩:=h;cases ry;refine isnot_none_gen (qBb I q ?_);cases x<;>first
  | (cases rx;rfl)
  | (obtain⟨t,rfl⟩:=rx;rfl)
theorem OpR.or{f:Value->Value->Sem Value}{r r':R2}(h:OpR X f r)(h':OpR X f r'):OpR X f (λx y H Q=>r x y H Q\/r' x y H Q):=by
 intro pins s σ H x y v u Q I rx ry q;rcases q with q|q
 ·exact h pins s σ H x y v u Q I rx ry q
 ·exact h' pins s σ H x y v u Q I rx ry q
theorem pe_cmpR{op:CmpOp}{r:R2}(ho:OpR X (compareOp op) r)(ha:PE X a ta)(hb:PE X b tb)(hm:behindInMarks op b=false):PE X (.Compare a [op] [b] pos) (tOp r ta tb):=by
 intro pins s σ H Q I h;exact wpAny_Compare1 (qt ha hb I h λv u s2 x y H2 I2 rx ry q=>ho pins s2 σ H2 x y v u Q I2 rx ry q) hm
noncomputable def qEf(t:TE):TT:=λσ H Q=>t σ H λx H'=>∃k,x=.bl k/\Q k H'
theorem pt_cmpR{op:CmpOp}{r:R2}(ho:OpR X (compareOp op) r)(ha:PE X a ta)(hb:PE X b tb)(hm:behindInMarks op b=false):PT X (.Compare a [op] [b] pos) (qEf (tOp r ta tb)):=by
 intro pins s σ H Q I h;refine wpAny_isTrue_Compare1 (thn (ha pins s σ H _ I h) λv s1 ⟨x,H1,I1,r1,q1⟩=>thn (hb pins s1 σ H1 _ I1 q1) λu s2 ⟨y,H2,I2,r2,q2⟩=>
  thn (ho pins s2 σ H2 x y v u _ I2 r1 r2 q2) λc s3 ⟨z,H3,I3,r3,k,e,q3⟩=>?_) hm
 subst e;cases r3;exact vg ⟨H3,I3,q3⟩
noncomputable def tChain(r r':R2)(ta tb tc:TE):TE:=λσ H Q=>ta σ H λx H1=>tb σ H1 λy H2=>r x y H2 λz H3=>∃k,z=.bl k/\
 (if k=true then tc σ H3 λw' H4=>r' y w' H4 Q else Q (.bl false) H3)
theorem pe_chain{op op':CmpOp}{r r':R2}(ho:OpR X (compareOp op) r)(ho':OpR X (compareOp op') r')(ha:PE X a ta)(hb:PE X b tb)(hc:PE X c tc)
  (hm:lastMarks [op,op'] [b,c]=false:=by with_unfolding_all rfl):PE X (.Compare a [op,op'] [b,c] pos) (tChain r r' ta tb tc):=by
 intro pins s σ H Q I h;refine Compare_chain (thn (ha pins s σ H _ I h) λv s1 ⟨x,H1,I1,r1,q1⟩=>chain_link (thn (hb pins s1 σ H1 _ I1 q1) λu s2 ⟨y,H2,I2,r2,q2⟩=>
  thn (ho pins s2 σ H2 x y v u _ I2 r1 r2 q2) λd s3 ⟨z,H3,I3,r3,k,e,q3⟩=>?_)) hm
 subst e;cases r3;refine vg ?_;cases k with
 |false=>exact ite_ff ⟨.bl false,H3,I3,rfl,q3⟩
 |true=>exact ite_tt (chain_last (thn (hc pins s3 σ H3 _ I3 q3) λw' s4 ⟨z',H4,I4,r4,q4⟩=>ho' pins s4 σ H4 y z' u w' Q I4 r2 r4 q4))
theorem pt_chain{op op':CmpOp}{r r':R2}(ho:OpR X (compareOp op) r)(ho':OpR X (compareOp op') r')(ha:PE X a ta)(hb:PE X b tb)(hc:PE X c tc)
  (hm:lastMarks [op,op'] [b,c]=false:=by with_unfolding_all rfl):PT X (.Compare a [op,op'] [b,c] pos) (qEf (tChain r r' ta tb tc)):=by
 intro pins s σ H Q I h;refine isTrue_chain (thn (ha pins s σ H _ I h) λv s1 ⟨x,H1,I1,r1,q1⟩=>test_link (thn (hb pins s1 σ H1 _ I1 q1) λu s2 ⟨y,H2,I2,r2,q2⟩=>
  thn (ho pins s2 σ H2 x y v u _ I2 r1 r2 q2) λd s3 ⟨z,H3,I3,r3,k,e,q3⟩=>?_)) hm
 subst e;cases r3;refine vg ?_;cases k with
 |false=>
  obtain⟨k',e',q'⟩:=q3;cases e';exact ite_ff ⟨H3,I3,q'⟩
 |true=>
  refine ite_tt (test_last (thn (hc pins s3 σ H3 _ I3 q3) λw' s4 ⟨z',H4,I4,r4,q4⟩=>thn (ho' pins s4 σ H4 y z' u w' _ I4 r2 r4 q4) λd' s5 ⟨z2,H5,I5,r5,k2,e2,q5⟩=>?_));subst e2;cases r5;exact vg ⟨H5,I5,q5⟩
theorem J5:(sizeLine:Nat)<2 ^ 63:=by rw[sizeLine_eq];decide
theorem vals1{x:V}{us:List Value}(r:Vals [x] us):∃u,us=[u]/\RelV x u:=by
 cases r with
 |cons r1 r2=>cases r2;exact⟨_,rfl,r1⟩
theorem vals2{x y:V}{us:List Value}(r:Vals [x,y] us):∃u w',us=[u,w']/\RelV x u/\RelV y w':=by
 cases r with
 |cons r1 r2=>
  cases r2 with
  |cons r3 r4=>cases r4;exact⟨_,_,rfl,r1,r3⟩
theorem call_max2(hc:X.calm=true):zJ X (.builtin "max") (λxs H Q=>∃i j,xs=[.int i,.int j]/\Q (.int (if j>i then j else i)) H):=by
 intro pins s σ H xs us Q I r h;obtain⟨i,j,rfl,q⟩:=h;obtain⟨u,w',rfl,⟨t,rfl⟩,⟨t',rfl⟩⟩:=vals2 r;refine max_two_ints (I.ok.hd hc) λh' tk k=>⟨_,H,I.kept k,?_,q⟩
 by_cases hj:j>i
 ·rw[if_pos hj,if_pos hj];exact⟨_,rfl⟩
 ·rw[if_neg hj,if_neg hj];exact⟨_,rfl⟩
theorem call_min2(hc:X.calm=true):zJ X (.builtin "min") (λxs H Q=>∃i j,xs=[.int i,.int j]/\Q (.int (if j<i then j else i)) H):=by
 intro pins s σ H xs us Q I r h;obtain⟨i,j,rfl,q⟩:=h;obtain⟨u,w',rfl,⟨t,rfl⟩,⟨t',rfl⟩⟩:=vals2 r;refine min_two_ints (I.ok.hd hc) λh' tk k=>⟨_,H,I.kept k,?_,q⟩
 by_cases hj:j<i
 ·rw[if_pos hj,if_pos hj];exact⟨_,rfl⟩
 ·rw[if_neg hj,if_neg hj];exact⟨_,rfl⟩
theorem call_int1:zJ X (.type "int") (λxs H Q=>(∃i,xs=[.int i]/\Q (.int i) H)\/∃k,xs=[.bl k]/\Q (.int (if k then 1 else 0)) H):=by
 intro pins s σ H xs us Q I r h;rcases h with⟨i,rfl,q⟩|⟨k,rfl,q⟩
 ·obtain⟨u,rfl,t,rfl⟩:=vals1 r;exact call_int_int ⟨.int i,H,I,⟨_,rfl⟩,q⟩
 ·obtain⟨u,rfl,r1⟩:=vals1 r;cases r1;exact call_int_bool ⟨.int (if k then 1 else 0),H,I.tok _,⟨_,rfl⟩,q⟩
end
theorem RelO.some_of{v:V}{o:Option Value}(r:RelO (some v) o):∃u,o=some u/\RelV v u:=by
 cases o with
 |none=>exact(show False from r).elim
 |some u=>exact⟨u,rfl,r⟩
structure Room(k:Nat)(A:Around):Prop where
 hd:A.handled=none
 dp:A.depth+3*k+5<recursionLimit
 un:A.units+16*k+200<cLine
 gd:A.guards=some []
theorem Room.mono{j k:Nat}{A:Around}(r:Room k A)(h:j<=k):Room j A:=⟨r.hd,by have:=r.dp;omega,by have:=r.un;omega,r.gd⟩
theorem Room.deeper{k:Nat}{A:Around}(r:Room (k+1) A)(env:Env):Room k (A.deeper env):=
 ⟨r.hd,by have:=r.dp;show A.depth+1+3*k+5<_;omega,by have:=r.un;show A.units+3+16*k+200<_;omega,r.gd⟩
theorem Room.in1{k:Nat}{A:Around}(r:Room (k+1) A):Room k A.in1:=
 ⟨r.hd,by have:=r.dp;show A.depth+3*k+5<_;omega,by have:=r.un;show A.units+1+16*k+200<_;omega,r.gd⟩
theorem Room.depth{k:Nat}{A:Around}(r:Room k A):A.depth<recursionLimit:=by have:=r.dp;omega
theorem Room.units{k:Nat}{A:Around}(r:Room k A):A.units+64<cLine:=by have:=r.un;omega
noncomputable def qGp:TA:=λ_ H Q=>Q [] H
noncomputable def qFU(ta:TE)(tr:TA):TA:=λσ H Q=>ta σ H λx H1=>tr σ H1 λxs H2=>Q (x::xs) H2
section
variable{X:Cx}{e:Expr}{es:List Expr}{te:TE}{t:TA}{pos:Pos}
theorem pa_nil:PA X [] qGp:=λ_ _ _ _ H Q I h=>Calls.spliced_nil ⟨[],H,I,.nil,h⟩
theorem pa_cons(ha:PE X e te)(hr:PA X es t)(hs:starEach (e::es) X.env=(false,eval e X.env)::starEach es X.env:=by rfl):PA X (e::es) (qFU te t):=by
 intro pos pins s σ H Q I h;rw[hs];show wpAny _ _ (spliced ((false,eval e X.env)::backTo pos (starEach es X.env))) _ _ s;refine Calls.spliced_cons (thn (ha pins s σ H _ I h) λu s1 ⟨x,H1,I1,r1,q1⟩=>?_);exact thn (hr pos pins s1 σ H1 _ I1 q1) λus s2 ⟨xs,H2,I2,r2,q2⟩=>⟨x::xs,H2,I2,.cons r1 r2,q2⟩
noncomputable def qH2(t:TA):TE:=λσ H Q=>t σ H λxs H1=>xs.length<=sizeLine/\∀p,H1 p=none->Q (.ref p) (upd H1 p (.tup xs))
noncomputable def qH9(t:TA):TE:=λσ H Q=>t σ H λxs H1=>xs.length<=sizeLine/\∀p,H1 p=none->Q (.ref p) (upd H1 p (.lst xs))
theorem pe_tup {x1}(h:PA X es t):PE X (.Tuple es x1 pos) (qH2 t):=by
 intro pins s σ H Q I hq;refine wpAny_Tuple_spliced (thn (h pos pins s σ H _ I hq) λus s1 ⟨xs,H1,I1,r,z,q⟩=>⟨by rw[<-r.length];exact z,?_⟩);have hf:H1 s1.heap.objs.size=none:=I1.hok.fresh (Nat.le_refl _);refine⟨.ref s1.heap.objs.size,upd H1 s1.heap.objs.size (.tup xs),I1.laid (t':=s1.toks) (λb u e=>Heap.get?_push_of_some _ e) (Nat.le_refl _) ?_,rfl,q _ hf⟩;exact⟨z,us,r,⟨_,Heap.get?_push_size _ rfl,rfl,_,rfl⟩⟩
theorem pe_lst(h:PA X es t):PE X (.List es pos) (qH9 t):=by
 intro pins s σ H Q I hq;refine wpAny_List_spliced (thn (h pos pins s σ H _ I hq) λus s1 ⟨xs,H1,I1,r,z,q⟩=>⟨by rw[<-r.length];exact z,?_⟩);have hf:H1 s1.heap.objs.size=none:=I1.hok.fresh (Nat.le_refl _);refine⟨.ref s1.heap.objs.size,upd H1 s1.heap.objs.size (.lst xs),I1.laid (t':=s1.toks) (λb u e=>Heap.get?_push_of_some _ e) (Nat.le_refl _) ?_,rfl,q _ hf⟩;exact⟨z,us,0,r,Heap.get?_push_size _ rfl⟩
end
noncomputable abbrev Sp:=List V->Hp->VK->XK->Prop
noncomputable abbrev CXT:=List Env->Hp->Shared->XK->Value->Shared->Prop
structure Env0(P:Program)(w:World)(K:PySem.W.Frag)(mg:Str->Option Value)(base:Heap)(A:Around)(outer:List Env)(s:Shared)(H:Hp):Prop where
 frames:A.frames=some outer
 mod:Mod K mg base
 bs:∀b o,base.get? b=some o->s.heap.get? b=some o/\H b=none
 bsz:base.objs.size<=s.heap.objs.size
 funs:s.heap.FunFrames base outer
 frf:∀b∈frs outer,H b=none
 hok:HOk P w H s.heap
 bare:AllBare s.gens
def CE(outer:List Env)(P:Program)(w:World)(H:Hp)(s:Shared)(Q:VK)(u:Value)(s':Shared):Prop:=
 ∃v H',s'.os=s.os/\AllBare s'.gens/\Un (frs outer) [] H H' s.heap s'.heap/\HOk P w H' s'.heap/\RelV v u/\Q v H'
def CR(CX:CXT)(outer:List Env)(P:Program)(w:World)(H:Hp)(s:Shared)(Q:VK)(E:XK)(r:Result)(s':Shared):Prop:=
 match r with
 | .ok (.ret u)=>CE outer P w H s Q u s'
 | .ok _=>False
 | .error e=>CX outer H s E e s'
structure FnOk(P:Program)(w:World)(K:PySem.W.Frag)(mg:Str->Option Value)(base:Heap)(CX:CXT)(k:Nat)(f:Addr)(fd:FuncData)(ps:List Str)(sp:Sp):Prop where
 len:∀vs H Q E,sp vs H Q E->vs.length=ps.length
 run:∀(A:Around) (outer:List Env) (s:Shared) (H:Hp) (args:Args) (us:List Value) (vs:List V) (Q:VK) (E:XK),Room k A->Env0 P w K mg base A outer s H->BindsTo s fd args (ps.zip us)->Vals vs us->sp vs H Q E ->
  codeAny (model P w) A (.call (.ref f) args) (CR CX outer P w H s Q E) s
theorem Env0.in1{P:Program}{w:World}{K:PySem.W.Frag}{mg:Str->Option Value}{base:Heap}{A:Around}{outer:List Env}{s:Shared}{H:Hp}(e:Env0 P w K mg base A outer s H):
  Env0 P w K mg base A.in1 outer s H:=⟨e.frames,e.mod,e.bs,e.bsz,e.funs,e.frf,e.hok,e.bare⟩
section
variable{X:Cx}{pins:List (Addr×Obj)}{σ:St}{H:Hp}{s s':Shared}
theorem Inv.env0(I:Inv X pins σ H s):Env0 X.prog X.w X.K X.mg X.base X.A X.stack s H:=
 ⟨I.ok.frames,I.ok.mod,I.bs,Nat.le_trans I.ok.bsz I.sz,I.stack,I.stkFree,I.hok,I.bare⟩
theorem Inv.after{Q:VK}{u:Value}(I:Inv X pins σ H s)(h:CE X.stack X.prog X.w H s Q u s'):EP X pins σ Q u s':=by
 obtain⟨v,H',os,bare,un,hok,r,q⟩:=h;obtain⟨hh,g,d,t,os'⟩:=s';obtain rfl:os'=s.os:=os;exact⟨v,H',I.call (h':=hh) (g':=g) (d':=d) (t':=t) (ch:=[]) un hok bare (λb z=>absurd z (by simp)),r,q⟩
end
noncomputable def tCall(sp:Sp)(dvs:List V)(E:XK)(t:TA):TE:=λσ H Q=>t σ H λvs H1=>sp (vs++dvs) H1 Q E
def Binds(K:PySem.W.Frag)(fd:FuncData)(ps:List Str)(ds:List Value):Prop:=
 ∀(s:Shared) (us:List Value),K.In s.heap->(us++ds).length=ps.length->BindsTo s fd ⟨us,[]⟩ (ps.zip (us++ds))
theorem Binds.all{K:PySem.W.Frag}{fd:FuncData}{ps:List Str}(h:∀us:List Value,us.length=ps.length->bindArgs fd ⟨us,[]⟩=pure (ps.zip us)):Binds K fd ps []:=λs us _ hl=>by
 rw[List.append_nil]at hl ⊢;exact .of_eq (h us hl)
def G1(CX:CXT)(X:Cx)(E:XK):Prop:=∀(pins:List (Addr×Obj)) (σ:St) (H:Hp) (s:Shared) (e:Value) (s':Shared),Inv X pins σ H s->CX X.stack H s E e s'->X.xe e s'
section
variable{X:Cx}{CX:CXT}{k:Nat}{f C:Addr}{fd:FuncData}{ps:List Str}{sp:Sp}{dvs:List V}{ds:List Value}{E:XK}{x m:Str}{p pos apos:Pos}{e o:Expr}{es:List Expr}{ta:TE}{t:TA}
theorem qBa{pins:List (Addr×Obj)}{σ:St}{H:Hp}{s:Shared}{Q:VK}{us:List Value}{vs:List V}(F:FnOk X.prog X.w X.K X.mg X.base CX k f fd ps sp)(hr:Room k X.A)(hb:Binds X.K fd ps ds)(hd:Vals dvs ds)(hx:G1 CX X E)
  (I:Inv X pins σ H s) (r:Vals vs us) (h:sp (vs++dvs) H Q E):wpAny (model X.prog X.w) X.A (call (.ref f) us) (EP X pins σ Q) X.xe s:=by
 have r2:Vals (vs++dvs) (us++ds):=r.append hd;have hl:(us++ds).length=ps.length:=by rw[<-r2.length];exact F.len _ _ _ _ h
 refine wpAny_call (codeAny_mono (F.run X.A X.stack s H ⟨us,[]⟩ (us++ds) (vs++dvs) Q E hr I.env0 (hb s us I.kIn hl) r2 h) λr s' hq=>?_);cases r with
 |error e=>exact hx pins σ H s e s' I hq
 |ok fl=>
  cases fl with
  |ret u=>exact I.after hq
  |next=>exact False.elim hq
  |brk=>exact False.elim hq
  |cont=>exact False.elim hq
theorem pe_call(F:FnOk X.prog X.w X.K X.mg X.base CX k f fd ps sp)(hr:Room k X.A)(hg:Gl X x)(hm:X.mg x=some (.ref f))(hk:PySem.W.keepIn X.K (.ref f)=true)(hb:Binds X.K fd ps ds)(hd:Vals dvs ds)(hx:G1 CX X E)
  (ha:PA X (e::es) t) (hdb:(x==("__debug__":Str))=false:=by decide) (he:starEach (e::es) X.env=(false,eval e X.env)::starEach es X.env:=by rfl) (hpl:(backTo pos (starEach es X.env)).any (·.1)=false:=by rfl):
  PE X (.Call (.Name x p) (e::es) [] pos) (tCall sp dvs E t):=by
 intro pins s σ H Q I h;refine wpAny_Call_Name_kw (D0 I hg hm ?_ hdb);refine PySem.W.callWith_K (h₀:=X.base) I.ok.mod.kin hk (thn (ha pos pins s σ H _ I h) λus s1 ⟨vs,H1,I1,r,q⟩=>⟨I1.kIn,?_⟩) he hpl;exact qBa F hr hb hd hx I1 r q
theorem pe_call0(F:FnOk X.prog X.w X.K X.mg X.base CX k f fd ps sp)(hr:Room k X.A)(hg:Gl X x)(hm:X.mg x=some (.ref f))(hk:PySem.W.keepIn X.K (.ref f)=true)(hb:Binds X.K fd ps ds)(hd:Vals dvs ds)(hx:G1 CX X E)
  (hdb:(x==("__debug__":Str))=false:=by decide):PE X (.Call (.Name x p) [] [] pos) (tCall sp dvs E qGp):=by
 intro pins s σ H Q I h;refine wpAny_Call_Name_kw (D0 I hg hm ?_ hdb);exact PySem.W.callWith_K0 I.kIn hk (qBa (us:=[]) F hr hb hd hx I .nil h)
end
structure zL(N P:List Str)(sc:Scope):Prop where
 kind:sc.kind=.function
 co:sc.isCoroutine=false
 gen:sc.isGenerator=false
 nd:N.Nodup
 pre:N.take P.length=P
 par:∀x∈P,sc.names.lookup x=some .local\/sc.names.lookup x=some .cell
 nofree:∀y∈sc.names,y.2≠.free
theorem Jx{kindOf:Str->Option NameKind}{x:Str}:∀{binds:List (Str×Value)}{m:Str->Option Value},(∀v,(x,v)∉binds)->bindL kindOf binds m x=m x
 | [],_,_=>rfl
 | (n,v)::r,m,h=>by
  unfold bindL;rw[Jx λw hw=>h w (List.mem_cons_of_mem _ hw)];split
  ·have:x≠n:=by rintro rfl;exact h v List.mem_cons_self
   simp[this]
  ·rfl
theorem Je{kindOf:Str->Option NameKind}{x:Str}:∀{binds:List (Str×Value)}{m:Str->Option Value},(∀v,(x,v)∉binds)->bindC kindOf binds m x=m x
 | [],_,_=>rfl
 | (n,v)::r,m,h=>by
  unfold bindC;rw[Je λw hw=>h w (List.mem_cons_of_mem _ hw)];split
  ·rfl
  ·have:x≠n:=by rintro rfl;exact h v List.mem_cons_self
   simp[this]
theorem Ji{kindOf:Str->Option NameKind}{x:Str}{v:Value}:∀{P:List Str}{vs:List Value}{i:Nat}{m:Str->Option Value},P.Nodup->P[i]?=some x->vs[i]?=some v->kindOf x=some .local ->
  bindL kindOf (P.zip vs) m x=some v
 | [],_,_,_,_,h,_,_=>by simp at h
 |_::_,[],_,_,_,_,h,_=>by simp at h
 |p::P,w::vs,0,m,nd,h1,h2,hk=>by
  simp at h1 h2;subst h1;subst h2;show bindL kindOf ((p,w)::P.zip vs) m p=_;unfold bindL;rw[Jx λv hv=>(List.nodup_cons.mp nd).1 (List.of_mem_zip hv).1,if_pos hk];simp
 |p::P,w::vs,i+1,m,nd,h1,h2,hk=>by
  show bindL kindOf ((p,w)::P.zip vs) m x=_;unfold bindL;exact Ji (i:=i) (List.nodup_cons.mp nd).2 (by simpa using h1) (by simpa using h2) hk
theorem Jd{kindOf:Str->Option NameKind}{x:Str}{v:Value}:∀{P:List Str}{vs:List Value}{i:Nat}{m:Str->Option Value},P.Nodup->P[i]?=some x->vs[i]?=some v->kindOf x≠some .local ->
  bindC kindOf (P.zip vs) m x=some v
 | [],_,_,_,_,h,_,_=>by simp at h
 |_::_,[],_,_,_,_,h,_=>by simp at h
 |p::P,w::vs,0,m,nd,h1,h2,hk=>by
  simp at h1 h2;subst h1;subst h2;show bindC kindOf ((p,w)::P.zip vs) m p=_;unfold bindC;rw[Je λv hv=>(List.nodup_cons.mp nd).1 (List.of_mem_zip hv).1,if_neg hk];simp
 |p::P,w::vs,i+1,m,nd,h1,h2,hk=>by
  show bindC kindOf ((p,w)::P.zip vs) m x=_;unfold bindC;exact Jd (i:=i) (List.nodup_cons.mp nd).2 (by simpa using h1) (by simpa using h2) hk
noncomputable def start(N:List Str)(vs:List V):St:=vs.map some++List.replicate (N.length-vs.length) none
noncomputable def cxOf(CX:CXT)(P:Program)(w:World)(K:PySem.W.Frag)(mg:Str->Option Value)(base:Heap)(N:List Str)(qual:Str)(scope:Scope)(f:Addr)(cd:Value)(A:Around)(outer:List Env)(s:Shared)(H:Hp)(E:XK):Cx where
 prog:=P
 w:=w
 K:=K
 mg:=mg
 base:=base
 A:=A.deeper (envOfC qual scope s.heap.objs.size f cd)
 N:=N
 s₀:=s
 H₀:=H
 env:=envOfC qual scope s.heap.objs.size f cd
 outer:=outer
 stack:=envOfC qual scope s.heap.objs.size f cd::outer
 ex:=[]
 calm:=true
 fn:=λ_=>true
 pn:=[]
 xe:=λe s'=>wpAny (model P w) (A.deeper (envOfC qual scope s.heap.objs.size f cd)) (leaving (envOfC qual scope s.heap.objs.size f cd) e) (λ_ s''=>CX outer H s E e s'') (λe' s''=>CX outer H s E e' s'') s'
theorem N0{sc:Scope}{n:Nat}{x:Str}(h:sc.names.lookup x=some .cell):∃c,(cellsFrom n sc.names []).lookup x=some c:=by
 have q:=PySem.W.cellsFrom_some sc.names n [] (.inl h);exact Option.isSome_iff_exists.mp q
theorem T3{CX:CXT}{P:Program}{w:World}{K:PySem.W.Frag}{mg:Str->Option Value}{base:Heap}{N ps:List Str}{qual:Str}{scope:Scope}{f:Addr}{cd:Value}{A:Around}{outer:List Env}{s s1:Shared}{H:Hp}{E:XK}{us:List Value}{vs:List V}
  (S:zL N ps scope) (hd:A.handled=none) (e0:Env0 P w K mg base A outer s H) (hl:vs.length=ps.length) (r:Vals vs us)
  (x:InCallC s s.heap.objs.size (bindL (envOfC qual scope s.heap.objs.size f cd).kindOf (ps.zip us) λ_=>none) (cellsFrom (s.heap.objs.size+1) scope.names []) (bindC (envOfC qual scope s.heap.objs.size f cd).kindOf (ps.zip us) λ_=>none) s1):
  Inv (cxOf CX P w K mg base N qual scope f cd A outer s H E) [] (start N vs) H s1:=by
 have hpl:ps.length<=N.length:=by have:=congrArg List.length S.pre;rw[wv]at this;omega
 obtain⟨h1,tk,rfl,hk⟩:=x.done;have noA:∀b:Addr,b∉(cxOf CX P w K mg base N qual scope f cd A outer s H E).ex:=λb z=>absurd (show b∈([]:List Addr) from z) (by simp);refine⟨⟨e0.mod,S.kind,rfl,rfl,Nat.le_refl _,λy z c h1 h2=>?_,λy hy=>?_,λy c _ h=>?_,λ_=>hd,Around.frames_deeper e0.frames,.inr ⟨rfl,rfl⟩,λb z=>absurd z (noA b),e0.bs,e0.bsz,λb _ _=>noA b,λb z=>absurd z (noA b),e0.funs,e0.frf⟩,
  rfl,e0.bare,Un.kept hk,⟨_,x.toInCall.ns,λi y v h1 h2 h3=>?_⟩,λy c h=>⟨_,x.cell y c h⟩,e0.hok.fresh (Nat.le_refl _),λy c h=>?_,λp hp=>absurd (show p∈([]:List (Addr×Obj)) from hp) (by simp),e0.hok.kept hk,?_⟩
 ·exact name_of_addr x.apart (PySem.mem_of_lookup h1) (PySem.mem_of_lookup h2)
 ·have hy:scope.names.lookup y=some .cell\/scope.names.lookup y=some .free:=hy;rcases hy with hy|hy
  ·exact N0 hy
  ·exact absurd rfl (S.nofree _ (PySem.mem_of_lookup hy))
 ·exact wt (x.above y c (PySem.mem_of_lookup h))
 ·have hi:i<vs.length:=by
   unfold start at h2;by_cases hi:i<vs.length
   ·exact hi
   ·rw[List.getElem?_append_right (by simpa using hi)]at h2;rw[List.getElem?_replicate]at h2;split at h2<;>cases h2
  have ha:vs[i]?=some v:=by
   unfold start at h2;rw[List.getElem?_append_left (by simpa using hi),wN]at h2;cases e:vs[i]? with
   |none=>rw[e]at h2;cases h2
   |some a=>rw[e]at h2;cases h2;rfl
  obtain⟨u,hu,rv⟩:=r.get ha;have hp:ps[i]?=some y:=by
   rw[<-S.pre,wb (by omega)];exact h1
  have ndP:ps.Nodup:=by rw[<-S.pre];exact S.nd.sublist (List.take_sublist _ _)
  refine⟨u,rv,?_⟩;rcases S.par y (List.mem_of_getElem? hp) with k|k
  ·exact .inl ⟨k,Ji ndP hp hu k⟩
  ·obtain⟨c,e⟩:=N0 (n:=s.heap.objs.size+1) k;refine .inr ⟨.inl k,c,e,?_⟩;have q:=x.cell y c e;rw[Jd ndP hp hu (by show scope.names.lookup y≠_;rw[k];decide)]at q;exact q
 ·exact e0.hok.fresh (wt (x.above y c (PySem.mem_of_lookup h)))
 ·unfold start;show _=N.length;rw[List.length_append,wO,List.length_replicate];omega
theorem qGL{CX:CXT}{P:Program}{w:World}{K:PySem.W.Frag}{mg:Str->Option Value}{base:Heap}{k:Nat}{f:Addr}{name qual:Str}{params:Arguments}{body:List Stmt}{scope:Scope}{dV kV doc pm cdv ct oc:Value}{an od:Option Addr}
  {osl:Array (Option Value)}{N ps:List Str}{sp:Sp}(lk:K.lookup f=some ⟨oc,od,.func (PySem.W.fnOf name qual params body scope dV kV doc pm an cdv ct),osl⟩) (hcd:PySem.W.codeIn K cdv qual=true) (S:zL N ps scope)
  (len:∀vs H Q E,sp vs H Q E->vs.length=ps.length)
  (hbody:∀(A:Around) (outer:List Env) (s:Shared) (H:Hp) (vs:List V) (Q:VK) (E:XK),Room k (A.deeper (envOfC qual scope s.heap.objs.size f cdv))->sp vs H Q E ->
   ∃t,PSs (cxOf CX P w K mg base N qual scope f cdv A outer s H E) body t/\t { nx:=λ_ H'=>Q .non H',rt:=Q } (start N vs) H):
  FnOk P w K mg base CX (k+1) f (PySem.W.fnOf name qual params body scope dV kV doc pm an cdv ct) ps sp:=by
 refine⟨len,λA outer s H args us vs Q E hr e0 hb r hsp=>?_⟩;have hl:=len _ _ _ _ hsp;have KX:K.In s.heap:=e0.mod.kin.keeps λb o e=>(e0.bs b o e).1;have lim:s.heap.NoLimit:=e0.mod.nolimit.keeps λb o e=>(e0.bs b o e).1;have hkind:∀y∈ps.zip us,scope.names.lookup y.1=some .local\/(scope.names.lookup y.1=some .cell/\((cellsFrom (s.heap.objs.size+1) scope.names []).lookup y.1).isSome=true):=λ⟨n,v⟩ hy=>by
  rcases S.par n (List.of_mem_zip hy).1 with q|q
  ·exact .inl q
  ·exact .inr ⟨q,PySem.W.cellsFrom_some _ _ _ (.inl q)⟩
 refine codeAny_call_function hr.depth (KX _ _ lk) rfl S.co S.gen rfl (PySem.W.codeRec_of KX hcd) (hb _ _ _ _ ?_);refine wpAny_newFunctionEnv_cells S.kind hkind λenv he s1 x=>?_;subst he;refine⟨lim.keeps x.toInCall.keep,codeAny_func ?_⟩;obtain⟨t,ht,hq⟩:=hbody A outer s H vs Q E (hr.deeper _) hsp;have I:Inv (cxOf CX P w K mg base N qual scope f cdv A outer s H E) [] (start N vs) H s1:=T3 S hr.hd e0 hl r x;refine wpAny_mono (ht [] s1 (start N vs) H _ I hq) (λfl s' hs=>?_) λe s' hs=>hs;have fin:∀{σ':St}{H':Hp}{v:V}{u:Value},Inv (cxOf CX P w K mg base N qual scope f cdv A outer s H E) [] σ' H' s'->RelV v u->Q v H'->CE outer P w H s Q u s':=
  λ{σ' H' v u} J rv q=>⟨v,H',J.os,J.bare,J.base,J.hok,rv,q⟩
 cases fl with
 |ret u=>
  obtain⟨v,σ',H',J,rv,q⟩:=hs;exact fin J rv q
 |next=>
  obtain⟨σ',H',J,q⟩:=hs;exact fin (v:=V.non) (u:=Value.none) J rfl q
 |brk=>
  obtain⟨_,_,_,q⟩:=hs;exact False.elim q
 |cont=>
  obtain⟨_,_,_,q⟩:=hs;exact False.elim q
section
variable{X:Cx}{x:Str}{p pos:Pos}{e:Expr}{es:List Expr}{t:TA}{id T:String}{r:List V->Hp->VK->Prop}
noncomputable def tCB(r:List V->Hp->VK->Prop)(t:TA):TE:=λσ H Q=>t σ H λvs H1=>r vs H1 Q
theorem pe_callB(hc:zJ X (.builtin id) r)(hg:Gl X x)(hm:X.mg x=none)(hv:bootBuiltins x=some (.builtin id))(ha:PA X (e::es) t)(hn:x≠"__name__":=by decide)(hdb:(x==("__debug__":Str))=false:=by decide)
  (he:starEach (e::es) X.env=(false,eval e X.env)::starEach es X.env:=by rfl) (hpl:(backTo pos (starEach es X.env)).any (·.1)=false:=by rfl):PE X (.Call (.Name x p) (e::es) [] pos) (tCB r t):=by
 intro pins s σ H Q I h;refine wpAny_Call_Name_kw (ld_blt I hg hm hv ?_ hn hdb);exact PyProof.Rows.callWith_builtin1 (thn (ha pos pins s σ H _ I h) λus s1 ⟨vs,H1,I1,r1,q1⟩=>hc pins s1 σ H1 vs us Q I1 r1 q1) he hpl
theorem pe_callTy(hc:zJ X (.type T) r)(hg:Gl X x)(hm:X.mg x=none)(hv:bootBuiltins x=some (.type T))(ha:PA X (e::es) t)(hn:x≠"__name__":=by decide)(hdb:(x==("__debug__":Str))=false:=by decide)
  (he:starEach (e::es) X.env=(false,eval e X.env)::starEach es X.env:=by rfl) (hpl:(backTo pos (starEach es X.env)).any (·.1)=false:=by rfl):PE X (.Call (.Name x p) (e::es) [] pos) (tCB r t):=by
 intro pins s σ H Q I h;refine wpAny_Call_Name_kw (ld_blt I hg hm hv ?_ hn hdb);exact PyProof.Rows.callWith_type1 (thn (ha pos pins s σ H _ I h) λus s1 ⟨vs,H1,I1,r1,q1⟩=>hc pins s1 σ H1 vs us Q I1 r1 q1) he hpl
end
end L2
namespace HT
open PySem PyProof.Rows
section
variable{prog:Program}{w:World}{A:Around}{E:Value->Shared->Prop}{s:Shared}
theorem cat_tup{t b:Addr}{vs ws:List Value}{Q:Value->Shared->Prop}(ht:IsTup s.heap t vs.toArray)(hb:IsTup s.heap b ws.toArray)(hv:vs≠[])
  (h1:ws=[]->Q (.ref t) s) (h2:ws≠[]->Q (.ref s.heap.objs.size) { s with heap:=s.heap.push { cls:=.type "tuple",data:=.seq (vs++ws).toArray } })
  (hsz:vs.length+ws.length<=sizeLine):wpAny (model prog w) A (binaryOp .Add (.ref t) (.ref b)) Q E s:=by
 obtain⟨⟨cls,dd,data,sl⟩,ho,hc,n,hd⟩:=id ht;obtain⟨⟨cls2,dd2,data2,sl2⟩,ho2,hc2,n2,hd2⟩:=id hb;simp only at hc hd hc2 hd2;subst hc hd hc2 hd2;have e:vs.toArray++ws.toArray=(vs++ws).toArray:=by simp
 by_cases hw:ws=[]
 ·exact concat_meets ⟨_,ho,rfl⟩ ⟨_,ho2,rfl⟩ noFill_tuple_add seq_tuple_add PySem.F.slot_tuple_add PySem.F.entry_tuple_add (PySem.F.args_tuple_add_2 _ _)
   (tuple_addW1 t b vs.toArray ws.toArray n n2 dd dd2 sl sl2 (by simpa using hv) (by simp[hw])) ⟨ho,ho2,h1 hw⟩
 ·refine concat_meets ⟨_,ho,rfl⟩ ⟨_,ho2,rfl⟩ noFill_tuple_add seq_tuple_add PySem.F.slot_tuple_add PySem.F.entry_tuple_add (PySem.F.args_tuple_add_2 _ _)
   (tuple_addW2 t b vs.toArray ws.toArray n n2 dd dd2 sl sl2 (by simpa using hv) (by simpa using hw) (by rw[wF,wF];exact hsz)) ⟨ho,ho2,?_⟩
  rw[e];exact h2 hw
noncomputable def sIx(n d:Nat):Option Int->Nat
 |none=>d
 |some v=>if v<0 then (v+(n:Int)).toNat else min v.toNat n
theorem sIx_none(n d:Nat):sIx n d none=d:=rfl
theorem sIx_nat(n d k:Nat):sIx n d (some (k:Int))=min k n:=by
 show (if (k:Int)<0 then ((k:Int)+(n:Int)).toNat else min (k:Int).toNat n)=min k n;rw[if_neg (by omega),Int.toNat_natCast]
theorem qEZ(n d:Nat)(hd:d<=n)(o:Option Int):sIx n d o<=n:=by
 cases o with
 |none=>exact hd
 |some v=>
  show (if v<0 then (v+(n:Int)).toNat else min v.toNat n)<=n;by_cases hv:v<0
  ·rw[if_pos hv];omega
  ·rw[if_neg hv];exact Nat.min_le_right _ _
theorem c7(v:Int)(n d:Nat):(if v<0 then max (v+(n:Int)) 0 else min v (n:Int))=((sIx n d (some v):Nat):Int):=by
 show (if v<0 then max (v+(n:Int)) 0 else min v (n:Int))=(((if v<0 then (v+(n:Int)).toNat else min v.toNat n):Nat):Int);by_cases hv:v<0
 ·simp only[if_pos hv];omega
 ·simp only[if_neg hv];omega
theorem P9(lo hi:Option Int)(n:Nat):Builtin.Slice.sliceAdjust lo hi 1 (n:Int)=(((sIx n 0 lo:Nat):Int),((sIx n n hi:Nat):Int)):=by
 have h1:¬ ((1:Int)<0):=by omega
 unfold Builtin.Slice.sliceAdjust;simp only[h1,if_false];refine Prod.ext ?_ ?_
 ·cases lo with
  |none=>rfl
  |some v=>exact c7 v n 0
 ·cases hi with
  |none=>rfl
  |some v=>exact c7 v n n
theorem Q5(i j:Nat):Builtin.Slice.slicePlaces (i:Int) (j:Int) 1=j-i:=by
 unfold Builtin.Slice.slicePlaces;have h1:(1:Int)>0:=by omega
 simp only[h1,if_true,Int.ediv_one];split<;>omega
theorem Zh{v:Value}{o:Option Int}{Q:Option Int->Shared->Prop}(p:IsPart v o)(h:Q o s):wpAny (model prog w) A (Builtin.Slice.slicePartIndex v) Q E s:=by
 cases p with
 |none=>exact slicePart_none h
 |int i t=>exact slicePart_int h
theorem QT{sl:Addr}{vl vu:Value}{lo hi:Option Int}{n:Nat}{Q:Int×Int×Nat->Shared->Prop}(hs:s.heap.IsSliceOf sl vl vu .none)(pl:IsPart vl lo)(pu:IsPart vu hi)
  (h:Q (((sIx n 0 lo:Nat):Int),1,sIx n n hi-sIx n 0 lo) s):wpAny (model prog w) A (Builtin.Slice.sliceApplied (.ref sl) (pure (n:Int))) Q E s:=by
 obtain⟨os,hos,hcs,hds⟩:=id hs;unfold Builtin.Slice.sliceApplied Builtin.Slice.sliceFields;refine va (va (wpAny_field hos hds (x:=vl) rfl (va (wpAny_field hos hds (x:=vu) rfl (va (wpAny_field hos hds (x:=.none) rfl (vb ?_)))))));refine va (slicePart_none ?_);show wpAny _ _ (if ((1:Int)==0)=true then _ else _) _ _ s;rw[if_neg (by decide)];refine va (Zh pl (va (Zh pu (va (vb ?_)))));show wpAny _ _ (match Builtin.Slice.sliceAdjust lo hi 1 (n:Int) with|(lo,hi)=>pure (lo,(1:Int),Builtin.Slice.slicePlaces lo hi 1)) _ _ s;rw[P9 lo hi n];show wpAny _ _ (pure (((sIx n 0 lo:Nat):Int),(1:Int),Builtin.Slice.slicePlaces ((sIx n 0 lo:Nat):Int) ((sIx n n hi:Nat):Int) 1)) _ _ s;rw[Q5];exact vb h
theorem qAm(xs:Array Value)(i k:Nat):((List.range k).filterMap λ(m:Nat)=>xs[((i:Int)+(m:Int)*1).toNat]?).toArray=((xs.toList.drop i).take k).toArray:=by
 have e:(λ(m:Nat)=>xs[((i:Int)+(m:Int)*1).toNat]?)=λm=>xs[i+m]?:=by
  funext m
  have:((i:Int)+(m:Int)*1).toNat=i+m:=by omega
  rw[this]
 rw[e];have:=pick_run xs i k;rw[List.filterMap_map]at this;have e2:((λx=>xs[x]?)∘λx=>i+x)=λm=>xs[i+m]?:=rfl;rw[e2]at this;rw[this]
theorem getItem_tuple_cut{t sl:Addr}{items:Array Value}{vl vu:Value}{lo hi:Option Int}{Q:Value->Shared->Prop}(ht:IsTup s.heap t items)(hs:s.heap.IsSliceOf sl vl vu .none)(pl:IsPart vl lo)(pu:IsPart vu hi)
  (hw:¬ (sIx items.size 0 lo=0/\sIx items.size items.size hi=items.size))
  (h:Q (.ref s.heap.objs.size) { s with heap:=s.heap.push { cls:=.type "tuple",data:=.seq ((items.toList.drop (sIx items.size 0 lo)).take (sIx items.size items.size hi-sIx items.size 0 lo)).toArray } })
  (hsz:items.size<=sizeLine):wpAny (model prog w) A (getItem (.ref t) (.ref sl)) Q E s:=by
 have htake:sizeOk (.seq ((items.toList.drop (sIx items.size 0 lo)).take (sIx items.size items.size hi-sIx items.size 0 lo)).toArray):=by
  show ((items.toList.drop (sIx items.size 0 lo)).take (sIx items.size items.size hi-sIx items.size 0 lo)).toArray.size<=sizeLine;rw[wF,wv,vG,Array.length_toList];omega
 have hj:sIx items.size items.size hi<=items.size:=qEZ _ _ (Nat.le_refl _) hi;obtain⟨os,hos,hcs,hds⟩:=id hs;have hTs:s.TypeIs (.ref sl) "slice":=⟨os,hos,hcs⟩
 unfold getItem
 try with_reducible refine wpAny_holding ?_
 first|refine va (vb ?_)|skip
 refine va (wpAny_sequenceKey ht.typeIs (by decide) ?_);refine va (wpAny_callSpecial?_slot (name:=Str.ofString "__getitem__") ht.typeIs PyProof.Rows.slot_tuple_getitem
  (wpAny_call_entry PyProof.Rows.slot_tuple_getitem ht.typeIs entry_tuple_getitem ?_ (args_tuple_getitem _ _)))
 show wpAny _ _ (Builtin.Tuple.tupleItemsOf (.ref t) >>=_) _ _ s;refine va (tupleItemsOf_ ht ?_);refine va (wpAny_typeOf hTs ?_);rw[if_pos (by decide)];refine va (QT hs pl pu ?_);have hno:¬ ((((sIx items.size 0 lo:Nat):Int)==0&&(1:Int)==1&&(sIx items.size items.size hi-sIx items.size 0 lo)==items.size)=true):=by
  intro q;rw[Bool.and_eq_true,Bool.and_eq_true]at q;have q1:((sIx items.size 0 lo:Nat):Int)=0:=eq_of_beq q.1.1;have q2:sIx items.size items.size hi-sIx items.size 0 lo=items.size:=eq_of_beq q.2;exact hw ⟨by omega,by omega⟩
 show wpAny _ _ (if (((sIx items.size 0 lo:Nat):Int)==0&&(1:Int)==1&&(sIx items.size items.size hi-sIx items.size 0 lo)==items.size)=true then _ else _) _ _ s;rw[if_neg hno,qAm]
 first
  |exact va (m:=Builtin.Tuple.tupleExact _) (wpAny_newObj_type (vb ⟨_,rfl,vb h⟩) htake)
  |exact va (m:=Builtin.Tuple.tupleExact _) (wpAny_newObj_type (va (vb (vb ⟨_,rfl,vb h⟩))) htake)
  |exact va (va (m:=Builtin.Tuple.tupleExact _) (wpAny_newObj_type (vb (vb ⟨_,rfl,vb h⟩)) htake))
  |exact va (va (m:=Builtin.Tuple.tupleExact _) (wpAny_newObj_type (vb ⟨_,rfl,vb h⟩) htake))
end
end HT
namespace L2
open PySem PySem.Spec PyProof.Rows
noncomputable abbrev TO:=St->Hp->(Option Int->Hp->Prop)->Prop
def PO(X:Cx)(e:Option Expr)(t:TO):Prop:=
 ∀(pins:List (Addr×Obj)) (s:Shared) (σ:St) (H:Hp) (Q:Option Int->Hp->Prop),Inv X pins σ H s->t σ H Q ->
  wpAny (model X.prog X.w) X.A (evalPart e X.env) (λu s'=>∃o H',Inv X pins σ H' s'/\IsPart u o/\Q o H') X.xe s
noncomputable def qC5:TO:=λ_ H Q=>Q none H
noncomputable def qF0(t:TE):TO:=λσ H Q=>t σ H λx H1=>∃i,x=.int i/\Q (some i) H1
section
variable{X:Cx}{e:Expr}{te:TE}{lo hi:Option Expr}{tl th:TO}{pos p2:Pos}
theorem po_none:PO X none qC5:=by
 intro pins s σ H Q I h;rw[evalPart_none];exact vb ⟨none,H,I,.none,h⟩
theorem po_some(h:PE X e te):PO X (some e) (qF0 te):=by
 intro pins s σ H Q I hw;rw[evalPart_some];refine thn (h pins s σ H _ I hw) λu s1 ⟨x,H1,I1,r1,q1⟩=>?_;obtain⟨i,rfl,q⟩:=q1;obtain⟨t,rfl⟩:=r1;exact⟨some i,H1,I1,.int i t,q⟩
def SlR(X:Cx)(r:V->Option Int->Option Int->Hp->VK->Prop):Prop:=
 ∀(pins:List (Addr×Obj)) (s:Shared) (σ:St) (H:Hp) (x:V) (v vl vu:Value) (lo hi:Option Int) (sl:Addr) (Q:VK),Inv X pins σ H s->RelV x v->s.heap.IsSliceOf sl vl vu .none->IsPart vl lo->IsPart vu hi->r x lo hi H Q ->
  ∃T id,typeLookup (.type T) "__getitem__"=pure (some (.builtin id))/\s.TypeIs v T/\wpAny (model X.prog X.w) X.A (getItem v (.ref sl)) (EP X pins σ Q) X.xe s
theorem SlR.or{r r':V->Option Int->Option Int->Hp->VK->Prop}(h:SlR X r)(h':SlR X r'):SlR X (λx lo hi H Q=>r x lo hi H Q\/r' x lo hi H Q):=by
 intro pins s σ H x v vl vu lo hi sl Q I rx hs pl pu q;rcases q with q|q
 ·exact h pins s σ H x v vl vu lo hi sl Q I rx hs pl pu q
 ·exact h' pins s σ H x v vl vu lo hi sl Q I rx hs pl pu q
noncomputable def tSl(r:V->Option Int->Option Int->Hp->VK->Prop)(te:TE)(tl th:TO):TE:=λσ H Q=>te σ H λx H1=>tl σ H1 λl H2=>th σ H2 λu H3=>r x l u H3 Q
theorem pe_slice{r:V->Option Int->Option Int->Hp->VK->Prop}(hr:SlR X r)(he:PE X e te)(hl:PO X lo tl)(hu:PO X hi th):PE X (.Subscript e (.Slice lo hi none p2) pos) (tSl r te tl th):=by
 intro pins s σ H Q I h;refine Subscript_ (thn (he pins s σ H _ I h) λv s1 ⟨x,H1,I1,r1,q1⟩=>?_);refine wpAny_Slice (thn (hl pins s1 σ H1 _ I1 q1) λvl s2 ⟨l,H2,I2,pl,q2⟩=>thn (hu pins s2 σ H2 _ I2 q2) λvu s3 ⟨u,H3,I3,pu,q3⟩=>?_);rw[evalPart_none];refine vb ?_;have I4:Inv X pins σ H3 { s3 with heap:=s3.heap.push { cls:=.type "slice",data:=.fields #[vl,vu,.none] } }:=I3.kept (t':=s3.toks) λb ob q=>Heap.get?_push_of_some _ q;obtain⟨T,id,hT,ht,hg⟩:=hr pins { s3 with heap:=s3.heap.push { cls:=.type "slice",data:=.fields #[vl,vu,.none] } } σ H3 x v vl vu l u s3.heap.objs.size Q I4 r1 (Heap.IsSliceOf.new ..) pl pu q3;show wpAny (model X.prog X.w) X.A (subscriptTail e (.Slice lo hi none p2) v (.ref s3.heap.objs.size)) (EP X pins σ Q) X.xe { s3 with heap:=s3.heap.push { cls:=.type "slice",data:=.fields #[vl,vu,.none] } };exact tail_any (ops:=[.ref s3.heap.objs.size,v]) ht hT hg (by with_unfolding_all rfl)
noncomputable def cutV(xs:List V)(lo hi:Option Int):List V:=(xs.drop (HT.sIx xs.length 0 lo)).take (HT.sIx xs.length xs.length hi-HT.sIx xs.length 0 lo)
theorem ZF(xs:List V)(lo hi:Option Int):(cutV xs lo hi).length<=xs.length:=by
 unfold cutV;rw[wv,vG];omega
def qHt(K:PySem.W.Frag):V->Option Int->Option Int->Hp->VK->Prop:=λx lo hi H Q=>∃a xs,x=.ref a/\SqT K H a xs/\
 ¬ (HT.sIx xs.length 0 lo=0/\HT.sIx xs.length xs.length hi=xs.length)/\∀p,H p=none->Q (.ref p) (upd H p (.tup (cutV xs lo hi)))
theorem sl_tup:SlR X (qHt X.K):=by
 intro pins s σ H x v vl vu lo hi sl Q I rx hs pl pu h;obtain⟨a,xs,rfl,hx,hw,q⟩:=h;cases rx;obtain⟨its,r,ht,hz⟩:=I.tuple hx;have hlen:its.toArray.size=xs.length:=by rw[wF];exact r.length.symm
 refine⟨"tuple",_,PyProof.Rows.slot_tuple_getitem.lookup,ht.typeIs,?_⟩;refine HT.getItem_tuple_cut ht hs pl pu (by rw[hlen];exact hw) ?_ (by rw[hlen];exact hz);rw[hlen];refine⟨.ref s.heap.objs.size,_,I.laid (t':=s.toks) (o:=.tup (cutV xs lo hi)) (λb ob q=>Heap.get?_push_of_some _ q) (Nat.le_refl _) ?_,rfl,q _ (I.hok.fresh (Nat.le_refl _))⟩;exact⟨Nat.le_trans (ZF xs lo hi) hz,_,(r.drop (HT.sIx xs.length 0 lo)).take (HT.sIx xs.length xs.length hi-HT.sIx xs.length 0 lo),IsTup.new _ _⟩
noncomputable def rCatT(K:PySem.W.Frag):R2:=λx y H Q=>∃a b xs ys,x=.ref a/\y=.ref b/\SqT K H a xs/\SqT K H b ys/\xs≠[]/\xs.length+ys.length<=sizeLine/\
 (ys=[]->Q (.ref a) H)/\(ys≠[]->∀p,H p=none->Q (.ref p) (upd H p (.tup (xs++ys))))
theorem Vals.nil_iff{xs:List V}{us:List Value}(r:Vals xs us):us=[]↔xs=[]:=by
 cases r with
 |nil=>simp
 |cons _ _=>simp
theorem op_catT:OpR X (binaryOp .Add) (rCatT X.K):=by
 intro pins s σ H x y v u Q I rx ry h;obtain⟨a,b,xs,ys,rfl,rfl,ha,hb,hx,hz,q1,q2⟩:=h;cases rx;cases ry;obtain⟨its,r1,p1,_⟩:=I.tuple ha;obtain⟨its2,r2,p2,_⟩:=I.tuple hb;refine HT.cat_tup p1 p2 (λz=>hx (r1.nil_iff.mp z)) (λz=>⟨.ref a,H,I,rfl,q1 (r2.nil_iff.mp z)⟩) (λz=>?_) (by rw[<-r1.length,<-r2.length];exact hz);refine⟨.ref s.heap.objs.size,_,I.laid (t':=s.toks) (o:=.tup (xs++ys)) (λb ob q=>Heap.get?_push_of_some _ q) (Nat.le_refl _) ?_,rfl,q2 (λw=>z (r2.nil_iff.mpr w)) _ (I.hok.fresh (Nat.le_refl _))⟩;exact⟨by rw[List.length_append];exact hz,_,r1.append r2,IsTup.new _ _⟩
end
noncomputable def ixN(n:Nat)(i:Int):Option Nat:=if 0<=i then (if i<n then some i.toNat else none) else if -(n:Int)<=i then some (i+n).toNat else none
noncomputable def atI{α:Type}(xs:List α)(i:Int):Option α:=(ixN xs.length i).bind λj=>xs[j]?
theorem ixN_seq{n:Nat}{i:Int}{j:Nat}(h:ixN n i=some j):seqIndex? i n=some j/\j<n/\-(n:Int)<=i/\i<n:=by
 unfold ixN at h;by_cases h0:0<=i
 ·rw[if_pos h0]at h;by_cases h1:i<n
  ·rw[if_pos h1]at h;have e:i.toNat=j:=Option.some.inj h;exact⟨by rw[seqIndex_of h0 h1,e],by omega,by omega,h1⟩
  ·rw[if_neg h1]at h;cases h
 ·rw[if_neg h0]at h;by_cases h1:-(n:Int)<=i
  ·rw[if_pos h1]at h;have e:(i+n).toNat=j:=Option.some.inj h;exact⟨by rw[seqIndex_neg (by omega) h1,e],by omega,h1,by omega⟩
  ·rw[if_neg h1]at h;cases h
theorem U1{α:Type}{xs:List α}{i:Int}{v:α}(h:atI xs i=some v):∃j,seqIndex? i xs.length=some j/\xs[j]?=some v/\j<xs.length/\-(xs.length:Int)<=i/\i<xs.length:=by
 unfold atI at h;cases e:ixN xs.length i with
 |none=>rw[e]at h;cases h
 |some j=>
  rw[e]at h;obtain⟨h1,h2,h3,h4⟩:=ixN_seq e;exact⟨j,h1,h,h2,h3,h4⟩
def PlainIx(b:Expr):Prop:=∀o i,subscripted b false o i=operate [o,i] (getItem o i)
def IxR(X:Cx)(r:R2):Prop:=
 ∀(value slice:Expr) (pins:List (Addr×Obj)) (s:Shared) (σ:St) (H:Hp) (x y:V) (v u:Value) (Q:VK),Inv X pins σ H s->RelV x v->RelV y u->r x y H Q ->
  subscripted slice false v u=operate [v,u] (getItem v u)->wpAny (model X.prog X.w) X.A (subscriptTail value slice v u) (EP X pins σ Q) X.xe s
def MtR(X:Cx)(id:String)(r:V->List V->Hp->VK->Prop):Prop:=
 ∀(pins:List (Addr×Obj)) (s:Shared) (σ:St) (H:Hp) (x:V) (xs:List V) (v:Value) (us:List Value) (Q:VK),Inv X pins σ H s->RelV x v->Vals xs us->r x xs H Q ->
  wpAny (model X.prog X.w) X.A (call (.builtin id) (v::us)) (EP X pins σ Q) X.xe s
section
variable{X:Cx}{a b:Expr}{ta tb:TE}{pos:Pos}
theorem IxR.or{r r':R2}(h:IxR X r)(h':IxR X r'):IxR X (λx y H Q=>r x y H Q\/r' x y H Q):=by
 intro value slice pins s σ H x y v u Q I rx ry q hs;rcases q with q|q
 ·exact h value slice pins s σ H x y v u Q I rx ry q hs
 ·exact h' value slice pins s σ H x y v u Q I rx ry q hs
theorem pe_ix{r:R2}(hr:IxR X r)(ha:PE X a ta)(hb:PE X b tb)(hs:PlainIx b):PE X (.Subscript a b pos) (tOp r ta tb):=by
 intro pins s σ H Q I h;exact Subscript_ (qt ha hb I h λv u s2 x y H2 I2 rx ry q=>hr a b pins s2 σ H2 x y v u Q I2 rx ry q (hs _ _))
noncomputable def qIB(K:PySem.W.Frag):R2:=λx y H Q=>∃p xs i v,x=.ref p/\y=.int i/\SqL K H p xs/\atI xs i=some v/\Q v H
noncomputable def qHx(K:PySem.W.Frag):R2:=λx y H Q=>∃p xs i v,x=.ref p/\y=.int i/\SqT K H p xs/\atI xs i=some v/\Q v H
theorem ix_list:IxR X (qIB X.K):=by
 intro value slice pins s σ H x y v u Q I rx ry h hs;obtain⟨p,xs,i,z,rfl,rfl,hq,he,q⟩:=h;cases rx;obtain⟨t,rfl⟩:=ry;obtain⟨its,r,pl,hz⟩:=I.list hq;obtain⟨j,h1,h2,h3,h4,h5⟩:=U1 he;obtain⟨w,ew,rw'⟩:=r.get h2;have hl:=r.length;have hn:=J5;have fin:EP X pins σ Q w s:=⟨z,H,I,rw',q⟩
 by_cases h0:0<=i
 ·have hj:i.toNat=j:=by
   rw[seqIndex_of h0 h5]at h1;exact Option.some.inj h1
  exact item_listR pl.isList h0 (by omega) (by rw[hj];simpa using ew) fin hs
 ·have hj:(i+(its.toArray.size:Int)).toNat=j:=by
   rw[seqIndex_neg (by omega) h4]at h1;rw[wF,<-hl];exact Option.some.inj h1
  exact subscriptTail_builtinR (x:=w) pl.isList.typeIs slot_list_getitem.lookup
   (wpAny_getItem_list_neg (Q:=λr s'=>r=w/\EP X pins σ Q r s') pl.isList (by omega) (by rw[wF]<;>omega) (by omega) (by rw[hj];simpa using ew) ⟨rfl,fin⟩) hs
theorem ix_tup:IxR X (qHx X.K):=by
 intro value slice pins s σ H x y v u Q I rx ry h hs;obtain⟨p,xs,i,z,rfl,rfl,hq,he,q⟩:=h;cases rx;obtain⟨t,rfl⟩:=ry;obtain⟨its,r,pl,hz⟩:=I.tuple hq;obtain⟨j,h1,h2,h3,h4,h5⟩:=U1 he;obtain⟨w,ew,rw'⟩:=r.get h2;have hl:=r.length;have hn:=J5;have fin:EP X pins σ Q w s:=⟨z,H,I,rw',q⟩
 exact subscriptTail_builtinR (x:=w) pl.typeIs slot_tuple_getitem.lookup
  (getItem_tuple (j:=j) (Q:=λr s'=>r=w/\EP X pins σ Q r s') pl (by omega) (by omega) (by rw[wF,<-hl];exact h1) (by simpa using ew) ⟨rfl,fin⟩) hs
theorem O2(its:List Value)(n j:Nat)(u:Value):Obj.mapSeq (·.setIfInBounds j u) { cls:=.type "list",data:=.seq its.toArray n }={ cls:=.type "list",data:=.seq (its.set j u).toArray n }:=by
 simp[Obj.mapSeq]
theorem Inv.lst{pins:List (Addr×Obj)}{σ:St}{H:Hp}{s:Shared}{p:Addr}{xs:List V}(I:Inv X pins σ H s)(h:H p=some (.lst xs)):
  ∃(its:List Value) (n:Nat),Vals xs its/\s.heap.get? p=some { cls:=.type "list",data:=.seq its.toArray n }/\xs.length<=sizeLine:=by
 obtain⟨z,its,n,r,e⟩:=I.hok p _ h;exact⟨its,n,r,e,z⟩
theorem Inv.lstUpd{pins:List (Addr×Obj)}{σ:St}{H:Hp}{s:Shared}{p:Addr}{xs ys:List V}{its its':List Value}{n n':Nat}{f:Obj->Obj}(I:Inv X pins σ H s)(h:H p=some (.lst xs))
  (ho:s.heap.get? p=some { cls:=.type "list",data:=.seq its.toArray n }) (hf:f { cls:=.type "list",data:=.seq its.toArray n }={ cls:=.type "list",data:=.seq its'.toArray n' }) (r:Vals ys its') (hz:ys.length<=sizeLine) (t:Nat):
  Inv X pins σ (upd H p (.lst ys)) { s with heap:=s.heap.update p f,toks:=t }:=by
 have e:(s.heap.update p f).get? p=some { cls:=.type "list",data:=.seq its'.toArray n' }:=by
  rw[Heap.get?_update_self f ho (by rw[hf]<;>rfl),hf]
 refine I.write (x:=p) (e:=p) (by rw[h];trivial) (.inl rfl) (λb u hb q=>(Heap.get?_update_other _ _ (Ne.symm hb)).trans q) ⟨_,e⟩ ?_;exact⟨hz,its',n',r,e⟩
def rSetL:V->V->V->Hp->(Hp->Prop)->Prop:=λo i v H Q=>∃p xs k j,o=.ref p/\i=.int k/\H p=some (.lst xs)/\ixN xs.length k=some j/\Q (upd H p (.lst (xs.set j v)))
theorem set_list:PSet X rSetL:=by
 intro pins s σ H o i v ov iv u Q I ro ri rv h;obtain⟨p,xs,k,j,rfl,rfl,hp,hj,q⟩:=h;cases ro;obtain⟨t,rfl⟩:=ri;obtain⟨its,n,r,ho,hz⟩:=I.lst hp;obtain⟨h1,h2,h3,h4⟩:=ixN_seq hj;have hl:=r.length;have hn:=J5;have I':Inv X pins σ (upd H p (.lst (xs.set j v))) { s with heap:=s.heap.update p (Obj.mapSeq (·.setIfInBounds j u)) }:=
  I.lstUpd hp ho (O2 its n j u) (r.set rv j) (by rw[vJ];exact hz) s.toks
 by_cases h0:0<=k
 ·have hk:k.toNat=j:=by
   rw[seqIndex_of h0 h4]at h1;exact Option.some.inj h1
  exact PySem.W.ki_setAt ho h0 (by omega) (by rw[wF,<-hl];exact h4) (by rw[hk];exact⟨_,I',q⟩)
 ·have hk:(k+(its.toArray.size:Int)).toNat=j:=by
   rw[seqIndex_neg (by omega) h3]at h1;rw[wF,<-hl];exact Option.some.inj h1
  exact PySem.W.ki_setBack ho (by omega) (by rw[wF,<-hl];exact h3) (by omega) (by rw[hk];exact⟨_,I',q⟩)
theorem JT(lo hi:Option Int)(n:Nat):(sliceBounds lo hi none n).1=((HT.sIx n 0 lo:Nat):Int)/\(sliceBounds lo hi none n).2.1=((HT.sIx n n hi:Nat):Int)/\(sliceBounds lo hi none n).2.2=1:=by
 refine⟨?_,?_,rfl⟩
 ·cases lo with
  |none=>simp[sliceBounds,HT.sIx]
  |some i=>
   simp only[sliceBounds,HT.sIx,Option.getD_none,show (1:Int)>0 by decide,if_true];by_cases h:i<0
   ·simp only[h,if_true]<;>omega
   ·simp only[h,if_false]<;>omega
 ·cases hi with
  |none=>simp[sliceBounds,HT.sIx]
  |some i=>
   simp only[sliceBounds,HT.sIx,Option.getD_none,show (1:Int)>0 by decide,if_true];by_cases h:i<0
   ·simp only[h,if_true]<;>omega
   ·simp only[h,if_false]<;>omega
theorem JE(its:List Value)(lo hi:Option Int):slicePick its.toArray lo hi none=((its.drop (HT.sIx its.length 0 lo)).take (HT.sIx its.length its.length hi-HT.sIx its.length 0 lo)).toArray:=by
 obtain⟨h1,h2,h3⟩:=JT lo hi its.toArray.size;unfold slicePick;rw[h1,h2,h3];simp only[sliceRange_one,pick_run,wF]<;>rfl
def qHv(K:PySem.W.Frag):V->Option Int->Option Int->Hp->VK->Prop:=λx lo hi H Q=>∃a xs,x=.ref a/\SqL K H a xs/\∀p,H p=none->Q (.ref p) (upd H p (.lst (cutV xs lo hi)))
theorem sl_list:SlR X (qHv X.K):=by
 intro pins s σ H x v vl vu lo hi sl Q I rx hs pl pu h;obtain⟨a,xs,rfl,hx,q⟩:=h;cases rx;obtain⟨its,r,ht,hz⟩:=I.list hx;have hlen:=r.length;refine⟨"list",_,slot_list_getitem.lookup,ht.isList.typeIs,?_⟩;refine wpAny_getItem_list_slice ht.isList hs pl pu .none (by simp) ?_ (by rw[wF]<;>omega);rw[JE,<-hlen];refine⟨.ref s.heap.objs.size,_,I.laid (t':=s.toks) (o:=.lst (cutV xs lo hi)) (λb ob q=>Heap.get?_push_of_some _ q) (Nat.le_refl _) ?_,rfl,q _ (I.hok.fresh (Nat.le_refl _))⟩;exact⟨Nat.le_trans (ZF xs lo hi) hz,_,0,(r.drop (HT.sIx xs.length 0 lo)).take (HT.sIx xs.length xs.length hi-HT.sIx xs.length 0 lo),Heap.get?_push_size _ rfl⟩
noncomputable def flatV:V->Bool
 | .non=>true
 | .bl _=>true
 | .int _=>true
 | .str _=>true
 |_=>false
noncomputable def eqV:V->V->Bool
 | .non,.non=>true
 | .bl a,.bl b=>a==b
 | .bl a,.int b=>(if a then 1 else 0)==b
 | .int a,.bl b=>a==(if b then 1 else 0)
 | .int a,.int b=>a==b
 | .str a,.str b=>a==b
 |_,_=>false
theorem qEA{A:Around}{s:Shared}{y x:V}{u v:Value}(ry:RelV y u)(rx:RelV x v)(fy:flatV y=true)(fx:flatV x=true):SeqAt.EqAt A s u v (eqV y x):=by
 cases y with
 |non=>
  cases ry;cases x with
  |non=>cases rx;exact SeqAt.EqAt.same _
  |bl b=>cases rx;exact SeqAt.EqAt.none_bool b
  |int b=>obtain⟨t,rfl⟩:=rx;exact SeqAt.EqAt.none_int b t
  |str b=>obtain⟨t,rfl⟩:=rx;exact SeqAt.EqAt.none_str b t
  |_=>exact absurd (show false=true from fx) wM
 |bl a=>
  cases ry;cases x with
  |non=>cases rx;exact SeqAt.EqAt.bool_none a
  |bl b=>cases rx;exact SeqAt.EqAt.bool_bool a b
  |int b=>obtain⟨t,rfl⟩:=rx;exact SeqAt.EqAt.bool_int a b t
  |str b=>obtain⟨t,rfl⟩:=rx;exact SeqAt.EqAt.bool_str a b t
  |_=>exact absurd (show false=true from fx) wM
 |int a=>
  obtain⟨t',rfl⟩:=ry;cases x with
  |non=>cases rx;exact SeqAt.EqAt.int_none a t'
  |bl b=>cases rx;exact SeqAt.EqAt.int_bool a t' b
  |int b=>obtain⟨t,rfl⟩:=rx;exact SeqAt.EqAt.int_int a t' b t
  |str b=>obtain⟨t,rfl⟩:=rx;exact SeqAt.EqAt.int_str a t' b t
  |_=>exact absurd (show false=true from fx) wM
 |str a=>
  obtain⟨t',rfl⟩:=ry;cases x with
  |non=>cases rx;exact SeqAt.EqAt.str_none a t'
  |bl b=>cases rx;exact SeqAt.EqAt.str_bool a t' b
  |int b=>obtain⟨t,rfl⟩:=rx;exact SeqAt.EqAt.str_int a t' b t
  |str b=>obtain⟨t,rfl⟩:=rx;exact SeqAt.EqAt.str_str a t' b t
  |_=>exact absurd (show false=true from fx) wM
 |_=>exact absurd (show false=true from fy) wM
noncomputable def eqU(x:V)(u:Value):Bool:=match u with
 | .none=>eqV .non x
 | .bool b=>eqV (.bl b) x
 | .int i _=>eqV (.int i) x
 | .str z _=>eqV (.str z) x
 |_=>false
theorem qBK{x y:V}{u:Value}(r:RelV y u)(f:flatV y=true):eqU x u=eqV y x:=by
 cases y with
 |non=>cases r;rfl
 |bl b=>cases r;rfl
 |int i=>obtain⟨t,rfl⟩:=r;rfl
 |str z=>obtain⟨t,rfl⟩:=r;rfl
 |_=>exact absurd (show false=true from f) wM
theorem Qn{x:V}:∀{xs:List V}{us:List Value},Vals xs us->xs.all flatV=true->us.any (eqU x)=xs.any λy=>eqV y x
 |_,_,.nil,_=>rfl
 |y::xs,u::us,.cons r t,f=>by
  rw[List.all_cons,Bool.and_eq_true]at f;rw[List.any_cons,List.any_cons,qBK r f.1,Qn t f.2]
theorem ji{A:Around}{s:Shared}{x:V}{v:Value}(rx:RelV x v)(fx:flatV x=true):∀{xs:List V}{us:List Value},Vals xs us->xs.all flatV=true->∀u∈us,SeqAt.EqAt A s u v (eqU x u)
 |_,_,.nil,_=>λu hu=>by cases hu
 |y::xs,u::us,.cons r t,f=>λu' hu=>by
  rw[List.all_cons,Bool.and_eq_true]at f;rcases List.mem_cons.mp hu with rfl|hu
  ·rw[qBK r f.1];exact qEA r rx f.1 fx
  ·exact ji rx fx t f.2 u' hu
noncomputable def inV(x:V)(xs:List V):Bool:=xs.any λy=>eqV y x
noncomputable def rIn(K:PySem.W.Frag)(neg:Bool):R2:=λx y H Q=>∃p xs,y=.ref p/\(SqL K H p xs\/SqT K H p xs)/\flatV x=true/\xs.all flatV=true/\Q (.bl (if neg then !inV x xs else inV x xs)) H
theorem op_in_seq:OpR X (compareOp .In) (rIn X.K false):=by
 intro pins s σ H x y v u Q I rx ry h;obtain⟨p,xs,rfl,hq,fx,fs,q⟩:=h;cases ry;rcases hq with hq|hq
 ·obtain⟨its,r,pl,hz⟩:=I.list hq;refine SeqAt.in_listAt (eqU x) pl.isList (λw hw=>ji rx fx r fs w (by simpa using hw)) ⟨.bl _,H,I,rfl,?_⟩;rw[show its.toArray.any (eqU x)=its.any (eqU x) by simp,Qn r fs];exact q
 ·obtain⟨its,r,pl,hz⟩:=I.tuple hq;refine SeqAt.in_tupleAt (eqU x) pl (λw hw=>ji rx fx r fs w (by simpa using hw)) ⟨.bl _,H,I,rfl,?_⟩;rw[show its.toArray.any (eqU x)=its.any (eqU x) by simp,Qn r fs];exact q
theorem op_notIn_seq:OpR X (compareOp .NotIn) (rIn X.K true):=by
 intro pins s σ H x y v u Q I rx ry h;obtain⟨p,xs,rfl,hq,fx,fs,q⟩:=h;cases ry;rcases hq with hq|hq
 ·obtain⟨its,r,pl,hz⟩:=I.list hq;refine SeqAt.notIn_listAt (eqU x) pl.isList (λw hw=>ji rx fx r fs w (by simpa using hw)) ⟨.bl _,H,I,rfl,?_⟩;rw[show its.toArray.any (eqU x)=its.any (eqU x) by simp,Qn r fs];exact q
 ·obtain⟨its,r,pl,hz⟩:=I.tuple hq;refine SeqAt.notIn_tupleAt (eqU x) pl (λw hw=>ji rx fx r fs w (by simpa using hw)) ⟨.bl _,H,I,rfl,?_⟩;rw[show its.toArray.any (eqU x)=its.any (eqU x) by simp,Qn r fs];exact q
theorem call_len_seq:zJ X (.builtin "len") (λxs H Q=>∃p ys,xs=[.ref p]/\(SqL X.K H p ys\/SqT X.K H p ys)/\Q (.int ys.length) H):=by
 intro pins s σ H xs us Q I r h;obtain⟨p,ys,rfl,hq,q⟩:=h;obtain⟨u,rfl,rx⟩:=vals1 r;cases rx;have hn:=J5;rcases hq with hq|hq
 ·obtain⟨its,r',pl,hz⟩:=I.list hq;have hlen:=r'.length;exact Calls.call_len_list pl.isList (by simp only[wF]<;>omega) ⟨.int ys.length,H,I.tok _,⟨s.toks+1,by rw[wF,hlen]⟩,q⟩
 ·obtain⟨its,r',pl,hz⟩:=I.tuple hq;have hlen:=r'.length;exact len_tuple pl (by simp only[wF]<;>omega) ⟨.int ys.length,H,I.tok _,⟨s.toks+1,by rw[wF,hlen]⟩,q⟩
theorem call_list_of:zJ X (.type "list") (λxs H Q=>∃p ys,xs=[.ref p]/\(SqL X.K H p ys\/SqT X.K H p ys)/\∀l,H l=none->Q (.ref l) (upd H l (.lst ys))):=by
 intro pins s σ H xs us Q I r h;obtain⟨p,ys,rfl,hq,q⟩:=h;obtain⟨u,rfl,rx⟩:=vals1 r;cases rx;have fin:∀(its:List Value),Vals ys its->ys.length<=sizeLine->∀(h':Heap) (c':Nat),(∀b o',s.heap.get? b=some o'->h'.get? b=some o') ->
   h'.get? s.heap.objs.size=some { cls:=.type "list",dict:=none,data:=.seq its.toArray c',slots:=#[] }->EP X pins σ Q (.ref s.heap.objs.size) { s with heap:=h' }:=λits r' hz h' c' kp e=>
  ⟨.ref s.heap.objs.size,_,I.laid (t':=s.toks) kp (Nat.le_refl _) (show ObjOk X.prog X.w _ h' _ (.lst ys) from⟨hz,its,c',r',e⟩),rfl,q _ (I.hok.fresh (Nat.le_refl _))⟩
 rcases hq with hq|hq
 ·obtain⟨its,r',pl,hz⟩:=I.list hq;have hlen:=r'.length;obtain⟨o,ho,hc,n,hd⟩:=pl.isList;exact call_list_seq p (.inl rfl) ho hc hd (λh' c' kp e=>fin its r' hz h' c' kp e) (by simp only[wF]<;>omega)
 ·obtain⟨its,r',pl,hz⟩:=I.tuple hq;have hlen:=r'.length;obtain⟨o,ho,hc,n,hd⟩:=pl;exact call_list_seq p (.inr rfl) ho hc hd (λh' c' kp e=>fin its r' hz h' c' kp e) (by simp only[wF]<;>omega)
def tyV(K:PySem.W.Frag)(T:String)(x:V)(H:Hp):Prop:=match x with
 | .str _=>T="str"
 | .int _=>T="int"
 | .ref p=>(T="list"/\∃xs,SqL K H p xs)\/(T="tuple"/\∃o,K.lookup p=some o/\o.cls=.type "tuple"/\o.dict=none)\/
   (T="dict"/\((∃kvs,H p=some (.dK kvs))\/∃kvs,H p=some (.dT kvs)))\/(T="set"/\∃S n,H p=some (.set S n))
 |_=>False
theorem qDs{pins:List (Addr×Obj)}{σ:St}{H:Hp}{s:Shared}{T:String}{x:V}{v:Value}(I:Inv X pins σ H s)(r:RelV x v)(ty:tyV X.K T x H):
  s.TypeIs v T/\∀a,v=.ref a->∃ob,s.heap.get? a=some ob/\ob.dict=none:=by
 cases x with
 |str z=>
  obtain⟨t,rfl⟩:=r;cases (show T="str" from ty);exact⟨typeIs_str s z t,λ_ e=>nomatch e⟩
 |int i=>
  obtain⟨t,rfl⟩:=r;cases (show T="int" from ty);exact⟨typeIs_int s i t,λ_ e=>nomatch e⟩
 |ref p=>
  cases r;rcases ty with⟨rfl,xs,hq⟩|⟨rfl,o,hk,hc,hd⟩|⟨rfl,hk⟩|⟨rfl,S,n,hk⟩
  ·obtain⟨its,_,pl,_⟩:=I.list hq;refine⟨pl.isList.typeIs,λa e=>?_⟩;cases e;obtain⟨o,n,e,c,hd,_⟩:=pl;exact⟨o,e,hd⟩
  ·refine⟨⟨o,I.kIn p o hk,hc⟩,λa e=>?_⟩;cases e;exact⟨o,I.kIn _ o hk,hd⟩
  ·have z:∃o,s.heap.get? p=some o/\o.ExactDict:=by
    rcases hk with⟨kvs,hk⟩|⟨kvs,hk⟩
    ·obtain⟨_,_,_,_,o,_,_,e,ex,_⟩:=I.hok p _ hk;exact⟨o,e,ex⟩
    ·obtain⟨_,_,_,_,o,_,_,e,ex,_⟩:=I.hok p _ hk;exact⟨o,e,ex⟩
   obtain⟨o,e,ex⟩:=z;refine⟨⟨o,e,ex.1⟩,λa e2=>?_⟩;cases e2;exact⟨o,e,ex.2.1⟩
  ·obtain⟨o,_,_,_,e,ex,_⟩:=I.hok p _ hk;refine⟨⟨o,e,ex.1⟩,λa e2=>?_⟩;cases e2;exact⟨o,e,ex.2.1⟩
 |_=>exact False.elim ty
noncomputable def tBM(K:PySem.W.Frag)(T:String)(r:V->List V->Hp->VK->Prop)(to:TE)(t:TA):TE:=λσ H Q=>to σ H λx H1=>tyV K T x H1/\t σ H1 λxs H2=>r x xs H2 Q
variable{o e:Expr}{es:List Expr}{to:TE}{t:TA}{name:Str}{apos cpos:Pos}{T id:String}{r:V->List V->Hp->VK->Prop}
theorem pe_bm(pa:PlainAttrs T)(slot:Slot T name id)(hty:typeOf (.builtin id)=pure (.type "method_descriptor"))(hm:MtR X id r)(ho:PE X o to)(ha:PA X (e::es) t)
  (hbase:attributeBase o name X.env (eval o X.env)=eval o X.env:=by rfl)
  (hfew:((backTo cpos (starEach (e::es) X.env)).all (λx=>!x.1)&&(backToKw cpos (keywordEach [] X.env)).all (λx=>x.1.isSome)
   && decide ((e::es).length+([]:List Keyword).length+(if ([]:List Keyword).isEmpty then 0 else 1)<30))=true:=by rfl)
  (hline:(apos.endLine==cpos.line)=true:=by rfl) (hs:starEach (e::es) X.env=(false,eval e X.env)::starEach es X.env:=by rfl) (hplain:(backTo cpos (starEach es X.env)).any (·.1)=false:=by rfl):
  PE X (.Call (.Attribute o name apos) (e::es) [] cpos) (tBM X.K T r to t):=by
 intro pins s σ H Q I h;refine wpAny_Call_method_late hbase hfew hline rfl (thn (ho pins s σ H _ I h) λv s1 ⟨x,H1,I1,r1,ty,q1⟩=>?_);obtain⟨h1,h2⟩:=qDs I1 r1 ty;refine⟨T,id,pa,slot,hty,h1,h2,?_⟩;have hA:=ha cpos pins s1 σ H1 _ I1 q1;rw[hs]at hA ⊢;refine Calls.callWith_builtin (by show (false||(backTo cpos (starEach es X.env)).any (·.1))=false;rw[hplain]<;>rfl) (Calls.evalArgs_plain ?_);exact thn hA λus s2 ⟨vs,H2,I2,r2,q2⟩=>hm pins s2 σ H2 x vs v us Q I2 r1 r2 q2
end
def MtM(X:Cx)(id:String)(r:V->List V->Hp->VK->Prop):Prop:=
 ∀(pins:List (Addr×Obj)) (s:Shared) (σ:St) (H:Hp) (x:V) (xs:List V) (v:Value) (us:List Value) (Q:VK),Inv X pins σ H s->RelV x v->Vals xs us->r x xs H Q ->
  wpAny (model X.prog X.w) X.A (call (.builtin id) (v::us)) (EP X pins σ Q) X.xe s
theorem Vals.one:∀{x:V}{us:List Value},Vals [x] us->∃u,us=[u]/\RelV x u
 |_,_,.cons r .nil=>⟨_,rfl,r⟩
theorem Vals.zero:∀{us:List Value},Vals [] us->us=[]
 |_,.nil=>rfl
theorem Vals.dropLast{xs:List V}{us:List Value}(h:Vals xs us):Vals xs.dropLast us.dropLast:=by
 induction h with
 |nil=>exact .nil
 |cons r t ih=>
  cases t with
  |nil=>exact .nil
  |cons q t'=>exact .cons r ih
theorem Vals.eraseIdx:∀{xs:List V}{us:List Value}(i:Nat),Vals xs us->Vals (xs.eraseIdx i) (us.eraseIdx i)
 |_,_,_,.nil=>.nil
 |_,_,0,.cons _ t=>t
 |_,_,i+1,.cons r t=>.cons r (Vals.eraseIdx i t)
theorem Vals.rep{xs:List V}{us:List Value}(h:Vals xs us):∀k:Nat,Vals (List.replicate k xs).flatten (List.replicate k us).flatten
 | 0=>.nil
 |k+1=>by
  rw[List.replicate_succ,List.replicate_succ,List.flatten_cons,List.flatten_cons];exact Vals.append h (Vals.rep h k)
theorem A4{α:Type}:∀(l:List α) (i:Nat),(l.eraseIdx i).length<=l.length
 | [],_=>Nat.le_refl _
 |_::_,0=>Nat.le_succ _
 |_::r,i+1=>vP (A4 r i)
theorem Jw(its:List Value):∀(k:Nat) (acc:List Value),
  List.foldl (λx1 x2=>x1++x2) acc.toArray (List.replicate k its.toArray)=(acc++(List.replicate k its).flatten).toArray
 | 0,acc=>by simp
 |k+1,acc=>by
  have e:acc.toArray++its.toArray=(acc++its).toArray:=by simp
  have e2:(acc++its)++(List.replicate k its).flatten=acc++(List.replicate (k+1) its).flatten:=by
   rw[List.replicate_succ,List.flatten_cons,wG]
  rw[<-e2,<-Jw its k (acc++its),<-e,List.replicate_succ,List.foldl_cons]
section
variable{X:Cx}{pins:List (Addr×Obj)}{σ:St}{H:Hp}{s:Shared}{l b:Addr}{xs ys zs:List V}
theorem Inv.lset{its its':List Value}{n:Nat}{f:Array Value->Array Value}{t':Nat}(I:Inv X pins σ H s)(hH:H l=some (.lst xs))
  (e:s.heap.get? l=some { cls:=.type "list",data:=.seq its.toArray n }) (hf:f its.toArray=its'.toArray) (hv:Vals ys its') (hz:ys.length<=sizeLine):
  Inv X pins σ (upd H l (.lst ys)) { s with heap:=s.heap.update l (Obj.mapSeq f),toks:=t' }:=by
 have q:=PySem.IsL.update e f;rw[hf]at q;refine I.write (x:=l) (e:=l) (by rw[hH];exact trivial) (.inl rfl) (λb' u hb hu=>(Heap.get?_update_other s.heap (Obj.mapSeq f) (Ne.symm hb)).trans hu) ⟨_,q⟩ ?_;exact⟨hz,its',_,hv,q⟩
theorem Inv.lnew{its:List Value}{t':Nat}(I:Inv X pins σ H s)(hv:Vals ys its)(hz:ys.length<=sizeLine):
  Inv X pins σ (upd H s.heap.objs.size (.lst ys)) { s with heap:=s.heap.push { cls:=.type "list",data:=.seq its.toArray },toks:=t' }:=
 I.laid (λ_ _ q=>Heap.get?_push_of_some _ q) (Nat.le_refl _) ⟨hz,its,0,hv,Heap.get?_push_size _ rfl⟩
theorem Inv.fresh(I:Inv X pins σ H s):H s.heap.objs.size=none:=I.hok.fresh (Nat.le_refl _)
theorem Inv.lstM(I:Inv X pins σ H s)(hH:H l=some (.lst xs)):xs.length<=sizeLine/\∃(its:List Value) (n:Nat),Vals xs its/\xs.length=its.length/\s.heap.get? l=some { cls:=.type "list",data:=.seq its.toArray n }:=by
 obtain⟨z,its,n,r,e⟩:=I.hok l _ hH;exact⟨z,its,n,r,r.length,e⟩
theorem y8{n:Nat}(h:n<=sizeLine):Builtin.List.listTooLong n=false:=by
 unfold Builtin.List.listTooLong;exact vc (by omega)
end
section
variable{X:Cx}
def qBw:V->List V->Hp->VK->Prop:=λx vs H Q=>∃l xs y,x=.ref l/\vs=[y]/\H l=some (.lst xs)/\xs.length<sizeLine/\Q .non (upd H l (.lst (xs++[y])))
theorem mt_append:MtM X "list.append" qBw:=by
 intro pins s σ H x vs v us Q I rx rv h;obtain⟨l,xs,y,rfl,rfl,hH,hz,q⟩:=h;cases rx;obtain⟨u,rfl,ru⟩:=rv.one;obtain⟨z,its,n,r,hl,e⟩:=I.lstM hH;refine call_meets F.slot_list_append ⟨_,e,rfl⟩ F.entry_list_append (F.args_list_append_2 _ _) (PySem.list_append l its.toArray n u (by rw[wF];omega)) ⟨e,?_⟩;refine⟨.non,_,I.lset (its':=its++[u]) hH e (by simp) (r.append (.cons ru .nil)) ?_,rfl,q⟩;rw[List.length_append,List.length_singleton];omega
def rPopAt:V->List V->Hp->VK->Prop:=λx vs H Q=>∃l xs i k y,x=.ref l/\vs=[.int i]/\H l=some (.lst xs)/\-(2 ^ 63)<=i/\i<2 ^ 63/\seqIndex? i xs.length=some k/\xs[k]?=some y/\Q y (upd H l (.lst (xs.eraseIdx k)))
theorem mt_popAt:MtM X "list.pop" rPopAt:=by
 intro pins s σ H x vs v us Q I rx rv h;obtain⟨l,xs,i,k,y,rfl,rfl,hH,h1,h2,hk,hy,q⟩:=h;cases rx;obtain⟨u,rfl,ru⟩:=rv.one;obtain⟨t,rfl⟩:=ru;obtain⟨z,its,n,r,hl,e⟩:=I.lstM hH;obtain⟨w,hw,rw'⟩:=r.get hy;refine call_meets F.slot_list_pop ⟨_,e,rfl⟩ F.entry_list_pop (F.args_list_pop_2 _ _)
  (MeetsSeq.list_pop_at l its.toArray n i t k w (fitsIndex_both h1 h2) (by rw[wF,<-hl];exact hk) (by rw[<-Array.getElem?_toList];exact hw) (by rw[wF];omega)) ⟨e,?_⟩
 refine⟨y,_,I.lset (its':=its.eraseIdx k) hH e ?_ (r.eraseIdx k) ?_,rw',q⟩
 ·show its.toArray.eraseIdxIfInBounds k=(its.eraseIdx k).toArray;rw[List.eraseIdxIfInBounds_toArray]
 ·have:=A4 xs k;omega
noncomputable def rCat:R2:=λx y H Q=>∃l b xs zs,x=.ref l/\y=.ref b/\H l=some (.lst xs)/\H b=some (.lst zs)/\xs.length+zs.length<=sizeLine/\∀p,H p=none->Q (.ref p) (upd H p (.lst (xs++zs)))
theorem op_cat:OpR X (binaryOp .Add) rCat:=by
 intro pins s σ H x y v u Q I rx ry h;obtain⟨l,b,xs,zs,rfl,rfl,hH,hB,hz,q⟩:=h;cases rx;cases ry;obtain⟨z,its,n,r,hl,e⟩:=I.lstM hH;obtain⟨z2,its2,n2,r2,hl2,e2⟩:=I.lstM hB;refine PySem.P.add_list e e2 ?_ (by rw[wF,wF];omega);have ea:its.toArray++its2.toArray=(its++its2).toArray:=by simp
 rw[ea];exact⟨.ref _,_,I.lnew (t':=s.toks) (r.append r2) (by rw[List.length_append];omega),rfl,q _ I.fresh⟩
noncomputable def rRep:R2:=λx y H Q=>∃l k xs,x=.ref l/\y=.int k/\H l=some (.lst xs)/\-(2 ^ 63)<=k/\k<2 ^ 63/\xs.length*k.toNat<=sizeLine/\
 ∀p,H p=none->Q (.ref p) (upd H p (.lst (List.replicate k.toNat xs).flatten))
theorem qBz{α:Type}(xs:List α)(k:Nat):(List.replicate k xs).flatten.length=k*xs.length:=by
 induction k with
 |zero=>simp
 |succ k ih=>rw[List.replicate_succ,List.flatten_cons,List.length_append,ih,Nat.succ_mul,vA]
theorem op_rep:OpR X (binaryOp .Mult) rRep:=by
 intro pins s σ H x y v u Q I rx ry h;obtain⟨l,k,xs,rfl,rfl,hH,h1,h2,hz,q⟩:=h;cases rx;obtain⟨t,rfl⟩:=ry;obtain⟨z,its,n,r,hl,e⟩:=I.lstM hH;have hlen:its.toArray.size*k.toNat<=sizeLine:=by rw[wF,<-hl];exact hz
 have hcap:¬ its.toArray.size*k.toNat>(2 ^ 63-1) / 8:=by
  have:(sizeLine:Nat)<=(2 ^ 63-1) / 8:=by decide
  omega
 have hfit:¬ (!Builtin.List.listFitsIndex k)=true:=by
  rw[fitsIndex_both h1 h2];exact wM
 have hlong:¬ Builtin.List.listTooLong (its.toArray.size*k.toNat)=true:=by
  rw[y8 hlen];exact wM
 have hnew:List.foldl (λx1 x2=>x1++x2) #[] (List.replicate (if its.toArray.isEmpty=true then 0 else k.toNat) its.toArray)=(List.replicate k.toNat its).flatten.toArray:=by
  have f0:∀m:Nat,List.foldl (λx1 x2=>x1++x2) #[] (List.replicate m its.toArray)=(List.replicate m its).flatten.toArray:=λm=>by
   have:=Jw its m [];rw[List.nil_append]at this;exact this
  rw[f0];cases its with
  |nil=>simp
  |cons a r'=>rw[if_neg (by simp)]
 refine wpAny_binaryOp_repeat_ref (T:="list") (U:="int") (by decide) ⟨_,e,rfl⟩ (λs'=>typeIs_int s' k t) noFill_list_mul F.fills_int_mul F.slot_int_rmul repeat_list F.slot_int_index.lookup
  (call_meets F.slot_int_rmul (typeIs_int s k t) F.entry_int_rmul (F.args_int_rmul_2 _ _) (int___rmul___int_list k t l its.toArray n)
   ⟨e,rfl,⟨_,e,rfl⟩,call_meets F.slot_list_mul ⟨_,e,rfl⟩ F.entry_list_mul (F.args_list_mul_2 _ _) (AutoListH.list___mul___list_int_3 l its.toArray n k t hfit hcap hlong) ⟨e,?_⟩⟩)
 rw[hnew];exact⟨.ref _,_,I.lnew (t':=s.toks) (r.rep k.toNat) (by rw[qBz,Nat.mul_comm];exact hz),rfl,q _ I.fresh⟩
end
end L2
namespace Att
open PySem PySem.W PySem.Calls PyProof.Rows
theorem Qm{P:Params}{h:Heap}:∀(ns:List Int) (vs:List Value),WellAll P h vs (ns.map WData.int)->IntsAre vs ns:=by
 intro ns
 induction ns with
 |nil=>
  intro vs w;rw[List.map_nil]at w;cases w;exact .nil
 |cons n ns ih=>
  intro vs w;rw[List.map_cons]at w;cases w with
  |cons a b=>
   cases a;exact .cons _ _ (ih _ b)
theorem W6{l:OpenLaw}{n:Nat}(hn:l.most=some n){P:Params}{h:Heap}{args:List WData}{vals:List Value}
  (hpre:l.row.toRowW.claim.pre args=true) (hwl:WellAll P h vals args):
  ∃a vs ns,vals=[Value.ref a]/\args=[WData.list (ns.map WData.int)]/\h.get? a=some { cls:=.type "list",data:=.seq vs.toArray }/\IntsAre vs ns/\ns.length<=n:=by
 have hsh:WShape.hasAll [] args [.list .int]=true:=(pre_splitW hpre).1;have hc:l.pre.holds [] { args:=args }=true:=(pre_splitW hpre).2;obtain⟨d,r,rfl,h1,h2⟩:=hasAllW_cons hsh;obtain rfl:=hasAllW_nil h2;obtain⟨xs,rfl,h3⟩:=hasW_list h1;obtain⟨ns,rfl⟩:=items_int h3;have hlen:ns.length<=n:=by
  unfold OpenLaw.pre at hc;have h4:(WTm.not (.lt (.lit (.int (n:Int))) (.len (.arg 0)))).holds [] { args:=[.list (ns.map .int)] }=true:=by
   have h4:=(holds_andW hc).1;rw[hn]at h4;exact h4
  have h5:=condW_of h4 (w_not (w_lt w_lit (w_len_list (w_arg rfl))));rw[wO]at h5;refine Nat.le_of_not_lt λq=>?_;have q':(n:Int)<((ns.length:Nat):Int):=by omega
  first
   | (rw[vd q']at h5;exact absurd h5 (by decide))
   | (simp at h5;omega)
 cases hwl with
 |cons w1 w2=>
  cases w2;cases w1 with
  |list ho hall=>exact⟨_,_,ns,rfl,rfl,ho,Qm ns _ hall,hlen⟩
theorem T5(l:OpenLaw)(args:List WData):l.row.toRowW.claim.post args (.bool true) args=true:=
 postW_of (r:=l.row.toRowW) (X:=(true==true))
  (show WShape.has [] (.bool true) .bool=true by first|rfl|decide|simp[WShape.has,WShape.arms,WShape.armsAll])
  (show (WTm.eq .res (.lit (.bool true))).value [] { args:=args,res:=some (.bool true),after:=args }=some (.bool (true==true)) from w_eq_bool (w_res rfl) w_lit) rfl
theorem attach_call{l:OpenLaw}{n:Nat}{q:Program}{loose:List Str}{XP:(Str->Option Value)->Heap->Prop}{YP:World->Heap->Prop}{d:DefRec}
  (hn:l.most=some n) (hdf:d.params.defaults=[])
  (call:∀(w:World) (s₀ s₁:Shared) (mg mb:Str->Option Value) (fa:Addr) (o:Obj) (pm cd doc:Value) (a:Addr) (vs:List Value) (ns:List Int),
   Ground q loose [] XP w s₀ mg mb s₁.heap->YP w s₁.heap ->
   s₁.heap.get? fa=some o->o.data=.func (docDef d.name d.params d.body d.scope pm cd doc)->s₁.heap.CodeRec cd d.name->mg d.name=some (.ref fa) ->
   s₁.heap.get? a=some { cls:=.type "list",data:=.seq vs.toArray }->IntsAre vs ns->ns.length<=n->s₁.gens=#[] ->
   codeAny (model l.prog w) callerA (.call (.ref fa) ⟨[.ref a],[]⟩) (λr s'=>r=.ok (.ret (.bool true))/\OldK s₁.heap s'.heap/\s'.os=s₁.os/\AllBare s'.gens) s₁):
  WalkO q loose XP YP l.row.toRowW d [] (λf vs=>PySem.call f vs):=by
 intro w s₀ s₁ mg mb G Y fa o pm cd doc dV kV ho hd hcd hD hmg hg args vals as hpre hlay hrd hwl hlo;obtain rfl:dV=.none:=Dflts.none hD hdf;obtain rfl:kV=.none:=Dflts.noKw hD;obtain⟨a,vs,ns,rfl,rfl,hobj,hints,hlen⟩:=W6 hn hpre hwl;refine enter_call (codeAny_mono (call w s₀ s₁ mg mb fa o pm cd doc a vs ns G Y ho (fd_plain hd) hcd hmg hobj hints hlen hg) λr s' hq=>?_);obtain⟨rfl,h2,h3,h4⟩:=hq;exact⟨.inl ⟨.bool true,.bool true,[],rfl,λ_=>rfl,.bool true,T5 l _,λ_=>⟨List.Pairwise.nil,λ_ hm=>(nomatch hm)⟩⟩,h2,h3,h4⟩
end Att
namespace L2
open PySem PySem.Spec PyProof.Rows
theorem jl:∀{vs:List Value}{ns:List Int},IntsAre vs ns->Vals (ns.map V.int) vs
 |_,_,.nil=>.nil
 |_,_,.cons n t h=>.cons ⟨t,rfl⟩ (jl h)
def Only(H:Hp):Prop:=∀b,H b=none\/∃o xs,H b=some (.frz o (.lst xs))
theorem y7{P:Program}{w:World}{K:PySem.W.Frag}{mg mb:Str->Option Value}{CX:CXT}{k:Nat}{fa a:Addr}{fd:FuncData}{x:Str}{sp:Sp}{s₁:Shared}{vs:List Value}{ns:List Int}
  (KX:K.In s₁.heap) (hns:s₁.heap.Ns mainGlobals mg) (hb:s₁.heap.Ns builtinsNs mb) (hbb:∀x:Str,x≠"__name__" -> mb x=bootBuiltins x) (hlim:s₁.heap.NoLimit) (hg:s₁.gens=#[])
  (ha:s₁.heap.get? a=some { cls:=.type "list",data:=.seq vs.toArray }) (hi:IntsAre vs ns) (hl:ns.length<=sizeLine) (hr:Room k callerA)
  (F:∀base:Heap,K.In base->base.Ns mainGlobals mg->FnOk P w K mg base CX k fa fd [x] sp) (hbind:∀(s:Shared) (u:Value),BindsTo s fd ⟨[u],[]⟩ [(x,u)])
  (hsp:∀H:Hp,Only H->SqL K H a (ns.map V.int)->sp [.ref a] H (λv _=>v=.bl true) λ_ _ _=>False)
  (hCX:∀H e s',CX [] H s₁ (λ_ _ _=>False) e s'->False):
  codeAny (model P w) callerA (.call (.ref fa) ⟨[.ref a],[]⟩) (λr s'=>r=.ok (.ret (.bool true))/\OldK s₁.heap s'.heap/\s'.os=s₁.os/\AllBare s'.gens) s₁:=by
 have rv:=jl hi;have lenV:=hi.length;have core:∀H:Hp,Only H->SqL K H a (ns.map V.int)->HOk P w H s₁.heap->(∀b,H b≠none->b=a)->(H a≠none->K.lookup a=none) ->
   codeAny (model P w) callerA (.call (.ref fa) ⟨[.ref a],[]⟩) (λr s'=>r=.ok (.ret (.bool true))/\OldK s₁.heap s'.heap/\s'.os=s₁.os/\AllBare s'.gens) s₁:=by
  intro H hO hS hok hA hK;have base_of:∀{b:Addr}{o:Obj},s₁.heap.get? b=some o->H b=none->(qAG s₁.heap H).get? b=some o:=λe n=>qAP e n;have noA:∀{b:Addr}{o:Obj}{es:Array DictEntry}{ep:Nat},s₁.heap.get? b=some o->o.data=.dict es ep->H b=none:=λ{b o es ep} e d=>by
   cases q:H b with
   |none=>rfl
   |some u=>
    have e':b=a:=hA b (by rw[q];simp);subst e';rw[ha]at e;cases e;have d':Data.seq vs.toArray _=Data.dict es ep:=d;cases d'
  have nsK:∀{b:Addr}{m:Str->Option Value},s₁.heap.Ns b m->(qAG s₁.heap H).Ns b m:=λ{b m} ⟨o,es,ep,e,d,r⟩=>⟨o,es,ep,base_of e (noA e d),d,r⟩
  have hKb:K.In (qAG s₁.heap H):=λb o e=>base_of (KX b o e) (by
   cases q:H b with
   |none=>rfl
   |some u=>
    have e':b=a:=hA b (by rw[q];simp);subst e';rw[hK (by rw[q];simp)]at e;cases e)
  have hM:Mod K mg (qAG s₁.heap H):=⟨hKb,nsK hns,⟨mb,nsK hb,hbb⟩,let ⟨mc,h1,h2⟩:=hlim;⟨mc,nsK h1,h2⟩⟩
  have e0:Env0 P w K mg (qAG s₁.heap H) callerA [] s₁ H:=⟨rfl,hM,λb o e=>qC4 e,Nat.le_of_eq (j3 _ _),trivial,λb hb=>absurd (show b∈([]:List Addr) from hb) (by simp),hok,.of_eq hg⟩
  refine codeAny_mono ((F _ hKb (nsK hns)).run callerA [] s₁ H ⟨[.ref a],[]⟩ [.ref a] [.ref a] _ _ hr e0 (hbind s₁ (.ref a)) (.cons rfl .nil) (hsp H hO hS)) λr s' h=>?_;cases r with
  |error e=>exact(hCX H e s' h).elim
  |ok fl=>
   cases fl with
   |next=>exact False.elim h
   |brk=>exact False.elim h
   |cont=>exact False.elim h
   |ret u=>
    obtain⟨v,H',os,bare,un,hok',r',q⟩:=h;have q':v=.bl true:=q;subst q';obtain rfl:u=Value.bool true:=r';refine⟨rfl,OldK.of_keep λb o e=>?_,os,bare⟩;cases q:H b with
    |none=>exact un.keep b o e q (by intro z;exact absurd (show b∈([]:List Addr) from z) (by simp)) (by simp)
    |some u=>
     rcases hO b with z|⟨ob,xs,z⟩
     ·rw[q]at z;cases z
     ·have z2:=un.frzs b ob _ z;obtain⟨e1,_⟩:=hok b _ z;obtain⟨e2,_⟩:=hok' b _ z2;rw[e]at e1;cases e1;exact e2
 cases hk:K.lookup a with
 |some o=>
  have e:=KX a o hk;rw[ha]at e;cases e;refine core (λ_=>none) (λ_=>.inl rfl) (.inr ⟨_,vs.toArray,_,hk,rfl,rfl,rfl,by rw[wF,lenV];exact hl,by simpa using rv⟩) (λb u z=>by have z':(none:Option HO)=some u:=z;cases z') (λb z=>absurd rfl z) λz=>absurd rfl z
 |none=>
  refine core (λb=>if b=a then some (.frz { cls:=.type "list",data:=.seq vs.toArray } (.lst (ns.map V.int))) else none) (λb=>?_) (.inl (.inr ⟨{ cls:=.type "list",data:=.seq vs.toArray },if_pos rfl⟩)) (λb u z=>?_) (λb z=>?_) λ_=>hk
  ·by_cases hb:b=a
   ·exact .inr ⟨_,_,if_pos hb⟩
   ·exact .inl (if_neg hb)
  ·by_cases hb:b=a
   ·have z':=(if_pos hb).symm.trans z;cases z';subst hb;exact⟨ha,by rw[wO];exact hl,vs,_,rv,ha⟩
   ·have z':=(if_neg hb).symm.trans z;cases z'
  ·by_cases hb:b=a
   ·exact hb
   ·exact absurd (if_neg hb) z
theorem walk_of{l:PySem.W.OpenLaw}{n k:Nat}{q:Program}{loose:List Str}{XP:(Str->Option Value)->Heap->Prop}{YP:World->Heap->Prop}{d:DefRec}{K:Params->PySem.W.Frag}{CX:World->CXT}{sp:World->Sp}{x:Str}
  (hn:l.most=some n) (hn2:n<=sizeLine) (hdf:d.params.defaults=[]) (hr:Room k callerA)
  (hY:∀(w:World) (h:Heap),YP w h->(K w.params).In h)
  (F:∀(w:World) (mg:Str->Option Value) (fa:Addr) (h:Heap),(K w.params).In h->h.Ns mainGlobals mg->mg d.name=some (.ref fa) ->
   ∃fd:FuncData,(∀(s:Shared) (u:Value),BindsTo s fd ⟨[u],[]⟩ [(x,u)])/\
    ∀base:Heap,(K w.params).In base->base.Ns mainGlobals mg->FnOk l.prog w (K w.params) mg base (CX w) k fa fd [x] (sp w))
  (hsp:∀(w:World) (H:Hp) (a:Addr) (ns:List Int),ns.length<=n->Only H->SqL (K w.params) H a (ns.map V.int)->sp w [.ref a] H (λv _=>v=.bl true) λ_ _ _=>False)
  (hCX:∀(w:World) (H:Hp) (s:Shared) (e:Value) (s':Shared),CX w [] H s (λ_ _ _=>False) e s'->False):
  PySem.W.WalkO q loose XP YP l.row.toRowW d [] (λf vs=>PySem.call f vs):=by
 refine Att.attach_call hn hdf λw s₀ s₁ mg mb fa o pm cd doc a vs ns G Y ho hd hcd hmg hobj hints hlen hg=>?_;have KX:=hY w _ Y;obtain⟨fd,hb,hF⟩:=F w mg fa _ KX G.T.g hmg;exact y7 KX G.T.g G.T.b G.T.builtins G.T.nolimit hg hobj hints (Nat.le_trans hlen hn2) hr hF hb (λH hO hS=>hsp w H a ns hlen hO hS) λH e s'=>hCX w H s₁ e s'
noncomputable def zQ(s:Stmt):Arguments:=match s with
 | .FunctionDef _ a _ _ _ _ _ _ _ _=>a
 |_=>{ posonlyargs:=[],args:=[],vararg:=none,kwonlyargs:=[],kw_defaults:=[],kwarg:=none,defaults:=[] }
noncomputable def defBody(s:Stmt):List Stmt:=match s with
 | .FunctionDef _ _ b _ _ _ _ _ _ _=>b
 |_=>[]
noncomputable def defScope(s:Stmt):Scope:=match s with
 | .FunctionDef _ _ _ _ _ _ sc _ _ _=>sc
 |_=>{ kind:=.function,names:=[],isGenerator:=false,isCoroutine:=false }
noncomputable abbrev CX0:CXT:=λ_ _ _ _ _ _=>False
noncomputable abbrev E0:XK:=λ_ _ _=>False
theorem pass0{X:Cx}:G1 CX0 X E0:=λ_ _ _ _ _ _ _ h=>h.elim
structure Fun(K:PySem.W.Frag)(x qual:Str)(st:Stmt)(f:Addr)(fd:FuncData):Prop where
 ex:∃(oc:Value) (od:Option Addr) (kV doc pm:Value) (an:Option Addr) (cdv ct:Value) (osl:Array (Option Value)),
  fd=PySem.W.fnOf x qual (zQ st) (defBody st) (defScope st) .none kV doc pm an cdv ct/\K.lookup f=some ⟨oc,od,.func fd,osl⟩/\PySem.W.codeIn K cdv qual=true
 kp:PySem.W.keepIn K (.ref f)=true
section
variable{P:Program}{w:World}{K:PySem.W.Frag}{mg:Str->Option Value}{base:Heap}
theorem Fun.ok{x qual:Str}{st:Stmt}{f:Addr}{fd:FuncData}{N ps:List Str}{k:Nat}{sp:Sp}(F:Fun K x qual st f fd)(S:zL N ps (defScope st))(len:∀vs H Q E,sp vs H Q E->vs.length=ps.length)
  (hbody:∀(cdv:Value) (A:Around) (outer:List Env) (s:Shared) (H:Hp) (vs:List V) (Q:VK) (E:XK),Room k (A.deeper (envOfC qual (defScope st) s.heap.objs.size f cdv))->sp vs H Q E ->
   ∃t,PSs (cxOf CX0 P w K mg base N qual (defScope st) f cdv A outer s H E).nox (defBody st) t/\t { nx:=λ_ H'=>Q .non H',rt:=Q } (start N vs) H):FnOk P w K mg base CX0 (k+1) f fd ps sp:=by
 obtain⟨oc,od,kV,doc,pm,an,cdv,ct,osl,rfl,lk,hcd⟩:=F.ex;refine qGL lk hcd S len λA outer s H vs Q E hr hsp=>?_;obtain⟨t,h,q⟩:=hbody cdv A outer s H vs Q E hr hsp;exact⟨t,h.nox,q⟩
theorem Fun.binds{x qual:Str}{st:Stmt}{f:Addr}{fd:FuncData}{ps:List Str}(F:Fun K x qual st f fd)
  (h:∀(kV doc pm:Value) (an:Option Addr) (cdv ct:Value) (us:List Value),us.length=ps.length->bindArgs (PySem.W.fnOf x qual (zQ st) (defBody st) (defScope st) .none kV doc pm an cdv ct) ⟨us,[]⟩=pure (ps.zip us)):Binds K fd ps []:=by
 obtain⟨oc,od,kV,doc,pm,an,cdv,ct,osl,rfl,lk,hcd⟩:=F.ex;exact .all (h kV doc pm an cdv ct)
theorem qBd{x qual:Str}{st:Stmt}{f:Addr}{oc:Value}{od an:Option Addr}{osl:Array (Option Value)}{kV doc pm cdv ct:Value}(l:K.lookup f=some ⟨oc,od,.func (PySem.W.fnOf x qual (zQ st) (defBody st) (defScope st) .none kV doc pm an cdv ct),osl⟩)
  (c:PySem.W.codeIn K cdv qual=true) (k:PySem.W.keepIn K (.ref f)=true):Fun K x qual st f (PySem.W.fnOf x qual (zQ st) (defBody st) (defScope st) .none kV doc pm an cdv ct):=⟨⟨oc,od,kV,doc,pm,an,cdv,ct,osl,rfl,l,c⟩,k⟩
end
def Zx(H H':Hp):Prop:=∀b o,H b=some o->H' b=some o
section
variable{κ:Type}[DecidableEq κ]
noncomputable def valV(kvs:List (κ×V))(k:κ):Option V:=(kvs.find? λkv=>decide (kv.1=k)).map (·.2)
noncomputable def putK(kvs:List (κ×V))(k:κ)(v:V):List (κ×V):=
 if (kvs.any λkv=>decide (kv.1=k))=true then kvs.map (λkv=>if kv.1=k then (kv.1,v) else kv) else kvs++[(k,v)]
noncomputable def qEj(kvs:List (κ×V))(k:κ):List (κ×V):=kvs.filter λkv=>decide (kv.1≠k)
theorem valV_pos{p:κ×V}{r:List (κ×V)}{k:κ}(e:p.1=k):valV (p::r) k=some p.2:=by simp[valV,List.find?_cons,e]
theorem valV_neg{p:κ×V}{r:List (κ×V)}{k:κ}(e:¬ p.1=k):valV (p::r) k=valV r k:=by simp[valV,List.find?_cons,e]
theorem valV_any(k:κ):∀kvs:List (κ×V),(kvs.any λkv=>decide (kv.1=k))=(valV kvs k).isSome
 | []=>rfl
 |p::r=>by
  rw[List.any_cons];by_cases e:p.1=k
  ·simp only[valV_pos e,vd e,Bool.true_or,Option.isSome_some]
  ·rw[valV_neg e,vc e,Bool.false_or];exact valV_any k r
theorem jV(kvs:List (κ×V))(k:κ)(v:V):(putK kvs k v).length<=kvs.length+1:=by
 unfold putK;split
 ·rw[wO];omega
 ·rw[List.length_append,List.length_cons,List.length_nil];omega
theorem RelO.isSome_eq{o:Option V}{u:Option Value}(r:RelO o u):o.isSome=u.isSome:=by
 cases o with
 |none=>cases u with
  |none=>rfl
  |some _=>exact(show False from r).elim
 |some _=>cases u with
  |none=>exact(show False from r).elim
  |some _=>rfl
theorem RelO.getD{o:Option V}{u:Option Value}{d:V}{d':Value}(r:RelO o u)(rd:RelV d d'):RelV (o.getD d) (u.getD d'):=by
 cases o with
 |none=>cases u with
  |none=>exact rd
  |some _=>exact(show False from r).elim
 |some _=>cases u with
  |none=>exact(show False from r).elim
  |some _=>exact r
theorem KV.val{kvs:List (κ×V)}{vs:List (κ×Value)}(r:KV kvs vs)(k:κ):RelO (valV kvs k) (valueAt vs k):=by
 unfold KV at r
 induction r with
 |nil=>exact True.intro
 | @cons p q ps qs h t ih=>
  obtain⟨h1,h2⟩:=h;by_cases e:p.1=k
  ·have e':q.1=k:=h1.symm.trans e;have b:valueAt (q::qs) k=some q.2:=by simp[valueAt,List.find?_cons,e']
   rw[valV_pos e,b];exact h2
  ·have e':¬ q.1=k:=λz=>e (h1.trans z);have b:valueAt (q::qs) k=valueAt qs k:=by simp[valueAt,List.find?_cons,e']
   rw[valV_neg e,b];exact ih
theorem KV.any{kvs:List (κ×V)}{vs:List (κ×Value)}(r:KV kvs vs)(k:κ):(kvs.any λkv=>decide (kv.1=k))=vs.any λkv=>decide (kv.1=k):=by
 unfold KV at r
 induction r with
 |nil=>rfl
 |cons h t ih=>rw[List.any_cons,List.any_cons,ih,h.1]
theorem KV.repl{kvs:List (κ×V)}{vs:List (κ×Value)}(r:KV kvs vs)(k:κ){y:V}{u:Value}(ry:RelV y u):
  KV (kvs.map λkv=>if kv.1=k then (kv.1,y) else kv) (vs.map λkv=>if kv.1=k then (kv.1,u) else kv):=by
 unfold KV at r ⊢
 induction r with
 |nil=>exact .nil
 | @cons p q ps qs h t ih=>
  rw[List.map_cons,List.map_cons];refine .cons ?_ ih;obtain⟨h1,h2⟩:=h;by_cases e:p.1=k
  ·rw[if_pos e,if_pos (h1.symm.trans e)];exact⟨h1,ry⟩
  ·rw[if_neg e,if_neg (λz=>e (h1.trans z))];exact⟨h1,h2⟩
theorem KV.put{kvs:List (κ×V)}{vs:List (κ×Value)}(r:KV kvs vs)(k:κ){y:V}{u:Value}(ry:RelV y u):KV (putK kvs k y) (stored vs k u):=by
 unfold putK stored;rw[r.any k];by_cases e:(vs.any λkv=>decide (kv.1=k))=true
 ·rw[if_pos e,if_pos e];exact r.repl k ry
 ·rw[if_neg e,if_neg e];exact Paired.snoc r ⟨rfl,ry⟩
theorem KV.drop{kvs:List (κ×V)}{vs:List (κ×Value)}(r:KV kvs vs)(k:κ):KV (qEj kvs k) (without vs k):=by
 unfold KV at r ⊢;unfold qEj without
 induction r with
 |nil=>exact .nil
 | @cons p q ps qs h t ih=>
  obtain⟨h1,h2⟩:=h;rw[List.filter_cons,List.filter_cons];by_cases e:p.1=k
  ·have a:¬ decide (p.1≠k)=true:=by simp[e]
   have b:¬ decide (q.1≠k)=true:=by simp[h1.symm.trans e]
   rw[if_neg a,if_neg b];exact ih
  ·have e':¬ q.1=k:=λz=>e (h1.trans z);have a:decide (p.1≠k)=true:=by simp[e]
   have b:decide (q.1≠k)=true:=by simp[e']
   rw[if_pos a,if_pos b];exact .cons ⟨h1,h2⟩ ih
theorem KV.keys{kvs:List (κ×V)}{vs:List (κ×Value)}(r:KV kvs vs):kvs.map (·.1)=vs.map (·.1):=by
 unfold KV at r
 induction r with
 |nil=>rfl
 |cons h t ih=>rw[List.map_cons,List.map_cons,ih,h.1]
theorem KV.length{kvs:List (κ×V)}{vs:List (κ×Value)}(r:KV kvs vs):kvs.length=vs.length:=Paired.length r
end
theorem kV_is{P:Program}{w:World}{k:Key}{u:Value}(r:RelV (kV k) u):(ql P w).is k u=true:=by
 cases k with
 |inl i=>obtain⟨t,e⟩:=(show ∃t,u=Value.int i t from r);subst e;exact B4 P w i t
 |inr x=>obtain⟨t,e⟩:=(show ∃t,u=Value.str x t from r);subst e;exact E8 P w x t
theorem Jz{P:Program}{w:World}:∀{ks:List Key}{us:List Value},Vals (ks.map kV) us->ItemsAre (ql P w) ks us
 | [],_,r=>by rw[List.map_nil]at r;cases r;exact .nil
 |k::ks,_,r=>by
  rw[List.map_cons]at r;cases r with
  |cons h t=>exact .cons (kV_is h) (Jz t)
abbrev KT(H:Hp):List (List Key×V)->List (List Key×Addr×Value)->Prop:=Paired λp q=>p.1=q.1/\H q.2.1=some (.tup (p.1.map kV))/\RelV p.2 q.2.2
theorem KT.val{H:Hp}{kvs:List (List Key×V)}{xs:List (List Key×Addr×Value)}(r:KT H kvs xs)(k:List Key):RelO (valV kvs k) ((atKey xs k).map (·.2)):=by
 induction r with
 |nil=>exact True.intro
 | @cons p q ps qs h t ih=>
  obtain⟨h1,_,h2⟩:=h;by_cases e:p.1=k
  ·have e':q.1=k:=h1.symm.trans e;have b:atKey (q::qs) k=some q.2:=by simp[atKey,List.find?_cons,e']
   rw[valV_pos e,b];exact h2
  ·have e':¬ q.1=k:=λz=>e (h1.trans z);have b:atKey (q::qs) k=atKey qs k:=by simp[atKey,List.find?_cons,e']
   rw[valV_neg e,b];exact ih
theorem KT.repl{H:Hp}{kvs:List (List Key×V)}{xs:List (List Key×Addr×Value)}(r:KT H kvs xs)(k:List Key){y:V}{u:Value}(ry:RelV y u):
  KT H (kvs.map λkv=>if kv.1=k then (kv.1,y) else kv) (xs.map (putAt k u)):=by
 induction r with
 |nil=>exact .nil
 | @cons p q ps qs h t ih=>
  rw[List.map_cons,List.map_cons];refine .cons ?_ ih;obtain⟨h1,h2,h3⟩:=h;unfold putAt;by_cases e:p.1=k
  ·rw[if_pos e,if_pos (h1.symm.trans e)];exact⟨h1,h2,ry⟩
  ·rw[if_neg e,if_neg (λz=>e (h1.trans z))];exact⟨h1,h2,h3⟩
theorem KT.put{H:Hp}{kvs:List (List Key×V)}{xs:List (List Key×Addr×Value)}(r:KT H kvs xs)(k:List Key){b:Addr}{y:V}{u:Value}(hb:H b=some (.tup (k.map kV)))(ry:RelV y u):
  KT H (putK kvs k y) (storedH xs k b u):=by
 have e:(kvs.any λkv=>decide (kv.1=k))=(atKey xs k).isSome:=by
  rw[valV_any,(r.val k).isSome_eq,Option.isSome_map]
 unfold putK storedH;rw[e];by_cases q:(atKey xs k).isSome=true
 ·rw[if_pos q,if_pos q];exact r.repl k ry
 ·rw[if_neg q,if_neg q];exact Paired.snoc r ⟨rfl,hb,ry⟩
theorem KT.keeps{H H':Hp}{kvs:List (List Key×V)}{xs:List (List Key×Addr×Value)}(r:KT H kvs xs)(ht:∀b ys,H b=some (.tup ys)->H' b=some (.tup ys)):KT H' kvs xs:=
 Paired.mapP r λ_ _ z=>⟨z.1,ht _ _ z.2.1,z.2.2⟩
section
variable{P:Program}{w:World}{H:Hp}{h:Heap}{a:Addr}
theorem qDe{u:HO}(ok:HOk P w H h)(e:Rd H a u):ObjOk P w H h a u:=e.ok ok
theorem Y9{kvs:List (Key×V)}(ok:HOk P w H h)(e:Rd H a (.dK kvs)):kvs.length<=sizeLine/\(a==sysModules)=false/\∃vs,KV kvs vs/\h.DictOf (ql P w) a vs:=
 show ObjOk P w H h a (.dK kvs) from qDe ok e
theorem qFr{kvs:List (Key×V)}(ok:HOk P w H h)(e:H a=some (.dK kvs)):kvs.length<=sizeLine/\(a==sysModules)=false/\∃vs,KV kvs vs/\h.DictOf (ql P w) a vs:=Y9 ok (.inl e)
theorem Jm{ks:List Key}(ok:HOk P w H h)(e:H a=some (.tup (ks.map kV))):(tupleKind (ql P w)).is h ks a:=by
 obtain⟨_,its,r,o,h1,h2,n,h3⟩:=(show ObjOk P w H h a (.tup (ks.map kV)) from ok a _ e)
 exact⟨o,its.toArray,n,h1,h2,h3,by simpa using Jz r⟩
theorem T0{kvs:List (List Key×V)}(ok:HOk P w H h)(e:Rd H a (.dT kvs)):kvs.length<=sizeLine/\(a==sysModules)=false/\
  ∃xs,KT H kvs xs/\h.DictOfH (tupleKind (ql P w)) a xs:=by
 obtain⟨z,y,xs,r,o,es,ep,h1,h2,h3,h4,h5⟩:=(show ObjOk P w H h a (.dT kvs) from qDe ok e)
 refine⟨z,y,xs,r,o,es,ep,h1,h2,h3,h4,λx hx=>?_,h5⟩;have all:∀{l:List (List Key×V)}{m:List (List Key×Addr×Value)},KT H l m->∀x∈m,(tupleKind (ql P w)).is h x.1 x.2.1:=by
  intro l m q
  induction q with
  |nil=>intro x hx;exact nomatch hx
  | @cons p q ps qs hq t ih=>
   intro x hx;rcases List.mem_cons.mp hx with e|hx
   ·subst e;exact Jm ok (by rw[<-hq.1];exact hq.2.1)
   ·exact ih x hx
 exact all r x hx
theorem qFj{kvs:List (List Key×V)}(ok:HOk P w H h)(e:H a=some (.dT kvs)):kvs.length<=sizeLine/\(a==sysModules)=false/\
  ∃xs,KT H kvs xs/\h.DictOfH (tupleKind (ql P w)) a xs:=T0 ok (.inl e)
end
def DGet(H:Hp)(a:Addr)(y:V)(r:Option V):Prop:=
 (∃kvs k,Rd H a (.dK kvs)/\y=kV k/\r=valV kvs k)\/∃kvs k b,Rd H a (.dT kvs)/\y=.ref b/\H b=some (.tup (k.map kV))/\r=valV kvs k
def DPut(H:Hp)(a:Addr)(y v:V)(H':Hp):Prop:=
 (∃kvs k,H a=some (.dK kvs)/\y=kV k/\kvs.length<sizeLine/\H'=upd H a (.dK (putK kvs k v)))\/
 ∃kvs k b,H a=some (.dT kvs)/\y=.ref b/\H b=some (.tup (k.map kV))/\kvs.length<sizeLine/\H'=upd H a (.dT (putK kvs k v))
theorem DGet.k{H:Hp}{a:Addr}{kvs:List (Key×V)}{k:Key}(e:H a=some (.dK kvs)):DGet H a (kV k) (valV kvs k):=.inl ⟨kvs,k,.inl e,rfl,rfl⟩
theorem DGet.t{H:Hp}{a b:Addr}{kvs:List (List Key×V)}{k:List Key}(e:H a=some (.dT kvs))(eb:H b=some (.tup (k.map kV))):DGet H a (.ref b) (valV kvs k):=.inr ⟨kvs,k,b,.inl e,rfl,eb,rfl⟩
theorem DPut.k{H:Hp}{a:Addr}{kvs:List (Key×V)}{k:Key}{v:V}(e:H a=some (.dK kvs))(hl:kvs.length<sizeLine):DPut H a (kV k) v (upd H a (.dK (putK kvs k v))):=.inl ⟨kvs,k,e,rfl,hl,rfl⟩
theorem DPut.t{H:Hp}{a b:Addr}{kvs:List (List Key×V)}{k:List Key}{v:V}(e:H a=some (.dT kvs))(eb:H b=some (.tup (k.map kV)))(hl:kvs.length<sizeLine):
  DPut H a (.ref b) v (upd H a (.dT (putK kvs k v))):=.inr ⟨kvs,k,b,e,rfl,eb,hl,rfl⟩
section
variable{X:Cx}{pins:List (Addr×Obj)}{σ:St}{H:Hp}{s:Shared}{a:Addr}{y v:V}{u r:Value}{o:Option V}{A:Around}{E:Value->Shared->Prop}
theorem Inv.big(I:Inv X pins σ H s):sysModules<s.heap.objs.size:=by
 have h:mainGlobals<s.heap.objs.size:=(I.mod.glob.keeps I.bk).lt;exact wo (by decide) h
theorem d_getItem{Q:Value->Shared->Prop}(hu:A.units+1<cLine)(I:Inv X pins σ H s)(g:DGet H a y (some v))(ry:RelV y u)(h:∀w' s',Inv X pins σ H s'->RelV v w'->Q w' s'):
  wpAny (model X.prog X.w) A (getItem (.ref a) u) Q E s:=by
 rcases g with⟨kvs,k,e,ey,l⟩|⟨kvs,k,b,e,ey,eb,l⟩
 ·subst ey;obtain⟨z,hd,vs,rel,dd⟩:=Y9 I.hok e;obtain⟨w',hw,rw'⟩:=RelO.some_of (v:=v) (o:=valueAt vs k) (by rw[l];exact rel.val k);exact wpAny_getItem_of (kV_is ry) dd.mapOf hw (h w' _ (I.tok _) rw')
 ·subst ey;cases (show u=Value.ref b from ry);obtain⟨z,hd,xs,rel,dd⟩:=T0 I.hok e;obtain⟨w',hw,rw'⟩:=RelO.some_of (v:=v) (o:=(atKey xs k).map (·.2)) (by rw[l];exact rel.val k);obtain⟨p,hp,hp2⟩:=Option.map_eq_some_iff.mp hw;refine wpAny_getItem_heap (tupleKind_room_in1 hu) (Jm I.hok eb) dd hp ?_;rw[hp2];exact h w' _ (I.tok _) rw'
theorem d_in{Q:Value->Shared->Prop}(hu:A.units+1<cLine)(I:Inv X pins σ H s)(g:DGet H a y o)(ry:RelV y u)(h:∀s',Inv X pins σ H s'->Q (.bool o.isSome) s'):
  wpAny (model X.prog X.w) A (compareOp .In u (.ref a)) Q E s:=by
 rcases g with⟨kvs,k,e,ey,l⟩|⟨kvs,k,b,e,ey,eb,l⟩
 ·subst ey;obtain⟨z,hd,vs,rel,dd⟩:=Y9 I.hok e;refine wpAny_in_of (kV_is ry) hd dd.mapOf ?_;rw[<-(rel.val k).isSome_eq,<-l];exact h _ (I.tok _)
 ·subst ey;cases (show u=Value.ref b from ry);obtain⟨z,hd,xs,rel,dd⟩:=T0 I.hok e;refine wpAny_in_heap (tupleKind_room_in1 hu) (Jm I.hok eb) hd dd ?_;have q:=(rel.val k).isSome_eq;rw[Option.isSome_map]at q;rw[<-q,<-l];exact h _ (I.tok _)
theorem d_notIn{Q:Value->Shared->Prop}(hu:A.units+1<cLine)(I:Inv X pins σ H s)(g:DGet H a y o)(ry:RelV y u)(h:∀s',Inv X pins σ H s'->Q (.bool (!o.isSome)) s'):
  wpAny (model X.prog X.w) A (compareOp .NotIn u (.ref a)) Q E s:=by
 rcases g with⟨kvs,k,e,ey,l⟩|⟨kvs,k,b,e,ey,eb,l⟩
 ·subst ey;obtain⟨z,hd,vs,rel,dd⟩:=Y9 I.hok e;refine wpAny_notIn_of (kV_is ry) hd dd.mapOf ?_;rw[<-(rel.val k).isSome_eq,<-l];exact h _ (I.tok _)
 ·subst ey;cases (show u=Value.ref b from ry);obtain⟨z,hd,xs,rel,dd⟩:=T0 I.hok e;refine wpAny_notIn_heap (tupleKind_room_in1 hu) (Jm I.hok eb) hd dd ?_;have q:=(rel.val k).isSome_eq;rw[Option.isSome_map]at q;rw[<-q,<-l];exact h _ (I.tok _)
theorem U2{h':Heap}{t':Nat}{ob:HO}(I:Inv X pins σ H s)(mu:Mut (H a))(hs:Heap.SameBut a s.heap h')(he:∃q,h'.get? a=some q)(new:ObjOk X.prog X.w (upd H a ob) h' a ob):
  Inv X pins σ (upd H a ob) { s with heap:=h',toks:=t' }:=
 I.write (x:=a) (e:=a) mu (.inl rfl) (λb q hb z=>(hs.2 b hb).trans z) he new
theorem dk_new{P:Program}{w:World}{H':Hp}{h':Heap}{kvs:List (Key×V)}{vs:List (Key×Value)}(z:kvs.length<=sizeLine)(hd:(a==sysModules)=false)(rel:KV kvs vs)(dd:h'.DictOf (ql P w) a vs):
  ObjOk P w H' h' a (.dK kvs):=⟨z,hd,vs,rel,dd⟩
theorem d_setItem{H':Hp}{Q:Unit->Shared->Prop}(hu:A.units+1<cLine)(I:Inv X pins σ H s)(g:DPut H a y v H')(ry:RelV y u)(rv:RelV v r)(h:∀s',Inv X pins σ H' s'->Q () s'):
  wpAny (model X.prog X.w) A (setItem (.ref a) u r) Q E s:=by
 rcases g with⟨kvs,k,e,ey,l,eH⟩|⟨kvs,k,b,e,ey,eb,l,eH⟩
 ·subst ey eH;obtain⟨z,hd,vs,rel,dd⟩:=qFr I.hok e;have hz:vs.length<=sizeLine:=by rw[<-rel.length];exact z
  have hl:(putK kvs k v).length<=sizeLine:=by have:=jV kvs k v;omega
  refine wpAny_setItem_pairs (hsz:=hz) (kV_is ry) dd λh' dd' hs=>h _ ?_;have he:∃q,h'.get? a=some q:=let ⟨q,_,_,hq,_⟩:=dd';⟨q,hq⟩
  exact U2 I (by rw[e];exact True.intro) hs he (dk_new hl hd (rel.put k rv) dd')
 ·subst ey eH;cases (show u=Value.ref b from ry);obtain⟨z,hd,xs,rel,dd⟩:=qFj I.hok e;have hz:xs.length<=sizeLine:=by rw[<-Paired.length rel];exact z
  have hl:(putK kvs k v).length<=sizeLine:=by have:=jV kvs k v;omega
  refine wpAny_setItem_heap (hsz:=hz) (tupleKind_room_in1 hu) (Jm I.hok eb) dd λh' dd' hs=>h _ ?_;obtain⟨q,es,ep,hq,h2,h3,h4,_,h5⟩:=dd';refine U2 I (by rw[e];exact True.intro) hs ⟨q,hq⟩ ⟨hl,hd,_,(rel.put k eb rv).keeps λc ys ec=>?_,q,es,ep,hq,h2,h3,h4,h5⟩;rw[qF (qGM ec e (λz=>nomatch z))];exact ec
end
theorem dict_typeIs{X:Cx}{pins:List (Addr×Obj)}{σ:St}{H:Hp}{s:Shared}{a:Addr}{y:V}{o:Option V}(I:Inv X pins σ H s)(g:DGet H a y o):s.TypeIs (.ref a) "dict":=by
 rcases g with⟨kvs,k,e,_,_⟩|⟨kvs,k,b,e,_,_,_⟩
 ·obtain⟨_,_,vs,_,dd⟩:=Y9 I.hok e;exact dd.typeIs
 ·obtain⟨_,_,xs,_,dd⟩:=T0 I.hok e;exact dd.typeIs
noncomputable def QO(kvs more:List (Key×V)):List (Key×V):=more.foldl (λacc kv=>putK acc kv.1 kv.2) kvs
theorem KV.merge:∀{more:List (Key×V)}{rs:List (Key×Value)}{kvs:List (Key×V)}{vs:List (Key×Value)},KV more rs->KV kvs vs->KV (QO kvs more) (merged vs rs):=by
 intro more rs kvs vs r;unfold KV at r
 induction r generalizing kvs vs with
 |nil=>intro q;exact q
 | @cons p q ps qs h t ih=>
  intro r0;have e:KV (putK kvs p.1 p.2) (stored vs q.1 q.2):=by
   have:=r0.put p.1 h.2;rw[<-h.1];exact this
  exact ih e
theorem length_mergeK:∀(more kvs:List (Key×V)),(QO kvs more).length<=kvs.length+more.length
 | [],kvs=>by show kvs.length<=kvs.length+0;omega
 |p::r,kvs=>by
  have h1:=length_mergeK r (putK kvs p.1 p.2);have h2:=jV kvs p.1 p.2;show (QO (putK kvs p.1 p.2) r).length<=_;rw[List.length_cons];omega
structure M1(X:Cx)(o:Expr)(m:Str)(apos:Pos)(e:Expr)(cpos:Pos):Prop where
 base:attributeBase o m X.env (eval o X.env)=eval o X.env
 few:((backTo cpos (starEach [e] X.env)).all (λx=>!x.1)&&(backToKw cpos (keywordEach [] X.env)).all (λx=>x.1.isSome)
  && decide (([e]:List Expr).length+([]:List Keyword).length+(if ([]:List Keyword).isEmpty then 0 else 1)<30))=true
 line:(apos.endLine==cpos.line)=true
 trees:backTo cpos (starEach [e] X.env)=[(false,eval e X.env)]
structure M2(X:Cx)(o:Expr)(m:Str)(apos:Pos)(e f:Expr)(cpos:Pos):Prop where
 base:attributeBase o m X.env (eval o X.env)=eval o X.env
 few:((backTo cpos (starEach [e,f] X.env)).all (λx=>!x.1)&&(backToKw cpos (keywordEach [] X.env)).all (λx=>x.1.isSome)
  && decide (([e,f]:List Expr).length+([]:List Keyword).length+(if ([]:List Keyword).isEmpty then 0 else 1)<30))=true
 line:(apos.endLine==cpos.line)=true
 trees:backTo cpos (starEach [e,f] X.env)=[(false,eval e X.env),(false,eval f X.env)]
end L2
set_option maxHeartbeats 4000000
namespace L2
open PySem PySem.Spec PyProof.Rows
theorem KV.len{kvs:List (Key×V)}{vs:List (Key×Value)}(r:KV kvs vs):vs.length=kvs.length:=(Paired.length r).symm
theorem KV.key{kvs:List (Key×V)}{vs:List (Key×Value)}(r:KV kvs vs){i:Nat}{k:Key×V}(e:kvs[i]?=some k):∃v,vs[i]?=some (k.1,v):=by
 induction r generalizing i with
 |nil=>simp at e
 |cons h t ih=>
  cases i with
  |zero=>cases e;exact⟨_,by rw[List.getElem?_cons_zero];congr 1;exact Prod.ext h.1.symm rfl⟩
  |succ i=>exact ih (by simpa using e)
noncomputable def R9(cells:List (Str×Addr)):List (Str×NameKind)->List (Str×Addr)->List (Str×Addr)
 | [],cs=>cs
 | (n,k)::r,cs=>R9 cells r (if k=.free then (match cells.lookup n with|some c=>(n,c)::cs|none=>cs) else cs)
theorem zu{scope:Scope}{env:Env}(h:∀y∈scope.names,y.2=.free->∃c,env.cells.lookup y.1=some c):closureFor scope env=pure (R9 env.cells scope.names []):=by
 simp only[closureFor];generalize scope.names=names at h;have key:∀(names:List (Str×NameKind)) (cs:List (Str×Addr)),(∀y∈names,y.2=.free->∃c,env.cells.lookup y.1=some c) ->
   (forIn names cs λx r=>if (x.2==NameKind.free)=true then do let c <- cellOf env x.1;pure (ForInStep.yield ((x.1,c)::r)) else pure (ForInStep.yield r))=(pure (R9 env.cells names cs):Sem _):=by
  intro names
  induction names with
  |nil=>intro cs _;rfl
  |cons y r ih=>
   intro cs hy;obtain⟨n,k⟩:=y;rw[vW];by_cases hk:k=.free
   ·subst hk;obtain⟨c,hc⟩:=hy (n,.free) List.mem_cons_self rfl;have hc':List.lookup n env.cells=some c:=hc;have e:cellOf env n=pure c:=by unfold cellOf;rw[hc']
    simp only[vh,if_true,e,pure_bind,R9,hc'];exact ih _ λy hm=>hy y (List.mem_cons_of_mem _ hm)
   ·have hb:(k==NameKind.free)=false:=by simpa using hk
    simp only[hb,Bool.false_eq_true,if_false,pure_bind,R9,if_neg hk];exact ih _ λy hm=>hy y (List.mem_cons_of_mem _ hm)
 rw[key names [] h];rfl
theorem qAt{cells:List (Str×Addr)}{x:Str}{c:Addr}:∀{names:List (Str×NameKind)}{cs:List (Str×Addr)},(R9 cells names cs).lookup x=some c->cs.lookup x=some c\/cells.lookup x=some c
 | [],cs,h=>.inl h
 | (n,k)::r,cs,h=>by
  unfold R9 at h;rcases qAt h with h2|h2
  ·clear h;by_cases hk:k=.free
   ·rw[if_pos hk]at h2;cases e:cells.lookup n with
    |none=>rw[e]at h2;exact .inl h2
    |some c'=>
     rw[e]at h2;simp only[List.lookup_cons]at h2;cases hx:x==n with
     |true=>
      have hx':x=n:=by simpa using hx
      rw[hx]at h2;subst hx';cases h2;exact .inr e
     |false=>
      rw[hx]at h2;exact .inl h2
   ·rw[if_neg hk]at h2;exact .inl h2
  ·exact .inr h2
theorem qA5{cells:List (Str×Addr)}{x:Str}{c:Addr}(hc:cells.lookup x=some c):∀{names:List (Str×NameKind)}{cs:List (Str×Addr)},((x,NameKind.free)∈names\/cs.lookup x=some c)->(∀c',cs.lookup x=some c'->c'=c)->(R9 cells names cs).lookup x=some c
 | [],cs,h,_=>by
  rcases h with h|h
  ·exact nomatch h
  ·exact h
 | (n,k)::r,cs,h,hu=>by
  unfold R9;refine qA5 hc ?_ ?_
  ·rcases h with h|h
   ·rcases List.mem_cons.mp h with h|h
    ·cases h;right;rw[if_pos rfl,hc];simp
    ·exact .inl h
   ·right;by_cases hk:k=.free
    ·rw[if_pos hk];cases e:cells.lookup n with
     |none=>exact h
     |some c'=>
      simp only[List.lookup_cons];cases hx:x==n with
      |true=>
       have hx':x=n:=by simpa using hx
       subst hx';rw[hc]at e;cases e;rfl
      |false=>exact h
    ·rw[if_neg hk];exact h
  ·intro c' h';by_cases hk:k=.free
   ·rw[if_pos hk]at h';cases e:cells.lookup n with
    |none=>rw[e]at h';exact hu c' h'
    |some c2=>
     rw[e]at h';simp only[List.lookup_cons]at h';cases hx:x==n with
     |true=>
      have hx':x=n:=by simpa using hx
      subst hx';rw[hx]at h';rw[hc]at e;cases e;cases h';rfl
     |false=>
      rw[hx]at h';exact hu c' h'
   ·rw[if_neg hk]at h';exact hu c' h'
theorem QP{env:Env}:∀{names:List (Str×NameKind)}{x:Str},names.lookup x=some .free ->
  (names.map λ(n,k)=>if (k==NameKind.free&&env.scope.kind==.function&&env.kindOf n==some .cell) then (n,NameKind.cell) else (n,k)).lookup x=some .cell\/
  (names.map λ(n,k)=>if (k==NameKind.free&&env.scope.kind==.function&&env.kindOf n==some .cell) then (n,NameKind.cell) else (n,k)).lookup x=some .free
 | [],_,h=>by simp at h
 | (n,k)::r,x,h=>by
  have ih:=@QP env r x;simp only[List.map_cons];cases hx:x==n with
  |true=>
   simp only[List.lookup_cons,hx]at h;cases h;by_cases hc:(NameKind.free==NameKind.free&&env.scope.kind==.function&&env.kindOf n==some .cell)=true
   ·rw[if_pos hc];left;simp[List.lookup_cons,hx]
   ·rw[if_neg hc];right;simp[List.lookup_cons,hx]
  |false=>
   simp only[List.lookup_cons,hx]at h;by_cases hc:(k==NameKind.free&&env.scope.kind==.function&&env.kindOf n==some .cell)=true
   ·rw[if_pos hc];simp only[List.lookup_cons,hx];exact ih h
   ·rw[if_neg hc];simp only[List.lookup_cons,hx];exact ih h
theorem jD{env:Env}:∀{names:List (Str×NameKind)}{x:Str},
  ((names.map λ(n,k)=>if (k==NameKind.free&&env.scope.kind==.function&&env.kindOf n==some .cell) then (n,NameKind.cell) else (n,k)).lookup x=some .cell\/
  (names.map λ(n,k)=>if (k==NameKind.free&&env.scope.kind==.function&&env.kindOf n==some .cell) then (n,NameKind.cell) else (n,k)).lookup x=some .free)->names.lookup x=some .free\/names.lookup x=some .cell
 | [],_,h=>by simp at h
 | (n,k)::r,x,h=>by
  have ih:=@jD env r x;simp only[List.map_cons]at h;cases hx:x==n with
  |true=>
   simp only[List.lookup_cons,hx];by_cases hc:(k==NameKind.free&&env.scope.kind==.function&&env.kindOf n==some .cell)=true
   ·rw[if_pos hc]at h;have hk:k=.free:=by
     cases k<;>first|rfl|(simp at hc)
    rw[hk];exact .inl rfl
   ·rw[if_neg hc]at h;simp only[List.lookup_cons,hx]at h;exact h.symm
  |false=>
   simp only[List.lookup_cons,hx];by_cases hc:(k==NameKind.free&&env.scope.kind==.function&&env.kindOf n==some .cell)=true
   ·rw[if_pos hc]at h;simp only[List.lookup_cons,hx]at h;exact ih h
   ·rw[if_neg hc]at h;simp only[List.lookup_cons,hx]at h;exact ih h
theorem jR:∀(names:List (Str×NameKind)) (a:Nat) (acc:List (Str×Addr)),cellsFrom a names acc=cellsFrom a names []++acc
 | [],a,acc=>rfl
 | (n,k)::r,a,acc=>by
  unfold cellsFrom;split
  ·rw[jR r (a+1) ((n,a)::acc),jR r (a+1) [(n,a)],wG];rfl
  ·exact jR r a acc
theorem JK{x:Str}{c:Addr}:∀{names:List (Str×NameKind)}{a:Nat},(x,c)∈cellsFrom a names []->(x,NameKind.cell)∈names
 | [],a,h=>nomatch h
 | (n,k)::r,a,h=>by
  unfold cellsFrom at h;split at h
  ·rename_i hk;rw[jR,wE]at h;rcases h with h|h
   ·exact List.mem_cons_of_mem _ (JK h)
   ·have:(x,c)=(n,a):=wK.mp h;cases this;rw[beq_iff_eq.mp hk];exact List.mem_cons_self
  ·exact List.mem_cons_of_mem _ (JK h)
theorem N9{x:Str}:∀{names:List (Str×NameKind)}{a:Nat},(x,NameKind.cell)∈names->∃c,(cellsFrom a names []).lookup x=some c
 | [],a,h=>nomatch h
 | (n,k)::r,a,h=>by
  unfold cellsFrom;rcases List.mem_cons.mp h with h|h
  ·cases h;rw[if_pos (by decide),jR,wx];cases (cellsFrom (a+1) r []).lookup x with
   |none=>exact⟨a,by simp⟩
   |some c=>exact⟨c,rfl⟩
  ·split
   ·obtain⟨c,hc⟩:=N9 (a:=a+1) h;exact⟨c,by rw[jR,wx,hc];rfl⟩
   ·exact N9 h
noncomputable def jB(X:Cx)(scope:Scope)(C:Addr):List (Str×Addr):=cellsFrom (C+1) scope.names (R9 X.env.cells scope.names [])
noncomputable def cxComp(X:Cx)(scope:Scope)(C:Addr)(fp:List Addr)(s₂:Shared)(H₂:Hp)(N:List Str):Cx:=
 { X with N:=N,s₀:=s₂,H₀:=H₂,env:=compEnvC scope (jB X scope C) C X.env,outer:=X.stack,ex:=fp,fn:=λx=>decide (scope.names.lookup x=some .cell),pn:=[],xe:=λ_ _=>False }
noncomputable def inner(src:List (Option Nat))(σ:St):St:=src.map λo=>match o with|none=>none|some j=>(σ[j]?).join
structure CompScope(X:Cx)(scope:Scope)(N:List Str)(src:List (Option Nat)):Prop where
 kind:scope.kind=.function
 uniq:∀y∈scope.names,scope.names.lookup y.1=some y.2
 frees:∀y∈scope.names,y.2=NameKind.free->X.env.kindOf y.1=some .cell\/X.env.kindOf y.1=some .free
 nd:N.Nodup
 len:src.length=N.length
 from_:∀(i:Nat) x j,N[i]?=some x->src[i]?=some (some j)->X.N[j]?=some x/\scope.names.lookup x=some .free
theorem qe{x:Str}{k:NameKind}:∀{names:List (Str×NameKind)},names.lookup x=some k->(x,k)∈names
 | [],h=>by simp at h
 | (n,k')::r,h=>by
  cases hx:x==n with
  |true=>
   simp only[List.lookup_cons,hx]at h;have hx':x=n:=by simpa using hx
   cases h;subst hx';exact List.mem_cons_self
  |false=>
   simp only[List.lookup_cons,hx]at h;exact List.mem_cons_of_mem _ (qe h)
section
variable{X:Cx}{pins:List (Addr×Obj)}{σ:St}{H₂:Hp}{s₂:Shared}{scope:Scope}{N:List Str}{src:List (Option Nat)}{fp:List Addr}
theorem CompScope.cells(S:CompScope X scope N src)(ok:X.Ok):∀y∈scope.names,y.2=.free->∃c,X.env.cells.lookup y.1=some c:=λy hy hk=>ok.has y.1 (S.frees y hy hk)
theorem CompScope.names(S:CompScope X scope N src):∀y∈scope.names,y.2=NameKind.local->scope.names.lookup y.1=some .local:=λy hy hk=>by rw[<-hk];exact S.uniq y hy
theorem zA{C:Addr}{h₁:Heap}(ow:CellsOk h₁ (C+1) (cellsFrom (C+1) scope.names [])){x:Str}{c:Addr}(h:(jB X scope C).lookup x=some c):
  ((x,c)∈cellsFrom (C+1) scope.names []/\(x,NameKind.cell)∈scope.names/\h₁.IsCell c none/\C<c)\/X.env.cells.lookup x=some c:=by
 unfold jB at h;rw[jR,wx]at h;cases e:(cellsFrom (C+1) scope.names []).lookup x with
 |some c'=>
  rw[e]at h;cases h;have m:=PySem.mem_of_lookup e;exact .inl ⟨m,JK m,(ow.empty x c m).1,(ow.empty x c m).2⟩
 |none=>
  rw[e]at h;rcases qAt (show (R9 X.env.cells scope.names []).lookup x=some c by simpa using h) with h|h
  ·simp at h
  ·exact .inr h
theorem ZW(S:CompScope X scope N src){C:Addr}{x:Str}{c:Addr}(hf:scope.names.lookup x=some .free)(h:X.env.cells.lookup x=some c):(jB X scope C).lookup x=some c:=by
 unfold jB;rw[jR,wx];have:(cellsFrom (C+1) scope.names []).lookup x=none:=by
  cases e:(cellsFrom (C+1) scope.names []).lookup x with
  |none=>rfl
  |some c'=>
   have:=S.uniq _ (JK (PySem.mem_of_lookup e));rw[hf]at this;cases this
 rw[this,qA5 h (.inl (qe hf)) (by intro c' h';simp at h')];rfl
theorem qB0(S:CompScope X scope N src)(I:Inv X pins σ H₂ s₂)(f2:∀b∈fp,ZJ X pins H₂ b)(ob:∀b∈fp,∃o,s₂.heap.get? b=some o/\∀v,o.data≠.cell v){C:Addr}(hC:s₂.heap.objs.size<=C){h₁:Heap}(ow:CellsOk h₁ (C+1) (cellsFrom (C+1) scope.names [])):
  (cxComp X scope C fp s₂ H₂ N).Ok:=by
 have lt:∀x c,X.env.cells.lookup x=some c->c<s₂.heap.objs.size:=λx c h=>let ⟨v,q⟩:=I.cell x c h;q.lt
 refine⟨I.ok.mod,S.kind,I.ok.glob,I.ok.blt,hC,λx y c h1 h2=>?_,λx hx=>?_,λx c hf h=>?_,I.ok.hd,I.ok.frames,.inl rfl,λb hb=>⟨?_,λx c h=>?_⟩,λb o e=>I.bs b o e,?_,λb o e hb=>?_,λb hb=>?_,I.stack,I.stkFree⟩
 ·rcases zA ow h1 with⟨m1,_,_,g1⟩|g1<;>rcases zA ow h2 with⟨m2,_,_,g2⟩|g2
  ·exact PySem.name_of_addr ow.apart m1 m2
  ·exact absurd (wo (wC (lt y c g2) hC) g1) (Nat.lt_irrefl _)
  ·exact absurd (wo (wC (lt x c g1) hC) g2) (Nat.lt_irrefl _)
  ·exact I.ok.inj x y c g1 g2
 ·rcases jD hx with hf|hf
  ·obtain⟨c,hc⟩:=S.cells I.ok (x,.free) (qe hf) rfl;exact⟨c,ZW S hf hc⟩
  ·obtain⟨c,hc⟩:=N9 (a:=C+1) (qe hf);exact⟨c,by show (jB X scope C).lookup x=_;unfold jB;rw[jR,wx,hc];rfl⟩
 ·have hf':scope.names.lookup x=some .cell:=vf hf;rcases zA ow h with⟨_,_,_,g⟩|g
  ·exact wt (Nat.lt_of_le_of_lt hC g)
  ·unfold cxComp at h;have h:(jB X scope C).lookup x=some c:=h;obtain⟨c',hc'⟩:=N9 (a:=C+1) (qe hf');have e:(jB X scope C).lookup x=some c':=by unfold jB;rw[jR,wx,hc'];rfl
   rw[e]at h;cases h;have:=(ow.empty x c (PySem.mem_of_lookup hc')).2;exact Nat.le_trans hC (Nat.le_of_succ_le this)
 ·obtain⟨o,e,_⟩:=ob b hb;exact wQ (wC (Heap.lt_size e) hC)
 ·rcases zA ow h with⟨_,_,_,g⟩|g
  ·obtain⟨o,e,_⟩:=ob b hb;exact wz (wo (wC (Heap.lt_size e) hC) g)
  ·exact(f2 b hb).2.2.2.2.1 x c g
 ·exact Nat.le_trans I.ok.bsz I.sz
 ·rcases(f2 b hb).2.2.2.1 with z|z
  ·exact I.ok.noex b o e z
  ·exact absurd (wC (Heap.lt_size e) (Nat.le_trans I.ok.bsz z)) (Nat.lt_irrefl _)
 ·intro hz;rcases List.mem_cons.mp (I.stkSub b hz) with e|e
  ·exact(f2 b hb).2.1 e
  ·exact(f2 b hb).2.2.1 e
theorem JP(S:CompScope X scope N src)(I:Inv X pins σ H₂ s₂)(f2:∀b∈fp,ZJ X pins H₂ b)(ob:∀b∈fp,∃o,s₂.heap.get? b=some o/\∀v,o.data≠.cell v){C:Addr}{h₁:Heap}{m:Str->Option Value}{tk n:Nat}
  (hC:s₂.heap.objs.size<C) (keep:∀b o,s₂.heap.get? b=some o->h₁.get? b=some o) (hD:h₁.get? s₂.heap.objs.size=some { cls:=.type "list",data:=.seq #[] n }) (hn:h₁.Ns C m) (ow:CellsOk h₁ (C+1) (cellsFrom (C+1) scope.names [])):
  Inv (cxComp X scope C fp s₂ H₂ N) [] (inner src σ) (upd H₂ s₂.heap.objs.size (.lst [])) { s₂ with heap:=h₁,toks:=tk }:=by
 have lt:∀x c,X.env.cells.lookup x=some c->c<s₂.heap.objs.size:=λx c h=>let ⟨v,q⟩:=I.cell x c h;q.lt
 have hfr:H₂ s₂.heap.objs.size=none:=I.hok.fresh (Nat.le_refl _);refine⟨qB0 S I f2 ob (wt hC) ow,rfl,I.bare,Un.laid keep (Nat.le_refl _) hfr,⟨m,hn,λi x v e1 e2 e3=>?_⟩,λx c h=>?_,?_,λx c h=>?_,λp hp=>absurd (show p∈([]:List (Addr×Obj)) from hp) (by simp),I.hok.laid keep (Nat.le_refl _) ⟨by simp,[],n,.nil,hD⟩,?_⟩
 ·have e2':(inner src σ)[i]?=some (some v):=e2;unfold inner at e2';rw[wN]at e2';cases q:src[i]? with
  |none=>rw[q]at e2';cases e2'
  |some o=>
   rw[q]at e2';cases o with
   |none=>cases e2'
   |some j=>
    have ej:(σ[j]?).join=some v:=Option.some.inj e2';have ej':σ[j]?=some (some v):=by
     cases z:σ[j]? with
     |none=>rw[z]at ej;cases ej
     |some w=>rw[z]at ej;exact congrArg some ej
    obtain⟨n1,n2⟩:=S.from_ i x j e1 q;obtain⟨m0,hn0,hl⟩:=I.loc;have hfr':=S.frees (x,.free) (qe n2) rfl;obtain⟨u,r,l⟩:=hl j x v n1 ej' (by rcases hfr' with z|z;exact .inr (.inl z);exact .inr (.inr z));refine⟨u,r,.inr ⟨QP n2,?_⟩⟩;rcases l with⟨k,_⟩|⟨_,c,hc,o,ho,hd⟩
    ·have k':X.env.kindOf x=some .local:=k;rcases hfr' with z|z
     ·have z':X.env.kindOf x=some .cell:=z;rw[k']at z';cases z'
     ·have z':X.env.kindOf x=some .free:=z;rw[k']at z';cases z'
    ·exact⟨c,ZW S n2 hc,o,keep c o ho,hd⟩
 ·rcases zA ow h with⟨_,_,g,_⟩|g
  ·exact⟨none,g⟩
  ·obtain⟨v,o,ho,hd⟩:=I.cell x c g;exact⟨v,o,keep c o ho,hd⟩
 ·show upd H₂ s₂.heap.objs.size (.lst []) C=none;rw[qF (wz hC)];exact I.hok.fresh (wt hC)
 ·rcases zA ow h with⟨_,_,_,g⟩|g
  ·rw[qF (wz (wo hC g))];exact I.hok.fresh (wt (wo hC g))
  ·rw[qF (wQ (lt x c g))];exact I.freeC x c g
 ·show (inner src σ).length=N.length;unfold inner;rw[wO,S.len]
theorem Jb(I:Inv X pins σ H₂ s₂)(f2:∀b∈fp,ZJ X pins H₂ b){C:Addr}{pins':List (Addr×Obj)}{σ':St}{H':Hp}{s':Shared}{h':Heap}(hC:s₂.heap.objs.size<=C)(J:Inv (cxComp X scope C fp s₂ H₂ N) pins' σ' H' s')
  (kp:∀b o,b≠C->s'.heap.get? b=some o->h'.get? b=some o):Inv X pins σ H' { s' with heap:=h' }:=by
 have neC:∀b o,s₂.heap.get? b=some o->b≠C:=λb o e=>wQ (wC (Heap.lt_size e) hC);have B:=J.base;refine I.call' (s':={ s' with heap:=h' }) (ch:=fp) J.os ⟨λb o e n hb hx=>kp b o (neC b o e) (B.keep b o e n hb hx),λb o e n hb hx=>?_,B.free,λb o e hx=>?_,B.tups,B.frzs,B.tbls⟩ (λa o e=>?_) J.bare λb hb=>⟨(f2 b hb).2.2.2.1,(f2 b hb).2.1,(f2 b hb).2.2.2.2⟩
 ·obtain⟨sl,q⟩:=B.slot b o e n hb hx;exact⟨sl,kp b _ (neC b o e) q⟩
 ·obtain⟨o',q⟩:=B.there b o e hx;exact⟨o',kp b o' (neC b o e) q⟩
 ·have nC:H' C=none:=J.free;have ne:∀b u,H' b=some u->b≠C:=λb u q z=>by rw[z,nC]at q;cases q
  refine(J.hok a o e).stay (λc v hc q=>kp c v ?_ q) (λ_ q=>q) λ_ _ q=>q;rcases hc with z|z
  ·rw[z];exact ne a o e
  ·exact ne c _ z
end
def PTs(X:Cx)(ifs:List Expr)(t:TT):Prop:=
 ∀(pins:List (Addr×Obj)) (s:Shared) (σ:St) (H:Hp) (Q:Bool->Hp->Prop),Inv X pins σ H s->t σ H Q ->
  wpAny (model X.prog X.w) X.A (forIn ifs true λc r=>if r=true then do let ok <- isTrue c X.env (eval c X.env);pure (ForInStep.yield ok) else pure (ForInStep.yield r)) (TP X pins σ Q) X.xe s
theorem pts_nil{X:Cx}:PTs X [] (λ_ H Q=>Q true H):=λpins s σ H Q I h=>vb ⟨H,I,h⟩
theorem pts_one{X:Cx}{c:Expr}{t:TT}(hc:PT X c t):PTs X [c] t:=by
 intro pins s σ H Q I h;rw[vW];simp only[if_true];refine va (va (thn (hc pins s σ H Q I h) λb s1 q=>?_));exact vb (vb q)
noncomputable def tComp(wi:TI)(src:List (Option Nat))(g:TG)(tc:TT)(te:TE):TE:=λσ H Q=>wi σ H λJ H1=>∀D,H1 D=none ->
 ∃W:Nat->Nat->List V->St->Hp->Prop,(∃m,W 0 m [] (inner src σ) (upd H1 D (.lst [])))/\∀i m ys σ' H',W i m ys σ' H'->H' D=some (.lst ys) ->
  (J.stop i H'/\Q (.ref D) H')\/
  (J.go i H'/\∀x H2,J.yld i H' x H2->g x σ' H2 λσ3 H3=>tc σ3 H3 λb H4=>
   if b=true then te σ3 H4 λy H5=>H5 D=some (.lst ys)/\ys.length<sizeLine/\∃m',m'<m/\W (i+1) m' (ys++[y]) σ3 (upd H5 D (.lst (ys++[y])))
   else H4 D=some (.lst ys)/\∃m',m'<m/\W (i+1) m' ys σ3 H4)
section
variable{X:Cx}{pins:List (Addr×Obj)}{σ:St}{H₂:Hp}{s₂:Shared}{scope:Scope}{N:List Str}{src:List (Option Nat)}
theorem B9{M:Model}{A:Around}{E:Value->Shared->Prop}{s:Shared}{scope:Scope}{globals:Addr}{cl:List (Str×Addr)}{qual:Str}{env:Env}{Q:Env->Shared->Prop}
  (h:Q (newEnv scope s.heap.objs.size globals (cellsFrom (s.heap.objs.size+1) scope.names cl) qual none .none (some env) builtinsNs) { s with heap:=pushCells (s.heap.push { cls:=.type "dict",data:=.dict #[] }) scope.names }):
  wpAny M A (newFunctionEnv scope globals cl [] qual none .none (some env)) Q E s:=by
 simp only[newFunctionEnv,Option.isSome_some,if_true];refine va (wpAny_alloc ?_);refine va (wpAny_layCells _ (λname kind cells=>by cases hkc:kind==NameKind.cell<;>simp[hkc]) _ _ _ _ ?_);rw[show ({ s with heap:=s.heap.push { cls:=.type "dict",data:=.dict #[] } }:Shared).heap.objs.size=s.heap.objs.size+1 from Heap.size_push ..];refine va ?_;rw[List.forIn_nil];exact vb (vb h)
theorem L5{elt tg iter:Expr}{ifs:List Expr}{pos:Pos}{g:TG}{tc:TT}{te:TE}{it:Addr}{fp:List Addr}{tn:Nat->Heap->Prop}{J:It}{Q:VK}{E:Value->Shared->Prop}{RR:Value->Addr->Result->Shared->Prop}
  (hc:X.calm=true) (S:CompScope X scope N src) (I2:Inv X pins σ H₂ s₂) (T:JS X.prog X.w X.K tg J fp it tn) (st2:tn 0 s₂.heap) (f2:∀b∈fp,ZJ X pins H₂ b)
  (hg:∀C fp s H,PG (cxComp X scope C fp s H N) tg g) (ht:∀C fp s H,PTs (cxComp X scope C fp s H N) ifs tc) (he:∀C fp s H,PE (cxComp X scope C fp s H N) elt te)
  (h:∀D,H₂ D=none->∃W:Nat->Nat->List V->St->Hp->Prop,(∃m,W 0 m [] (inner src σ) (upd H₂ D (.lst [])))/\∀i m ys σ' H',W i m ys σ' H'->H' D=some (.lst ys) ->
   (J.stop i H'/\Q (.ref D) H')\/
   (J.go i H'/\∀x H2,J.yld i H' x H2->g x σ' H2 λσ3 H3=>tc σ3 H3 λb H4=>
    if b=true then te σ3 H4 λy H5=>H5 D=some (.lst ys)/\ys.length<sizeLine/\∃m',m'<m/\W (i+1) m' (ys++[y]) σ3 (upd H5 D (.lst (ys++[y])))
    else H4 D=some (.lst ys)/\∃m',m'<m/\W (i+1) m' ys σ3 H4))
  (hRR:∀(D C:Addr) (σ':St) (H':Hp) (s':Shared),s₂.heap.objs.size<=C->Inv (cxComp X scope C fp s₂ H₂ N) [] σ' H' s'->Q (.ref D) H'->RR (.ref D) C (.ok .next) s'):
  wpAny (model X.prog X.w) X.A (newList []) (λacc s₃=>wpAny (model X.prog X.w) X.A (newFunctionEnv scope X.env.globals (R9 X.env.cells scope.names []) [] X.env.qual none .none (some X.env)) (λcenv s₄=>
   codeAny (model X.prog X.w) X.A (.compStart (.ListComp elt [⟨tg,iter,ifs,0⟩] scope pos) 0 (.ref it) acc { cenv with scope:=relabel scope X.env }) (RR acc cenv.locals) s₄) E s₃) E s₂:=by
 refine wpAny_newObj_type (B9 ?_);dsimp only;generalize hH2:s₂.heap.push { cls:=.type "list",dict:=none,data:=.seq ([]:List Value).toArray }=P2;have hC:P2.objs.size=s₂.heap.objs.size+1:=by rw[<-hH2,Heap.size_push]
 have ow:=cellsFrom_ok scope.names (P2.push { cls:=.type "dict",data:=.dict #[] }) (P2.objs.size+1) [] ⟨λ_ _ hm=>(nomatch hm),List.Pairwise.nil⟩ (by rw[Heap.size_push];exact Nat.le_refl _);rw[Heap.size_push]at ow;generalize hh1:pushCells (P2.push { cls:=.type "dict",data:=.dict #[] }) scope.names=h₁ at ow ⊢;have kp:∀b o,P2.get? b=some o->h₁.get? b=some o:=λb o e=>hh1 ▸ pushCells_keeps _ _ b o (Heap.get?_push_of_some _ e);have hns₁:h₁.Ns P2.objs.size (λ_=>none):=hh1 ▸ (Heap.Ns.new P2 (.type "dict")).keeps (pushCells_keeps _ _);have old:∀b o,s₂.heap.get? b=some o->h₁.get? b=some o:=λb o e=>kp b o (hH2 ▸ Heap.get?_push_of_some _ e);have hacc:h₁.get? s₂.heap.objs.size=some { cls:=.type "list",data:=.seq #[] }:=kp _ _ (hH2 ▸ Heap.get?_push_size _ rfl);have st1:tn 0 h₁:=T.keep _ _ _ st2 λb _ o e=>old b o e;have ob:=T.obj _ _ st2;have lt:s₂.heap.objs.size<P2.objs.size:=by rw[hC];exact Nat.lt_succ_self _
 have I3:=JP (tk:=s₂.toks) S I2 f2 ob lt old hacc hns₁ ow;obtain⟨W,⟨m0,w0⟩,step⟩:=h s₂.heap.objs.size I2.fresh;have fpn:∀b∈fp,b≠s₂.heap.objs.size:=λb hb=>by
  obtain⟨o,e,_⟩:=ob b hb;exact wQ (Heap.lt_size e)
 have fok:∀{pins':List (Addr×Obj)}{H':Hp},(∀b∈fp,H' b=none)->(∀p∈pins',p.1∉fp)->∀b∈fp,ZJ (cxComp X scope P2.objs.size fp s₂ H₂ N) pins' H' b:=λ{pins' H'} hn hp b hb=>by
  have okc:=I3.ok;exact⟨hn b hb,(okc.exf b hb).1,okc.exfs b hb,.inl hb,(okc.exf b hb).2,λp hp' z=>hp p (by simpa [cxComp] using hp') (z ▸ hb)⟩
 have loop:∀s₃:Shared,s₃={ s₂ with heap:=h₁,toks:=s₂.toks } ->
   codeAny (model X.prog X.w) X.A (.compLoop (.ListComp elt [⟨tg,iter,ifs,0⟩] scope pos) 0 (.ref it) (.ref s₂.heap.objs.size) (compEnvC scope (jB X scope P2.objs.size) P2.objs.size X.env))
    (RR (.ref s₂.heap.objs.size) P2.objs.size) s₃:=by
  rintro s₃ rfl;refine codeAny_loop rfl (λn s'=>∃i ys σ' H',Inv (cxComp X scope P2.objs.size fp s₂ H₂ N) [] σ' H' s'/\tn i s'.heap/\(∀b∈fp,H' b=none)/\H' s₂.heap.objs.size=some (.lst ys)/\W i n ys σ' H') (λn s' hI=>?_) m0
   ⟨0,[],inner src σ,_,I3,st1,λb hb=>by rw[qF (fpn b hb)];exact(f2 b hb).1,qH,w0⟩
  obtain⟨i,ys,σ3,H3,J3,st3,fr3,hD3,w3⟩:=hI;show wpAny _ X.A ((compTurn (.ListComp elt [⟨tg,iter,ifs,0⟩] scope pos) 0 (.ref it) (.ref s₂.heap.objs.size) _).onRaise (λx=>do noteFrame x _;theTreesLotGoes x)) _ _ s';refine wpAny_noted ?_;rw[compTurn_list];have never:∀{α:Type}{t:Sem α}{Q1:α->Shared->Prop}{E1:Value->Shared->Prop}{s1:Shared},wpAny (model X.prog X.w) X.A t Q1 (λ_ _=>False) s1->wpAny (model X.prog X.w) X.A t Q1 E1 s1:=λh=>wpAny_mono h (λ_ _ q=>q) λ_ _ f=>f.elim;refine va (wpAny_standAt (va ?_));rcases step i n ys σ3 H3 w3 hD3 with⟨stop,qn⟩|⟨go,qEV⟩
  ·refine never (thn (T.done (cxComp X scope P2.objs.size fp s₂ H₂ N) rfl rfl rfl hc i [] s' σ3 H3 _ J3 (fok fr3 (by simp)) st3 stop) λr s4 ⟨hr,I4⟩=>?_);subst hr;exact vb (hRR _ _ σ3 H3 s4 (wt lt) I4 qn)
  ·refine never (thn (T.item (cxComp X scope P2.objs.size fp s₂ H₂ N) rfl rfl rfl hc i [] s' σ3 H3 _ J3 (fok fr3 (by simp)) st3 go) λr s4 ⟨u,hr,h4⟩=>?_);subst hr;refine va (never (thn h4 λ_ s5 ⟨x,H5,I5,r5,y5,st5,fr5⟩=>?_));have I5':=I5.pinned (fok fr5 (by simp)) (T.obj _ _ st5);have kept:∀{σ7:St}{H7:Hp}{s7:Shared},Inv (cxComp X scope P2.objs.size fp s₂ H₂ N) ([]++JR fp s5.heap) σ7 H7 s7->Inv (cxComp X scope P2.objs.size fp s₂ H₂ N) [] σ7 H7 s7/\tn (i+1) s7.heap/\∀b∈fp,H7 b=none:=λ{σ7 H7 s7} I7=>by
    refine⟨I7.unpinned,T.keep _ _ _ st5 λb hb o e=>(I7.pin (b,o) (wI _ (wI _ (jK hb e)))).1,λb hb=>?_⟩;obtain⟨o,e,d⟩:=T.obj _ _ st5 b hb;exact(I7.pin (b,o) (wI _ (wI _ (jK hb e)))).2.1
   refine va (never (thn (hg _ _ _ _ _ s5 σ3 H5 x u _ I5' r5 (qEV x H5 y5)) λ_ s6 ⟨σ6,H6,I6,q6⟩=>?_));refine va (never (thn (ht _ _ _ _ _ s6 σ6 H6 _ I6 q6) λb s7 ⟨H7,I7,q7⟩=>?_));cases b with
   |false=>
    rw[if_neg (by decide)]at q7;obtain⟨hD7,m',hm,w7⟩:=q7;obtain⟨I7',st7,fr7⟩:=kept I7;exact vb ⟨rfl,m',hm,i+1,ys,σ6,H7,I7',st7,fr7,hD7,w7⟩
   |true=>
    rw[if_pos rfl]at q7;refine va (va (never (thn (he _ _ _ _ _ s7 σ6 H7 _ I7 q7) λyv s8 ⟨y,H8,I8,r8,hD8,hz,m',hm,w8⟩=>?_)));refine va (never (thn (mt_append (X:=cxComp X scope P2.objs.size fp s₂ H₂ N) _ s8 σ6 H8 (.ref s₂.heap.objs.size) [y] _ [yv] (λv H'=>v=.non/\H'=upd H8 s₂.heap.objs.size (.lst (ys++[y]))) I8 rfl (.cons r8 .nil) ⟨_,ys,y,rfl,rfl,hD8,hz,rfl,rfl⟩) λ_ s9 ⟨v9,H9,I9,_,_,e9⟩=>?_));subst e9;obtain⟨I9',st9,fr9⟩:=kept I9;exact vb (vb ⟨rfl,m',hm,i+1,_,σ6,_,I9',st9,fr9,qH,w8⟩)
 exact codeAny_compStart_list (loop _ rfl) (T.self _ 0 _ _ _ st1 (loop _ rfl))
end
section
variable{X:Cx}{scope:Scope}{N:List Str}{src:List (Option Nat)}{elt tg iter:Expr}{ifs:List Expr}{pos:Pos}{wi:TI}{g:TG}{tc:TT}{te:TE}
theorem pe_comp(hc:X.calm=true)(hi:PI X tg iter wi)(S:CompScope X scope N src)
  (hg:∀C fp s H,PG (cxComp X scope C fp s H N) tg g) (ht:∀C fp s H,PTs (cxComp X scope C fp s H N) ifs tc) (he:∀C fp s H,PE (cxComp X scope C fp s H N) elt te)
  (hs:∀x,foldedSetIterable iter X.env x=pure x:=by intro _;rfl):PE X (.ListComp elt [⟨tg,iter,ifs,0⟩] scope pos) (tComp wi src g tc te):=by
 intro pins s σ H Q I h;rw[eval_ListComp];refine wpAny_comprehension_free (use:=none) rfl hs (zu (S.cells I.ok)) S.kind S.names (thn (hi pins s σ H _ I h) λv s1 h1=>thn h1 λitv s2 h2=>?_);obtain⟨it,fp,tn,J,H2,rfl,I2,T,st2,f2,hW⟩:=h2;refine L5 (Q:=Q) (RR:=λacc C=>compPost (model X.prog X.w) X.A X.xe none (EP X pins σ Q) acc C) hc S I2 T st2 f2 hg ht he hW ?_;intro D C σ' H' s' hC J q;obtain⟨m,hn,_⟩:=id J.loc;exact⟨m,hn,λh' hs'=>⟨.ref D,H',Jb I2 f2 hC J (λb o hb e=>hs'.extBut b o hb e),rfl,q⟩⟩
theorem ps_setcomp{i:Nat}{x:Str}{pos' spos:Pos}(hc:X.calm=true)(hi:PI X tg iter wi)(S:CompScope X scope N src)
  (hg:∀C fp s H,PG (cxComp X scope C fp s H N) tg g) (ht:∀C fp s H,PTs (cxComp X scope C fp s H N) ifs tc) (he:∀C fp s H,PE (cxComp X scope C fp s H N) elt te)
  (hsw:swapsWith (.ListComp elt [⟨tg,iter,ifs,0⟩] scope pos) (some (.Name x pos')) spos.line X.env=pure true)
  (hN:X.N.Nodup) (hx:X.N[i]?=some x) (hl:X.env.scope.names.lookup x=some .local)
  (hs:∀x,foldedSetIterable iter X.env x=pure x:=by intro _;rfl):PS X (.Assign [.Name x pos'] (.ListComp elt [⟨tg,iter,ifs,0⟩] scope pos) spos) (tAsg (tComp wi src g tc te) (qDg i)):=by
 intro pins s σ H D I h;rw[exec_Assign_Name_used _ _ _ _ hsw];refine va (wpAny_standAt (va ?_));show wpAny _ X.A (do let _ <- comprehension (.ListComp elt [⟨tg,iter,ifs,0⟩] scope pos) scope X.env _ (newList []) false (eval iter X.env) (some (assign (.Name x pos') X.env))) _ _ s;refine va (wpAny_mono (wpAny_comprehension_free (use:=some (assign (.Name x pos') X.env)) (Q:=λ_ s'=>SP X pins D .next s') rfl hs (zu (S.cells I.ok)) S.kind S.names
  (thn (hi pins s σ H _ I h) λv s1 h1=>thn h1 λitv s2 h2=>?_)) (λ_ s' hq=>vb (vb hq)) λ_ _ e=>e)
 obtain⟨it,fp,tn,J,H2,rfl,I2,T,st2,f2,hW⟩:=h2;refine L5 (Q:=λv H'=>D.nx (σ.set i (some v)) H') (RR:=λacc C=>compPost (model X.prog X.w) X.A X.xe (some (assign (.Name x pos') X.env)) (λ_ s'=>SP X pins D .next s') acc C) hc S I2 T st2 f2 hg ht he hW ?_;intro L C σ' H' s' hC J q;obtain⟨m,hn,_⟩:=id J.loc;have I3:Inv X pins σ H' s':=Jb (h':=s'.heap) I2 f2 hC J (λb o hb e=>e);show wpAny _ X.A (assign (.Name x pos') X.env (.ref L)) _ _ _;have nL:X.env.locals≠C:=wQ (wC I2.lt hC);refine wpAny_assign_Name (A0 I3 hN hx (.inl hl) (show RelV (.ref L) (.ref L) from rfl) (λs4 I4 hsb=>?_) (.inr hl));obtain⟨a,sb,ha⟩:=hsb;have ha':a≠C:=by
  rcases ha with z|z
  ·rw[z];exact nL
  ·obtain⟨v,hv⟩:=I2.cell x a z;exact wQ (wC hv.lt hC)
 refine⟨m,hn.sameBut sb (Ne.symm ha'),λh5 sb5=>?_⟩;have I5:Inv X pins (σ.set i (some (V.ref L))) H' { s4 with heap:=h5,toks:=s4.toks }:=I4.turned (it:=C) (λb o hb e=>sb5.extBut b o hb e) J.free (Ne.symm nL) (.inr (Nat.le_trans I2.sz hC)) (λy c e z=>by
   obtain⟨v,hv⟩:=I2.cell y c e;exact absurd (wC hv.lt (by rw[z];exact hC)) (Nat.lt_irrefl _)) λp hp z=>absurd (wC (Heap.lt_size (I2.pin p hp).1) (by rw[z];exact hC)) (Nat.lt_irrefl _)
 exact⟨_,H',I5,q⟩
end
end L2
namespace PI
open L2 (V Key)
open PySem (Str)
inductive BOp|add|sub|mul|fdiv|mod|pow|band
 deriving DecidableEq
inductive COp|lt|le|gt|ge|eq|ne|inn|notin|is|isnot
 deriving DecidableEq
inductive BF|len|sum|all|max|min|list|int|repr|bits
 deriving DecidableEq
inductive Mt|popAt
 deriving DecidableEq
inductive Tg|name(i:Nat)|tup(is:List Nat)
 deriving DecidableEq
mutual
inductive E
 |var (i:Nat)|cst (v:V)|glob (g:Nat)
 |bin (op:BOp) (a b:E)|neg (a:E)
 |cmp (op:COp) (a b:E)|cmp2 (o1 o2:COp) (a b c:E)
 |and (a b:E)|or (a b:E)|not (a:E)|ite (c a b:E)
 |call (f:Nat) (as:Es)|blt (f:BF) (as:Es)|isi (a:E) (ts:List String)
 |idx (a b:E)|sl (a:E) (lo hi:Es)   | lst (as:Es)|tup (as:Es)
 |comp (it:Itr) (src:List (Option Nat)) (g:Tg) (c:Es) (e:E)
 |app (a b:E)|lrng (a:E)|dnew|meth (m:Mt) (a:E) (as:Es)       | dzip (a b:E)   | dix (a b:E)
inductive Es|nil|cons(a:E)(as:Es)
inductive Itr|list(a:E)|rng1(a:E)  | zip(a b:E)|enum(a:E)
end
mutual
inductive S
 |asg (g:Tg) (e:E)  | put (o i v:E)
 |expr (e:E)|ret (e:E)  | ifs (c:E) (t u:Ss)
 |for_ (g:Tg) (it:Itr) (b:Ss)     | stop
inductive Ss|nil|cons(s:S)(r:Ss)
end
noncomputable def Es.snoc:Es->E->Es
 | .nil,e=>.cons e .nil
 | .cons a as,e=>.cons a (Es.snoc as e)
inductive Ob|dct(kvs:List (Int×V))|exn(c:Str)
 deriving DecidableEq
inductive O|lst(fz:Bool)(xs:List V)|tup(xs:List V)|ob(o:Ob)
 deriving DecidableEq
noncomputable abbrev AH:=List O
noncomputable abbrev St:=List (Option V)
inductive Res(α:Type)|ok(a:α)|exc(c:Nat)(h:AH)|stuck
noncomputable def Res.bind{α β:Type}:Res α->(α->Res β)->Res β
 | .ok a,f=>f a
 | .exc c h,_=>.exc c h
 | .stuck,_=>.stuck
noncomputable def Res.nx{α:Type}:Res α->Res α
 | .ok a=>.ok a
 | .exc _ _=>.stuck
 | .stuck=>.stuck
@[simp] theorem Res.bind_ok{α β:Type}(a:α)(f:α->Res β):(Res.ok a).bind f=f a:=rfl
noncomputable abbrev RV:=Res (V×AH)
noncomputable def items(h:AH)(a:Nat):Option (List V):=match h[a]? with
 |some (.lst _ xs)=>some xs
 |some (.tup xs)=>some xs
 |_=>none
noncomputable def qM(h:AH)(a:Nat):Option (List V):=match h[a]? with
 |some (.lst _ xs)=>some xs
 |_=>none
noncomputable def qY(h:AH)(a:Nat):Option (List V):=match h[a]? with
 |some (.tup xs)=>some xs
 |_=>none
noncomputable def Qv(h:AH)(a:Nat):Option (List (Int×V)):=match h[a]? with
 |some (.ob (.dct kvs))=>some kvs
 |_=>none
noncomputable def S5(kvs:List (Int×V))(k:Int):Bool:=kvs.any λp=>decide (p.1=k)
noncomputable def qAb(kvs:List (Int×V))(k:Int)(v:V):List (Int×V):=if S5 kvs k=true then kvs.map (λp=>if p.1=k then (p.1,v) else p) else kvs++[(k,v)]
noncomputable def D3(kvs:List (Int×V))(k:Int):Option V:=(kvs.find? λp=>decide (p.1=k)).map (·.2)
noncomputable def zZ(kvs more:List (Int×V)):List (Int×V):=more.foldl (λacc p=>qAb acc p.1 p.2) kvs
noncomputable def qEr(h:AH)(a:Nat):Option Str:=match h[a]? with
 |some (.ob (.exn c))=>some c
 |_=>none
noncomputable def zB(h:AH)(a:Nat):Option (List V):=match h[a]? with
 |some (.lst false xs)=>some xs
 |_=>none
noncomputable def lim:Nat:=100000
noncomputable def newL(xs:List V)(h:AH):RV:=.ok (.ref h.length,h++[.lst false xs])
noncomputable def newT(xs:List V)(h:AH):RV:=.ok (.ref h.length,h++[.tup xs])
noncomputable def flat:V->Bool
 | .non=>true | .bl _=>true | .int _=>true | .str _=>true|_=>false
noncomputable def eqF:V->V->Option Bool
 | .int i,.int j=>some (i==j)
 | .bl i,.bl j=>some (i==j)
 | .str i,.str j=>some (i==j)
 | .non,.non=>some true
 | .int i,.bl b=>some (i==(if b then 1 else 0))
 | .bl b,.int i=>some ((if b then 1 else 0)==i)
 | .non,.int _=>some false | .int _,.non=>some false
 | .non,.bl _=>some false | .bl _,.non=>some false
 | .non,.str _=>some false | .str _,.non=>some false
 | .int _,.str _=>some false | .str _,.int _=>some false
 | .bl _,.str _=>some false | .str _,.bl _=>some false
 |_,_=>none
noncomputable def ZK(f:V->V->Option Bool):List V->List V->Option (List Bool)
 | [],[]=>some []
 |x::xs,y::ys=>match f x y,ZK f xs ys with
  |some b,some bs=>some (b::bs)
  |_,_=>none
 |_,_=>none
noncomputable def eqD(h:AH):Nat->V->V->Option Bool
 | 0,x,y=>eqF x y
 |n+1,.ref a,.ref b=>match h[a]?,h[b]? with
  |some (.lst _ xs),some (.lst _ ys)=>if a=b then some true else if xs.length=ys.length then (ZK (eqD h n) xs ys).map λbs=>bs.all id else some false
  |some (.tup xs),some (.tup ys)=>if a=b then some true else if xs.length=ys.length then (ZK (eqD h n) xs ys).map λbs=>bs.all id else (ZK (eqD h n) (xs.take ys.length) (ys.take xs.length)).map λ_=>false
  |some (.lst _ _),some (.tup _)=>some false
  |some (.tup _),some (.lst _ _)=>some false
  |_,_=>none
 |_+1,.ref a,y=>if (items h a).isSome&&flat y then some false else none
 |_+1,x,.ref b=>if flat x&&(items h b).isSome then some false else none
 |_+1,x,y=>eqF x y
noncomputable abbrev ixN(n:Nat)(i:Int):Option Nat:=L2.ixN n i
noncomputable abbrev cut(xs:List V)(lo hi:Option Int):List V:=L2.cutV xs lo hi
noncomputable def two64:Int:=18446744073709551616
noncomputable def QV(i:Int):Bool:=decide (-two64<i/\i<two64)
noncomputable def mid(i:Int):Bool:=decide (i.natAbs.log2<9000)
noncomputable def m8(x y:V)(f:Int->Int->RV):RV:=match x with
 | .int i=>(match y with | .int j=>f i j|_=>.stuck)
 |_=>.stuck
theorem zO{x y:V}{f:Int->Int->RV}{r:V×AH}(e:m8 x y f=.ok r):∃i j,x=.int i/\y=.int j/\f i j=.ok r:=by
 unfold m8 at e;split at e
 ·split at e
  ·exact⟨_,_,rfl,rfl,e⟩
  ·cases e
 ·cases e
noncomputable def v6(x:V)(f:Nat->RV):RV:=match x with
 | .ref a=>f a
 |_=>.stuck
theorem zW{x:V}{f:Nat->RV}{r:V×AH}(e:v6 x f=.ok r):∃a,x=.ref a/\f a=.ok r:=by
 unfold v6 at e;split at e
 ·exact⟨_,rfl,e⟩
 ·cases e
noncomputable def qEB:BOp->V->V->AH->RV
 | .add,x,y,h=>(match x with
  | .ref a=>v6 y λb=>(match zB h a,zB h b with
   |some xs,some ys=>if xs.length+ys.length<=lim then newL (xs++ys) h else .stuck
   |_,_=>(match qY h a,qY h b with
    |some xs,some ys=>if xs≠[]/\xs.length+ys.length<=lim then (if ys=[] then .ok (.ref a,h) else newT (xs++ys) h) else .stuck
    |_,_=>.stuck))
  |x=>m8 x y λi j=>.ok (.int (i+j),h))
 | .sub,x,y,h=>m8 x y λi j=>.ok (.int (i-j),h)
 | .mul,x,y,h=>(match x with
  | .ref a=>(match y with
   | .int k=>(match zB h a with
    |some xs=>if 0<=k/\xs.length*k.toNat<=lim/\k<1000000 then newL (List.replicate k.toNat xs).flatten h else .stuck
    |none=>.stuck)
   |_=>.stuck)
  |x=>m8 x y λi j=>if QV i||QV j||(mid i&&mid j) then .ok (.int (i*j),h) else .stuck)
 | .fdiv,x,y,h=>m8 x y λi j=>if 0<j/\(j<1073741824\/mid j=true) then .ok (.int (i / j),h) else if j<0/\mid j=true then .ok (.int (i.fdiv j),h) else .stuck
 | .mod,x,y,h=>m8 x y λi j=>if 0<j then .ok (.int (i % j),h) else if j<0 then .ok (.int (i.fmod j),h) else .stuck
 | .pow,x,y,h=>m8 x y λi j=>if 0<=j/\j<=1000/\i.natAbs<18446744073709551616 then .ok (.int (i ^ j.toNat),h) else .stuck
 | .band,x,y,h=>m8 x y λi j=>.ok (.int (PySem.Builtin.bitAnd i j),h)
noncomputable def qDD(x y:V)(f:Int->Int->Bool):Option Bool:=match x with
 | .int i=>(match y with | .int j=>some (f i j)|_=>none)
 |_=>none
theorem Qc{x y:V}{f:Int->Int->Bool}{r:Bool}(e:qDD x y f=some r):∃i j,x=.int i/\y=.int j/\f i j=r:=by
 unfold qDD at e;split at e
 ·split at e
  ·exact⟨_,_,rfl,rfl,Option.some.inj e⟩
  ·cases e
 ·cases e
noncomputable def qBL(y:V)(f:Nat->Option Bool):Option Bool:=match y with
 | .ref a=>f a
 |_=>none
theorem F8{y:V}{f:Nat->Option Bool}{r:Bool}(e:qBL y f=some r):∃a,y=.ref a/\f a=some r:=by
 unfold qBL at e;split at e
 ·exact⟨_,rfl,e⟩
 ·cases e
noncomputable def isC(x y:V)(f:Bool->Bool):Option Bool:=match y with
 | .non=>some (f (decide (x=.non)))
 | .bl d=>(match x with | .bl c=>some (f (c==d))|_=>none)
 |_=>none
theorem j7{x y:V}{f:Bool->Bool}{r:Bool}(e:isC x y f=some r):(y=.non/\f (decide (x=.non))=r)\/∃c d,x=.bl c/\y=.bl d/\f (c==d)=r:=by
 unfold isC at e;split at e
 ·exact .inl ⟨rfl,Option.some.inj e⟩
 ·split at e
  ·exact .inr ⟨_,_,rfl,rfl,Option.some.inj e⟩
  ·cases e
 ·cases e
noncomputable def v7:COp->V->V->AH->Option Bool
 | .lt,x,y,_=>qDD x y λi j=>decide (i<j)
 | .le,x,y,_=>qDD x y λi j=>decide (i<=j)
 | .gt,x,y,_=>qDD x y λi j=>decide (j<i)
 | .ge,x,y,_=>qDD x y λi j=>decide (j<=i)
 | .eq,x,y,h=>eqD h 4 x y
 | .ne,x,y,h=>(eqD h 4 x y).map (!·)
 | .inn,x,y,h=>qBL y λa=>(match items h a with
  |some xs=>if flat x&&xs.all flat then some (xs.any λy=>L2.eqV y x) else none
  |none=>match Qv h a with
   |some kvs=>(match x with | .int i=>some (S5 kvs i)|_=>none)
   |none=>none)
 | .notin,x,y,h=>qBL y λa=>(match items h a with
  |some xs=>if flat x&&xs.all flat then some (!(xs.any λy=>L2.eqV y x)) else none
  |none=>match Qv h a with
   |some kvs=>(match x with | .int i=>some (!S5 kvs i)|_=>none)
   |none=>none)
 | .is,x,y,_=>isC x y id
 | .isnot,x,y,_=>isC x y (!·)
noncomputable def qDA(op:COp)(x y:V)(h:AH):RV:=match v7 op x y h with
 |some b=>.ok (.bl b,h)
 |none=>.stuck
noncomputable def zy:List V->Option (List Int)
 | []=>some []
 | .int i::r=>(zy r).map (i::·)
 |_::_=>none
noncomputable def QC:List V->Option (List Bool)
 | []=>some []
 | .bl b::r=>(QC r).map (b::·)
 |_::_=>none
noncomputable def jE:List V->Option (List Int)
 | []=>some []
 | .int i::r=>(jE r).map (i::·)
 | .bl b::r=>(jE r).map ((if b=true then 1 else 0)::·)
 |_::_=>none
noncomputable def jQ(lo:Int)(n:Nat):List V:=(List.range n).map λ(i:Nat)=>V.int (lo+(i:Int))
noncomputable def ins(x:Int):List Int->List Int
 | []=>[x]
 |y::r=>if x<=y then x::y::r else y::ins x r
noncomputable def one(as:List V)(f:V->RV):RV:=match as with
 | [a]=>f a
 |_=>.stuck
theorem jb{as:List V}{f:V->RV}{r:V×AH}(e:one as f=.ok r):∃a,as=[a]/\f a=.ok r:=by
 unfold one at e;split at e
 ·exact⟨_,rfl,e⟩
 ·cases e
noncomputable def two(as:List V)(f:V->V->RV):RV:=match as with
 | [a,b]=>f a b
 |_=>.stuck
theorem two_inv{as:List V}{f:V->V->RV}{r:V×AH}(e:two as f=.ok r):∃a b,as=[a,b]/\f a b=.ok r:=by
 unfold two at e;split at e
 ·exact⟨_,_,rfl,e⟩
 ·cases e
noncomputable def qBG:V->Option PySem.PyData
 | .non=>some .none
 | .bl b=>some (.bool b)
 | .int i=>some (.int i)
 | .str x=>some (.str x)
 |_=>none
noncomputable def Q0(f:V->Option PySem.PyData):List V->Option (List PySem.PyData)
 | []=>some []
 |x::r=>(f x).bind λd=>(Q0 f r).map λds=>d::ds
noncomputable def dat(h:AH):Nat->V->Option PySem.PyData
 | 0,x=>qBG x
 |n+1,x=>match x with
  | .ref a=>(match h[a]? with
   |some (.lst _ xs)=>(Q0 (dat h n) xs).map .list
   |some (.tup xs)=>(Q0 (dat h n) xs).map .tuple
   |some (.ob (.dct []))=>some (.dict [])
   |_=>none)
  |y=>qBG y
noncomputable def R6(d:PySem.PyData):Option V:=if d.showable=true/\d.shown.length<=PySem.sizeLine then some (.str d.shown) else none
noncomputable def qGP(h:AH)(x:V):Option PySem.PyData:=dat h 4 x
noncomputable def qFJ(h:AH)(x:V):RV:=match (qGP h x).bind R6 with
 |some v=>.ok (v,h)
 |none=>.stuck
noncomputable def qGZ:BF->List V->AH->RV
 | .len,as,h=>one as λx=>v6 x λa=>(match items h a with|some xs=>.ok (.int xs.length,h)|none=>.stuck)
 | .sum,as,h=>one as λx=>v6 x λa=>(match qM h a with
  |some xs=>match jE xs with|some is=>.ok (.int is.sum,h)|none=>.stuck
  |none=>.stuck)
 | .all,as,h=>one as λx=>v6 x λa=>(match qM h a with
  |some xs=>match QC xs with|some bs=>.ok (.bl (bs.all id),h)|none=>.stuck
  |none=>.stuck)
 | .max,as,h=>two as λx y=>m8 x y λi j=>.ok (.int (if j>i then j else i),h)
 | .min,as,h=>two as λx y=>m8 x y λi j=>.ok (.int (if j<i then j else i),h)
 | .list,as,h=>one as λx=>v6 x λa=>(match items h a with|some xs=>newL xs h|none=>.stuck)
 | .int,as,h=>one as λx=>(match x with | .int i=>.ok (.int i,h) | .bl b=>.ok (.int (if b then 1 else 0),h)|_=>.stuck)
 | .bits,as,h=>one as λx=>(match x with | .int i=>.ok (.int ((PySem.Builtin.Int.intBits i:Nat):Int),h)|_=>.stuck)
 | .repr,as,h=>one as λx=>qFJ h x
noncomputable def h8:Mt->Nat->List V->AH->RV
 | .popAt,p,[.int i],h=>match zB h p with
  |some xs=>if xs.length<=lim then (match ixN xs.length i with|some k=>(match xs[k]? with|some y=>.ok (y,h.set p (.lst false (xs.eraseIdx k)))|none=>.stuck)|none=>.stuck) else .stuck
  |none=>.stuck
 |_,_,_,_=>.stuck
noncomputable def zx(h:AH):V->Option String
 | .non=>some "NoneType"
 | .bl _=>some "bool"
 | .int _=>some "int"
 | .str _=>some "str"
 | .ref a=>match h[a]? with|some (.lst _ _)=>some "list" | some (.tup _)=>some "tuple" | some (.ob (.dct _))=>some "dict" | _=>none
 |_=>none
noncomputable def zk(t c:String):Bool:=t==c||(t=="bool"&&c=="int")
inductive Src|list(a:Nat)|tupl(a:Nat)|rng(lo:Int)(n:Nat)|zip(a b:Nat)|enum(a:Nat)
noncomputable def c8(h:AH):Src->Option Nat
 | .list a=>(qM h a).map List.length
 | .tupl a=>(qY h a).map List.length
 | .rng _ n=>some n
 | .zip a b=>match qM h a,qM h b with|some xs,some ys=>some (min xs.length ys.length)|_,_=>none
 | .enum a=>(qM h a).map List.length
noncomputable def qo(h:AH)(i:Nat):Src->Option (V×AH)
 | .list a=>match qM h a with|some xs=>xs[i]?.map λx=>(x,h)|none=>none
 | .tupl a=>match qY h a with|some xs=>xs[i]?.map λx=>(x,h)|none=>none
 | .rng lo n=>if i<n then some (.int (lo+(i:Int)),h) else none
 | .zip a b=>match qM h a,qM h b with
  |some xs,some ys=>match xs[i]?,ys[i]? with|some x,some y=>some (.ref h.length,h++[.tup [x,y]])|_,_=>none
  |_,_=>none
 | .enum a=>match qM h a with|some xs=>xs[i]?.map λx=>(.ref h.length,h++[.tup [.int (i:Int),x]])|none=>none
noncomputable def jU(h:AH)(i:Nat):Src->Bool
 | .list a=>match qM h a with|some xs=>decide (xs.length<=i)|none=>false
 | .tupl a=>match qY h a with|some xs=>decide (xs.length<=i)|none=>false
 | .rng _ n=>decide (n<=i)
 | .zip a b=>match qM h a,qM h b with|some xs,some ys=>decide (xs.length<=i\/ys.length<=i)|_,_=>false
 | .enum a=>match qM h a with|some xs=>decide (xs.length<=i)|none=>false
noncomputable def ZY:List Nat->List V->St->Option St
 | [],[],σ=>some σ
 |i::is,x::xs,σ=>ZY is xs (σ.set i (some x))
 |_,_,_=>none
noncomputable def store:Tg->V->St->AH->Option St
 | .name i,v,σ,_=>some (σ.set i (some v))
 | .tup is,.ref a,σ,h=>match qY h a with|some xs=>ZY is xs σ | none=>none
 | .tup _,_,_,_=>none
noncomputable def A2(s:Src)(g:Tg)(c:St->AH->Res (Bool×AH))(e:St->AH->RV)(D:Nat):Nat->Nat->List V->St->AH->RV
 | 0,i,_,_,h=>if jU h i s then .ok (.ref D,h) else .stuck
 |n+1,i,ys,σ,h=>match qo h i s with
  |some (x,h1)=>match store g x σ h1 with
   |some σ1=>(c σ1 h1).bind λ(b,h2)=>
    if b then (e σ1 h2).bind λ(y,h3)=>if h3[D]?=some (.lst false ys)/\ys.length<lim then A2 s g c e D n (i+1) (ys++[y]) σ1 (h3.set D (.lst false (ys++[y]))) else .stuck
    else if h2[D]?=some (.lst false ys) then A2 s g c e D n (i+1) ys σ1 h2 else .stuck
   |none=>.stuck
  |none=>.stuck
noncomputable def asB(r:RV):Res (Bool×AH):=r.bind λ(v,h)=>match v with | .bl b=>.ok (b,h)|_=>.stuck
section
variable (F:Nat->List V->AH->RV)
mutual
noncomputable def ev:E->St->AH->RV
 | .var i=>λσ h=>match σ[i]? with|some (some v)=>.ok (v,h)|_=>.stuck
 | .cst v=>λ_ h=>.ok (v,h)
 | .glob g=>λ_ h=>.ok (.ref g,h)
 | .bin op a b=>λσ h=>(ev a σ h).bind λ(x,h1)=>(ev b σ h1).bind λ(y,h2)=>qEB op x y h2
 | .neg a=>λσ h=>(ev a σ h).bind λ(x,h1)=>match x with | .int i=>.ok (.int (-i),h1)|_=>.stuck
 | .cmp op a b=>λσ h=>(ev a σ h).bind λ(x,h1)=>(ev b σ h1).bind λ(y,h2)=>qDA op x y h2
 | .cmp2 o1 o2 a b c=>λσ h=>(ev a σ h).bind λ(x,h1)=>(ev b σ h1).bind λ(y,h2)=>match v7 o1 x y h2 with
  |some true=>(ev c σ h2).bind λ(z,h3)=>qDA o2 y z h3
  |some false=>.ok (.bl false,h2)
  |none=>.stuck
 | .and a b=>λσ h=>(asB (ev a σ h)).bind λ(x,h1)=>if x then ev b σ h1 else .ok (.bl false,h1)
 | .or a b=>λσ h=>(asB (ev a σ h)).bind λ(x,h1)=>if x then .ok (.bl true,h1) else ev b σ h1
 | .not a=>λσ h=>(asB (ev a σ h)).bind λ(x,h1)=>.ok (.bl (!x),h1)
 | .ite c a b=>λσ h=>(asB (ev c σ h)).bind λ(x,h1)=>if x then ev a σ h1 else ev b σ h1
 | .call f as=>λσ h=>(evs as σ h).bind λ(xs,h1)=>(F f xs h1).nx
 | .blt f as=>λσ h=>(evs as σ h).bind λ(xs,h1)=>qGZ f xs h1
 | .isi a ts=>λσ h=>(ev a σ h).bind λ(x,h1)=>match zx h1 x with|some t=>.ok (.bl (ts.any (zk t)),h1)|none=>.stuck
 | .idx a b=>λσ h=>(ev a σ h).bind λ(x,h1)=>(ev b σ h1).bind λ(y,h2)=>match x,y with
  | .ref p,.int i=>match items h2 p with
   |some xs=>match (ixN xs.length i).bind λj=>xs[j]? with|some v=>.ok (v,h2)|none=>.stuck
   |none=>.stuck
  |_,_=>.stuck
 | .sl a lo hi=>λσ h=>(ev a σ h).bind λ(x,h1)=>(evs lo σ h1).bind λ(l,h2)=>(evs hi σ h2).bind λ(u,h3)=>
  match x,zy l,zy u with
  | .ref p,some l,some u=>match qM h3 p with
   |some xs=>newL (cut xs l.head? u.head?) h3
   |none=>match qY h3 p with
    |some xs=>if HT.sIx xs.length 0 l.head?=0/\HT.sIx xs.length xs.length u.head?=xs.length then .stuck else newT (cut xs l.head? u.head?) h3
    |none=>.stuck
  |_,_,_=>.stuck
 | .lst as=>λσ h=>(evs as σ h).bind λ(xs,h1)=>if xs.length<=lim then newL xs h1 else .stuck
 | .tup as=>λσ h=>(evs as σ h).bind λ(xs,h1)=>if xs.length<=lim then newT xs h1 else .stuck
 | .comp it src g c e=>λσ h=>(evi it σ h).bind λ(s,h1)=>match c8 (h1++[.lst false []]) s with
  |some n=>A2 s g (evc c) (ev e) h1.length n 0 [] (L2.inner src σ) (h1++[.lst false []])
  |none=>.stuck
 | .app a b=>λσ h=>(ev a σ h).bind λ(x,h1)=>match x with
  | .ref p=>(match qM h1 p with
   |some _=>(ev b σ h1).bind λ(y,h2)=>match zB h2 p with
    |some xs=>if xs.length<lim then .ok (.non,h2.set p (.lst false (xs++[y]))) else .stuck
    |none=>.stuck
   |none=>.stuck)
  |_=>.stuck
 | .dix a b=>λσ h=>(ev a σ h).bind λ(x,h1)=>(ev b σ h1).bind λ(y,h2)=>v6 x λp=>(match y with
  | .int i=>(match Qv h2 p with|some kvs=>(match D3 kvs i with|some v=>if flat v=true then .ok (v,h2) else .stuck|none=>.stuck)|none=>.stuck)
  |_=>.stuck)
 | .dzip a b=>λσ h=>(ev a σ h).bind λ(x,h1)=>(ev b σ h1).bind λ(y,h2)=>v6 x λp=>v6 y λq=>(match qM h2 p with
  |some xs=>(match qM h2 q with
   |some ys=>(match zy xs with
    |some is=>if is.length<=lim/\ys.all flat=true then .ok (.ref h2.length,h2++[.ob (.dct (zZ [] (is.zip ys)))]) else .stuck
    |none=>.stuck)
   |none=>.stuck)
  |none=>.stuck)
 | .lrng a=>λσ h=>(ev a σ h).bind λ(x,h1)=>match x with | .int j=>if -1000000<=j/\j<=100000 then newL (jQ 0 j.toNat) h1 else .stuck|_=>.stuck
 | .dnew=>λ_ h=>.ok (.ref h.length,h++[.ob (.dct [])])
 | .meth m a as=>λσ h=>(ev a σ h).bind λ(x,h1)=>match x with
  | .ref p=>(match qM h1 p with
   |some _=>(evs as σ h1).bind λ(ys,h2)=>h8 m p ys h2
   |none=>.stuck)
  |_=>.stuck
noncomputable def evs:Es->St->AH->Res (List V×AH)
 | .nil=>λ_ h=>.ok ([],h)
 | .cons a as=>λσ h=>(ev a σ h).bind λ(x,h1)=>(evs as σ h1).bind λ(xs,h2)=>.ok (x::xs,h2)
noncomputable def evc:Es->St->AH->Res (Bool×AH)
 | .nil=>λ_ h=>.ok (true,h)
 | .cons a _=>λσ h=>asB (ev a σ h)
noncomputable def evi:Itr->St->AH->Res (Src×AH)
 | .list a=>λσ h=>(ev a σ h).bind λ(x,h1)=>match x with | .ref p=>(match h1[p]? with|some (.lst _ _)=>.ok (.list p,h1)|some (.tup _)=>.ok (.tupl p,h1)|_=>.stuck)|_=>.stuck
 | .rng1 a=>λσ h=>(ev a σ h).bind λ(x,h1)=>match x with | .int j=>if -1000000<=j/\j<=1000000 then .ok (.rng 0 j.toNat,h1) else .stuck|_=>.stuck
 | .zip a b=>λσ h=>(ev a σ h).bind λ(x,h1)=>(ev b σ h1).bind λ(y,h2)=>match x,y with
  | .ref p,.ref q=>match qM h2 p,qM h2 q with|some _,some _=>.ok (.zip p q,h2)|_,_=>.stuck
  |_,_=>.stuck
 | .enum a=>λσ h=>(ev a σ h).bind λ(x,h1)=>match x with | .ref p=>(match qM h1 p with|some _=>.ok (.enum p,h1)|none=>.stuck)|_=>.stuck
end
inductive Out|nx(σ:St)|rt(v:V)|bk(σ:St)|ct(σ:St)
noncomputable abbrev RS:=Res (Out×AH)
noncomputable def v4(s:Src)(g:Tg)(b:St->AH->RS):Nat->Nat->St->AH->RS
 | 0,i,σ,h=>if jU h i s then .ok (.nx σ,h) else .stuck
 |n+1,i,σ,h=>match qo h i s with
  |some (x,h1)=>match store g x σ h1 with
   |some σ1=>(b σ1 h1).bind λ(o,h2)=>match o with
    | .nx σ2=>v4 s g b n (i+1) σ2 h2
    | .ct σ2=>v4 s g b n (i+1) σ2 h2
    | .bk σ2=>.ok (.nx σ2,h2)
    | .rt v=>.ok (.rt v,h2)
   |none=>.stuck
  |none=>.stuck
mutual
noncomputable def ex:S->St->AH->RS
 | .asg g e=>λσ h=>(ev F e σ h).bind λ(x,h1)=>match store g x σ h1 with|some σ1=>.ok (.nx σ1,h1)|none=>.stuck
 | .put o i v=>λσ h=>(ev F v σ h).bind λ(x,h1)=>(ev F o σ h1).bind λ(p,h2)=>(ev F i σ h2).bind λ(k,h3)=>match p,k with
  | .ref a,.int k=>match zB h3 a with
   |some xs=>match ixN xs.length k with|some j=>.ok (.nx σ,h3.set a (.lst false (xs.set j x)))|none=>.stuck
   |none=>match Qv h3 a with
    |some kvs=>if flat x=true/\kvs.length<lim then .ok (.nx σ,h3.set a (.ob (.dct (qAb kvs k x)))) else .stuck
    |none=>.stuck
  |_,_=>.stuck
 | .expr e=>λσ h=>(ev F e σ h).bind λ(_,h1)=>.ok (.nx σ,h1)
 | .ret e=>λσ h=>(ev F e σ h).bind λ(x,h1)=>.ok (.rt x,h1)
 | .ifs c t u=>λσ h=>(asB (ev F c σ h)).bind λ(x,h1)=>if x then exs t σ h1 else exs u σ h1
 | .for_ g it b=>λσ h=>(evi F it σ h).bind λ(s,h1)=>match c8 h1 s with
  |some n=>v4 s g (exs b) n 0 σ h1
  |none=>.stuck
 | .stop=>λ_ _=>.stuck
noncomputable def exs:Ss->St->AH->RS
 | .nil=>λσ h=>.ok (.nx σ,h)
 | .cons s r=>λσ h=>(ex s σ h).bind λ(o,h1)=>match o with
  | .nx σ1=>exs r σ1 h1
  |o=>.ok (o,h1)
end
end
structure Fn where
 npar:Nat
 nslot:Nat
 body:Ss
noncomputable def Fk(tb:List Fn):Nat->Nat->List V->AH->RV
 | 0,_,_,_=>.stuck
 |k+1,f,vs,h=>match tb[f]? with
  |some d=>if vs.length=d.npar/\d.npar<=d.nslot then (exs (Fk tb k) d.body (vs.map some++List.replicate (d.nslot-d.npar) none) h).bind λ(o,h1)=>match o with
    | .nx _=>.ok (.non,h1)
    | .rt v=>.ok (v,h1)
    |_=>.stuck
   else .stuck
  |none=>.stuck
open PySem PySem.Spec PyProof.Rows
open L2 (Hp HO Cx PE PT PA PS PSs TE TT TA TS VK upd qH qF SqL SqT Zx)
def rv(φ:List Addr):V->V->Prop
 | .ref i,.ref a=>φ[i]?=some a
 | .non,.non=>True
 | .bl b,.bl c=>b=c
 | .int i,.int j=>i=j
 | .str x,.str y=>x=y
 |_,_=>False
abbrev rvs(φ:List Addr):List V->List V->Prop:=Paired (rv φ)
def ropt(φ:List Addr):Option V->Option V->Prop
 |some v,oc=>∃w,oc=some w/\rv φ v w
 |none,_=>True
abbrev rst(φ:List Addr):St->St->Prop:=Paired (ropt φ)
def Ext(φ φ':List Addr):Prop:=∃r,φ'=φ++r
theorem Ext.refl(φ:List Addr):Ext φ φ:=⟨[],by simp⟩
theorem Ext.trans{a b c:List Addr}(h:Ext a b)(g:Ext b c):Ext a c:=by
 obtain⟨r,rfl⟩:=h;obtain⟨q,rfl⟩:=g;exact⟨r++q,by simp⟩
theorem Ext.get{φ φ':List Addr}(x:Ext φ φ'){i:Nat}{a:Addr}(h:φ[i]?=some a):φ'[i]?=some a:=by
 obtain⟨r,rfl⟩:=x;rw[List.getElem?_append_left (List.getElem?_eq_some_iff.mp h).1];exact h
theorem rv.mono{φ φ':List Addr}(x:Ext φ φ'):∀{v w:V},rv φ v w->rv φ' v w
 | .ref i,.ref a,h=>x.get h
 | .non,.non,h=>h
 | .bl _,.bl _,h=>h
 | .int _,.int _,h=>h
 | .str _,.str _,h=>h
 | .byt _,_,h=>by cases h
 | .flt _,_,h=>by cases h
 | .ty _,_,h=>by cases h
theorem rvs.mono{φ φ':List Addr}(x:Ext φ φ'){vs ws:List V}(h:rvs φ vs ws):rvs φ' vs ws:=L2.Paired.mapP h λ_ _ r=>rv.mono x r
theorem ropt.mono{φ φ':List Addr}(x:Ext φ φ'):∀{v w:Option V},ropt φ v w->ropt φ' v w
 |some v,oc,h=>by obtain⟨w,e,r⟩:=h;exact⟨w,e,rv.mono x r⟩
 |none,_,_=>trivial
theorem rst.mono{φ φ':List Addr}(x:Ext φ φ'){σ τ:St}(h:rst φ σ τ):rst φ' σ τ:=L2.Paired.mapP h λ_ _ r=>ropt.mono x r
theorem qJ{α β:Type}{R:α->β->Prop}:∀{xs:List α}{ys:List β}{i:Nat}{x:α},Paired R xs ys->xs[i]?=some x->∃y,ys[i]?=some y/\R x y
 |_,_,_,_,.nil,e=>by simp at e
 |_,_,0,_,.cons r _,e=>by simp at e;subst e;exact⟨_,rfl,r⟩
 |_,_,i+1,x,.cons _ t,e=>by
  obtain⟨u,h1,h2⟩:=qJ (i:=i) (x:=x) t (by simpa using e);exact⟨u,by simpa using h1,h2⟩
theorem ze{α β:Type}{R:α->β->Prop}{x:α}{u:β}(r:R x u):∀{xs:List α}{us:List β}(i:Nat),Paired R xs us->Paired R (xs.set i x) (us.set i u)
 |_,_,_,.nil=>.nil
 |_,_,0,.cons _ t=>.cons r t
 |_,_,i+1,.cons q t=>.cons q (ze r i t)
theorem qR{α β:Type}{R:α->β->Prop}:∀{xs ys:List α}{us ws:List β},Paired R xs us->Paired R ys ws->Paired R (xs++ys) (us++ws)
 |_,_,_,_,.nil,s=>s
 |_,_,_,_,.cons r t,s=>.cons r (qR t s)
theorem zP{α β:Type}{R:α->β->Prop}:∀{xs:List α}{us:List β}(n:Nat),Paired R xs us->Paired R (xs.take n) (us.take n)
 |_,_,0,_=>.nil
 |_,_,_+1,.nil=>.nil
 |_,_,n+1,.cons r t=>.cons r (zP n t)
theorem ja{α β:Type}{R:α->β->Prop}:∀{xs:List α}{us:List β}(n:Nat),Paired R xs us->Paired R (xs.drop n) (us.drop n)
 |_,_,0,r=>r
 |_,_,_+1,.nil=>.nil
 |_,_,n+1,.cons _ t=>ja n t
theorem Zc{α β:Type}{R:α->β->Prop}{xs:List α}{us:List β}(h:Paired R xs us):∀k:Nat,Paired R (List.replicate k xs).flatten (List.replicate k us).flatten
 | 0=>.nil
 |k+1=>by
  rw[List.replicate_succ,List.replicate_succ,List.flatten_cons,List.flatten_cons];exact qR h (Zc h k)
noncomputable def kk(p:Int×V):L2.Key×V:=(.inl p.1,p.2)
noncomputable def O.mu:O->Bool
 | .lst false _=>true | .ob (.dct _)=>true|_=>false
def exP(a C:Addr):Heap->Prop:=λh=>∃o,h.get? a=some o/\o.cls=.ref C
def ro(K:PySem.W.Frag)(φ:List Addr)(H:Hp)(a:Addr):O->Prop
 | .lst false xs=>∃ys,H a=some (.lst ys)/\rvs φ xs ys
 | .lst true xs=>∃ys,((∃o,H a=some (.frz o (.lst ys)))\/SqL K (λ_=>none) a ys)/\rvs φ xs ys
 | .tup xs=>∃ys,SqT K H a ys/\rvs φ xs ys
 | .ob (.dct kvs)=>H a=some (.dK (kvs.map kk))
 | .ob (.exn x)=>∃C,PySem.W.nsIn K mainGlobals x=some (some (.ref C))/\H a=some (.ext (exP a C))
structure Rl(K:PySem.W.Frag)(G:List Addr)(φ:List Addr)(h:AH)(H:Hp):Prop where
 len:φ.length=h.length
 glob:Ext G φ
 obj:∀(i:Nat) o a,h[i]?=some o->φ[i]?=some a->ro K φ H a o
 inj:∀(i j:Nat) x y a,x.mu=true->y.mu=true->h[i]?=some x->h[j]?=some y->φ[i]?=some a->φ[j]?=some a->i=j
section
variable{K:PySem.W.Frag}{G φ φ':List Addr}{h:AH}{H H':Hp}{a b p:Addr}
theorem z8{xs:List V}(s:Zx H H')(q:SqT K H a xs):SqT K H' a xs:=by
 rcases q with(h|⟨o,h⟩)|h
 ·exact .inl (.inl (s _ _ h))
 ·exact .inl (.inr ⟨o,s _ _ h⟩)
 ·exact .inr h
theorem qAi{xs:List V}(q:SqL K (λ_=>none) a xs):SqL K H a xs:=by
 rcases q with(h|⟨o,h⟩)|h
 ·cases h
 ·cases h
 ·exact .inr h
theorem Zs{o:HO}(hp:H p=none):Zx H (upd H p o):=λb u e=>by rw[qF (L2.ne_of_none e hp)];exact e
theorem ro.keep{o:O}(x:Ext φ φ')(s:Zx H H')(r:ro K φ H a o):ro K φ' H' a o:=by
 match o,r with
 | .lst false xs,⟨ys,e,r⟩=>exact⟨ys,s _ _ e,rvs.mono x r⟩
 | .lst true xs,⟨ys,.inl ⟨o,e⟩,r⟩=>exact⟨ys,.inl ⟨o,s _ _ e⟩,rvs.mono x r⟩
 | .lst true xs,⟨ys,.inr e,r⟩=>exact⟨ys,.inr e,rvs.mono x r⟩
 | .tup xs,⟨ys,e,r⟩=>exact⟨ys,z8 s e,rvs.mono x r⟩
 | .ob (.dct _),e=>exact s _ _ e
 | .ob (.exn _),⟨C,e1,e2⟩=>exact⟨C,e1,s _ _ e2⟩
def Wr(w:HO):Prop:=(∃zs,w=.lst zs)\/∃ks,w=.dK ks
theorem ro.wr{o:O}(m:o.mu=true)(r:ro K φ H a o):∃w,H a=some w/\Wr w:=by
 match o,m,r with
 | .lst false xs,_,⟨ys,e,r⟩=>exact⟨_,e,.inl ⟨_,rfl⟩⟩
 | .ob (.dct _),_,e=>exact⟨_,e,.inr ⟨_,rfl⟩⟩
theorem Wr.ne{w v:HO}(h:Wr w)(e:H a=some v)(hb:H b=some w)(h1:∀zs,v≠.lst zs)(h2:∀ks,v≠.dK ks):a≠b:=λz=>by
 subst z;rw[e]at hb;cases hb;rcases h with⟨zs,rfl⟩|⟨ks,rfl⟩
 ·exact h1 _ rfl
 ·exact h2 _ rfl
theorem ro.other{o:O}{w w':HO}(hw:Wr w)(hb:H b=some w)(hne:o.mu=true->a≠b)(r:ro K φ H a o):ro K φ (upd H b w') a o:=by
 match o,r with
 | .lst false xs,⟨ys,e,r⟩=>exact⟨ys,by rw[qF (hne rfl)];exact e,r⟩
 | .lst true xs,⟨ys,.inl ⟨o,e⟩,r⟩=>exact⟨ys,.inl ⟨o,by rw[qF (hw.ne e hb (λ_ z=>by cases z) (λ_ z=>by cases z))];exact e⟩,r⟩
 | .lst true xs,⟨ys,.inr e,r⟩=>exact⟨ys,.inr e,r⟩
 | .tup xs,⟨ys,e,r⟩=>
  refine⟨ys,?_,r⟩;rcases e with(h|⟨o,h⟩)|h
  ·exact .inl (.inl (by rw[qF (hw.ne h hb (λ_ z=>by cases z) (λ_ z=>by cases z))];exact h))
  ·exact .inl (.inr ⟨o,by rw[qF (hw.ne h hb (λ_ z=>by cases z) (λ_ z=>by cases z))];exact h⟩)
  ·exact .inr h
 | .ob (.dct _),e=>exact(by show upd H b _ a=_;rw[qF (hne rfl)];exact e)
 | .ob (.exn _),⟨C,e1,e2⟩=>exact⟨C,e1,by rw[qF (hw.ne e2 hb (λ_ z=>by cases z) (λ_ z=>by cases z))];exact e2⟩
theorem Rl.at(R:Rl K G φ h H){i:Nat}{o:O}(e:h[i]?=some o):∃a,φ[i]?=some a/\ro K φ H a o:=by
 have hi:i<φ.length:=by rw[R.len];exact(List.getElem?_eq_some_iff.mp e).1
 exact⟨φ[i],wA hi,R.obj i o _ e (wA hi)⟩
theorem Rl.new(R:Rl K G φ h H)(hp:H p=none){o:O}{ob:HO}(n:ro K (φ++[p]) (upd H p ob) p o):Rl K G (φ++[p]) (h++[o]) (upd H p ob):=by
 have x:Ext φ (φ++[p]):=⟨[p],rfl⟩
 refine⟨by simp[R.len],R.glob.trans x,λi u a e1 e2=>?_,λi j xs ys a m1 m2 e1 e2 e3 e4=>?_⟩
 ·by_cases hi:i<h.length
  ·rw[List.getElem?_append_left hi]at e1;rw[List.getElem?_append_left (by rw[R.len];exact hi)]at e2;exact(R.obj i u a e1 e2).keep x (Zs hp)
  ·have hi':i=h.length:=by
    have:=(List.getElem?_eq_some_iff.mp e1).1;simp at this;omega
   subst hi';simp at e1;rw[<-R.len]at e2;simp at e2;subst e1 e2;exact n
 ·have lt:∀{k:Nat}{z:O},(h++[o])[k]?=some z->(h[k]?=some z/\k<h.length)\/k=h.length:=λ{k zs} e=>by
   by_cases hk:k<h.length
   ·rw[List.getElem?_append_left hk]at e;exact .inl ⟨e,hk⟩
   ·have:=(List.getElem?_eq_some_iff.mp e).1;simp at this;exact .inr (by omega)
  have old:∀{k:Nat}{b:Addr},k<h.length->(φ++[p])[k]?=some b->φ[k]?=some b:=λ{k b} hk e=>by
   rwa [List.getElem?_append_left (by rw[R.len];exact hk)]at e
  have newA:∀{b:Addr},(φ++[p])[h.length]?=some b->b=p:=λ{b} e=>by
   rw[<-R.len]at e;simp at e;exact e.symm
  rcases lt e1 with⟨e1,h1⟩|rfl<;>rcases lt e2 with⟨e2,h2⟩|rfl
  ·exact R.inj i j xs ys a m1 m2 e1 e2 (old h1 e3) (old h2 e4)
  ·have ea:=newA e4;subst ea;obtain⟨w,hz,_⟩:=(R.obj i _ a e1 (old h1 e3)).wr m1;rw[hp]at hz;cases hz
  ·have ea:=newA e3;subst ea;obtain⟨w,hz,_⟩:=(R.obj j _ a e2 (old h2 e4)).wr m2;rw[hp]at hz;cases hz
  ·rfl
theorem Rl.more(R:Rl K G φ h H)(hp:H p=none){ob:HO}:Rl K G φ h (upd H p ob):=
 ⟨R.len,R.glob,λi u a e1 e2=>(R.obj i u a e1 e2).keep (Ext.refl _) (Zs hp),R.inj⟩
theorem Rl.exn(R:Rl K G φ h H){i:Nat}{x:Str}(e:qEr h i=some x):∃a C,φ[i]?=some a/\PySem.W.nsIn K mainGlobals x=some (some (.ref C))/\H a=some (.ext (exP a C)):=by
 unfold qEr at e;split at e
 ·rename_i c q;cases e;obtain⟨a,ea,C,r1,r2⟩:=R.at q;exact⟨a,C,ea,r1,r2⟩
 ·cases e
theorem Rl.newL(R:Rl K G φ h H)(hp:H p=none){xs ys:List V}(r:rvs φ xs ys):Rl K G (φ++[p]) (h++[.lst false xs]) (upd H p (.lst ys)):=
 R.new hp ⟨ys,qH,rvs.mono ⟨[p],rfl⟩ r⟩
theorem Rl.newT(R:Rl K G φ h H)(hp:H p=none){xs ys:List V}(r:rvs φ xs ys):Rl K G (φ++[p]) (h++[.tup xs]) (upd H p (.tup ys)):=
 R.new hp ⟨ys,.inl (.inl qH),rvs.mono ⟨[p],rfl⟩ r⟩
theorem Rl.lastRef(R:Rl K G φ h H):(φ++[p])[h.length]?=some p:=by rw[<-R.len];simp
theorem Rl.write(R:Rl K G φ h H){i:Nat}{x y:O}{w':HO}(mx:x.mu=true)(my:y.mu=true)(e:h[i]?=some x)(ea:φ[i]?=some a)(n:ro K φ (upd H a w') a y):Rl K G φ (h.set i y) (upd H a w'):=by
 have hi:=(List.getElem?_eq_some_iff.mp e).1;obtain⟨w,hw,ww⟩:=(R.obj i _ a e ea).wr mx;have lk:∀{k:Nat}{z:O},z.mu=true->(h.set i y)[k]?=some z->∃z',z'.mu=true/\h[k]?=some z':=λ{k zs} m q=>by
  by_cases hk:k=i
  ·subst hk;exact⟨x,mx,e⟩
  ·rw[wJ (Ne.symm hk)]at q;exact⟨zs,m,q⟩
 refine⟨by simp[R.len],R.glob,λk u b e1 e2=>?_,λk l us vs b m1 m2 e1 e2 e3 e4=>?_⟩
 ·by_cases hk:k=i
  ·subst hk;rw[wL hi]at e1;rw[ea]at e2;cases e1;cases e2;exact n
  ·rw[wJ (Ne.symm hk)]at e1;refine(R.obj k u b e1 e2).other ww hw λmu hb=>?_;subst hb;exact hk (R.inj k i u x b mu mx e1 e e2 ea)
 ·obtain⟨z1,n1,q1⟩:=lk m1 e1;obtain⟨z2,n2,q2⟩:=lk m2 e2;exact R.inj k l z1 z2 b n1 n2 q1 q2 e3 e4
theorem Rl.set(R:Rl K G φ h H){i:Nat}{xs ys zs:List V}(e:h[i]?=some (.lst false xs))(ea:φ[i]?=some a)(r:rvs φ ys zs):Rl K G φ (h.set i (.lst false ys)) (upd H a (.lst zs)):=
 R.write rfl rfl e ea ⟨zs,qH,r⟩
theorem Rl.dct(R:Rl K G φ h H){i:Nat}{kvs:List (Int×V)}(e:Qv h i=some kvs):∃a,φ[i]?=some a/\h[i]?=some (.ob (.dct kvs))/\H a=some (.dK (kvs.map kk)):=by
 unfold Qv at e;split at e
 ·rename_i zs q;cases e;obtain⟨a,ea,r⟩:=R.at q;exact⟨a,ea,q,r⟩
 ·cases e
theorem Rl.lst(R:Rl K G φ h H){i:Nat}{xs:List V}(e:qM h i=some xs):∃a ys,φ[i]?=some a/\SqL K H a ys/\rvs φ xs ys:=by
 unfold qM at e;split at e
 ·rename_i fz zs q;cases e;obtain⟨a,ea,r⟩:=R.at q;cases fz with
  |false=>obtain⟨ys,e,r⟩:=r;exact⟨a,ys,ea,.inl (.inl e),r⟩
  |true=>
   obtain⟨ys,e,r⟩:=r;rcases e with⟨o,e⟩|e
   ·exact⟨a,ys,ea,.inl (.inr ⟨o,e⟩),r⟩
   ·exact⟨a,ys,ea,qAi e,r⟩
 ·cases e
theorem Rl.tup(R:Rl K G φ h H){i:Nat}{xs:List V}(e:qY h i=some xs):∃a ys,φ[i]?=some a/\SqT K H a ys/\rvs φ xs ys:=by
 unfold qY at e;split at e
 ·rename_i zs q;cases e;obtain⟨a,ea,ys,e,r⟩:=R.at q;exact⟨a,ys,ea,e,r⟩
 ·cases e
theorem Rl.mut(R:Rl K G φ h H){i:Nat}{xs:List V}(e:zB h i=some xs):h[i]?=some (.lst false xs)/\∃a ys,φ[i]?=some a/\H a=some (.lst ys)/\rvs φ xs ys:=by
 unfold zB at e;split at e
 ·rename_i zs q;cases e;obtain⟨a,ea,ys,e,r⟩:=R.at q;exact⟨q,a,ys,ea,e,r⟩
 ·cases e
theorem Rl.its(R:Rl K G φ h H){i:Nat}{xs:List V}(e:items h i=some xs):∃a ys,φ[i]?=some a/\(SqL K H a ys\/SqT K H a ys)/\rvs φ xs ys:=by
 unfold items at e;split at e
 ·rename_i fz zs q;cases e;obtain⟨a,ys,h1,h2,h3⟩:=R.lst (i:=i) (xs:=xs) (by unfold qM;rw[q]);exact⟨a,ys,h1,.inl h2,h3⟩
 ·rename_i zs q;cases e;obtain⟨a,ys,h1,h2,h3⟩:=R.tup (i:=i) (xs:=xs) (by unfold qY;rw[q]);exact⟨a,ys,h1,.inr h2,h3⟩
 ·cases e
end
open L2 (PG Inv RelV Vals EP TP AP SP OpR zJ R2)
theorem Res.bind_inv{α β:Type}{r:Res α}{f:α->Res β}{x:β}(h:r.bind f=.ok x):∃a,r=.ok a/\f a=.ok x:=by
 cases r with
 |ok a=>exact⟨a,rfl,h⟩
 |exc c h'=>cases h
 |stuck=>cases h
theorem qB{φ:List Addr}{i:Int}{w:V}(h:rv φ (.int i) w):w=.int i:=by
 cases w with
 |int j=>exact congrArg V.int (show i=j from h).symm
 |_=>exact False.elim h
theorem zN{φ:List Addr}{i:Bool}{w:V}(h:rv φ (.bl i) w):w=.bl i:=by
 cases w with
 |bl j=>exact congrArg V.bl (show i=j from h).symm
 |_=>exact False.elim h
theorem zV{φ:List Addr}{i:Str}{w:V}(h:rv φ (.str i) w):w=.str i:=by
 cases w with
 |str j=>exact congrArg V.str (show i=j from h).symm
 |_=>exact False.elim h
theorem zG{φ:List Addr}{w:V}(h:rv φ .non w):w=.non:=by
 cases w with
 |non=>rfl
 |_=>exact False.elim h
theorem qN{φ:List Addr}{i:Nat}{w:V}(h:rv φ (.ref i) w):∃a,w=.ref a/\φ[i]?=some a:=by
 cases w with
 |ref j=>exact⟨j,rfl,h⟩
 |_=>exact False.elim h
section
variable (K:PySem.W.Frag)(G:List Addr)(F:Nat->List V->AH->RV)
noncomputable def tE(e:E):TE:=λσc H Q=>∃φ h σ v h',Rl K G φ h H/\rst φ σ σc/\ev F e σ h=.ok (v,h')/\∀φ' H' w,Ext φ φ'->Rl K G φ' h' H'->rv φ' v w->Q w H'
noncomputable def tB(r:St->AH->Res (Bool×AH)):TT:=λσc H Q=>∃φ h σ b h',Rl K G φ h H/\rst φ σ σc/\r σ h=.ok (b,h')/\∀φ' H',Ext φ φ'->Rl K G φ' h' H'->Q b H'
noncomputable abbrev tT(e:E):TT:=tB K G (λσ h=>asB (ev F e σ h))
noncomputable def tL(as:Es):TA:=λσc H Q=>∃φ h σ vs h',Rl K G φ h H/\rst φ σ σc/\evs F as σ h=.ok (vs,h')/\∀φ' H' ws,Ext φ φ'->Rl K G φ' h' H'->rvs φ' vs ws->Q ws H'
end
section
variable{X:Cx}{G:List Addr}{F:Nat->List V->AH->RV}
theorem qr{e:Expr}{t t':TE}(h:PE X e t)(w:∀σ H Q,t' σ H Q->t σ H Q):PE X e t':=λpins s σ H Q I q=>h pins s σ H Q I (w σ H Q q)
theorem w4{e:Expr}{t t':TT}(h:PT X e t)(w:∀σ H Q,t' σ H Q->t σ H Q):PT X e t':=λpins s σ H Q I q=>h pins s σ H Q I (w σ H Q q)
theorem qD0{e:List Expr}{t t':TA}(h:PA X e t)(w:∀σ H Q,t' σ H Q->t σ H Q):PA X e t':=λpos pins s σ H Q I q=>h pos pins s σ H Q I (w σ H Q q)
variable (X G F) in
abbrev SE(e:Expr)(a:E):Prop:=PE X e (tE X.K G F a)
variable (X G F) in
abbrev ST(e:Expr)(a:E):Prop:=PT X e (tT X.K G F a)
variable (X G F) in
abbrev SA(es:List Expr)(as:Es):Prop:=PA X es (tL X.K G F as)
variable{K:PySem.W.Frag}{φ φ':List Addr}{h h1 h2:AH}{H:Hp}{σ σc:St}{a b:E}{x y:V}
theorem jd(R:Rl K G φ h H)(rs:rst φ σ σc)(ea:ev F a σ h=.ok (x,h1))(eb:ev F b σ h1=.ok (y,h2)){Rr:V->V->Hp->Prop}
  (k:∀φ2 H2 xc yc,Ext φ φ2->Rl K G φ2 h2 H2->rv φ2 x xc->rv φ2 y yc->Rr xc yc H2):tE K G F a σc H (λxc H1=>tE K G F b σc H1 (λyc H2=>Rr xc yc H2)):=
 ⟨φ,h,σ,x,h1,R,rs,ea,λφ1 H1 xc e1 R1 r1=>⟨φ1,h1,σ,y,h2,R1,rst.mono e1 rs,eb,λφ2 H2 yc e2 R2 r2=>k φ2 H2 xc yc (e1.trans e2) R2 (rv.mono e2 r1) r2⟩⟩
theorem qDU{i:Nat}{n:Str}{pos:Pos}(hN:X.N[i]?=some n)(hv:L2.Vis X.env.scope n)(hd:(n==("__debug__":Str))=false)(hcd:(n==("__classdict__":Str))=false):SE X G F (.Name n pos) (.var i):=by
 refine qr (L2.pe_var hN hv hd hcd) λσc H Q q=>?_;obtain⟨φ,h,σ,v,h',R,rs,e,k⟩:=q;unfold ev at e;split at e
 ·rename_i w q;cases e;obtain⟨oc,ec,r⟩:=qJ rs q;obtain⟨u,rfl,r⟩:=r;exact⟨u,ec,k φ H u (.refl _) R r⟩
 ·cases e
theorem U0{v:V}{w:V}{σc:St}{H:Hp}{Q:VK}(hr:∀φ,rv φ v w)(q:tE K G F (.cst v) σc H Q):L2.tC w σc H Q:=by
 obtain⟨φ,h,σ,v',h',R,rs,e,k⟩:=q;unfold ev at e;cases e;exact k φ H w (.refl _) R (hr φ)
theorem qA4 {i j pos}:SE X G F (.Constant (.int i) j pos) (.cst (.int i)):=qr L2.pe_int λ_ _ _=>U0 λ_=>rfl
theorem qEn {i j pos}:SE X G F (.Constant (.bool i) j pos) (.cst (.bl i)):=qr L2.pe_bl λ_ _ _=>U0 λ_=>rfl
theorem qBR {j pos}:SE X G F (.Constant .none j pos) (.cst .non):=qr L2.pe_non λ_ _ _=>U0 λ_=>trivial
theorem qA3 {i j pos}:SE X G F (.Constant (.str i) j pos) (.cst (.str i)):=qr L2.pe_str λ_ _ _=>U0 λ_=>rfl
theorem qCB{n:Str}{v:V}{u:Value}{pos:Pos}(hg:L2.Gl X n)(hm:X.mg n=some u)(r:RelV v u)(hv:∀φ,rv φ v v)(hd:(n==("__debug__":Str))=false):SE X G F (.Name n pos) (.cst v):=
 qr (L2.pe_glob hg hm r hd) λ_ _ _=>U0 hv
theorem qCx{n:Str}{g:Nat}{a:Addr}{pos:Pos}(hg:L2.Gl X n)(hm:X.mg n=some (.ref a))(hG:G[g]?=some a)(hd:(n==("__debug__":Str))=false):SE X G F (.Name n pos) (.glob g):=by
 refine qr (L2.pe_glob (v:=.ref a) hg hm rfl hd) λσc H Q q=>?_;obtain⟨φ,h,σ,v',h',R,rs,e,k⟩:=q;unfold ev at e;cases e;exact k φ H (.ref a) (.refl _) R (R.glob.get hG)
noncomputable def opB:BOp->Operator
 | .add=>.Add | .sub=>.Sub | .mul=>.Mult | .fdiv=>.FloorDiv | .mod=>.Mod | .pow=>.Pow | .band=>.BitAnd
def qHH(i j:Int):Prop:=j≠0/\j.natAbs.log2<9000
theorem qAY:OpR X (binaryOp .FloorDiv) (L2.rI qHH λi j=>.int (i.fdiv j)):=L2.opI λ_ _ _ _ _ _ _ hc q=>floordiv_int hc.1 q (.inl (PyProof.noPylong_of_log2 hc.2))
def qGe(i j:Int):Prop:=i.natAbs.log2<9000/\j.natAbs.log2<9000
theorem H0{i:Int}(h:i.natAbs.log2<9000):Builtin.Int.intBits i<=2 ^ 20:=by
 unfold Builtin.Int.intBits;have e:(2:Nat) ^ 20=1048576:=by decide
 rw[e];split<;>omega
theorem qB2:OpR X (binaryOp .Mult) (L2.rI qGe λi j=>.int (i*j)):=L2.opI λ_ _ _ _ _ _ _ hc q=>mul_int q (IntMulOk.of_bits (H0 hc.1) (H0 hc.2))
theorem K2{i:Int}(h:mid i=true):i.natAbs.log2<9000:=vf h
noncomputable def qHN(K:PySem.W.Frag):BOp->R2
 | .add=>λx y H Q=>(L2.rI0 (λi j=>.int (i+j)) x y H Q\/L2.rCat x y H Q)\/L2.rCatT K x y H Q
 | .sub=>L2.rI0 λi j=>.int (i-j)
 | .mul=>λx y H Q=>(L2.rI L2.CMul (λi j=>.int (i*j)) x y H Q\/L2.rRep x y H Q)\/L2.rI qGe (λi j=>.int (i*j)) x y H Q
 | .fdiv=>λx y H Q=>L2.rI L2.CDiv (λi j=>.int (i / j)) x y H Q\/L2.rI qHH (λi j=>.int (i.fdiv j)) x y H Q
 | .mod=>λx y H Q=>L2.rI (λ_ j=>0<j) (λi j=>.int (i % j)) x y H Q\/L2.rI (λ_ j=>j≠0) (λi j=>.int (i.fmod j)) x y H Q
 | .pow=>L2.rI L2.CPow λi j=>.int (i ^ j.toNat)
 | .band=>L2.rI0 λi j=>.int (Builtin.bitAnd i j)
theorem qBg:∀op,OpR X (binaryOp (opB op)) (qHN X.K op)
 | .add=>(L2.op_add.or L2.op_cat).or L2.op_catT
 | .sub=>L2.op_sub
 | .mul=>(L2.op_mul.or L2.op_rep).or qB2
 | .fdiv=>L2.op_fdiv.or qAY
 | .mod=>L2.op_mod.or L2.op_modN
 | .pow=>L2.op_pow
 | .band=>L2.op_and
theorem QS:lim<=sizeLine:=by decide
theorem qBO:lim<sizeLine:=by decide
theorem N4{i:Int}(h:QV i=true):-(2 ^ 64)<i/\i<2 ^ 64:=by
 unfold QV two64 at h;have:=vf h;omega
theorem qB4{op:BOp}{v xc yc:V}{h':AH}{Q:VK}(e:qEB op x y h=.ok (v,h'))(R:Rl K G φ h H)(rx:rv φ x xc)(ry:rv φ y yc)
  (k:∀φ' H' w,Ext φ φ'->Rl K G φ' h' H'->rv φ' v w->Q w H'):qHN K op xc yc H Q:=by
 cases op with
 |add=>
  dsimp only[qEB]at e;split at e
  ·replace e:=zW e;obtain⟨b,rfl,e⟩:=e;split at e
   ·rename_i xs ys e1 e2;split at e
    ·rename_i hl;cases e;obtain⟨q1,a1,ys1,ha1,hH1,r1⟩:=R.mut e1;obtain⟨q2,a2,ys2,ha2,hH2,r2⟩:=R.mut e2;obtain⟨b1,rfl,hb1⟩:=qN rx;obtain⟨b2,rfl,hb2⟩:=qN ry;rw[ha1]at hb1;cases hb1;rw[ha2]at hb2;cases hb2;refine .inl (.inr ⟨a1,a2,ys1,ys2,rfl,rfl,hH1,hH2,?_,λp hp=>k (φ++[p]) _ _ ⟨[p],rfl⟩ (R.newL hp (qR r1 r2)) R.lastRef⟩);have l1:=Paired.length r1;have l2:=Paired.length r2;have:=QS;omega
    ·cases e
   ·split at e
    ·rename_i xs ys e1 e2;split at e
     ·rename_i hl;obtain⟨a1,ys1,ha1,hH1,r1⟩:=R.tup e1;obtain⟨a2,ys2,ha2,hH2,r2⟩:=R.tup e2;obtain⟨b1,rfl,hb1⟩:=qN rx;obtain⟨b2,rfl,hb2⟩:=qN ry;rw[ha1]at hb1;cases hb1;rw[ha2]at hb2;cases hb2;have l1:=Paired.length r1;have l2:=Paired.length r2;refine .inr ⟨a1,a2,ys1,ys2,rfl,rfl,hH1,hH2,?_,?_,λz=>?_,λz p hp=>?_⟩
      ·rintro rfl;exact hl.1 (List.length_eq_zero_iff.mp l1)
      ·have:=QS;omega
      ·subst z;rw[if_pos (List.length_eq_zero_iff.mp l2)]at e;cases e;exact k φ H _ (.refl _) R ha1
      ·rw[if_neg (λq=>z (by subst q;exact List.length_eq_zero_iff.mp l2.symm))]at e;cases e;exact k (φ++[p]) _ _ ⟨[p],rfl⟩ (R.newT hp (qR r1 r2)) R.lastRef
     ·cases e
    ·cases e
  ·replace e:=zO e;obtain⟨i,j,rfl,rfl,e⟩:=e;cases e;cases qB rx;cases qB ry;exact .inl (.inl ⟨_,_,rfl,rfl,k φ H _ (.refl _) R rfl⟩)
 |sub=>
  replace e:=zO e;obtain⟨i,j,rfl,rfl,e⟩:=e;cases e;cases qB rx;cases qB ry;exact⟨_,_,rfl,rfl,k φ H _ (.refl _) R rfl⟩
 |mul=>
  dsimp only[qEB]at e;split at e
  ·split at e
   ·split at e
    ·rename_i xs e1;split at e
     ·rename_i hl;obtain⟨h0,hl,h3⟩:=hl;cases e;obtain⟨q1,a1,ys1,ha1,hH1,r1⟩:=R.mut e1;obtain⟨b1,rfl,hb1⟩:=qN rx;rw[ha1]at hb1;cases hb1;cases qB ry;refine .inl (.inr ⟨a1,_,ys1,rfl,rfl,hH1,by omega,by omega,?_,λp hp=>k (φ++[p]) _ _ ⟨[p],rfl⟩ (R.newL hp (Zc r1 _)) R.lastRef⟩);have l1:=Paired.length r1;have:=QS;rw[<-l1];omega
     ·cases e
    ·cases e
   ·cases e
  ·replace e:=zO e;obtain⟨i,j,rfl,rfl,e⟩:=e;split at e
   ·rename_i hs;cases e;cases qB rx;cases qB ry;rw[vX,vX,Bool.and_eq_true]at hs;rcases hs with(z|z)|z
    ·exact .inl (.inl ⟨_,_,rfl,rfl,.inl (N4 z),k φ H _ (.refl _) R rfl⟩)
    ·exact .inl (.inl ⟨_,_,rfl,rfl,.inr (N4 z),k φ H _ (.refl _) R rfl⟩)
    ·exact .inr ⟨_,_,rfl,rfl,⟨K2 z.1,K2 z.2⟩,k φ H _ (.refl _) R rfl⟩
   ·cases e
 |fdiv=>
  replace e:=zO e;obtain⟨i,j,rfl,rfl,e⟩:=e;split at e
  ·rename_i hc;cases e;cases qB rx;cases qB ry;rcases hc.2 with z|z
   ·exact .inl ⟨_,_,rfl,rfl,⟨hc.1,z⟩,k φ H _ (.refl _) R rfl⟩
   ·refine .inr ⟨_,_,rfl,rfl,⟨by omega,K2 z⟩,?_⟩;dsimp only;rw[Int.fdiv_eq_ediv_of_nonneg _ (by omega)];exact k φ H _ (.refl _) R rfl
  ·split at e
   ·rename_i hc;cases e;cases qB rx;cases qB ry;exact .inr ⟨_,_,rfl,rfl,⟨by omega,K2 hc.2⟩,k φ H _ (.refl _) R rfl⟩
   ·cases e
 |mod=>
  replace e:=zO e;obtain⟨i,j,rfl,rfl,e⟩:=e;split at e
  ·rename_i hc;cases e;cases qB rx;cases qB ry;exact .inl ⟨_,_,rfl,rfl,hc,k φ H _ (.refl _) R rfl⟩
  ·split at e
   ·rename_i hc;cases e;cases qB rx;cases qB ry;exact .inr ⟨_,_,rfl,rfl,(by omega),k φ H _ (.refl _) R rfl⟩
   ·cases e
 |pow=>
  replace e:=zO e;obtain⟨i,j,rfl,rfl,e⟩:=e;split at e
  ·rename_i hc;cases e;cases qB rx;cases qB ry;refine⟨_,_,rfl,rfl,⟨hc.1,by omega,by omega⟩,k φ H _ (.refl _) R rfl⟩
  ·cases e
 |band=>
  replace e:=zO e;obtain⟨i,j,rfl,rfl,e⟩:=e;cases e;cases qB rx;cases qB ry;exact⟨_,_,rfl,rfl,k φ H _ (.refl _) R rfl⟩
theorem qEh{op:BOp}{ea eb:Expr}{pos:Pos}(ha:SE X G F ea a)(hb:SE X G F eb b):SE X G F (.BinOp ea (opB op) eb pos) (.bin op a b):=by
 refine qr (L2.pe_op (qBg op) ha hb) λσc H Q q=>?_;obtain⟨φ,h,σ,v,h',R,rs,e,k⟩:=q;unfold ev at e;obtain⟨⟨x,h1⟩,e1,e⟩:=Res.bind_inv e;obtain⟨⟨y,h2⟩,e2,e⟩:=Res.bind_inv e;exact jd R rs e1 e2 λφ2 H2 xc yc x2 R2 r1 r2=>qB4 e R2 r1 r2 λφ' H' w x' R' r'=>k φ' H' w (x2.trans x') R' r'
theorem qDq{ea:Expr}{pos:Pos}(ha:SE X G F ea a):SE X G F (.UnaryOp .USub ea pos) (.neg a):=by
 refine qr (L2.pe_un L2.un_neg ha) λσc H Q q=>?_;obtain⟨φ,h,σ,v,h',R,rs,e,k⟩:=q;unfold ev at e;obtain⟨⟨x,h1⟩,e1,e⟩:=Res.bind_inv e;refine⟨φ,h,σ,x,h1,R,rs,e1,λφ1 H1 xc x1 R1 r1=>?_⟩;dsimp only at e;split at e
 ·cases e;cases qB r1;exact⟨_,rfl,k φ1 H1 _ x1 R1 rfl⟩
 ·cases e
end
open PySem.SeqAt
structure Eq3(A:Around)(s:Shared)(u w:Value)(b:Bool):Prop where
 eq:EqAt A s u w b
 rc:RcAt A s u w b
 ne:RcNeAt A s u w (!b)
theorem JW{A:Around}{s:Shared}{φ:List Addr}:∀{x y xc yc:V}{u w:Value}{b:Bool},eqF x y=some b->rv φ x xc->rv φ y yc->RelV xc u->RelV yc w->Eq3 A s u w b:=by
 intro x y xc yc u w b e rx ry ru rw';cases x with
 |non=>
  cases zG rx;cases ru;cases y with
  |non=>cases zG ry;cases rw';cases e;exact⟨.same _,.none_none,.none_none⟩
  |bl j=>cases zN ry;cases rw';cases e;exact⟨.none_bool _,.none_bool _,.none_bool _⟩
  |int j=>cases qB ry;obtain⟨t,rfl⟩:=rw';cases e;exact⟨.none_int _ _,.none_int _ _,.none_int _ _⟩
  |str j=>cases zV ry;obtain⟨t,rfl⟩:=rw';cases e;exact⟨.none_str _ _,.none_str _ _,.none_str _ _⟩
  |_=>cases e
 |bl i=>
  cases zN rx;cases ru;cases y with
  |non=>cases zG ry;cases rw';cases e;exact⟨.bool_none _,.bool_none _,.bool_none _⟩
  |bl j=>cases zN ry;cases rw';cases e;exact⟨.bool_bool _ _,.bool_bool _ _,.bool_bool _ _⟩
  |int j=>cases qB ry;obtain⟨t,rfl⟩:=rw';cases e;exact⟨.bool_int _ _ _,.bool_int _ _ _,.bool_int _ _ _⟩
  |str j=>cases zV ry;obtain⟨t,rfl⟩:=rw';cases e;exact⟨.bool_str _ _ _,.bool_str _ _ _,.bool_str _ _ _⟩
  |_=>cases e
 |int i=>
  cases qB rx;obtain⟨t,rfl⟩:=ru;cases y with
  |non=>cases zG ry;cases rw';cases e;exact⟨.int_none _ _,.int_none _ _,.int_none _ _⟩
  |bl j=>cases zN ry;cases rw';cases e;exact⟨.int_bool _ _ _,.int_bool _ _ _,.int_bool _ _ _⟩
  |int j=>cases qB ry;obtain⟨t,rfl⟩:=rw';cases e;exact⟨.int_int _ _ _ _,.int_int _ _ _ _,.int_int _ _ _ _⟩
  |str j=>cases zV ry;obtain⟨t,rfl⟩:=rw';cases e;exact⟨.int_str _ _ _ _,.int_str _ _ _ _,.int_str _ _ _ _⟩
  |_=>cases e
 |str i=>
  cases zV rx;obtain⟨t,rfl⟩:=ru;cases y with
  |non=>cases zG ry;cases rw';cases e;exact⟨.str_none _ _,.str_none _ _,.str_none _ _⟩
  |bl j=>cases zN ry;cases rw';cases e;exact⟨.str_bool _ _ _,.str_bool _ _ _,.str_bool _ _ _⟩
  |int j=>cases qB ry;obtain⟨t,rfl⟩:=rw';cases e;exact⟨.str_int _ _ _ _,.str_int _ _ _ _,.str_int _ _ _ _⟩
  |str j=>cases zV ry;obtain⟨t,rfl⟩:=rw';cases e;exact⟨.str_str _ _ _ _,.str_str _ _ _ _,.str_str _ _ _ _⟩
  |_=>cases e
 |_=>cases y<;>cases e
theorem J4{φ:List Addr}{x y w:V}{b:Bool}(e:eqF x y=some b)(rx:rv φ x w)(ry:rv φ y w):b=true:=by
 cases x with
 |non=>cases zG rx;cases y<;>first|exact False.elim ry|(cases e;rfl)|cases e
 |bl i=>cases zN rx;cases y<;>first|exact False.elim ry|(rename_i j;cases (show j=i from ry);cases e;simp)|cases e
 |int i=>cases qB rx;cases y<;>first|exact False.elim ry|(rename_i j;cases (show j=i from ry);cases e;simp)|cases e
 |str i=>cases zV rx;cases y<;>first|exact False.elim ry|(rename_i j;cases (show j=i from ry);cases e;simp)|cases e
 |_=>cases y<;>cases e
theorem Qj{f:V->V->Option Bool}:∀{xs ys:List V}{bs:List Bool},ZK f xs ys=some bs->bs.length=xs.length/\ys.length=xs.length/\∀(j:Nat) x y,xs[j]?=some x->ys[j]?=some y->∃b,bs[j]?=some b/\f x y=some b
 | [],[],bs,e=>by
  cases e;exact⟨rfl,rfl,λj x y h=>by simp at h⟩
 | [],_::_,_,e=>by cases e
 |_::_,[],_,e=>by cases e
 |x::xs,y::ys,bs,e=>by
  unfold ZK at e;split at e
  ·rename_i b bs' e1 e2;cases e;obtain⟨l1,l2,k⟩:=Qj e2;refine⟨by simp[l1],by simp[l2],λj u v h1 h2=>?_⟩;cases j with
   |zero=>simp at h1 h2;subst h1 h2;exact⟨b,rfl,e1⟩
   |succ j=>obtain⟨b',h3,h4⟩:=k j u v (by simpa using h1) (by simpa using h2);exact⟨b',by simpa using h3,h4⟩
  ·cases e
theorem Jt(bs:List Bool):(List.range bs.length).all (λj=>bs.getD j true)=bs.all id:=by
 rw[wX];simp only[List.all_eq_true,wS,id];constructor
 ·intro h b hb;obtain⟨j,hj,rfl⟩:=vS.mp hb;have:=h j hj;rw[wB,wA hj]at this;exact this
 ·intro h j hj;rw[wB,wA hj];exact h _ (vQ hj)
section
variable{X:Cx}{G φ:List Addr}{h:AH}{H:Hp}{pins:List (Addr×Obj)}{σ:L2.St}{s:Shared}
theorem K8(I:Inv X pins σ H s)(R:Rl X.K G φ h H):∀(n:Nat){x y w:V}{b:Bool},eqD h n x y=some b->rv φ x w->rv φ y w->b=true
 | 0,x,y,w,b,e,rx,ry=>J4 e rx ry
 |n+1,x,y,w,b,e,rx,ry=>by
  have all:∀{xs ys zs:List V}{bs:List Bool},rvs φ xs zs->rvs φ ys zs->ZK (eqD h n) xs ys=some bs->bs.all id=true:=λ{xs ys zs bs} r1 r2 e=>by
   obtain⟨l1,l2,k⟩:=Qj e;rw[List.all_eq_true];intro b hb;obtain⟨j,hj,rfl⟩:=vS.mp hb;have hx:j<xs.length:=by omega
   have hy:j<ys.length:=by omega
   obtain⟨b',hb',e'⟩:=k j _ _ (wA hx) (wA hy);rw[wA hj]at hb';cases hb';obtain⟨z,hz,q1⟩:=qJ r1 (wA hx);obtain⟨z',hz',q2⟩:=qJ r2 (wA hy);rw[hz]at hz';cases hz';exact K8 I R n e' q1 q2
  cases x with
  |ref a=>
   obtain⟨p,rfl,hp⟩:=qN rx;cases y with
   |ref c=>
    have hc:φ[c]?=some p:=ry;simp only[eqD]at e;split at e
    ·rename_i f1 xs f2 ys e1 e2;split at e
     ·cases e;rfl
     ·obtain⟨p1,z1,q1,s1,r1⟩:=R.lst (i:=a) (xs:=xs) (by unfold qM;rw[e1]);obtain⟨p2,z2,q2,s2,r2⟩:=R.lst (i:=c) (xs:=ys) (by unfold qM;rw[e2]);rw[hp]at q1;cases q1;rw[hc]at q2;cases q2;have:=I.list_inj s1 s2;subst this;split at e
      ·obtain⟨bs,e3,rfl⟩:=Option.map_eq_some_iff.mp e;exact all r1 r2 e3
      ·rename_i hne;exact absurd ((Paired.length r1).trans (Paired.length r2).symm) hne
    ·rename_i xs ys e1 e2;split at e
     ·cases e;rfl
     ·obtain⟨p1,z1,q1,s1,r1⟩:=R.tup (i:=a) (xs:=xs) (by unfold qY;rw[e1]);obtain⟨p2,z2,q2,s2,r2⟩:=R.tup (i:=c) (xs:=ys) (by unfold qY;rw[e2]);rw[hp]at q1;cases q1;rw[hc]at q2;cases q2;have:=I.tuple_inj s1 s2;subst this;split at e
      ·obtain⟨bs,e3,rfl⟩:=Option.map_eq_some_iff.mp e;exact all r1 r2 e3
      ·rename_i hne;exact absurd ((Paired.length r1).trans (Paired.length r2).symm) hne
    ·rename_i f1 xs ys e1 e2;obtain⟨p1,z1,q1,s1,r1⟩:=R.lst (i:=a) (xs:=xs) (by unfold qM;rw[e1]);obtain⟨p2,z2,q2,s2,r2⟩:=R.tup (i:=c) (xs:=ys) (by unfold qY;rw[e2]);rw[hp]at q1;cases q1;rw[hc]at q2;cases q2;obtain⟨i1,_,t1,_⟩:=I.list s1;obtain⟨i2,_,t2,_⟩:=I.tuple s2;exact absurd rfl (ne_of_list_tuple t1.isList t2)
    ·rename_i xs f1 ys e1 e2;obtain⟨p1,z1,q1,s1,r1⟩:=R.tup (i:=a) (xs:=xs) (by unfold qY;rw[e1]);obtain⟨p2,z2,q2,s2,r2⟩:=R.lst (i:=c) (xs:=ys) (by unfold qM;rw[e2]);rw[hp]at q1;cases q1;rw[hc]at q2;cases q2;obtain⟨i1,_,t1,_⟩:=I.tuple s1;obtain⟨i2,_,t2,_⟩:=I.list s2;exact absurd rfl (ne_of_list_tuple t2.isList t1)
    ·cases e
   |_=>exact False.elim ry
  |_=>
   cases y with
   |ref c=>
    obtain⟨p,rfl,hp⟩:=qN ry;exact False.elim rx
   |_=>exact J4 e rx ry
theorem Z0(I:Inv X pins σ H s)(R:Rl X.K G φ h H):∀(n:Nat){A:Around}{x y xc yc:V}{u w:Value}{b:Bool},A.units+n<cLine->eqD h n x y=some b->rv φ x xc->rv φ y yc->RelV xc u->RelV yc w->Eq3 A s u w b
 | 0,A,x,y,xc,yc,u,w,b,hu,e,rx,ry,ru,rw'=>JW e rx ry ru rw'
 |n+1,A,x,y,xc,yc,u,w,b,hu,e,rx,ry,ru,rw'=>by
  have hu0:A.units<cLine:=by omega
  have hu1:A.in1.units+n<cLine:=by show A.units+1+n<cLine;omega
  have item:∀{xs ys zs ts:List V}{us ws:List Value}{bs:List Bool},rvs φ xs zs->rvs φ ys ts->Vals zs us->Vals ts ws->ZK (eqD h n) xs ys=some bs->us.length=bs.length/\ws.length=bs.length/\
    ∀(j:Nat) (h1:j<us.toArray.size) (h2:j<ws.toArray.size),EqAt A.in1 s us.toArray[j] ws.toArray[j] (bs.getD j true):=λ{xs ys zs ts us ws bs} r1 r2 v1 v2 e=>by
   obtain⟨l1,l2,k⟩:=Qj e;have n1:=Paired.length r1;have n2:=Paired.length r2;have n3:=v1.length;have n4:=v2.length;refine⟨by omega,by omega,λj h1 h2=>?_⟩;have g1:j<us.length:=by simpa using h1
   have g2:j<ws.length:=by simpa using h2
   have hx:j<xs.length:=by omega
   have hy:j<ys.length:=by omega
   obtain⟨b',hb',e'⟩:=k j _ _ (wA hx) (wA hy);obtain⟨z,hz,q1⟩:=qJ r1 (wA hx);obtain⟨t,ht,q2⟩:=qJ r2 (wA hy);obtain⟨u',hu',q3⟩:=v1.get hz;obtain⟨w',hw',q4⟩:=v2.get ht;rw[wA g1]at hu';rw[wA g2]at hw';cases hu';cases hw';rw[wB,hb'];have:=(Z0 I R n (A:=A.in1) hu1 e' q1 q2 q3 q4).eq;simpa using this
  have refs:∀{a:Nat}{p:Addr}{v:V}{b:Bool},φ[a]?=some p->(if (items h a).isSome&&flat v then some false else none)=some b->b=false/\∃its,s.heap.IsList p its\/s.heap.IsTuple p its:=λ{a p v b} hp e=>by
   cases ea:h[a]? with
   |none=>rw[show items h a=none from(by unfold items;rw[ea])]at e;cases e
   |some o=>
    have hb:b=false:=by
     split at e
     ·cases e;rfl
     ·cases e
    refine⟨hb,?_⟩;cases o with
    |lst f xs=>
     obtain⟨p1,z1,q1,s1,r1⟩:=R.lst (i:=a) (xs:=xs) (by unfold qM;rw[ea]);rw[hp]at q1;cases q1;obtain⟨i1,_,t1,_⟩:=I.list s1;exact⟨_,.inl t1.isList⟩
    |tup xs=>
     obtain⟨p1,z1,q1,s1,r1⟩:=R.tup (i:=a) (xs:=xs) (by unfold qY;rw[ea]);rw[hp]at q1;cases q1;obtain⟨i1,_,t1,_⟩:=I.tuple s1;exact⟨_,.inr t1⟩
    |ob ks=>rw[show items h a=none from(by unfold items;rw[ea])]at e;cases e
  cases x with
  |ref a=>
   obtain⟨p,rfl,hp⟩:=qN rx;cases ru;cases y with
   |ref c=>
    obtain⟨q,rfl,hq⟩:=qN ry;cases rw';have same:p=q->b=true:=λz=>by
     subst z;exact K8 I R (n+1) e rx (show rv φ (.ref c) (.ref p) from hq)
    simp only[eqD]at e;split at e
    ·rename_i f1 xs f2 ys e1 e2;obtain⟨p1,z1,q1,s1,r1⟩:=R.lst (i:=a) (xs:=xs) (by unfold qM;rw[e1]);obtain⟨p2,z2,q2,s2,r2⟩:=R.lst (i:=c) (xs:=ys) (by unfold qM;rw[e2]);rw[hp]at q1;cases q1;rw[hq]at q2;cases q2;obtain⟨i1,v1,t1,_⟩:=I.list s1;obtain⟨i2,v2,t2,_⟩:=I.list s2;split at e
     ·rename_i hac;subst hac;rw[hp]at hq;cases hq;cases e;have rc:=RcAt.lists (A:=A) (e:=λ_=>true) t1.isList t1.isList rfl hu0 λj _ _=>EqAt.same _;have ne:=RcNeAt.lists (A:=A) (e:=λ_=>true) t1.isList t1.isList rfl hu0 λj _ _=>EqAt.same _;have al:∀l:List Nat,(l.all λ_=>true)=true:=λl=>by simp
      rw[al]at rc ne;exact⟨.same _,rc,ne⟩
     ·split at e
      ·obtain⟨bs,e3,rfl⟩:=Option.map_eq_some_iff.mp e;obtain⟨m1,m2,he⟩:=item r1 r2 v1 v2 e3;have hsz:i1.toArray.size=i2.toArray.size:=by simp;omega
       have rc:=RcAt.lists (A:=A) (e:=λj=>bs.getD j true) t1.isList t2.isList hsz hu0 he;have ne:=RcNeAt.lists (A:=A) (e:=λj=>bs.getD j true) t1.isList t2.isList hsz hu0 he;have sz:i1.toArray.size=bs.length:=by simpa using m1
       rw[sz,Jt]at rc ne;refine⟨?_,rc,ne⟩;by_cases hpq:p=q
       ·rw[same hpq];subst hpq;exact .same _
       ·exact .of_refs hpq rc
      ·rename_i hl;cases e;have n1:=Paired.length r1;have n2:=Paired.length r2;have n3:=v1.length;have n4:=v2.length;have hsz:(i1.toArray.size != i2.toArray.size)=true:=by simp;omega
       have rc:=RcAt.lists_lengths (A:=A) t1.isList t2.isList hsz hu0;have ne:=RcNeAt.lists_lengths (A:=A) t1.isList t2.isList hsz hu0;refine⟨?_,rc,ne⟩;by_cases hpq:p=q
       ·exact absurd (same hpq) (by decide)
       ·exact .of_refs hpq rc
    ·rename_i xs ys e1 e2;obtain⟨p1,z1,q1,s1,r1⟩:=R.tup (i:=a) (xs:=xs) (by unfold qY;rw[e1]);obtain⟨p2,z2,q2,s2,r2⟩:=R.tup (i:=c) (xs:=ys) (by unfold qY;rw[e2]);rw[hp]at q1;cases q1;rw[hq]at q2;cases q2;obtain⟨i1,v1,t1,_⟩:=I.tuple s1;obtain⟨i2,v2,t2,_⟩:=I.tuple s2;have t1':s.heap.IsTuple p i1.toArray:=t1;have t2':s.heap.IsTuple q i2.toArray:=t2;split at e
     ·rename_i hac;subst hac;rw[hp]at hq;cases hq;cases e;have rc:=RcAt.tuples (A:=A) (e:=λ_=>true) t1' t1' hu0 λj _ _=>EqAt.same _;have ne:=RcNeAt.tuples (A:=A) (e:=λ_=>true) t1' t1' hu0 λj _ _=>EqAt.same _;have al:∀l:List Nat,(l.all λ_=>true)=true:=λl=>by simp
      rw[al]at rc ne;simp only[vh,Bool.and_self]at rc ne;exact⟨.same _,rc,ne⟩
     ·split at e
      ·obtain⟨bs,e3,rfl⟩:=Option.map_eq_some_iff.mp e;obtain⟨m1,m2,he⟩:=item r1 r2 v1 v2 e3;have hsz:i1.toArray.size=i2.toArray.size:=by simp;omega
       have rc:=RcAt.tuples (A:=A) (e:=λj=>bs.getD j true) t1' t2' hu0 he;have ne:=RcNeAt.tuples (A:=A) (e:=λj=>bs.getD j true) t1' t2' hu0 he;have sz:i1.toArray.size=bs.length:=by simpa using m1
       have sz2:i2.toArray.size=bs.length:=by simpa using m2
       rw[sz,sz2,Nat.min_self,Jt,vh,Bool.and_true]at rc ne;refine⟨?_,rc,ne⟩;by_cases hpq:p=q
       ·rw[same hpq];subst hpq;exact .same _
       ·exact .of_refs hpq rc
      ·rename_i hl;have n1:=Paired.length r1;have n2:=Paired.length r2;have n3:=v1.length;have n4:=v2.length;obtain⟨bs,e3,hb⟩:=Option.map_eq_some_iff.mp e;subst hb;have hsz:(i1.toArray.size==i2.toArray.size)=false:=by simp;omega
       obtain⟨m1,m2,he⟩:=item (zP ys.length r1) (zP xs.length r2) (v1.take ys.length) (v2.take xs.length) e3;have he':∀(j:Nat) (h1:j<i1.toArray.size) (h2:j<i2.toArray.size),EqAt A.in1 s i1.toArray[j] i2.toArray[j] (bs.getD j true):=λj h1 h2=>by
        have g1:j<i1.length:=by simpa using h1
        have g2:j<i2.length:=by simpa using h2
        have:=he j (by simp;omega) (by simp;omega);simpa using this
       have rc:=RcAt.tuples (A:=A) (e:=λj=>bs.getD j true) t1' t2' hu0 he';have ne:=RcNeAt.tuples (A:=A) (e:=λj=>bs.getD j true) t1' t2' hu0 he';rw[hsz,wq]at rc ne;refine⟨?_,rc,ne⟩;by_cases hpq:p=q
       ·exact absurd (same hpq) (by decide)
       ·exact .of_refs hpq rc
    ·rename_i f1 xs ys e1 e2;cases e;obtain⟨p1,z1,q1,s1,r1⟩:=R.lst (i:=a) (xs:=xs) (by unfold qM;rw[e1]);obtain⟨p2,z2,q2,s2,r2⟩:=R.tup (i:=c) (xs:=ys) (by unfold qY;rw[e2]);rw[hp]at q1;cases q1;rw[hq]at q2;cases q2;obtain⟨i1,_,t1,_⟩:=I.list s1;obtain⟨i2,_,t2,_⟩:=I.tuple s2;exact⟨.list_tuple t1.isList t2 hu0,.list_tuple t1.isList t2 hu0,.list_tuple t1.isList t2 hu0⟩
    ·rename_i xs f1 ys e1 e2;cases e;obtain⟨p1,z1,q1,s1,r1⟩:=R.tup (i:=a) (xs:=xs) (by unfold qY;rw[e1]);obtain⟨p2,z2,q2,s2,r2⟩:=R.lst (i:=c) (xs:=ys) (by unfold qM;rw[e2]);rw[hp]at q1;cases q1;rw[hq]at q2;cases q2;obtain⟨i1,_,t1,_⟩:=I.tuple s1;obtain⟨i2,_,t2,_⟩:=I.list s2;exact⟨.tuple_list t1 t2.isList hu0,.tuple_list t1 t2.isList hu0,.tuple_list t1 t2.isList hu0⟩
    ·cases e
   |non=>
    cases zG ry;cases rw';rcases refs hp (show (if (items h a).isSome&&flat V.non then some false else none)=some b from e) with⟨rfl,its,t|t⟩
    ·exact⟨.list_none t hu0,.list_none t hu0,.list_none t hu0⟩
    ·exact⟨.tuple_none t hu0,.tuple_none t hu0,.tuple_none t hu0⟩
   |bl j=>
    cases zN ry;cases rw';rcases refs hp (show (if (items h a).isSome&&flat (V.bl j) then some false else none)=some b from e) with⟨rfl,its,t|t⟩
    ·exact⟨.list_bool _ t hu0,.list_bool _ t hu0,.list_bool _ t hu0⟩
    ·exact⟨.tuple_bool _ t hu0,.tuple_bool _ t hu0,.tuple_bool _ t hu0⟩
   |int j=>
    cases qB ry;obtain⟨t',rfl⟩:=rw';rcases refs hp (show (if (items h a).isSome&&flat (V.int j) then some false else none)=some b from e) with⟨rfl,its,t|t⟩
    ·exact⟨.list_int _ _ t hu0,.list_int _ _ t hu0,.list_int _ _ t hu0⟩
    ·exact⟨.tuple_int _ _ t hu0,.tuple_int _ _ t hu0,.tuple_int _ _ t hu0⟩
   |str j=>
    cases zV ry;obtain⟨t',rfl⟩:=rw';rcases refs hp (show (if (items h a).isSome&&flat (V.str j) then some false else none)=some b from e) with⟨rfl,its,t|t⟩
    ·exact⟨.list_str _ _ t hu0,.list_str _ _ t hu0,.list_str _ _ t hu0⟩
    ·exact⟨.tuple_str _ _ t hu0,.tuple_str _ _ t hu0,.tuple_str _ _ t hu0⟩
   |_=>exact False.elim ry
  |non=>
   cases y with
   |ref c=>
    obtain⟨p,rfl,hp⟩:=qN ry;cases rw';cases zG rx;cases ru;rcases refs hp (show (if (items h c).isSome&&flat V.non then some false else none)=some b from(Bool.and_comm _ _) ▸ e) with⟨rfl,its,t|t⟩
    ·exact⟨.none_list t hu0,.none_list t hu0,.none_list t hu0⟩
    ·exact⟨.none_tuple t hu0,.none_tuple t hu0,.none_tuple t hu0⟩
   |_=>exact JW e rx ry ru rw'
  |bl i=>
   cases y with
   |ref c=>
    obtain⟨p,rfl,hp⟩:=qN ry;cases rw';cases zN rx;cases ru;rcases refs hp (show (if (items h c).isSome&&flat (V.bl i) then some false else none)=some b from(Bool.and_comm _ _) ▸ e) with⟨rfl,its,t|t⟩
    ·exact⟨.bool_list _ t hu0,.bool_list _ t hu0,.bool_list _ t hu0⟩
    ·exact⟨.bool_tuple _ t hu0,.bool_tuple _ t hu0,.bool_tuple _ t hu0⟩
   |_=>exact JW e rx ry ru rw'
  |int i=>
   cases y with
   |ref c=>
    obtain⟨p,rfl,hp⟩:=qN ry;cases rw';cases qB rx;obtain⟨t',rfl⟩:=ru;rcases refs hp (show (if (items h c).isSome&&flat (V.int i) then some false else none)=some b from(Bool.and_comm _ _) ▸ e) with⟨rfl,its,t|t⟩
    ·exact⟨.int_list _ _ t hu0,.int_list _ _ t hu0,.int_list _ _ t hu0⟩
    ·exact⟨.int_tuple _ _ t hu0,.int_tuple _ _ t hu0,.int_tuple _ _ t hu0⟩
   |_=>exact JW e rx ry ru rw'
  |str i=>
   cases y with
   |ref c=>
    obtain⟨p,rfl,hp⟩:=qN ry;cases rw';cases zV rx;obtain⟨t',rfl⟩:=ru;rcases refs hp (show (if (items h c).isSome&&flat (V.str i) then some false else none)=some b from(Bool.and_comm _ _) ▸ e) with⟨rfl,its,t|t⟩
    ·exact⟨.str_list _ _ t hu0,.str_list _ _ t hu0,.str_list _ _ t hu0⟩
    ·exact⟨.str_tuple _ _ t hu0,.str_tuple _ _ t hu0,.str_tuple _ _ t hu0⟩
   |_=>exact JW e rx ry ru rw'
  |_=>cases xc<;>exact False.elim rx
end
theorem E7{φ:List Addr}:∀{x w:V},flat x=true->rv φ x w->w=x
 | .non,_,_,h=>zG h
 | .bl _,_,_,h=>zN h
 | .int _,_,_,h=>qB h
 | .str _,_,_,h=>zV h
 | .ref _,_,f,_=>by cases f
 | .byt _,_,f,_=>by cases f
 | .flt _,_,f,_=>by cases f
 | .ty _,_,f,_=>by cases f
theorem jN{φ:List Addr}:∀{xs ws:List V},xs.all flat=true->rvs φ xs ws->ws=xs
 |_,_,_,.nil=>rfl
 |x::xs,w::ws,f,.cons r t=>by
  simp only[List.all_cons,Bool.and_eq_true]at f;rw[E7 f.1 r,jN f.2 t]
theorem K7:∀x:V,L2.flatV x=flat x:=by intro x;cases x<;>rfl
theorem U7(xs:List V):xs.all L2.flatV=xs.all flat:=by
 induction xs with
 |nil=>rfl
 |cons x xs ih=>rw[List.all_cons,List.all_cons,ih,K7]
section
variable{X:Cx}{G:List Addr}{F:Nat->List V->AH->RV}
noncomputable def opC:COp->CmpOp
 | .lt=>.Lt | .le=>.LtE | .gt=>.Gt | .ge=>.GtE | .eq=>.Eq | .ne=>.NotEq | .inn=>.In | .notin=>.NotIn | .is=>.Is | .isnot=>.IsNot
variable (X G) in
noncomputable def qFC(op:COp):R2:=λx y H Q=>∃φ h xa ya b,Rl X.K G φ h H/\rv φ xa x/\rv φ ya y/\v7 op xa ya h=some b/\Q (.bl b) H
theorem G4{φ:List Addr}{x y:V}(r:rv φ x y):decide (x=V.non)=decide (y=V.non):=by
 by_cases hx:x=V.non
 ·subst hx;cases zG r;rfl
 ·have hy:y≠V.non:=λhy=>by subst hy;cases x<;>first|exact hx rfl|exact False.elim r
  rw[vc hx,vc hy]
theorem B8(kvs:List (Int×V))(i:Int):((kvs.map kk).any λkv=>decide (kv.1=Sum.inl i))=S5 kvs i:=by
 unfold S5;rw[List.any_map];congr 1
 funext p
 show decide ((Sum.inl p.1:L2.Key)=Sum.inl i)=_;rw[wX];simp
theorem X4(kvs:List (Int×V))(i:Int)(v:V):L2.putK (kvs.map kk) (Sum.inl i:L2.Key) v=(qAb kvs i v).map kk:=by
 unfold L2.putK qAb;rw[B8];split
 ·rw[wc,wc];congr 1
  funext p
  show (if (Sum.inl p.1:L2.Key)=Sum.inl i then ((Sum.inl p.1:L2.Key),v) else kk p)=kk (if p.1=i then (p.1,v) else p);by_cases h:p.1=i
  ·rw[if_pos (by rw[h]),if_pos h];rfl
  ·rw[if_neg (λz=>h (Sum.inl.inj z)),if_neg h]
 ·rw[wR];rfl
theorem QL(hu:X.A.units+8<cLine):∀op,OpR X (compareOp (opC op)) (qFC X G op):=by
 intro op pins s σ H x y v u Q I rx ry ⟨φ,h,xa,ya,b,R,r1,r2,e,q⟩;have hin:∀(neg:Bool){p:Nat}{ya':V}(e:(match items h p with|some xs=>if flat xa&&xs.all flat then some (if neg then !(xs.any λy=>L2.eqV y xa) else xs.any λy=>L2.eqV y xa) else none|none=>none)=some b),rv φ (.ref p) y->L2.rIn X.K neg x y H Q:=by
  intro neg p ya' e r2;split at e
  ·rename_i xs ex;split at e
   ·rename_i hf;simp only[Bool.and_eq_true]at hf;obtain⟨a,ys,ha,hs,rs⟩:=R.its ex;obtain⟨a',rfl,ha'⟩:=qN r2;rw[ha]at ha';cases ha';have e1:=E7 hf.1 r1;have e2:=jN hf.2 rs;subst e1 e2;refine⟨a,ys,rfl,hs,by rw[K7];exact hf.1,by rw[U7];exact hf.2,?_⟩;cases e;exact q
   ·cases e
  ·cases e
 cases op with
 |lt=>
  replace e:=Qc e;obtain⟨i,j,rfl,rfl,rfl⟩:=e;cases qB r1;cases qB r2;exact L2.op_lt pins s σ H _ _ v u Q I rx ry ⟨_,_,rfl,rfl,q⟩
 |le=>
  replace e:=Qc e;obtain⟨i,j,rfl,rfl,rfl⟩:=e;cases qB r1;cases qB r2;exact L2.op_le pins s σ H _ _ v u Q I rx ry ⟨_,_,rfl,rfl,q⟩
 |gt=>
  replace e:=Qc e;obtain⟨i,j,rfl,rfl,rfl⟩:=e;cases qB r1;cases qB r2;exact L2.op_gt pins s σ H _ _ v u Q I rx ry ⟨_,_,rfl,rfl,q⟩
 |ge=>
  replace e:=Qc e;obtain⟨i,j,rfl,rfl,rfl⟩:=e;cases qB r1;cases qB r2;exact L2.op_ge pins s σ H _ _ v u Q I rx ry ⟨_,_,rfl,rfl,q⟩
 |eq=>exact(Z0 I R 4 (by omega) (show eqD h 4 xa ya=some b from e) r1 r2 rx ry).rc _ _ _ _ ⟨.bl b,H,I,rfl,q⟩
 |ne=>
  have e':(eqD h 4 xa ya).map (!·)=some b:=e;obtain⟨c,e1,rfl⟩:=Option.map_eq_some_iff.mp e';exact(Z0 I R 4 (by omega) e1 r1 r2 rx ry).ne _ _ _ _ ⟨.bl (!c),H,I,rfl,q⟩
 |inn=>
  replace e:=F8 e;obtain⟨p,rfl,e⟩:=e;cases ei:items h p with
  |some xs=>exact L2.op_in_seq pins s σ H x y v u Q I rx ry (hin false (ya':=.non) (by rw[ei]at e ⊢;exact e) r2)
  |none=>
   rw[ei]at e;dsimp only at e;split at e
   ·rename_i kvs ed;split at e
    ·rename_i i;cases e;obtain⟨a,ea,_,hH⟩:=R.dct ed;obtain⟨a',rfl,ha'⟩:=qN r2;rw[ea]at ha';cases ha';cases qB r1;cases ry;refine L2.d_in (by omega) I (L2.DGet.k (k:=.inl i) hH) rx λs' I'=>⟨.bl (L2.valV (kvs.map kk) (Sum.inl i)).isSome,H,I',rfl,?_⟩
     rw[<-L2.valV_any,B8];exact q
    ·cases e
   ·cases e
 |notin=>
  replace e:=F8 e;obtain⟨p,rfl,e⟩:=e;cases ei:items h p with
  |some xs=>exact L2.op_notIn_seq pins s σ H x y v u Q I rx ry (hin true (ya':=.non) (by rw[ei]at e ⊢;exact e) r2)
  |none=>
   rw[ei]at e;dsimp only at e;split at e
   ·rename_i kvs ed;split at e
    ·rename_i i;cases e;obtain⟨a,ea,_,hH⟩:=R.dct ed;obtain⟨a',rfl,ha'⟩:=qN r2;rw[ea]at ha';cases ha';cases qB r1;cases ry;refine L2.d_notIn (by omega) I (L2.DGet.k (k:=.inl i) hH) rx λs' I'=>⟨.bl (!(L2.valV (kvs.map kk) (Sum.inl i)).isSome),H,I',rfl,?_⟩
     rw[<-L2.valV_any,B8];exact q
    ·cases e
   ·cases e
 |is=>
  rcases j7 (show isC xa ya id=some b from e) with⟨rfl,rfl⟩|⟨c,d,rfl,rfl,rfl⟩
  ·cases zG r2;rw[G4 r1]at q;exact L2.op_isN pins s σ H x _ v u Q I rx ry ⟨rfl,q⟩
  ·cases zN r1;cases zN r2;cases (show v=Value.bool c from rx);cases (show u=Value.bool d from ry);exact PySem.wpAny_is_plain rfl ⟨.bl (c==d),H,I,(by cases c<;>cases d<;>rfl),q⟩
 |isnot=>
  rcases j7 (show isC xa ya (!·)=some b from e) with⟨rfl,rfl⟩|⟨c,d,rfl,rfl,rfl⟩
  ·cases zG r2;rw[G4 r1]at q;exact L2.op_notN pins s σ H x _ v u Q I rx ry ⟨rfl,q⟩
  ·cases zN r1;cases zN r2;cases (show v=Value.bool c from rx);cases (show u=Value.bool d from ry);exact PySem.wpAny_isNot_plain rfl ⟨.bl (!(c==d)),H,I,(by cases c<;>cases d<;>rfl),q⟩
theorem N5:∀{bs:List Bool}{us:List Value},Vals (bs.map V.bl) us->LSm.BoolsAre us bs
 | [],_,.nil=>.nil
 |b::bs,u::us,.cons r t=>by
  cases (show u=Value.bool b from r);exact .cons b (N5 t)
theorem R7{A:Around}{E:Value->Shared->Prop}{prog:Program}{w:World}{s:Shared}{l:Addr}{vs:List Value}{bs:List Bool}{Q:Value->Shared->Prop}(hh:A.handled=none)(hl:s.heap.IsList l vs.toArray)(hb:LSm.BoolsAre vs bs)
  (h:∀h' tk,(∀b x,s.heap.get? b=some x->h'.get? b=some x)->Q (.bool (bs.all id)) { s with heap:=h',toks:=tk }):wpAny (model prog w) A (call (.builtin "all") [.ref l]) Q E s:=by
 have hlt:l<s.heap.objs.size:=by obtain⟨_,e,_⟩:=hl;exact Heap.lt_size e
 refine call_all_walk (wpAny_pyIter_list hl ?_);refine⟨s.heap.objs.size,[s.heap.objs.size,l],[s.heap.objs.size],vs.toArray.size,_,_,λi=>(bs[i]?).getD true,rfl,Walks.list (A:=A.in1) hh _ l (wQ hlt) vs.toArray,
  ⟨⟨_,Heap.get?_push_size _ rfl,rfl,rfl⟩,hl.push _⟩,λi v s' Q' E' hP hQ=>?_,λh' tk hk=>?_⟩
 ·obtain⟨b,e,rfl⟩:=hb.get i v (by simpa using hP);simp only[e,Option.getD_some]at hQ;exact vg hQ
 ·have e:((List.range vs.toArray.size).all λi=>(bs[i]?).getD true)=bs.all id:=by
   rw[wF,hb.length];exact LSm.range_all bs
  rw[e];exact h h' tk (LSm.kept_iter hk)
theorem D1:∀{xs:List V}{is:List Int}{us:List Value},jE xs=some is->Vals xs us->us.length=is.length/\∀i v,us[i]?=some v->NumOf (is.getD i 0) v
 | [],is,_,e,.nil=>by cases e;exact⟨rfl,λi v e=>by simp at e⟩
 |x::r,is,u::us,e,.cons a t=>by
  unfold jE at e;split at e
  ·rename_i e';cases e'
  ·rename_i e';cases e';obtain⟨js,e1,rfl⟩:=Option.map_eq_some_iff.mp e;obtain⟨l,g⟩:=D1 e1 t;refine⟨by simp[l],λi v q=>?_⟩;cases i with
   |zero=>
    cases q;obtain⟨w,rfl⟩:=a;exact .inl ⟨w,rfl⟩
   |succ i=>exact g i v q
  ·rename_i e';cases e';obtain⟨js,e1,rfl⟩:=Option.map_eq_some_iff.mp e;obtain⟨l,g⟩:=D1 e1 t;refine⟨by simp[l],λi v q=>?_⟩;cases i with
   |zero=>
    cases q;exact .inr ⟨_,a,rfl⟩
   |succ i=>exact g i v q
  ·cases e
theorem Qh:∀{xs:List V}{is:List Int},jE xs=some is->xs.all flat=true
 | [],_,_=>rfl
 |x::r,is,e=>by
  unfold jE at e;split at e
  ·rename_i e';cases e'
  ·rename_i e';cases e';obtain⟨js,e1,rfl⟩:=Option.map_eq_some_iff.mp e;rw[List.all_cons,Qh e1];rfl
  ·rename_i e';cases e';obtain⟨js,e1,rfl⟩:=Option.map_eq_some_iff.mp e;rw[List.all_cons,Qh e1];rfl
  ·cases e
theorem P4{A:Around}{E:Value->Shared->Prop}{prog:Program}{w:World}{s:Shared}{l:Addr}{vs:List Value}{xs:List V}{is:List Int}{Q:Value->Shared->Prop}(hh:A.handled=none)(hl:s.heap.IsList l vs.toArray)(ei:jE xs=some is)(hb:Vals xs vs)
  (h:∀h' tk t',(∀b x,s.heap.get? b=some x->h'.get? b=some x)->Q (.int is.sum t') { s with heap:=h',toks:=tk }):wpAny (model prog w) A (call (.builtin "sum") [.ref l]) Q E s:=by
 have hlt:l<s.heap.objs.size:=by obtain⟨_,e,_⟩:=hl;exact Heap.lt_size e
 obtain⟨hlen,hn⟩:=D1 ei hb;refine call_sum_walkAnyB (wpAny_pyIter_list hl ?_);refine⟨s.heap.objs.size,_,_,_,_,_,_,λi=>is.getD i 0,rfl,(Walks.list (prog:=prog) (w:=w) (A:=A.in1) hh s.heap.objs.size l (wQ hlt) vs.toArray).toS,
  ⟨⟨_,Heap.get?_push_size _ rfl,rfl,rfl⟩,hl.push _⟩,λb hb=>?_,λi v hP=>hn i v (by simpa using hP),λs' t' hm=>?_⟩
 ·rcases List.mem_cons.mp hb with rfl|hb
  ·exact Heap.lt_size (Heap.get?_push_size _ rfl)
  ·obtain rfl:=wK.mp hb;obtain⟨_,e,_⟩:=hl;exact Heap.lt_size (Heap.get?_push_of_some _ e)
 ·obtain⟨h',g',d',tk',os'⟩:=s';have e1:g'=s.gens:=hm.gens;have e2:d'=s.drawn:=hm.drawn;have e3:os'=s.os:=hm.os;subst e1 e2 e3;have e:=preSum_getD is vs.toArray.size;rw[wF,hlen,List.take_of_length_le (Nat.le_refl _),<-hlen,<-wF]at e;rw[e];exact h h' tk' t' λb o e=>hm.heap b o (λhb=>absurd (Heap.lt_size e) ((wK.mp hb) ▸ Nat.lt_irrefl _)) (Heap.get?_push_of_some _ e)
theorem jH:∀{xs:List V}{is:List Int},zy xs=some is->xs=is.map V.int
 | [],is,e=>by cases e;rfl
 | .int i::r,is,e=>by
  simp only[zy]at e;obtain⟨js,e1,rfl⟩:=Option.map_eq_some_iff.mp e;rw[jH e1];rfl
 | .non::_,_,e=>by cases e
 | .bl _::_,_,e=>by cases e
 | .str _::_,_,e=>by cases e
 | .ref _::_,_,e=>by cases e
 | .byt _::_,_,e=>by cases e
 | .flt _::_,_,e=>by cases e
 | .ty _::_,_,e=>by cases e
theorem ZH:∀{xs:List V}{is:List Bool},QC xs=some is->xs=is.map V.bl
 | [],is,e=>by cases e;rfl
 | .bl i::r,is,e=>by
  simp only[QC]at e;obtain⟨js,e1,rfl⟩:=Option.map_eq_some_iff.mp e;rw[ZH e1];rfl
 | .non::_,_,e=>by cases e
 | .int _::_,_,e=>by cases e
 | .str _::_,_,e=>by cases e
 | .ref _::_,_,e=>by cases e
 | .byt _::_,_,e=>by cases e
 | .flt _::_,_,e=>by cases e
 | .ty _::_,_,e=>by cases e
theorem JZ{φ:List Addr}:∀{xs:List V},xs.all flat=true->rvs φ xs xs
 | [],_=>.nil
 |x::xs,h=>by
  simp only[List.all_cons,Bool.and_eq_true]at h;refine .cons ?_ (JZ h.2);cases x<;>first|rfl|exact trivial|(cases h.1)
theorem jl:∀{us:List Value}{ns:List Int},IntsAre us ns->Vals (ns.map V.int) us
 |_,_,.nil=>.nil
 |_,_,.cons n t r=>.cons ⟨_,rfl⟩ (jl r)
theorem X2(is:List Int):(is.map V.int).all flat=true:=by simp[flat]
theorem Q9(is:List Bool):(is.map V.bl).all flat=true:=by simp[flat]
noncomputable def fnB:BF->Value
 | .len=>.builtin "len" | .sum=>.builtin "sum" | .all=>.builtin "all" | .max=>.builtin "max" | .min=>.builtin "min"
 | .list=>.type "list" | .int=>.type "int" | .repr=>.builtin "repr" | .bits=>.builtin "int.bit_length"
variable (X G) in
def qG5(f:BF):List V->Hp->VK->Prop:=λxs H Q=>∃φ h ws v h',Rl X.K G φ h H/\rvs φ ws xs/\qGZ f ws h=.ok (v,h')/\∀φ' H' w,Ext φ φ'->Rl X.K G φ' h' H'->rv φ' v w->Q w H'
theorem W5{φ:List Addr}{hp:Heap}{x v:V}{u:Value}{d:PyData}(e:qBG x=some d)(r:rv φ x v)(ru:RelV v u):(∃as,Reads hp u d as)/\d.hasDict=false/\d.depth<=0:=by
 unfold qBG at e;split at e
 ·cases e;cases zG r;cases (show u=Value.none from ru);exact⟨⟨_,.none⟩,rfl,Nat.le_refl _⟩
 ·cases e;cases zN r;cases (show u=Value.bool _ from ru);exact⟨⟨_,.bool _⟩,rfl,Nat.le_refl _⟩
 ·cases e;cases qB r;obtain⟨t,rfl⟩:=ru;exact⟨⟨_,.int _ _⟩,rfl,Nat.le_refl _⟩
 ·cases e;cases zV r;obtain⟨t,rfl⟩:=ru;exact⟨⟨_,.str _ _⟩,rfl,Nat.le_refl _⟩
 ·cases e
def DR(P:Program)(W:World)(h:Heap)(n:Nat)(u:Value)(d:PyData):Prop:=(∃as,Reads h u d as)/\d.depth<=n/\(d.showable=true->d.shown.length<=sizeLine->∃bs,ReadAtMost h d.depth bs/\ReprK P W bs h d.depth u d.shown)
def DRs(P:Program)(W:World)(h:Heap)(n:Nat)(us:List Value)(ds:List PyData):Prop:=(∃as,ReadsAll h us ds as)/\PyData.depthAll ds<=n/\(PyData.showableAll ds=true->(∀t∈PyData.shownAll ds,t.length<=sizeLine)->∃bs,ReadAtMost h (PyData.depthAll ds) bs/\ReprAllK P W bs h (PyData.depthAll ds) us (PyData.shownAll ds))
theorem DR.flat{P:Program}{W:World}{hp:Heap}{n:Nat}{u:Value}{d:PyData}(q:(∃as,Reads hp u d as)/\d.hasDict=false/\d.depth<=0):DR P W hp n u d:=by
 obtain⟨⟨as,q1⟩,q2,q3⟩:=q;exact⟨⟨as,q1⟩,by omega,λhs hz=>ReprK.of_reads q1 hs (λz=>by rw[q2]at z;cases z) hz⟩
theorem Ql{P:Program}{W:World}{φ:List Addr}{hp:Heap}{n:Nat}{f:V->Option PyData}(hf:∀x v u d,f x=some d->rv φ x v->RelV v u->DR P W hp n u d):∀(xs ys:List V) (us:List Value) (ds:List PyData),Q0 f xs=some ds->rvs φ xs ys->Vals ys us->DRs P W hp n us ds
 | [],ys,us,ds,e,r,ru=>by
  cases e;cases r;cases ru;exact⟨⟨_,.nil⟩,Nat.zero_le _,λ_ _=>⟨[],(λ_ h=>nomatch h),by simp only[PyData.shownAll];exact .nil⟩⟩
 |x::xs,ys,us,ds,e,r,ru=>by
  unfold Q0 at e;obtain⟨d,e1,e⟩:=Option.bind_eq_some_iff.mp e;obtain⟨ds',e2,rfl⟩:=Option.map_eq_some_iff.mp e;cases r with
  |cons r1 r2=>
   cases ru with
   |cons u1 u2=>
    obtain⟨⟨as,q1⟩,q3,q2⟩:=hf _ _ _ _ e1 r1 u1;obtain⟨⟨bs,p1⟩,p2,p3⟩:=Ql hf xs _ _ ds' e2 r2 u2;refine⟨⟨_,.cons q1 p1⟩,Nat.max_le.mpr ⟨q3,p2⟩,λhs hz=>?_⟩;have hs':d.showable=true/\PyData.showableAll ds'=true:=by simpa [PyData.showableAll] using hs
    obtain⟨b1,hb1,k1⟩:=q2 hs'.1 (hz _ (by simp only[PyData.shownAll];exact List.mem_cons_self ..));obtain⟨b2,hb2,k2⟩:=p3 hs'.2 (λt ht=>hz t (by simp only[PyData.shownAll];exact List.mem_cons_of_mem _ ht));refine⟨b1++b2,?_,?_⟩
    ·intro b hm;simp only[PyData.depthAll];rcases wE.mp hm with hm|hm
     ·obtain⟨d',as',r',hd'⟩:=hb1 b hm;exact⟨d',as',r',Nat.le_trans hd' (Nat.le_max_left _ _)⟩
     ·obtain⟨d',as',r',hd'⟩:=hb2 b hm;exact⟨d',as',r',Nat.le_trans hd' (Nat.le_max_right _ _)⟩
    ·simp only[PyData.depthAll,PyData.shownAll];exact .cons ((k1.more λb hb=>wH _ hb).level_le (Nat.le_max_left _ _)) (k2.more_le (λb hb=>wI _ hb) (Nat.le_max_right _ _))
theorem DRs.list{P:Program}{W:World}{hp:Heap}{n m:Nat}{p:Addr}{o:Obj}{its:List Value}{ds:List PyData}(q:DRs P W hp n its ds)(ho:hp.get? p=some o)(hc:o.cls=.type "list")(hd:o.data=.seq its.toArray m)(hs:PyData.showableAll ds=true)(hz:(listText (PyData.shownAll ds)).length<=sizeLine):
  ∃bs,ReadAtMost hp (PyData.depthAll ds) bs/\ReprAllK P W bs hp (PyData.depthAll ds) its (PyData.shownAll ds)/\p∉bs:=by
 obtain⟨⟨as,q1⟩,q2,q3⟩:=q;obtain⟨bs,hb,hk⟩:=q3 hs (λt ht=>Nat.le_trans (listText_mem_le ht) hz);exact⟨bs,hb,hk,not_mem_of_deeper (Reads.list ho hc hd (by simpa using q1)) (by simp only[PyData.depth];omega) hb⟩
theorem DRs.tuple{P:Program}{W:World}{hp:Heap}{n m:Nat}{p:Addr}{o:Obj}{its:List Value}{ds:List PyData}(q:DRs P W hp n its ds)(ho:hp.get? p=some o)(hc:o.cls=.type "tuple")(hd:o.data=.seq its.toArray m)(hs:PyData.showableAll ds=true)(hz:(tupleText (PyData.shownAll ds)).length<=sizeLine):
  ∃bs,ReadAtMost hp (PyData.depthAll ds) bs/\ReprAllK P W bs hp (PyData.depthAll ds) its (PyData.shownAll ds)/\p∉bs:=by
 obtain⟨⟨as,q1⟩,q2,q3⟩:=q;obtain⟨bs,hb,hk⟩:=q3 hs (λt ht=>Nat.le_trans (tupleText_mem_le ht) hz);exact⟨bs,hb,hk,not_mem_of_deeper (Reads.tuple ho hc hd (by simpa using q1)) (by simp only[PyData.depth];omega) hb⟩
theorem qA2{pins:List (Addr×Obj)}{s:Shared}{σ:L2.St}{H:Hp}{φ:List Addr}{h:AH}(I:Inv X pins σ H s)(R:Rl X.K G φ h H){a:Nat}{p:Addr}(ey:h[a]?=some (.ob (.dct [])))(hp:φ[a]?=some p):∃as,Reads s.heap (.ref p) (.dict []) as/\sysModules∉as:=by
 obtain⟨p',hp',hs⟩:=R.at ey;rw[hp]at hp';cases hp';obtain⟨_,hne,vs,hkv,o,es,ep,h1,h2,h3,h4,h5,h6⟩:=(show L2.ObjOk X.prog X.w H s.heap p (.dK []) from I.hok p _ hs)
 cases hkv;have he:es.toList=[]:=by cases hh:es.toList with|nil=>rfl|cons a b=>rw[hh]at h5;cases h5
 refine⟨_,.dict (as:=[]) (bs:=[]) h1 h2.1 h3 (by rw[he];exact .nil) (by rw[he];exact .nil),λz=>?_⟩;simp at z;rw[<-z]at hne;simp at hne
theorem G3{pins:List (Addr×Obj)}{s:Shared}{σ:L2.St}{H:Hp}{φ:List Addr}{h:AH}(I:Inv X pins σ H s)(R:Rl X.K G φ h H):∀(n:Nat) (x v:V) (u:Value) (d:PyData),dat h n x=some d->rv φ x v->RelV v u->DR X.prog X.w s.heap n u d
 | 0,x,v,u,d,e,r,ru=>.flat (W5 e r ru)
 |n+1,x,v,u,d,e,r,ru=>by
  unfold dat at e;split at e
  ·rename_i a;obtain⟨p,rfl,hp⟩:=qN r;cases (show u=Value.ref p from ru);split at e
   ·rename_i f xs ey;obtain⟨ds,e1,rfl⟩:=Option.map_eq_some_iff.mp e;obtain⟨p',zs,hp',hs,rs⟩:=R.lst (show qM h a=some xs by unfold qM;rw[ey]);rw[hp]at hp';cases hp';obtain⟨its,rv',pl,_⟩:=I.list hs;obtain⟨o,ho,hc,m,hd⟩:=pl.isList;have q:=Ql (G3 I R n) xs zs its ds e1 rs rv';obtain⟨⟨as,q1⟩,q2,_⟩:=id q;refine⟨⟨_,.list ho hc hd (by simpa using q1)⟩,vP q2,λhs' hz=>?_⟩;have hz':(listText (PyData.shownAll ds)).length<=sizeLine:=by simpa only[PyData.shown] using hz
    obtain⟨bs,hb,hk,hna⟩:=q.list ho hc hd (by simpa [PyData.showable] using hs') hz';refine⟨p::bs,ReadAtMost.cons (Reads.list ho hc hd (by simpa using q1)) (by simp only[PyData.depth];omega) hb,?_⟩;simp only[PyData.depth,PyData.shown];cases its with
    |nil=>
     cases q1;simp only[PyData.shownAll,listText_nil];exact ReprK.listEmpty ho hc hd
    |cons y l=>exact ReprK.list ho hc hd hna (by simpa using hk.length_eq) (λi y e=>hk.item i y (by simpa using e))
   ·rename_i xs ey;obtain⟨ds,e1,rfl⟩:=Option.map_eq_some_iff.mp e;obtain⟨p',zs,hp',hs,rs⟩:=R.tup (show qY h a=some xs by unfold qY;rw[ey]);rw[hp]at hp';cases hp';obtain⟨its,rv',pl,_⟩:=I.tuple hs;obtain⟨o,ho,hc,m,hd⟩:=pl;have q:=Ql (G3 I R n) xs zs its ds e1 rs rv';obtain⟨⟨as,q1⟩,q2,_⟩:=id q;refine⟨⟨_,.tuple ho hc hd (by simpa using q1)⟩,vP q2,λhs' hz=>?_⟩;have hz':(tupleText (PyData.shownAll ds)).length<=sizeLine:=by simpa only[PyData.shown] using hz
    obtain⟨bs,hb,hk,hna⟩:=q.tuple ho hc hd (by simpa [PyData.showable] using hs') hz';refine⟨p::bs,ReadAtMost.cons (Reads.tuple ho hc hd (by simpa using q1)) (by simp only[PyData.depth];omega) hb,?_⟩;simp only[PyData.depth,PyData.shown];exact ReprK.tuple ho hc hd hna (by simpa using hk)
   ·rename_i ey;cases e;obtain⟨as,q1,q2⟩:=qA2 I R ey hp;exact⟨⟨as,q1⟩,vP (Nat.zero_le _),λhs hz=>ReprK.of_reads q1 hs (λ_=>q2) hz⟩
   ·cases e
  ·exact .flat (W5 e r ru)
theorem S8(hc:X.calm=true)(hu:X.A.units+8<cLine)(hgd:X.A.guards=some []):∀f,zJ X (fnB f) (qG5 X G f):=by
 intro f pins s σ H xs us Q I r ⟨φ,h,ws,v,h',R,rw',e,k⟩;cases f with
 |len=>
  replace e:=jb e;obtain⟨x0,rfl,e⟩:=e;replace e:=zW e;obtain⟨a,rfl,e⟩:=e;split at e
  ·rename_i ys ey;cases e;cases rw' with
   |cons r1 t=>
    cases t;obtain⟨p,rfl,hp⟩:=qN r1;obtain⟨p',zs,hp',hs,rs⟩:=R.its ey;rw[hp]at hp';cases hp';refine L2.call_len_seq pins s σ H _ us Q I r ⟨p,zs,rfl,hs,?_⟩;rw[<-Paired.length rs];exact k φ H _ (.refl _) R rfl
  ·cases e
 |sum=>
  replace e:=jb e;obtain⟨x0,rfl,e⟩:=e;replace e:=zW e;obtain⟨a,rfl,e⟩:=e;split at e
  ·rename_i ys ey;split at e
   ·rename_i is ei;cases e;cases rw' with
    |cons r1 t=>
     cases t;obtain⟨p,rfl,hp⟩:=qN r1;obtain⟨p',zs,hp',hs,rs⟩:=R.lst ey;rw[hp]at hp';cases hp';have hz:=jN (Qh ei) rs;subst hz;obtain⟨its,rv',pl,_⟩:=I.list hs;obtain⟨u,rfl,ru⟩:=L2.vals1 r;cases ru;exact P4 (I.ok.hd hc) pl.isList ei rv' λh1 tk t' hk=>⟨.int is.sum,H,I.kept hk,⟨_,rfl⟩,k φ H _ (.refl _) R rfl⟩
   ·cases e
  ·cases e
 |all=>
  replace e:=jb e;obtain⟨x0,rfl,e⟩:=e;replace e:=zW e;obtain⟨a,rfl,e⟩:=e;split at e
  ·rename_i ys ey;split at e
   ·rename_i is ei;cases e;cases rw' with
    |cons r1 t=>
     cases t;obtain⟨p,rfl,hp⟩:=qN r1;obtain⟨p',zs,hp',hs,rs⟩:=R.lst ey;rw[hp]at hp';cases hp';have hm:=ZH ei;subst hm;have hz:=jN (Q9 is) rs;subst hz;obtain⟨its,rv',pl,_⟩:=I.list hs;obtain⟨u,rfl,ru⟩:=L2.vals1 r;cases ru;exact R7 (I.ok.hd hc) pl.isList (N5 rv') λh1 tk hk=>⟨.bl (is.all id),H,I.kept hk,rfl,k φ H _ (.refl _) R rfl⟩
   ·cases e
  ·cases e
 |max=>
  replace e:=two_inv e;obtain⟨x0,y0,rfl,e⟩:=e;replace e:=zO e;obtain⟨i,j,rfl,rfl,e⟩:=e;cases e;cases rw' with
  |cons r1 t=>
   cases t with
   |cons r2 t=>
    cases t;cases qB r1;cases qB r2;exact L2.call_max2 hc pins s σ H _ us Q I r ⟨_,_,rfl,k φ H _ (.refl _) R rfl⟩
 |min=>
  replace e:=two_inv e;obtain⟨x0,y0,rfl,e⟩:=e;replace e:=zO e;obtain⟨i,j,rfl,rfl,e⟩:=e;cases e;cases rw' with
  |cons r1 t=>
   cases t with
   |cons r2 t=>
    cases t;cases qB r1;cases qB r2;exact L2.call_min2 hc pins s σ H _ us Q I r ⟨_,_,rfl,k φ H _ (.refl _) R rfl⟩
 |bits=>
  replace e:=jb e;obtain⟨x0,rfl,e⟩:=e;split at e
  ·cases e;cases rw' with
   |cons r1 t=>
    cases t;cases qB r1;obtain⟨u,rfl,ru⟩:=L2.vals1 r;obtain⟨t,rfl⟩:=ru;rename_i j;exact call_int_bit_length ⟨.int ((Builtin.Int.intBits j:Nat):Int),H,I.tok _,⟨_,rfl⟩,k φ H _ (.refl _) R rfl⟩
  ·cases e
 |list=>
  replace e:=jb e;obtain⟨x0,rfl,e⟩:=e;replace e:=zW e;obtain⟨a,rfl,e⟩:=e;split at e
  ·rename_i ys ey;cases e;cases rw' with
   |cons r1 t=>
    cases t;obtain⟨p,rfl,hp⟩:=qN r1;obtain⟨p',zs,hp',hs,rs⟩:=R.its ey;rw[hp]at hp';cases hp';exact L2.call_list_of pins s σ H _ us Q I r ⟨p,zs,rfl,hs,λl hl=>k (φ++[l]) _ _ ⟨[l],rfl⟩ (R.newL hl rs) R.lastRef⟩
  ·cases e
 |int=>
  replace e:=jb e;obtain⟨x0,rfl,e⟩:=e;split at e
  ·cases e;cases rw' with
   |cons r1 t=>
    cases t;cases qB r1;exact L2.call_int1 pins s σ H _ us Q I r (.inl ⟨_,rfl,k φ H _ (.refl _) R rfl⟩)
  ·cases e;cases rw' with
   |cons r1 t=>
    cases t;cases zN r1;exact L2.call_int1 pins s σ H _ us Q I r (.inr ⟨_,rfl,k φ H _ (.refl _) R rfl⟩)
  ·cases e
 |repr=>
  replace e:=jb e;obtain⟨x0,rfl,e⟩:=e;unfold qFJ at e;split at e
  ·rename_i v0 ev0;cases e;obtain⟨d,e1,e2⟩:=Option.bind_eq_some_iff.mp ev0;unfold R6 at e2;split at e2
   ·rename_i hsh;cases e2;cases rw' with
    |cons r1 t=>
     cases t;obtain⟨u,rfl,ru⟩:=L2.vals1 r;cases x0 with
     |ref a=>
      obtain⟨p,rfl,hp⟩:=qN r1;cases (show u=Value.ref p from ru);unfold qGP dat at e1;dsimp only at e1;split at e1
      ·rename_i f xs ey;obtain⟨ds,e2,rfl⟩:=Option.map_eq_some_iff.mp e1;obtain⟨p',zs,hp',hs,rs⟩:=R.lst (show qM h a=some xs by unfold qM;rw[ey]);rw[hp]at hp';cases hp';obtain⟨its,rv',pl,_⟩:=I.list hs;obtain⟨o,ho,hc',m,hd⟩:=pl.isList;have q:=Ql (G3 I R 3) xs zs its ds e2 rs rv';have q2:=q.2.1;have hz':(listText (PyData.shownAll ds)).length<=sizeLine:=by simpa only[PyData.shown] using hsh.2
       obtain⟨bs,hb,hk,hna⟩:=q.list ho hc' hd (by simpa [PyData.showable] using hsh.1) hz';cases its with
       |nil=>
        obtain⟨⟨as,q1⟩,_,_⟩:=q;cases q1;refine call_repr_slot (by omega) ⟨o,ho,hc'⟩ F.slot_list_repr.toG (call_list_repr_empty ⟨o,ho,hc'⟩ ho hd ⟨_,_,rfl,?_⟩);exact⟨.str (PyData.shown (.list [])),H,I.tok _,⟨s.toks,by simp only[PyData.shown,PyData.shownAll,listText_nil]⟩,k φ H _ (.refl _) R rfl⟩
       |cons y l=>
        refine call_repr_slot (by omega) ⟨o,ho,hc'⟩ F.slot_list_repr.toG (call_list_reprK ho hc' hd hna (by simpa using hk.length_eq) (λi y e=>hk.item i y (by simpa using e)) hgd (λb _=>Clear.nil b) (by show X.A.units+1+_<cLine;omega) (λ_ _ e=>e) (λh1 u tk hk=>⟨_,_,rfl,?_⟩) hz');exact⟨.str (PyData.shown (.list ds)),H,I.kept hk,⟨u,by simp only[PyData.shown]⟩,k φ H _ (.refl _) R rfl⟩
      ·rename_i ws ey;obtain⟨ds,e2,rfl⟩:=Option.map_eq_some_iff.mp e1;obtain⟨p',zs,hp',hs,rs⟩:=R.tup (show qY h a=some ws by unfold qY;rw[ey]);rw[hp]at hp';cases hp';obtain⟨its,rv',pl,_⟩:=I.tuple hs;obtain⟨o,ho,hc',m,hd⟩:=pl;have q:=Ql (G3 I R 3) ws zs its ds e2 rs rv';have q2:=q.2.1;have hz':(tupleText (PyData.shownAll ds)).length<=sizeLine:=by simpa only[PyData.shown] using hsh.2
       obtain⟨bs,hb,hk,hna⟩:=q.tuple ho hc' hd (by simpa [PyData.showable] using hsh.1) hz';refine call_repr_slot (by omega) ⟨o,ho,hc'⟩ F.slot_tuple_repr (call_tuple_reprK ho hc' hd hna (by simpa using hk) hgd (λb _=>Clear.nil b) (by show X.A.units+1+_<cLine;omega) (λ_ _ e=>e) (λh1 u tk hk=>⟨_,_,rfl,?_⟩) hz');exact⟨.str (PyData.shown (.tuple ds)),H,I.kept hk,⟨u,by simp only[PyData.shown]⟩,k φ H _ (.refl _) R rfl⟩
      ·rename_i ey;cases e1;obtain⟨as,q1,q2⟩:=qA2 I R ey hp;refine repr_of_reads' q1 hsh.1 (λ_=>q2) hgd (by show X.A.units+(1+1)<cLine;omega) (λb o e=>e) (λh1 u tk hk=>?_) hsh.2;exact⟨.str (PyData.shown (.dict [])),H,I.kept hk,⟨_,rfl⟩,k φ H _ (.refl _) R rfl⟩
      ·cases e1
     |non=>
      cases e1;cases zG r1;cases (show u=Value.none from ru);exact PySem.P.repr_of_none ⟨.str (PyData.shown .none),H,I.tok _,⟨_,rfl⟩,k φ H _ (.refl _) R rfl⟩
     |bl b=>
      cases e1;cases zN r1;cases (show u=Value.bool b from ru);exact PySem.P.repr_of_bool ⟨.str (PyData.shown (.bool b)),H,I.tok _,⟨_,by cases b<;>rfl⟩,k φ H _ (.refl _) R rfl⟩
     |int i=>
      cases e1;cases qB r1;obtain⟨tt,rfl⟩:=ru;exact PySem.P.repr_of_int (vf hsh.1) ⟨.str (PyData.shown (.int i)),H,I.tok _,⟨_,rfl⟩,k φ H _ (.refl _) R rfl⟩
     |str x=>
      cases e1;cases zV r1;obtain⟨tt,rfl⟩:=ru;exact PySem.P.repr_of_str ⟨.str (PyData.shown (.str x)),H,I.tok _,⟨_,rfl⟩,k φ H _ (.refl _) R rfl⟩ hsh.2
     |_=>cases e1
   ·cases e2
  ·cases e
end
open L2 (PW)
theorem jC{r:RV}{b:Bool}{h:AH}(e:asB r=.ok (b,h)):r=.ok (.bl b,h):=by
 unfold asB at e;obtain⟨⟨v,h1⟩,e1,e2⟩:=Res.bind_inv e;dsimp only at e2;split at e2
 ·cases e2;exact e1
 ·cases e2
theorem J2{r:RV}{b:Bool}{h:AH}(e:r=.ok (.bl b,h)):asB r=.ok (b,h):=by
 subst e;rfl
section
variable{X:Cx}{G:List Addr}{F:Nat->List V->AH->RV}{a b c:E}{as:Es}{ea eb ec:Expr}{es:List Expr}{pos:Pos}
theorem Zt{K:PySem.W.Frag}{σ:St}{H:Hp}{Q:Bool->Hp->Prop}(q:tT K G F a σ H Q):tE K G F a σ H (λx H'=>∃k,x=.bl k/\Q k H'):=by
 obtain⟨φ,h,σa,b,h',R,rs,e,k⟩:=q;exact⟨φ,h,σa,.bl b,h',R,rs,jC e,λφ' H' w x' R' r'=>⟨b,zN r',k φ' H' x' R'⟩⟩
theorem qV(h:SE X G F ea a)(he:∀whole,isTrue ea X.env whole=(do let v <- whole;standAt ea.pos;holding [v] (truthy v))):ST X G F ea a:=
 w4 (L2.pt_val h he) λ_ _ _ q=>Zt q
theorem qBE{op:COp}{σc:St}{H:Hp}{Q:VK}(q:tE X.K G F (.cmp op a b) σc H Q):L2.tOp (qFC X G op) (tE X.K G F a) (tE X.K G F b) σc H Q:=by
 obtain⟨φ,h,σ,v,h',R,rs,e,k⟩:=q;unfold ev at e;obtain⟨⟨x,h1⟩,e1,e⟩:=Res.bind_inv e;obtain⟨⟨y,h2⟩,e2,e⟩:=Res.bind_inv e;refine jd R rs e1 e2 λφ2 H2 xc yc x2 R2 r1 r2=>?_;unfold qDA at e;dsimp only at e;split at e
 ·rename_i t et;cases e;exact⟨φ2,_,x,y,t,R2,r1,r2,et,k φ2 H2 _ x2 R2 rfl⟩
 ·cases e
theorem qE1{op:COp}(hu:X.A.units+8<cLine)(ha:SE X G F ea a)(hb:SE X G F eb b)(hm:behindInMarks (opC op) eb=false):SE X G F (.Compare ea [opC op] [eb] pos) (.cmp op a b):=
 qr (L2.pe_cmpR (QL hu op) ha hb hm) λ_ _ _=>qBE
theorem qEq{op:COp}(hu:X.A.units+8<cLine)(ha:SE X G F ea a)(hb:SE X G F eb b)(hm:behindInMarks (opC op) eb=false):ST X G F (.Compare ea [opC op] [eb] pos) (.cmp op a b):=
 w4 (L2.pt_cmpR (QL hu op) ha hb hm) λ_ _ _ q=>qBE (Zt q)
theorem N8{o1 o2:COp}{σc:St}{H:Hp}{Q:VK}(q:tE X.K G F (.cmp2 o1 o2 a b c) σc H Q):L2.tChain (qFC X G o1) (qFC X G o2) (tE X.K G F a) (tE X.K G F b) (tE X.K G F c) σc H Q:=by
 obtain⟨φ,h,σ,v,h',R,rs,e,k⟩:=q;unfold ev at e;obtain⟨⟨x,h1⟩,e1,e⟩:=Res.bind_inv e;obtain⟨⟨y,h2⟩,e2,e⟩:=Res.bind_inv e;refine jd R rs e1 e2 λφ2 H2 xc yc x2 R2 r1 r2=>?_;dsimp only at e;split at e
 ·rename_i et;refine⟨φ2,_,x,y,true,R2,r1,r2,et,true,rfl,?_⟩;rw[if_pos rfl];obtain⟨⟨z,h3⟩,e3,e⟩:=Res.bind_inv e;refine⟨φ2,_,σ,z,h3,R2,rst.mono x2 rs,e3,λφ3 H3 zc x3 R3 r3=>?_⟩;unfold qDA at e;dsimp only at e;split at e
  ·rename_i t et;cases e;exact⟨φ3,_,y,z,t,R3,rv.mono x3 r2,r3,et,k φ3 H3 _ (x2.trans x3) R3 rfl⟩
  ·cases e
 ·rename_i et;cases e;refine⟨φ2,_,x,y,false,R2,r1,r2,et,false,rfl,?_⟩;rw[if_neg (by decide)];exact k φ2 H2 _ x2 R2 rfl
 ·cases e
theorem qAo{o1 o2:COp}(hu:X.A.units+8<cLine)(ha:SE X G F ea a)(hb:SE X G F eb b)(hc:SE X G F ec c)(hm:lastMarks [opC o1,opC o2] [eb,ec]=false):SE X G F (.Compare ea [opC o1,opC o2] [eb,ec] pos) (.cmp2 o1 o2 a b c):=
 qr (L2.pe_chain (QL hu o1) (QL hu o2) ha hb hc hm) λ_ _ _=>N8
theorem qAh{o1 o2:COp}(hu:X.A.units+8<cLine)(ha:SE X G F ea a)(hb:SE X G F eb b)(hc:SE X G F ec c)(hm:lastMarks [opC o1,opC o2] [eb,ec]=false):ST X G F (.Compare ea [opC o1,opC o2] [eb,ec] pos) (.cmp2 o1 o2 a b c):=
 w4 (L2.pt_chain (QL hu o1) (QL hu o2) ha hb hc hm) λ_ _ _ q=>N8 (Zt q)
theorem qB6{σc:St}{H:Hp}{Q:VK}(q:tE X.K G F (.and a b) σc H Q):L2.tAndV (tE X.K G F a) (tE X.K G F b) σc H Q:=by
 obtain⟨φ,h,σ,v,h',R,rs,e,k⟩:=q;unfold ev at e;obtain⟨⟨x,h1⟩,e1,e⟩:=Res.bind_inv e;refine⟨φ,h,σ,.bl x,h1,R,rs,jC e1,λφ1 H1 w x1 R1 r1=>⟨x,zN r1,?_⟩⟩;dsimp only at e;cases x with
 |true=>
  rw[if_pos rfl]at e ⊢;exact⟨φ1,h1,σ,v,h',R1,rst.mono x1 rs,e,λφ2 H2 w2 x2 R2 r2=>k φ2 H2 w2 (x1.trans x2) R2 r2⟩
 |false=>
  rw[if_neg (by decide)]at e ⊢;cases e;exact k φ1 H1 _ x1 R1 rfl
theorem qDr{σc:St}{H:Hp}{Q:VK}(q:tE X.K G F (.or a b) σc H Q):L2.tOrV (tE X.K G F a) (tE X.K G F b) σc H Q:=by
 obtain⟨φ,h,σ,v,h',R,rs,e,k⟩:=q;unfold ev at e;obtain⟨⟨x,h1⟩,e1,e⟩:=Res.bind_inv e;refine⟨φ,h,σ,.bl x,h1,R,rs,jC e1,λφ1 H1 w x1 R1 r1=>⟨x,zN r1,?_⟩⟩;dsimp only at e;cases x with
 |false=>
  rw[if_neg (by decide)]at e ⊢;exact⟨φ1,h1,σ,v,h',R1,rst.mono x1 rs,e,λφ2 H2 w2 x2 R2 r2=>k φ2 H2 w2 (x1.trans x2) R2 r2⟩
 |true=>
  rw[if_pos rfl]at e ⊢;cases e;exact k φ1 H1 _ x1 R1 rfl
theorem qDd{σc:St}{H:Hp}{Q:Bool->Hp->Prop}(q:tT X.K G F (.and a b) σc H Q):L2.tAnd (tT X.K G F a) (tT X.K G F b) σc H Q:=by
 obtain⟨φ,h,σ,t,h',R,rs,e,k⟩:=q;have e:=jC e;unfold ev at e;obtain⟨⟨x,h1⟩,e1,e⟩:=Res.bind_inv e;refine⟨φ,h,σ,x,h1,R,rs,e1,λφ1 H1 x1 R1=>?_⟩;dsimp only at e;cases x with
 |true=>
  rw[if_pos rfl]at e ⊢;exact⟨φ1,h1,σ,t,h',R1,rst.mono x1 rs,J2 e,λφ2 H2 x2 R2=>k φ2 H2 (x1.trans x2) R2⟩
 |false=>
  rw[if_neg (by decide)]at e ⊢;cases e;exact k φ1 H1 x1 R1
theorem qGD{σc:St}{H:Hp}{Q:Bool->Hp->Prop}(q:tT X.K G F (.or a b) σc H Q):L2.tOr (tT X.K G F a) (tT X.K G F b) σc H Q:=by
 obtain⟨φ,h,σ,t,h',R,rs,e,k⟩:=q;have e:=jC e;unfold ev at e;obtain⟨⟨x,h1⟩,e1,e⟩:=Res.bind_inv e;refine⟨φ,h,σ,x,h1,R,rs,e1,λφ1 H1 x1 R1=>?_⟩;dsimp only at e;cases x with
 |false=>
  rw[if_neg (by decide)]at e ⊢;exact⟨φ1,h1,σ,t,h',R1,rst.mono x1 rs,J2 e,λφ2 H2 x2 R2=>k φ2 H2 (x1.trans x2) R2⟩
 |true=>
  rw[if_pos rfl]at e ⊢;cases e;exact k φ1 H1 x1 R1
variable (X G F) in
abbrev SW(e:Expr)(a:E):Prop:=PW X e (tT X.K G F a)
theorem qDt{e:Expr}{t t':TT}(h:PW X e t)(w:∀σ H Q,t' σ H Q->t σ H Q):PW X e t':=λwh pins s σ H Q I q=>h wh pins s σ H Q I (w σ H Q q)
theorem qDS{QN:List Expr}(ha:SE X G F ea a)(hb:SE X G F (.BoolOp .And (eb::QN) pos) b):SE X G F (.BoolOp .And (ea::eb::QN) pos) (.and a b):=qr (L2.pe_and ha hb) λ_ _ _=>qB6
theorem qGN{QN:List Expr}(ha:SE X G F ea a)(hb:SE X G F (.BoolOp .Or (eb::QN) pos) b):SE X G F (.BoolOp .Or (ea::eb::QN) pos) (.or a b):=qr (L2.pe_or ha hb) λ_ _ _=>qDr
theorem qDY{QN:List Expr}(ha:ST X G F ea a)(hb:SW X G F (.BoolOp .And (eb::QN) pos) b):SW X G F (.BoolOp .And (ea::eb::QN) pos) (.and a b):=qDt (L2.pw_and ha hb) λ_ _ _=>qDd
theorem qGQ{QN:List Expr}(ha:ST X G F ea a)(hb:SW X G F (.BoolOp .Or (eb::QN) pos) b):SW X G F (.BoolOp .Or (ea::eb::QN) pos) (.or a b):=qDt (L2.pw_or ha hb) λ_ _ _=>qGD
theorem qDV(ha:SE X G F ea a):SE X G F (.UnaryOp .Not ea pos) (.not a):=by
 refine qr (L2.pe_not ha) λσc H Q q=>?_;obtain⟨φ,h,σ,v,h',R,rs,e,k⟩:=q;unfold ev at e;obtain⟨⟨x,h1⟩,e1,e⟩:=Res.bind_inv e;cases e;exact⟨φ,h,σ,.bl x,_,R,rs,jC e1,λφ1 H1 w x1 R1 r1=>⟨x,zN r1,k φ1 H1 _ x1 R1 rfl⟩⟩
theorem qES(ha:ST X G F ea a):ST X G F (.UnaryOp .Not ea pos) (.not a):=by
 refine w4 (L2.pt_not ha) λσc H Q q=>?_;obtain⟨φ,h,σ,t,h',R,rs,e,k⟩:=q;have e:=jC e;unfold ev at e;obtain⟨⟨x,h1⟩,e1,e⟩:=Res.bind_inv e;cases e;exact⟨φ,h,σ,x,_,R,rs,e1,λφ1 H1 x1 R1=>k φ1 H1 x1 R1⟩
theorem qDu(hc:ST X G F ec c)(ha:SE X G F ea a)(hb:SE X G F eb b):SE X G F (.IfExp ec ea eb pos) (.ite c a b):=by
 refine qr (L2.pe_ifExp hc ha hb) λσc H Q q=>?_;obtain⟨φ,h,σ,v,h',R,rs,e,k⟩:=q;unfold ev at e;obtain⟨⟨x,h1⟩,e1,e⟩:=Res.bind_inv e;refine⟨φ,h,σ,x,h1,R,rs,e1,λφ1 H1 x1 R1=>?_⟩;dsimp only at e;cases x with
 |true=>
  rw[if_pos rfl]at e ⊢;exact⟨φ1,h1,σ,v,h',R1,rst.mono x1 rs,e,λφ2 H2 w2 x2 R2 r2=>k φ2 H2 w2 (x1.trans x2) R2 r2⟩
 |false=>
  rw[if_neg (by decide)]at e ⊢;exact⟨φ1,h1,σ,v,h',R1,rst.mono x1 rs,e,λφ2 H2 w2 x2 R2 r2=>k φ2 H2 w2 (x1.trans x2) R2 r2⟩
theorem qEp(hc:ST X G F ec c)(ha:ST X G F ea a)(hb:ST X G F eb b):ST X G F (.IfExp ec ea eb pos) (.ite c a b):=by
 intro pins s σc H Q I q;obtain⟨φ,h,σ,t,h',R,rs,e,k⟩:=q;have e:=jC e;unfold ev at e;obtain⟨⟨x,h1⟩,e1,e⟩:=Res.bind_inv e;refine isTrue_IfExp (L2.thn (hc pins s σc H (λz H1=>(z=true->tT X.K G F a σc H1 Q)/\(z=false->tT X.K G F b σc H1 Q)) I ⟨φ,h,σ,x,h1,R,rs,e1,λφ1 H1 x1 R1=>?_⟩) λz s1 ⟨H1,I1,q1,q2⟩=>?_)
 ·dsimp only at e;cases x with
  |true=>
   rw[if_pos rfl]at e;exact⟨λ_=>⟨φ1,h1,σ,t,h',R1,rst.mono x1 rs,J2 e,λφ2 H2 x2 R2=>k φ2 H2 (x1.trans x2) R2⟩,λz=>nomatch z⟩
  |false=>
   rw[if_neg (by decide)]at e;exact⟨(λz=>nomatch z),λ_=>⟨φ1,h1,σ,t,h',R1,rst.mono x1 rs,J2 e,λφ2 H2 x2 R2=>k φ2 H2 (x1.trans x2) R2⟩⟩
 ·cases z with
  |true=>exact ha pins s1 σc H1 Q I1 (q1 rfl)
  |false=>exact hb pins s1 σc H1 Q I1 (q2 rfl)
noncomputable def qS:Expr->Bool
 | .Starred ..=>false
 |_=>true
theorem qG{e:Expr}{env:Env}(h:qS e=true):starEach (e::es) env=(false,eval e env)::starEach es env:=by
 cases e<;>first|rfl|cases h
theorem zo{env:Env}:∀{es:List Expr},es.all qS=true->(backTo pos (starEach es env)).any (·.1)=false
 | [],_=>rfl
 |e::es,h=>by
  simp only[List.all_cons,Bool.and_eq_true]at h;rw[qG h.1];show (false||(backTo pos (starEach es env)).any (·.1))=false;rw[zo h.2];rfl
theorem qBV:SA X G F [] .nil:=by
 refine qD0 L2.pa_nil λσc H Q q=>?_;obtain⟨φ,h,σ,v,h',R,rs,e,k⟩:=q;unfold evs at e;cases e;exact k φ H [] (.refl _) R .nil
theorem V6(hn:qS ea=true)(ha:SE X G F ea a)(hr:SA X G F es as):SA X G F (ea::es) (.cons a as):=by
 refine qD0 (L2.pa_cons ha hr (qG hn)) λσc H Q q=>?_;obtain⟨φ,h,σ,v,h',R,rs,e,k⟩:=q;unfold evs at e;obtain⟨⟨x,h1⟩,e1,e⟩:=Res.bind_inv e;obtain⟨⟨xs,h2⟩,e2,e⟩:=Res.bind_inv e;cases e;exact⟨φ,h,σ,x,h1,R,rs,e1,λφ1 H1 w x1 R1 r1=>⟨φ1,h1,σ,xs,_,R1,rst.mono x1 rs,e2,λφ2 H2 ws x2 R2 r2=>k φ2 H2 _ (x1.trans x2) R2 (.cons (rv.mono x2 r1) r2)⟩⟩
theorem qDo(h:SA X G F es as):SE X G F (.List es pos) (.lst as):=by
 refine qr (L2.pe_lst h) λσc H Q q=>?_;obtain⟨φ,h,σ,v,h',R,rs,e,k⟩:=q;unfold ev at e;obtain⟨⟨xs,h1⟩,e1,e⟩:=Res.bind_inv e;refine⟨φ,h,σ,xs,h1,R,rs,e1,λφ1 H1 ws x1 R1 r1=>?_⟩;dsimp only at e;split at e
 ·rename_i hl;cases e;refine⟨by rw[<-Paired.length r1];exact Nat.le_trans hl QS,λp hp=>k (φ1++[p]) _ _ (x1.trans ⟨[p],rfl⟩) (R1.newL hp r1) R1.lastRef⟩
 ·cases e
theorem d8:SE X G F (.Dict [] [] pos) .dnew:=by
 intro pins s σc H Q I q;obtain⟨φ,h,σ,v,h',R,rs,e,k⟩:=q;unfold ev at e;cases e;have hbig:sysModules<s.heap.objs.size:=wo (by decide) (I.mod.glob.keeps I.bk).lt;have hn:=I.hok.fresh (Nat.le_refl s.heap.objs.size);exact wpAny_Dict_empty ⟨.ref s.heap.objs.size,_,I.laid (a:=s.heap.objs.size) (o:=.dK []) (t':=s.toks) (λ_ _ q=>Heap.get?_push_of_some _ q) (Nat.le_refl _)
  ⟨Nat.zero_le _,beq_eq_false_iff_ne.mpr (Ne.symm (wQ hbig)),[],.nil,Heap.DictOf.new s.heap⟩,rfl,
  k (φ++[s.heap.objs.size]) _ _ ⟨[s.heap.objs.size],rfl⟩ (R.new hn (o:=.ob (.dct [])) qH) R.lastRef⟩
theorem qAw {x1}(h:SA X G F es as):SE X G F (.Tuple es x1 pos) (.tup as):=by
 refine qr (L2.pe_tup h) λσc H Q q=>?_;obtain⟨φ,h,σ,v,h',R,rs,e,k⟩:=q;unfold ev at e;obtain⟨⟨xs,h1⟩,e1,e⟩:=Res.bind_inv e;refine⟨φ,h,σ,xs,h1,R,rs,e1,λφ1 H1 ws x1 R1 r1=>?_⟩;dsimp only at e;split at e
 ·rename_i hl;cases e;refine⟨by rw[<-Paired.length r1];exact Nat.le_trans hl QS,λp hp=>k (φ1++[p]) _ _ (x1.trans ⟨[p],rfl⟩) (R1.newT hp r1) R1.lastRef⟩
 ·cases e
variable (G F) in
noncomputable def spF(K:PySem.W.Frag)(f:Nat):L2.Sp:=λvs H Q _=>∃φ h ws v h',Rl K G φ h H/\rvs φ ws vs/\F f ws h=.ok (v,h')/\∀φ' H' w,Ext φ φ'->Rl K G φ' h' H'->rv φ' v w->Q w H'
variable (X G F) in
structure FnS(f:Nat)(x:Str):Prop where
 ex:∃k fa fd ps,L2.FnOk X.prog X.w X.K X.mg X.base L2.CX0 k fa fd ps (spF G F X.K f)/\L2.Room k X.A/\X.mg x=some (.ref fa)/\PySem.W.keepIn X.K (.ref fa)=true/\L2.Binds X.K fd ps []
theorem i7{f:Nat}{σc:St}{H:Hp}{Q:VK}(q:tE X.K G F (.call f as) σc H Q):L2.tCall (spF G F X.K f) [] L2.E0 (tL X.K G F as) σc H Q:=by
 obtain⟨φ,h,σ,v,h',R,rs,e,k⟩:=q;unfold ev at e;obtain⟨⟨xs,h1⟩,e1,e⟩:=Res.bind_inv e;refine⟨φ,h,σ,xs,h1,R,rs,e1,λφ1 H1 ws x1 R1 r1=>?_⟩;have e:F f xs h1=.ok (v,h'):=by
  have e:(F f xs h1).nx=.ok (v,h'):=e;revert e;generalize F f xs h1=r;cases r<;>intro e<;>first|exact e|cases e
 refine⟨φ1,h1,xs,v,h',R1,by rw[List.append_nil];exact r1,e,λφ2 H2 w x2 R2 r2=>k φ2 H2 w (x1.trans x2) R2 r2⟩
theorem qCN{f:Nat}{x:Str}{p:Pos}(hf:FnS X G F f x)(hg:L2.Gl X x)(hd:(x==("__debug__":Str))=false)(hn:qS ea=true)(hs:es.all qS=true)(ha:SA X G F (ea::es) as):SE X G F (.Call (.Name x p) (ea::es) [] pos) (.call f as):=by
 obtain⟨k,fa,fd,ps,h1,h2,h3,h4,h5⟩:=hf.ex;exact qr (L2.pe_call h1 h2 hg h3 h4 h5 .nil L2.pass0 ha hd (qG hn) (zo hs)) λ_ _ _=>i7
theorem qAs{f:Nat}{x:Str}{p:Pos}(hf:FnS X G F f x)(hg:L2.Gl X x)(hd:(x==("__debug__":Str))=false):SE X G F (.Call (.Name x p) [] [] pos) (.call f .nil):=by
 obtain⟨k,fa,fd,ps,h1,h2,h3,h4,h5⟩:=hf.ex;refine qr (L2.pe_call0 h1 h2 hg h3 h4 h5 .nil L2.pass0 hd) λσc H Q q=>?_;obtain⟨φ,h,σ,vs,h',R,rs,e,k⟩:=i7 q;unfold evs at e;cases e;exact k φ H [] (.refl _) R .nil
theorem qBZ{f:BF}{σc:St}{H:Hp}{Q:VK}(q:tE X.K G F (.blt f as) σc H Q):L2.tCB (qG5 X G f) (tL X.K G F as) σc H Q:=by
 obtain⟨φ,h,σ,v,h',R,rs,e,k⟩:=q;unfold ev at e;obtain⟨⟨xs,h1⟩,e1,e⟩:=Res.bind_inv e;exact⟨φ,h,σ,xs,h1,R,rs,e1,λφ1 H1 ws x1 R1 r1=>⟨φ1,h1,xs,v,h',R1,r1,e,λφ2 H2 w x2 R2 r2=>k φ2 H2 w (x1.trans x2) R2 r2⟩⟩
theorem qDN{f:BF}{x:Str}{p:Pos}(hc:X.calm=true)(hu:X.A.units+8<cLine)(hgd:X.A.guards=some [])(hg:L2.Gl X x)(hm:X.mg x=none)(hv:bootBuiltins x=some (fnB f))(hn:qS ea=true)(hs:es.all qS=true)(ha:SA X G F (ea::es) as)
  (h1:x≠"__name__") (h2:(x==("__debug__":Str))=false):SE X G F (.Call (.Name x p) (ea::es) [] pos) (.blt f as):=by
 have rule:=S8 (G:=G) hc hu hgd f;cases f
 all_goals first
  |exact qr (L2.pe_callB rule hg hm hv ha h1 h2 (qG hn) (zo hs)) λ_ _ _=>qBZ
  |exact qr (L2.pe_callTy rule hg hm hv ha h1 h2 (qG hn) (zo hs)) λ_ _ _=>qBZ
noncomputable def Jj(t:String):Bool:=t=="int"||t=="bool"||t=="list"||t=="tuple"||t=="str"||t=="dict"
theorem Qk(K:PySem.W.Frag):∀{t c:String},(t="NoneType"\/t="bool"\/t="int"\/t="str"\/t="list"\/t="tuple"\/t="dict")->Jj c=true->PySem.W.kitOne K (.type t) (.type c)=some (zk t c):=by
 intro t c ht hc;have hc':c="int"\/c="bool"\/c="list"\/c="tuple"\/c="str"\/c="dict":=by
  simp only[Jj,vX,beq_iff_eq]at hc;rcases hc with((((h|h)|h)|h)|h)|h<;>simp[h]
 rcases ht with rfl|rfl|rfl|rfl|rfl|rfl|rfl<;>rcases hc' with rfl|rfl|rfl|rfl|rfl|rfl<;>kernel_rfl
variable (X G) in
def qIr(c:String):List V->Hp->VK->Prop:=λxs H Q=>∃φ h xa x t,xs=[x,.ty c]/\Rl X.K G φ h H/\rv φ xa x/\zx h xa=some t/\Q (.bl (zk t c)) H
theorem U4{c:String}(hc:Jj c=true):zJ X (.builtin "isinstance") (qIr X G c):=by
 intro pins s σ H xs us Q I r ⟨φ,h,xa,x,t,e,R,rx,ht,q⟩;subst e;obtain⟨u,u2,rfl,r1,r2⟩:=L2.vals2 r;cases (show u2=Value.type c from r2);have fin:∀tk,EP X pins σ Q (.bool (zk t c)) { s with toks:=tk }:=λtk=>⟨.bl (zk t c),H,I.tok tk,rfl,q⟩
 cases xa with
 |non=>cases zG rx;cases r1;cases ht;exact PySem.W.kia_one PySem.W.kitx_none I.kIn True.intro (Qk _ (by simp) hc) (λz=>nomatch z) fin
 |bl i=>cases zN rx;cases r1;cases ht;exact PySem.W.kia_one PySem.W.kitx_bool I.kIn True.intro (Qk _ (by simp) hc) (λz=>nomatch z) fin
 |int i=>cases qB rx;obtain⟨t',rfl⟩:=r1;cases ht;exact PySem.W.kia_one PySem.W.kitx_int I.kIn True.intro (Qk _ (by simp) hc) (λz=>nomatch z) fin
 |str i=>cases zV rx;obtain⟨t',rfl⟩:=r1;cases ht;exact PySem.W.kia_one PySem.W.kitx_str I.kIn True.intro (Qk _ (by simp) hc) (λz=>nomatch z) fin
 |ref i=>
  obtain⟨p,rfl,hp⟩:=qN rx;cases r1;cases ey:h[i]? with
  |none=>rw[show zx h (.ref i)=none by simp only[zx,ey]]at ht;cases ht
  |some o=>
   cases o with
   |lst fz ys=>
    rw[show zx h (.ref i)=some "list" by simp only[zx,ey]]at ht;cases ht;obtain⟨p',zs,hp',hs,rs⟩:=R.lst (i:=i) (xs:=ys) (by unfold qM;rw[ey]);rw[hp]at hp';cases hp';obtain⟨its,_,pl,_⟩:=I.list hs;obtain⟨o,ho,hcl,_⟩:=pl.isList;exact PySem.W.kia_one PySem.W.kitx_list I.kIn ⟨o,ho,hcl⟩ (Qk _ (by simp) hc) (λz=>nomatch z) fin
   |tup ys=>
    rw[show zx h (.ref i)=some "tuple" by simp only[zx,ey]]at ht;cases ht;obtain⟨p',zs,hp',hs,rs⟩:=R.tup (i:=i) (xs:=ys) (by unfold qY;rw[ey]);rw[hp]at hp';cases hp';obtain⟨its,_,pl,_⟩:=I.tuple hs;obtain⟨o,ho,hcl,_⟩:=pl;exact PySem.W.kia_one PySem.W.kitx_tuple I.kIn ⟨o,ho,hcl⟩ (Qk _ (by simp) hc) (λz=>nomatch z) fin
   |ob ks=>
    cases ks with
    |exn c=>rw[show zx h (.ref i)=none by simp only[zx,ey]]at ht;cases ht
    |dct kvs=>
     rw[show zx h (.ref i)=some "dict" by simp only[zx,ey]]at ht;cases ht;obtain⟨p',hp',hs⟩:=R.at ey;rw[hp]at hp';cases hp';obtain⟨_,_,vs,_,o,es,ep,h1,h2,_⟩:=(show L2.ObjOk X.prog X.w H s.heap p (.dK (kvs.map kk)) from I.hok p _ hs)
     exact PySem.W.kia_one PySem.W.kitx_dict I.kIn ⟨o,h1,h2.1⟩ (Qk _ (by simp) hc) (λz=>nomatch z) fin
 |_=>cases ht
theorem qDy{c:String}{xc:Str}{p pc:Pos}(hc:Jj c=true)(hg:L2.Gl X "isinstance")(hm:X.mg "isinstance"=none)(hgc:L2.Gl X xc)(hmc:X.mg xc=none)(hvc:bootBuiltins xc=some (.type c))(hn1:xc≠"__name__")(hn2:(xc==("__debug__":Str))=false)
  (hn:qS ea=true) (ha:SE X G F ea a):SE X G F (.Call (.Name "isinstance" p) [ea,.Name xc pc] [] pos) (.isi a [c]):=by
 refine qr (L2.pe_callB (U4 (G:=G) hc) hg hm PyProof.Rows.boot_isinstance (L2.pa_cons ha (L2.pa_cons (L2.pe_bltn (v:=.ty c) hgc hmc hvc rfl hn1 hn2) L2.pa_nil rfl) (qG hn)) (by decide) (by decide) (qG hn) rfl) λσc H Q q=>?_;obtain⟨φ,h,σ,v,h',R,rs,e,k⟩:=q;unfold ev at e;obtain⟨⟨x,h1⟩,e1,e⟩:=Res.bind_inv e;refine⟨φ,h,σ,x,h1,R,rs,e1,λφ1 H1 w x1 R1 r1=>?_⟩;dsimp only at e;split at e
 ·rename_i t et;cases e;refine⟨φ1,_,x,w,t,rfl,R1,r1,et,?_⟩;have:=k φ1 H1 (.bl ([c].any (zk t))) x1 R1 rfl;simpa using this
 ·cases e
noncomputable def QI:Expr->Bool
 | .Slice ..=>false
 |_=>true
theorem Ze{e:Expr}(h:QI e=true):L2.PlainIx e:=by
 intro o i;cases e<;>first|rfl|cases h
theorem qAJ{φ:List Addr}{x:V}(h:flat x=true):rv φ x x:=by
 cases JZ (φ:=φ) (xs:=[x]) (by simp[h]) with
 |cons r _=>exact r
theorem qFm(hu:X.A.units+8<cLine):L2.IxR X (λx y H Q=>∃a v,x=.ref a/\L2.DGet H a y (some v)/\Q v H):=by
 intro value slice pins s σ H x y v u Q I rx ry ⟨a,z,ex,g,q⟩ hs;subst ex;cases rx;have hT:=L2.dict_typeIs I g;unfold subscriptTail;refine va ?_;rw[getitemInPython_of_ne hT.not_modules];refine va (wpAny_specialOf hT PySem.F.slot_dict_getitem.lookup ?_);have fin:wpAny (model X.prog X.w) X.A (subscripted slice false (.ref a) u) (λr s₃=>wpAny (model X.prog X.w) X.A (letTemporaryGo value (.ref a) r >>=λ_=>pure r) (EP X pins σ Q) X.xe s₃) X.xe s:=by
  rw[hs];exact wpAny_operating (L2.thn (L2.d_getItem (by omega) I g ry (Q:=EP X pins σ Q) λw' s3 I3 rw'=>⟨z,H,I3,rw',q⟩) λr s₃ h₃=>va (wpAny_letTemporaryGo (vb h₃)))
 first
  |exact vb (va fin)
  |exact va (vb (va fin))
  |exact va fin
theorem qB9(kvs:List (Int×V))(i:Int):L2.valV (kvs.map kk) (Sum.inl i)=D3 kvs i:=by
 unfold D3
 induction kvs with
 |nil=>rfl
 |cons p r ih=>
  rw[List.map_cons];by_cases h:p.1=i
  ·rw[L2.valV_pos (show (kk p).1=Sum.inl i by unfold kk;rw[h]),List.find?_cons,vd h];rfl
  ·rw[L2.valV_neg (λz=>h (Sum.inl.inj z)),ih,List.find?_cons,vc h]
theorem qEF(hb':QI eb=true)(ha:SE X G F ea a)(hb:SE X G F eb b):SE X G F (.Subscript ea eb pos) (.idx a b):=by
 refine qr (L2.pe_ix (L2.ix_list.or L2.ix_tup) ha hb (Ze hb')) λσc H Q q=>?_;obtain⟨φ,h,σ,v,h',R,rs,e,k⟩:=q;unfold ev at e;obtain⟨⟨x,h1⟩,e1,e⟩:=Res.bind_inv e;obtain⟨⟨y,h2⟩,e2,e⟩:=Res.bind_inv e;refine jd R rs e1 e2 λφ2 H2 xc yc x2 R2 r1 r2=>?_;cases x with
 |ref p=>
  cases y with
  |int i=>
   dsimp only at e;split at e
   ·rename_i xs ex;split at e
    ·rename_i w ew;cases e;obtain⟨p',zs,hp',hs,rs'⟩:=R2.its ex;obtain⟨q,rfl,hq⟩:=qN r1;rw[hp']at hq;cases hq;cases qB r2;obtain⟨j,ej,ew⟩:=Option.bind_eq_some_iff.mp ew;obtain⟨w',hw',rw'⟩:=qJ rs' ew;have hat:L2.atI zs i=some w':=by
      unfold L2.atI;rw[<-Paired.length rs'];exact Option.bind_eq_some_iff.mpr ⟨j,ej,hw'⟩
     rcases hs with hs|hs
     ·exact .inl ⟨_,zs,i,w',rfl,rfl,hs,hat,k φ2 H2 w' x2 R2 rw'⟩
     ·exact .inr ⟨_,zs,i,w',rfl,rfl,hs,hat,k φ2 H2 w' x2 R2 rw'⟩
    ·cases e
   ·cases e
  |_=>cases e
 |_=>cases e
theorem qDm(hu:X.A.units+8<cLine)(hb':QI eb=true)(ha:SE X G F ea a)(hb:SE X G F eb b):SE X G F (.Subscript ea eb pos) (.dix a b):=by
 refine qr (L2.pe_ix (qFm hu) ha hb (Ze hb')) λσc H Q q=>?_;obtain⟨φ,h,σ,v,h',R,rs,e,k⟩:=q;unfold ev at e;obtain⟨⟨x,h1⟩,e1,e3⟩:=Res.bind_inv e;clear e;obtain⟨⟨y,h2⟩,e2,e4⟩:=Res.bind_inv e3;clear e3;obtain⟨p,ep,e⟩:=zW e4;clear e4;subst ep;refine jd R rs e1 e2 λφ2 H2 xc yc x2 R2 r1 r2=>?_;cases y with
 |int i=>
  dsimp only at e;split at e
  ·rename_i kvs ed;split at e
   ·rename_i w ew;split at e
    ·rename_i fw;cases e;obtain⟨a',ea',_,hH⟩:=R2.dct ed;obtain⟨q,rfl,hq⟩:=qN r1;rw[ea']at hq;cases hq;cases qB r2;refine⟨_,_,rfl,?_,k φ2 H2 _ x2 R2 (qAJ fw)⟩;have:=L2.DGet.k (k:=(Sum.inl i:L2.Key)) hH;rw[qB9,ew]at this;exact this
    ·cases e
   ·cases e
  ·cases e
 |_=>cases e
theorem ZT{φ:List Addr}{xs ys:List V}(r:rvs φ xs ys)(lo hi:Option Int):rvs φ (L2.cutV xs lo hi) (L2.cutV ys lo hi):=by
 unfold L2.cutV;rw[Paired.length r];exact zP _ (ja _ r)
variable (X G F) in
def SO(o:Option Expr)(as:Es):Prop:=L2.PO X o λσc H Q=>∃φ h σ is h',Rl X.K G φ h H/\rst φ σ σc/\(∃vs,evs F as σ h=.ok (vs,h')/\zy vs=some is)/\∀φ' H',Ext φ φ'->Rl X.K G φ' h' H'->Q is.head? H'
theorem qCr:SO X G F none .nil:=by
 intro pins s σc H Q I q;obtain⟨φ,h,σ,is,h',R,rs,⟨vs,e,ei⟩,k⟩:=q;unfold evs at e;cases e;cases ei;exact L2.po_none pins s σc H Q I (k φ H (.refl _) R)
theorem qBr(ha:SE X G F ea a):SO X G F (some ea) (.cons a .nil):=by
 intro pins s σc H Q I q;obtain⟨φ,h,σ,is,h',R,rs,⟨vs,e,ei⟩,k⟩:=q;unfold evs at e;obtain⟨⟨x,h1⟩,e1,e⟩:=Res.bind_inv e;unfold evs at e;cases e;refine L2.po_some ha pins s σc H Q I ⟨φ,h,σ,x,_,R,rs,e1,λφ1 H1 w x1 R1 r1=>?_⟩;have hm:=jH ei;cases is with
 |nil=>cases hm
 |cons i r=>
  simp only[List.map_cons,List.cons.injEq]at hm;obtain⟨rfl,_⟩:=hm;cases qB r1;exact⟨i,rfl,k φ1 H1 x1 R1⟩
theorem qEo{lo hi:Option Expr}{al ah:Es}{p2:Pos}(ha:SE X G F ea a)(hl:SO X G F lo al)(hh:SO X G F hi ah):SE X G F (.Subscript ea (.Slice lo hi none p2) pos) (.sl a al ah):=by
 refine qr (L2.pe_slice (L2.SlR.or L2.sl_list L2.sl_tup) ha hl hh) λσc H Q q=>?_;obtain⟨φ,h,σ,v,h',R,rs,e,k⟩:=q;unfold ev at e;obtain⟨⟨x,h1⟩,e1,e⟩:=Res.bind_inv e;obtain⟨⟨l,h2⟩,e2,e⟩:=Res.bind_inv e;obtain⟨⟨u,h3⟩,e3,e⟩:=Res.bind_inv e;cases x with
 |ref p=>
  cases eil:zy l with
  |none=>dsimp only at e;rw[eil]at e;cases e
  |some il=>
   cases eiu:zy u with
   |none=>dsimp only at e;rw[eil,eiu]at e;cases e
   |some iu=>
    dsimp only at e;rw[eil,eiu]at e;dsimp only at e;split at e
    ·rename_i xs ex;cases e;refine⟨φ,h,σ,_,h1,R,rs,e1,λφ1 H1 w x1 R1 r1=>?_⟩;refine⟨φ1,h1,σ,il,h2,R1,rst.mono x1 rs,⟨l,e2,eil⟩,λφ2 H2 x2 R2=>?_⟩;refine⟨φ2,h2,σ,iu,h3,R2,rst.mono (x1.trans x2) rs,⟨u,e3,eiu⟩,λφ3 H3 x3 R3=>?_⟩;obtain⟨p',zs,hp',hs,rs'⟩:=R3.lst ex;obtain⟨q,rfl,hq⟩:=qN (rv.mono (x2.trans x3) r1);rw[hp']at hq;cases hq;exact .inl ⟨_,zs,rfl,hs,λm hm=>k (φ3++[m]) _ _ ((x1.trans (x2.trans x3)).trans ⟨[m],rfl⟩) (R3.newL hm (ZT rs' _ _)) R3.lastRef⟩
    ·split at e
     ·rename_i xs ex;split at e
      ·cases e
      ·rename_i hw;cases e;refine⟨φ,h,σ,_,h1,R,rs,e1,λφ1 H1 w x1 R1 r1=>?_⟩;refine⟨φ1,h1,σ,il,h2,R1,rst.mono x1 rs,⟨l,e2,eil⟩,λφ2 H2 x2 R2=>?_⟩;refine⟨φ2,h2,σ,iu,h3,R2,rst.mono (x1.trans x2) rs,⟨u,e3,eiu⟩,λφ3 H3 x3 R3=>?_⟩;obtain⟨p',zs,hp',hs,rs'⟩:=R3.tup ex;obtain⟨q,rfl,hq⟩:=qN (rv.mono (x2.trans x3) r1);rw[hp']at hq;cases hq;exact .inr ⟨_,zs,rfl,hs,by rw[<-Paired.length rs'];exact hw,λm hm=>k (φ3++[m]) _ _ ((x1.trans (x2.trans x3)).trans ⟨[m],rfl⟩) (R3.newT hm (ZT rs' _ _)) R3.lastRef⟩
     ·cases e
 |_=>cases e
theorem qEb{apos cpos:Pos}(hbase:attributeBase ea "append" X.env (eval ea X.env)=eval ea X.env)(hline:(apos.endLine==cpos.line)=true)(hn:qS eb=true)(ha:SE X G F ea a)(hb:SE X G F eb b):
  SE X G F (.Call (.Attribute ea "append" apos) [eb] [] cpos) (.app a b):=by
 refine qr (L2.pe_bm PySem.F.plainAttrs_list PySem.F.slot_list_append PySem.F.type_list_append L2.mt_append ha (L2.pa_cons hb L2.pa_nil (qG hn)) hbase (by rw[qG hn];rfl) hline (qG hn) rfl) λσc H Q q=>?_;obtain⟨φ,h,σ,v,h',R,rs,e,k⟩:=q;unfold ev at e;obtain⟨⟨x,h1⟩,e1,e⟩:=Res.bind_inv e;dsimp only at e;split at e
 ·rename_i p;split at e
  ·rename_i ys ey;obtain⟨⟨y,h2⟩,e2,e⟩:=Res.bind_inv e;dsimp only at e;split at e
   ·rename_i xs ex;split at e
    ·rename_i hl;cases e;refine⟨φ,h,σ,_,h1,R,rs,e1,λφ1 H1 w x1 R1 r1=>?_⟩;obtain⟨p1,zs1,hp1,hs1,_⟩:=R1.lst ey;obtain⟨q,rfl,hq⟩:=qN r1;rw[hp1]at hq;cases hq;refine⟨.inl ⟨rfl,_,hs1⟩,φ1,h1,σ,y,h2,R1,rst.mono x1 rs,e2,λφ2 H2 yc x2 R2 r2=>?_⟩;obtain⟨q1,p2,zs2,hp2,hH2,rs2⟩:=R2.mut ex;have:=x2.get hp1;rw[hp2]at this;cases this;refine⟨_,zs2,yc,rfl,rfl,hH2,?_,k φ2 _ _ (x1.trans x2) (R2.set q1 hp2 (qR rs2 (.cons r2 .nil))) trivial⟩;rw[<-Paired.length rs2];exact wo hl qBO
    ·cases e
   ·cases e
  ·cases e
 ·cases e
theorem Rl.same{K:PySem.W.Frag}{G φ:List Addr}{h:AH}{H H':Hp}(R:Rl K G φ h H)(s:Zx H H'):Rl K G φ h H':=⟨R.len,R.glob,λi o a e1 e2=>(R.obj i o a e1 e2).keep (.refl _) s,R.inj⟩
theorem Jf{φ:List Addr}:∀{xs:List V},xs.all flat=true->rvs φ xs xs
 | [],_=>.nil
 |x::xs,h=>by
  simp only[List.all_cons,Bool.and_eq_true]at h;refine .cons ?_ (Jf h.2);cases x<;>first|rfl|exact trivial|(cases h.1)
theorem ZI{α β:Type}{R:α->β->Prop}{xs:List α}{us:List β}(h:Paired R xs us)(k:Nat):Paired R (xs.eraseIdx k) (us.eraseIdx k):=by
 rw[wm,wm];exact qR (zP _ h) (ja _ h)
theorem f9:zJ X (.type "range") (λxs H Q=>∃j:Int,xs=[.int j]/\∀p,H p=none->Q (.ref p) (upd H p (.rng 0 j))):=by
 intro pins s σ H xs us Q I r ⟨j,e,q⟩;subst e;obtain⟨u,rfl,ru⟩:=L2.vals1 r;obtain⟨t,rfl⟩:=ru;refine call_range_1 ⟨.ref s.heap.objs.size,_,I.laid (λ_ _ q=>Heap.get?_push_of_some _ q) (Nat.le_refl _) ?_,rfl,q _ (I.hok.fresh (Nat.le_refl _))⟩;exact⟨_,_,_,Heap.get?_push_size _ rfl⟩
theorem Zq{P:Nat->V}:∀{n:Nat}{acc:List Value},acc.length=n->(∀(j:Nat) v,acc[j]?=some v->RelV (P j) v)->Vals ((List.range n).map P) acc:=by
 intro n
 induction n with
 |zero=>intro acc hl _;cases acc with|nil=>exact .nil|cons _ _=>simp at hl
 |succ n ih=>
  intro acc hl ha;have hne:acc≠[]:=by intro z;subst z;simp at hl
  rw[vK,wR,<-List.dropLast_concat_getLast hne];have hd:acc.dropLast.length=n:=by rw[List.length_dropLast,hl];rfl
  refine qR (ih hd λj v e=>ha j v ?_) (.cons (ha n _ ?_) .nil)
  ·rw[<-List.dropLast_concat_getLast hne,List.getElem?_append_left (List.getElem?_eq_some_iff.mp e).1];exact e
  ·rw[wA (by omega),List.getLast_eq_getElem];congr 1;simp[hl]
theorem Zy(hc:X.calm=true):zJ X (.type "list") (λxs H Q=>∃p,∃j:Int,xs=[.ref p]/\H p=some (.rng 0 j)/\(-1000000<=j/\j<=100000)/\∀l,H l=none->Q (.ref l) (upd H l (.lst (jQ 0 j.toNat)))):=by
 intro pins s σ H xs us Q I r ⟨p,j,e,hp,hj,q⟩;subst e;obtain⟨u,rfl,ru⟩:=L2.vals1 r;cases ru;obtain⟨t,u,v,hr⟩:=I.hok p _ hp;have hn:Builtin.Range.rangeSize 0 j 1=((j.toNat:Nat):Int):=by rw[rangeSize_one];split<;>omega
 refine call_list_range (I.ok.hd hc) hr (small_one (by omega) (by omega) (by omega) (by omega)) hn (by omega) λh' tk acc' c' hk hS hI=>?_;refine⟨.ref s.heap.objs.size,_,I.laid (t':=tk) hk (Nat.le_refl _) ?_,rfl,q _ (I.hok.fresh (Nat.le_refl _))⟩;obtain⟨i1,i2⟩:=hI;refine⟨?_,acc'.toList,c',Zq (by simpa using i1) λk v e=>?_,by simpa using hS⟩
 ·have:=QS;unfold lim at this;rw[jQ,wO,List.length_range];omega
 ·obtain⟨t',rfl⟩:=i2 k v (by simpa using e);exact⟨t',by rw[Int.mul_one]⟩
theorem qCz{p p2 pos2:Pos}(hc:X.calm=true)(hg:L2.Gl X "list")(hm:X.mg "list"=none)(hg2:L2.Gl X "range")(hm2:X.mg "range"=none)(hn:qS ea=true)(ha:SE X G F ea a):
  SE X G F (.Call (.Name "list" p) [.Call (.Name "range" p2) [ea] [] pos2] [] pos) (.lrng a):=by
 refine qr (L2.pe_callTy (Zy hc) hg hm PyProof.Rows.boot_list (L2.pa_cons (L2.pe_callTy f9 hg2 hm2 PyProof.Rows.boot_range (L2.pa_cons ha L2.pa_nil (qG hn)) (by decide) (by decide) (qG hn) rfl) L2.pa_nil rfl) (by decide) (by decide) rfl rfl) λσc H Q q=>?_;obtain⟨φ,h,σ,v,h',R,rs,e,k⟩:=q;unfold ev at e;obtain⟨⟨x,h1⟩,e1,e⟩:=Res.bind_inv e;refine⟨φ,h,σ,x,h1,R,rs,e1,λφ1 H1 w x1 R1 r1=>?_⟩;cases x with
 |int j=>
  dsimp only at e;split at e
  ·rename_i hj;cases e;cases qB r1;refine⟨j,rfl,λp hp=>⟨p,j,rfl,qH,hj,λl hl=>?_⟩⟩;have hlp:l≠p:=by rintro rfl;rw[qH]at hl;cases hl
   have R2:Rl X.K G φ1 h1 (upd H1 p (.rng 0 j)):=R1.same (Zs hp);exact k (φ1++[l]) _ _ (x1.trans ⟨[l],rfl⟩) (R2.newL hl (Jf (by simp[jQ,flat]))) R2.lastRef
  ·cases e
 |_=>cases e
theorem qCb{m:Mt}{r:V->List V->Hp->VK->Prop}{σc:St}{H:Hp}{Q:VK}{as:Es}
  (hr:∀φ h H p ys ws v h' Q,Rl X.K G φ h H->rvs φ ys ws->h8 m p ys h=.ok (v,h')->(∀φ' H' w,Ext φ φ'->Rl X.K G φ' h' H'->rv φ' v w->Q w H')->∀a,φ[p]?=some a->r (.ref a) ws H Q)
  (q:tE X.K G F (.meth m a as) σc H Q):L2.tBM X.K "list" r (tE X.K G F a) (tL X.K G F as) σc H Q:=by
 obtain⟨φ,h,σ,v,h',R,rs,e,k⟩:=q;unfold ev at e;obtain⟨⟨x,h1⟩,e1,e⟩:=Res.bind_inv e;dsimp only at e;split at e
 ·rename_i p;split at e
  ·rename_i ys ey;obtain⟨⟨zs,h2⟩,e2,e⟩:=Res.bind_inv e;refine⟨φ,h,σ,_,h1,R,rs,e1,λφ1 H1 w x1 R1 r1=>?_⟩;obtain⟨p1,zs1,hp1,hs1,_⟩:=R1.lst ey;obtain⟨q,rfl,hq⟩:=qN r1;rw[hp1]at hq;cases hq;exact⟨.inl ⟨rfl,_,hs1⟩,φ1,h1,σ,zs,h2,R1,rst.mono x1 rs,e2,λφ2 H2 yc x2 R2 r2=>hr φ2 h2 H2 p zs yc v h' Q R2 r2 e (λφ3 H3 w x3 R3 r3=>k φ3 H3 w (x1.trans (x2.trans x3)) R3 r3) _ (x2.get hp1)⟩
  ·cases e
 ·cases e
theorem O5:∀φ h H p ys ws v h' Q,Rl X.K G φ h H->rvs φ ys ws->h8 .popAt p ys h=.ok (v,h')->(∀φ' H' w,Ext φ φ'->Rl X.K G φ' h' H'->rv φ' v w->Q w H')->∀a,φ[p]?=some a->L2.rPopAt (.ref a) ws H Q:=by
 intro φ h H p ys ws v h' Q R rw' e k a ha;unfold h8 at e;split at e
 all_goals first|(rename_i z _ _;cases z;done)|(rename_i z _;cases z;done)|(rename_i z;cases z;done)|skip
 ·cases rw' with
  |cons r1 t=>
   cases t;cases qB r1;split at e
   ·rename_i xs ex;split at e
    ·rename_i hl;split at e
     ·rename_i j ej;split at e
      ·rename_i y ey;cases e;obtain⟨q1,p2,zs2,hp2,hH2,rs2⟩:=R.mut ex;rw[ha]at hp2;cases hp2;obtain⟨w,hw,rw2⟩:=qJ rs2 ey;obtain⟨s1,s2,s3,s4⟩:=L2.ixN_seq ej;have:=QS;unfold lim at hl;refine⟨a,zs2,_,j,w,rfl,rfl,hH2,by omega,by omega,by rw[<-Paired.length rs2];exact s1,hw,k φ _ _ (.refl _) (R.set q1 ha (ZI rs2 j)) rw2⟩
      ·cases e
     ·cases e
    ·cases e
   ·cases e
 ·cases e
theorem qAD{apos cpos:Pos}(hbase:attributeBase ea "pop" X.env (eval ea X.env)=eval ea X.env)(hline:(apos.endLine==cpos.line)=true)(hn:qS eb=true)(ha:SE X G F ea a)(hb:SE X G F eb b):
  SE X G F (.Call (.Attribute ea "pop" apos) [eb] [] cpos) (.meth .popAt a (.cons b .nil)):=
 qr (L2.pe_bm PySem.F.plainAttrs_list PySem.F.slot_list_pop PySem.F.type_list_pop L2.mt_popAt ha (V6 hn hb qBV) hbase (by rw[qG hn];rfl) hline (qG hn) rfl) λ_ _ _=>qCb O5
end
open L2 (It JS ZJ)
abbrev Zf(h:Heap)(z ti to:Addr)(f0 f1:Value):Prop:=
 h.get? z=some { cls:=.type "zip",dict:=none,data:=.fields #[f0,f1,.bool false,.ref ti,.ref to],slots:=#[] }
section
variable{P:Program}{w:World}{A:Around}{E:Value->Shared->Prop}{s:Shared}{z ti to i1 i2 a b T:Addr}{k:Nat}{xs ys:Array Value}{x y:Value}{oT:Obj}{f1:Bool}
structure Wd(h:Heap)(z ti to i1 i2 a b T:Addr)(f1:Bool)(k:Nat)(xs ys:Array Value):Prop where
 z:Zf h z ti to (rawInt T) (.bool f1)
 ti:IsPair h ti (.ref i1) (.ref i2)
 t:∃o,h.get? T=some o
 n1:h.IsListIter i1 a k
 n2:h.IsListIter i2 b k
 e1:h.IsList a xs
 e2:h.IsList b ys
structure Ad(z ti i1 i2 a b T:Addr):Prop where
 nd:[z,ti,i1,i2].Nodup
 l1:a∉[z,i1,i2]
 l2:b∉[z,i1,i2]
 t:T∉[z,i1,i2]
abbrev Kd(z i1 i2:Addr)(h g:Heap):Prop:=∀c o,c∉[z,i1,i2]->h.get? c=some o->g.get? c=some o
theorem X3{Q:Bool->Shared->Prop}(S:Zf s.heap z ti to (rawInt T) (.bool f1))(hT:s.heap.get? T=some oT)(h:∀g,Zf g z ti to (rawInt T) (.bool true)->Heap.SameBut z s.heap g->Q false { s with heap:=g }):
  wpAny (model P w) A (Builtin.SmallTypes.ownedTupleIsFree (.ref z)) Q E s:=by
 unfold Builtin.SmallTypes.ownedTupleIsFree;refine va (wpAny_field S rfl (x:=rawInt T) rfl ?_);show wpAny _ _ (loadIfAlive ((T:Int).toNat) >>=_) _ _ _;refine va (PySem.W.kdx_alive (a:=T) hT ?_);show wpAny _ _ (field (.ref z) 1 >>=_) _ _ _;refine va (wpAny_field S rfl (x:=.bool f1) rfl ?_);cases f1 with
 |true=>exact vb (h s.heap S ⟨rfl,λ_ _=>rfl⟩)
 |false=>exact va (wpAny_setField_rec S (by simp) λg zg m=>vb (h g zg m))
theorem Wd.setZ{h g:Heap}(D:Ad z ti i1 i2 a b T)(S:Wd h z ti to i1 i2 a b T f1 k xs ys){f2:Bool}(hz:Zf g z ti to (rawInt T) (.bool f2))(e:Heap.SameBut z h g):Wd g z ti to i1 i2 a b T f2 k xs ys:=by
 have d:=D.nd;have d1:=D.l1;have d2:=D.l2;have d3:=D.t;simp only[List.nodup_cons,List.mem_cons,wD,or_false,not_or]at d d1 d2 d3;obtain⟨o,ho⟩:=S.t;exact⟨hz,e.extBut _ _ (Ne.symm d.1.1) S.ti,⟨o,e.extBut _ _ d3.1 ho⟩,S.n1.extBut e.extBut (Ne.symm d.1.2.1),S.n2.extBut e.extBut (Ne.symm d.1.2.2),S.e1.extBut e.extBut d1.1,S.e2.extBut e.extBut d2.1⟩
theorem qCm{Q:Value->Shared->Prop}(D:Ad z ti i1 i2 a b T)(S:Wd s.heap z ti to i1 i2 a b T f1 k xs ys)(hx:xs[k]?=some x)(hy:ys[k]?=some y)
  (hQ:∀g,Wd g z ti to i1 i2 a b T true (k+1) xs ys->IsPair g s.heap.objs.size x y->Kd z i1 i2 s.heap g->s.heap.objs.size<=g.objs.size->Q (.ref s.heap.objs.size) { s with heap:=g }):
  wpAny (model P w) A (Builtin.«zip.__next__» ⟨[.ref z],[]⟩) (λfin s'=>∃v,fin=.done (.ret v)/\Q v s') E s:=by
 obtain⟨oT,hT⟩:=S.t;show wpAny _ _ (field (.ref z) 2 >>=_) _ _ _;refine va (wpAny_field S.z rfl (x:=.bool false) rfl (show wpAny _ _ (field (.ref z) 3 >>=_) _ _ _ from va (wpAny_field S.z rfl (x:=.ref ti) rfl (va (wpAny_seqItems S.ti rfl ?_)))));show wpAny _ _ (Builtin.SmallTypes.ownedTupleIsFree (.ref z) >>=_) _ _ _;refine va (X3 S.z hT λg1 z1 m1=>?_);have S1:=S.setZ D z1 m1;have d:=D.nd;have d1:=D.l1;have d2:=D.l2;have d3:=D.t;simp only[List.nodup_cons,List.mem_cons,wD,or_false,not_or]at d d1 d2 d3;simp only[Bool.false_eq_true,if_false];refine va ?_;simp only[List.forIn_toArray,vW,List.forIn_nil];refine va (va (wpAny_holding (show wpAny _ _ (Builtin.SmallTypes.nextOf (.ref i1) >>=_) _ _ _ from va (wpAny_nextOf_list_item S1.n1 S1.e1 hx λg2 n2 m2=>vb (vb ?_)))));have N2:g2.IsListIter i2 b k:=S1.n2.extBut m2.extBut (Ne.symm d.2.2.1);have L2:g2.IsList b ys:=S1.e2.extBut m2.extBut d2.2.1;refine va (va (wpAny_holding (show wpAny _ _ (Builtin.SmallTypes.nextOf (.ref i2) >>=_) _ _ _ from va (wpAny_nextOf_list_item N2 L2 hy λg3 n3 m3=>vb (vb (vb ?_))))));refine va (wpAny_newTuple (hsz:=by show 2<=sizeLine;decide) (vb ⟨_,rfl,?_⟩));have sz:g3.objs.size=s.heap.objs.size:=by rw[m3.1,m2.1,m1.1]
 have lift:∀c o,c∉[z,i1,i2]->s.heap.get? c=some o->(g3.push { cls:=.type "tuple",data:=.seq #[x,y] }).get? c=some o:=λc o hc ho=>by
  simp only[List.mem_cons,wD,or_false,not_or]at hc;exact Heap.get?_push_of_some _ (m3.extBut _ _ hc.2.2 (m2.extBut _ _ hc.2.1 (m1.extBut _ _ hc.1 ho)))
 have up:∀c o,g3.get? c=some o->(g3.push { cls:=.type "tuple",data:=.seq #[x,y] }).get? c=some o:=λc o ho=>Heap.get?_push_of_some _ ho;have W:Wd (g3.push { cls:=.type "tuple",data:=.seq #[x,y] }) z ti to i1 i2 a b T true (k+1) xs ys:=
  ⟨up _ _ (m3.extBut _ _ d.1.2.2 (m2.extBut _ _ d.1.2.1 S1.z)),up _ _ (m3.extBut _ _ d.2.1.2 (m2.extBut _ _ d.2.1.1 S1.ti)),⟨oT,lift _ _ D.t hT⟩,(n2.extBut m3.extBut d.2.2.1).at λo e=>up _ o e,n3.at λo e=>up _ o e,S.e1.at λo e=>lift _ o D.l1 e,S.e2.at λo e=>lift _ o D.l2 e⟩
 have Tp:IsPair (g3.push { cls:=.type "tuple",data:=.seq #[x,y] }) g3.objs.size x y:=Heap.get?_push_size _ rfl;show Q (.ref g3.objs.size) _;rw[sz]at Tp ⊢;exact hQ _ W Tp lift (by rw[Heap.size_push,sz];exact Nat.le_succ _)
theorem qCS{Q:Fin->Shared->Prop}(hh:A.handled=none)(D:Ad z ti i1 i2 a b T)(S:Wd s.heap z ti to i1 i2 a b T f1 k xs ys)(hend:xs[k]?=none\/ys[k]?=none)
  (hE:∀g e,Kd z i1 i2 s.heap g->(∃o,g.get? e=some o/\o.cls=.type "StopIteration")->E (.ref e) { s with heap:=g }):
  wpAny (model P w) A (Builtin.«zip.__next__» ⟨[.ref z],[]⟩) Q E s:=by
 obtain⟨oT,hT⟩:=S.t;show wpAny _ _ (field (.ref z) 2 >>=_) _ _ _;refine va (wpAny_field S.z rfl (x:=.bool false) rfl (show wpAny _ _ (field (.ref z) 3 >>=_) _ _ _ from va (wpAny_field S.z rfl (x:=.ref ti) rfl (va (wpAny_seqItems S.ti rfl ?_)))));show wpAny _ _ (Builtin.SmallTypes.ownedTupleIsFree (.ref z) >>=_) _ _ _;refine va (X3 S.z hT λg1 z1 m1=>?_);have S1:=S.setZ D z1 m1;have d:=D.nd;have d1:=D.l1;have d2:=D.l2;simp only[List.nodup_cons,List.mem_cons,wD,or_false,not_or]at d d1 d2;simp only[Bool.false_eq_true,if_false];refine va ?_;simp only[List.forIn_toArray,vW,List.forIn_nil];cases hx:xs[k]? with
 |none=>exact va (va (wpAny_holding (show wpAny _ _ (Builtin.SmallTypes.nextOf (.ref i1) >>=_) _ _ _ from va (wpAny_nextOf_list_end hh S1.n1 S1.e1 hx λg2 e m2 he=>hE g2 e (λc o hc ho=>by
   simp only[List.mem_cons,wD,or_false,not_or]at hc;exact m2 _ _ hc.2.1 (m1.extBut _ _ hc.1 ho)) he))))
 |some x=>
  have hy:ys[k]?=none:=by
   rcases hend with e|e
   ·rw[hx]at e;cases e
   ·exact e
  refine va (va (wpAny_holding (show wpAny _ _ (Builtin.SmallTypes.nextOf (.ref i1) >>=_) _ _ _ from va (wpAny_nextOf_list_item S1.n1 S1.e1 hx λg2 n2 m2=>vb (vb ?_)))));have N2:g2.IsListIter i2 b k:=S1.n2.extBut m2.extBut (Ne.symm d.2.2.1);have L2:g2.IsList b ys:=S1.e2.extBut m2.extBut d2.2.1;exact va (va (wpAny_holding (show wpAny _ _ (Builtin.SmallTypes.nextOf (.ref i2) >>=_) _ _ _ from va (wpAny_nextOf_list_end hh N2 L2 hy λg3 e m3 he=>hE g3 e (λc o hc ho=>by
   simp only[List.mem_cons,wD,or_false,not_or]at hc;exact m3 _ _ hc.2.2 (m2.extBut _ _ hc.2.1 (m1.extBut _ _ hc.1 ho))) he))))
theorem qBn{Q:Option Value->Shared->Prop}(D:Ad z ti i1 i2 a b T)(S:Wd s.heap z ti to i1 i2 a b T f1 k xs ys)(hx:xs[k]?=some x)(hy:ys[k]?=some y)
  (hQ:∀g,Wd g z ti to i1 i2 a b T true (k+1) xs ys->IsPair g s.heap.objs.size x y->Kd z i1 i2 s.heap g->s.heap.objs.size<=g.objs.size->Q (some (.ref s.heap.objs.size)) { s with heap:=g }):wpAny (model P w) A (pyNext (.ref z)) Q E s:=by
 have ty:s.TypeIs (.ref z) "zip":=⟨_,S.z,rfl⟩
 unfold pyNext;exact va (wpAny_attempt (wpAny_callSpecial?_slot (name:=Str.ofString "__next__") ty PySem.F.slot_zip_next (wpAny_call_entry PySem.F.slot_zip_next ty PySem.F.entry_zip_next (qCm D S hx hy λg b1 b2 b3 b4=>vb (hQ g b1 b2 b3 b4)) (PySem.F.args_zip_next_1 _))))
theorem qB3{Q:Option Value->Shared->Prop}(hh:A.handled=none)(D:Ad z ti i1 i2 a b T)(S:Wd s.heap z ti to i1 i2 a b T f1 k xs ys)(hend:xs[k]?=none\/ys[k]?=none)
  (hQ:∀g,Kd z i1 i2 s.heap g->Q none { s with heap:=g }):wpAny (model P w) A (pyNext (.ref z)) Q E s:=by
 have ty:s.TypeIs (.ref z) "zip":=⟨_,S.z,rfl⟩
 unfold pyNext;refine va (wpAny_attempt (wpAny_callSpecial?_slot (name:=Str.ofString "__next__") ty PySem.F.slot_zip_next (wpAny_call_entry PySem.F.slot_zip_next ty PySem.F.entry_zip_next (qCS hh D S hend λg e hk he=>?_) (PySem.F.args_zip_next_1 _))));obtain⟨o,ho,hc⟩:=he;exact va (wpAny_isInstance (T:="StopIteration") (b:=true) ⟨o,ho,hc⟩ isSubtype_stop (vb (hQ _ hk)))
end
theorem qCg:typeLookup (.type "zip") "keys"=pure none:=by rw[typeLookup_type,builtinLookup_eq_fast];kernel_rfl
theorem qCK:typeLookup (.type "zip") "__getattr__"=pure none:=by rw[typeLookup_type,builtinLookup_eq_fast];kernel_rfl
theorem qAa:entryFor table "zip.__getattribute__"=some Builtin.«object.__getattribute__»:=entryFor_alias (id':="object.__getattribute__") (by kernel_rfl) (by decide +kernel) (by decide +kernel) (by kernel_rfl)
theorem z9(z ti to:Addr)(f0 f1:Value)(u:Tok):Meets (Builtin.«object.__getattribute__» ⟨[.ref z,.str "keys" u],[]⟩) (λA R s=>Zf s.heap z ti to f0 f1/\raisesAttr (.ref z) "keys" A R s):=
 Meets.of_wp λprog w A R s hs=>by
  obtain⟨hp,g,d,tk,os⟩:=s;obtain⟨hx,hs⟩:=hs;have hT:(⟨hp,g,d,tk,os⟩:Shared).TypeIs (.ref z) "zip":=⟨_,hx,rfl⟩
  have q1:=qCg;have q2:(["__module__","__name__","__qualname__","__doc__","__annotations__"]:List Str).contains "keys"=false:=by decide
  unfold Builtin.«object.__getattribute__»
  repeat (any_goals (first|assumption|wp_step))
  exact wpAny_raiseAttrError hs.1 hs.2 (attrMsg_fits (by decide +kernel) (by decide))
theorem qBh{prog:Program}{w:World}{A:Around}{E:Value->Shared->Prop}{s:Shared}{z ti to:Addr}{f0 f1:Value}{Q:Option Value->Shared->Prop}(hz:Zf s.heap z ti to f0 f1)(hA:A.handled=none)
  (h:∀g tk,(∀c o,s.heap.get? c=some o->g.get? c=some o)->Q none { s with heap:=g,toks:=tk }):wpAny (model prog w) A (getAttr? (.ref z) "keys") Q E s:=by
 obtain⟨hp,g,d,tk,os⟩:=s;have hT:∀tk',(⟨hp,g,d,tk',os⟩:Shared).TypeIs (.ref z) "zip":=λ_=>⟨_,hz,rfl⟩
 have f1:=sub_AttributeError;have f3:=PySem.F.slot_zip_getattribute.lookup;have f4:=PySem.F.slot_zip_getattribute.bind (.ref z);have f5:=qCK;unfold getAttr? getAttrBy? getAttrBy
 repeat (any_goals (first|assumption|exact hT _|((with_reducible show wpAny _ _ (call (Value.builtin "zip.__getattribute__") _ _) _ _ _);refine call_meets PySem.F.slot_zip_getattribute (hT _) qAa (PySem.F.args_zip_getattribute_2 _ _) (z9 z ti to _ _ _) ⟨hz,hA,λg' tk' e hx'=>?_⟩)|wp_step))
 obtain⟨t',u',he⟩:=hx'.there;show wpAny _ _ (getattributeRaised _ _ _ _ _ _ _) _ _ _;unfold getattributeRaised;have ty:∀tk2,(⟨g',g,d,tk2,os⟩:Shared).TypeIs (.ref e) "AttributeError":=λ_=>⟨_,he,rfl⟩
 repeat (any_goals (first|assumption|exact ty _|wp_step))
 exact h g' _ λc o q=>hx'.keeps c o q
theorem jG:plainId "dict.update.loop"=true:=by decide +kernel
theorem Zz:entryFor table "dict.update.loop"=some Builtin.«dict.update.loop»:=entryFor_of_fast (by kernel_rfl)
section
variable{P:Program}{w:World}{K:Type}[DecidableEq K]{knd:KeyKind P w K}{A:Around}{E:Value->Shared->Prop}{z ti to i1 i2 a b d:Addr}{xs ys:Array Value}
def Left(knd:KeyKind P w K)(xs ys:Array Value)(k:Nat)(L:List (K×Value)):Prop:=
 (∀j p,L[j]?=some p->∃x,xs[k+j]?=some x/\knd.is p.1 x=true/\ys[k+j]?=some p.2)/\(xs[k+L.length]?=none\/ys[k+L.length]?=none)
theorem Left.next{k:Nat}{p:K×Value}{L:List (K×Value)}(h:Left knd xs ys k (p::L)):(∃x,xs[k]?=some x/\knd.is p.1 x=true/\ys[k]?=some p.2)/\Left knd xs ys (k+1) L:=by
 refine⟨by simpa using h.1 0 p rfl,λj q e=>?_,?_⟩
 ·have:=h.1 (j+1) q (by simpa using e);rw[show k+(j+1)=k+1+j by omega]at this;exact this
 ·have:=h.2;rw[List.length_cons,show k+(L.length+1)=k+1+L.length by omega]at this;exact this
noncomputable def qFz(kvs L:List (K×Value)):List (K×Value):=L.foldl (λacc p=>stored acc p.1 p.2) kvs
theorem ZR(kvs:List (K×Value))(k:K)(v:Value):(stored kvs k v).length<=kvs.length+1:=by
 unfold stored;split<;>simp
theorem n9{s:Shared}{kvs:List (K×Value)}{k:K}{x y:Value}{p:Addr}{Q:Unit->Shared->Prop}(hp:IsPair s.heap p x y)(hk:knd.is k x=true)(hd:s.heap.DictOf knd d kvs)(hz:kvs.length<=sizeLine)
  {F:List Value->Sem Unit}{C:Value->Sem (List Value)}(h:∀g,g.DictOf knd d (stored kvs k y)->Heap.SameBut d s.heap g->Q () { s with heap:=g,toks:=s.toks+1 }):
  wpAny (model P w) A (do
   let pair <- (Builtin.Dict.pairItems (.ref p)).tryCatch C
   match pair with
   | [k,v]=>holding [k,v] (dictSet d k v)
   |l=>F l) Q E s:=by
 refine va (wpAny_tryCatch ?_);unfold Builtin.Dict.pairItems;refine va (wpAny_typeOf (T:="tuple") ⟨_,hp,rfl⟩ ?_);simp only[show ((Value.type "tuple"==Value.type "list")||(Value.type "tuple"==Value.type "tuple"))=true from by decide,if_true];refine va (wpAny_seqItems hp rfl (vb ?_));exact wpAny_holding (wpAny_dictSet_pairs hk hd h hz)
theorem j4(hh:A.handled=none):∀(L:List (K×Value)) (k:Nat) (i:Int) (s:Shared) (kvs:List (K×Value)) (T:Addr) (f1:Bool) (R:Result->Shared->Prop),Ad z ti i1 i2 a b T->d∉[z,ti,i1,i2,a,b,T]->Wd s.heap z ti to i1 i2 a b T f1 k xs ys->s.heap.DictOf knd d kvs->Left knd xs ys k L->kvs.length+L.length<=sizeLine ->
  (∀g tk,g.DictOf knd d (qFz kvs L)->(∀c o,c∉[z,i1,i2,d]->s.heap.get? c=some o->g.get? c=some o)->R (.ok (.ret .none)) { s with heap:=g,toks:=tk }) ->
  codeAny (model P w) A (.builtin "dict.update.loop" ⟨[.ref d,.ref z,rawInt i,.none],[]⟩) R s
 | [],k,i,s,kvs,T,f1,R,D,hdn,S,hd,hL,hz,hR=>by
  refine codeAny_builtin Zz ?_;rw[Around.under_plainId jG _];show wpAny _ A.in1 (pyNext (.ref z) >>=_) _ _ s;refine va (qB3 hh D S (by simpa using hL.2) λg hk=>?_);refine va (vb (vb ?_));simp only[List.mem_cons,wD,or_false,not_or]at hdn;obtain⟨o,es,ep,ho,r⟩:=hd;exact hR g s.toks ⟨o,es,ep,hk _ _ (by simp[hdn]) ho,r⟩ λc o hc ho=>hk c o (λq=>hc (by simp only[List.mem_cons,wD,or_false]at q ⊢;rcases q with q|q|q<;>simp[q])) ho
 |p::L,k,i,s,kvs,T,f1,R,D,hdn,S,hd,hL,hz,hR=>by
  obtain⟨⟨x,hx,hkx,hy⟩,hL'⟩:=hL.next;have hdn':=hdn;simp only[List.mem_cons,wD,or_false,not_or]at hdn';refine codeAny_builtin Zz ?_;rw[Around.under_plainId jG _];show wpAny _ A.in1 (pyNext (.ref z) >>=_) _ _ s;refine va (qBn D S hx hy λg S' hp hk hs=>?_);obtain⟨o,es,ep,ho,r⟩:=hd;have dlt:=Heap.lt_size ho;have hd1:g.DictOf knd d kvs:=⟨o,es,ep,hk _ _ (by simp[hdn']) ho,r⟩
  refine va (wpAny_holding (n9 hp hkx hd1 (by simp at hz;omega) λg2 hd2 m2=>?_));refine vb ⟨plainId_quiet jG _,?_⟩;have S2:Wd g2 z ti to i1 i2 a b T true (k+1) xs ys:=by
   obtain⟨oT,hT⟩:=S'.t;exact⟨m2.extBut _ _ (Ne.symm hdn'.1) S'.z,m2.extBut _ _ (Ne.symm hdn'.2.1) S'.ti,⟨oT,m2.extBut _ _ (Ne.symm hdn'.2.2.2.2.2.2) hT⟩,S'.n1.extBut m2.extBut (Ne.symm hdn'.2.2.1),S'.n2.extBut m2.extBut (Ne.symm hdn'.2.2.2.1),S'.e1.extBut m2.extBut (Ne.symm hdn'.2.2.2.2.1),S'.e2.extBut m2.extBut (Ne.symm hdn'.2.2.2.2.2.1)⟩
  have ln:=ZR kvs p.1 p.2;refine j4 hh L (k+1) (i+1) _ (stored kvs p.1 p.2) T true R D hdn S2 hd2 hL' (by simp at hz;omega) λg3 tk hd3 k3=>?_;exact hR g3 tk hd3 λc o hc ho=>k3 c o hc (m2.extBut _ _ (λq=>hc (by simp[q])) (hk c o (λq=>hc (by simp only[List.mem_cons,wD,or_false]at q ⊢;rcases q with q|q|q<;>simp[q])) ho))
theorem qAQ(hh:A.handled=none)(L:List (K×Value)){s:Shared}{R:Result->Shared->Prop}{p q:Value}(D:ZipApart z ti to i1 i2 a b)(hdn:d∉[z,ti,to,i1,i2,a,b])
  (hz:IsZip s.heap z ti to .none) (hti:IsPair s.heap ti (.ref i1) (.ref i2)) (hto:IsPair s.heap to p q) (n1:s.heap.IsListIter i1 a 0) (n2:s.heap.IsListIter i2 b 0) (e1:s.heap.IsList a xs) (e2:s.heap.IsList b ys)
  (hd:s.heap.DictOf knd d []) (hL:Left knd xs ys 0 L) (hl:L.length<=sizeLine)
  (hR:∀g tk,g.DictOf knd d (qFz [] L)->(∀c o,c∉[z,to,i1,i2,d]->s.heap.get? c=some o->g.get? c=some o)->R (.ok (.ret .none)) { s with heap:=g,toks:=tk }):
  codeAny (model P w) A (.builtin "dict.update.loop" ⟨[.ref d,.ref z,rawInt 0,.none],[]⟩) R s:=by
 have hdn':=hdn;simp only[List.mem_cons,wD,or_false,not_or]at hdn';have hd0:=hd;obtain⟨o,es,ep,ho,r⟩:=hd;have dlt:=Heap.lt_size ho;refine codeAny_builtin Zz ?_;rw[Around.under_plainId jG _];show wpAny _ A.in1 (pyNext (.ref z) >>=_) _ _ s;cases L with
 |nil=>
  refine va (wpAny_pyNext_zip_end hh D hz hti hto n1 n2 e1 e2 (by simpa using hL.2) λg hk=>?_);refine va (vb (vb ?_));exact hR g s.toks ⟨o,es,ep,hk _ _ hdn'.1 hdn'.2.2.1 hdn'.2.2.2.1 hdn'.2.2.2.2.1 ho,r⟩ λc o hc ho=>hk c o (λq=>hc (by simp[q])) (λq=>hc (by simp[q])) (λq=>hc (by simp[q])) (λq=>hc (by simp[q])) ho
 |cons pr L=>
  obtain⟨⟨x,hx,hkx,hy⟩,hL'⟩:=hL.next;refine va (wpAny_pyNext_zip_item D hz hti hto n1 n2 e1 e2 hx hy λg zg tg ng1 ng2 tp sz hk=>?_);have hd1:g.DictOf knd d []:=⟨o,es,ep,hk _ _ hdn'.1 hdn'.2.2.1 hdn'.2.2.2.1 hdn'.2.2.2.2.1 ho,r⟩
  refine va (wpAny_holding (n9 tp hkx hd1 (by simp) λg2 hd2 m2=>?_));refine vb ⟨plainId_quiet jG _,?_⟩;have zl:=Heap.lt_size hz;have tl:=Heap.lt_size hti;obtain⟨o1,q1,_⟩:=n1;obtain⟨o2,q2,_⟩:=n2;obtain⟨o3,q3,_⟩:=id e1;obtain⟨o4,q4,_⟩:=id e2;have l1:=Heap.lt_size q1;have l2:=Heap.lt_size q2;have S2:Wd g2 z ti to i1 i2 a b s.heap.objs.size false 1 xs ys:=
   ⟨m2.extBut _ _ (Ne.symm hdn'.1) zg,m2.extBut _ _ (Ne.symm hdn'.2.1) (hk _ _ D.TIz D.TITO D.TIi1 D.TIi2 hti),⟨_,m2.extBut _ _ (Ne.symm (wQ dlt)) tp⟩,ng1.extBut m2.extBut (Ne.symm hdn'.2.2.2.1),ng2.extBut m2.extBut (Ne.symm hdn'.2.2.2.2.1),
    (e1.at λo e=>hk _ o D.l1z D.l1TO D.l1i1 D.l1i2 e).extBut m2.extBut (Ne.symm hdn'.2.2.2.2.2.1),(e2.at λo e=>hk _ o D.l2z D.l2TO D.l2i1 D.l2i2 e).extBut m2.extBut (Ne.symm hdn'.2.2.2.2.2.2)⟩
  have ln:=ZR ([]:List (K×Value)) pr.1 pr.2;have D2:Ad z ti i1 i2 a b s.heap.objs.size:=by
   refine⟨?_,?_,?_,?_⟩
   ·simp only[List.nodup_cons,List.mem_cons,wD,or_false,not_or,vE,not_false_eq_true,and_true];exact⟨⟨Ne.symm D.TIz,Ne.symm D.i1z,Ne.symm D.i2z⟩,⟨D.TIi1,D.TIi2⟩,D.i12⟩
   ·simp only[List.mem_cons,wD,or_false,not_or];exact⟨D.l1z,D.l1i1,D.l1i2⟩
   ·simp only[List.mem_cons,wD,or_false,not_or];exact⟨D.l2z,D.l2i1,D.l2i2⟩
   ·simp only[List.mem_cons,wD,or_false,not_or];exact⟨wz zl,wz l1,wz l2⟩
  have hdn2:d∉[z,ti,i1,i2,a,b,s.heap.objs.size]:=by
   simp only[List.mem_cons,wD,or_false,not_or];exact⟨hdn'.1,hdn'.2.1,hdn'.2.2.2.1,hdn'.2.2.2.2.1,hdn'.2.2.2.2.2.1,hdn'.2.2.2.2.2.2,wQ dlt⟩
  refine j4 hh L 1 1 _ (stored [] pr.1 pr.2) s.heap.objs.size false R D2 hdn2 S2 hd2 hL' (by simp at hl ln;omega) λg3 tk hd3 k3=>?_;exact hR g3 tk hd3 λc o hc ho=>by
   simp only[List.mem_cons,wD,or_false,not_or]at hc;exact k3 c o (by simp[hc]) (m2.extBut _ _ hc.2.2.2.2 (hk c o hc.1 hc.2.1 hc.2.2.1 hc.2.2.2.1 ho))
theorem qBy(hh:A.handled=none)(L:List (K×Value)){s:Shared}{Q:Value->Shared->Prop}{p q:Value}(D:ZipApart z ti to i1 i2 a b)
  (hz:IsZip s.heap z ti to .none) (hti:IsPair s.heap ti (.ref i1) (.ref i2)) (hto:IsPair s.heap to p q) (n1:s.heap.IsListIter i1 a 0) (n2:s.heap.IsListIter i2 b 0) (e1:s.heap.IsList a xs) (e2:s.heap.IsList b ys)
  (hL:Left knd xs ys 0 L) (hl:L.length<=sizeLine)
  (h:∀g tk,g.DictOf knd s.heap.objs.size (qFz [] L)->(∀c o,c∉[z,to,i1,i2]->s.heap.get? c=some o->g.get? c=some o)->Q (.ref s.heap.objs.size) { s with heap:=g,toks:=tk }):
  wpAny (model P w) A (call (.type "dict") [.ref z]) Q E s:=by
 refine callType_codes (Q₁:=λobj s₁=>obj=.ref s.heap.objs.size/\s₁={ s with heap:=s.heap.push { cls:=.type "dict",data:=.dict #[] } }) PySem.F.kt_called_dict (PySem.F.kt_typeCall_dict_1 _) PySem.F.entry_dict_init (kt_code_dict_new _ ⟨rfl,rfl⟩) ?_;rintro obj s₁ ⟨rfl,rfl⟩;have new:(s.heap.push { cls:=.type "dict",data:=.dict #[] }).DictOf knd s.heap.objs.size []:=Heap.DictOf.new s.heap;refine⟨new.typeIs,PySem.F.args_dict_init_2 _ _,?_⟩;unfold Builtin.«dict.__init__»;refine va (by
  unfold Builtin.Dict.selfAndRest;refine va (wpAny_notOrdered_dict new.typeIs ?_);show wpAny _ _ (pure (s.heap.objs.size,[Value.ref z])) _ _ _;refine vb ?_;show wpAny _ _ (Builtin.Dict.updateFrom "dict.__init__" s.heap.objs.size (.ref z) [] .none) _ _ _;unfold Builtin.Dict.updateFrom;have hz':IsZip (s.heap.push { cls:=.type "dict",data:=.dict #[] }) z ti to .none:=Heap.get?_push_of_some _ hz;refine va (wpAny_typeOf (T:="zip") ⟨_,hz',rfl⟩ ?_);rw[if_pos (by decide)];refine va (qBh hz' hh λg tk hk=>?_);simp only[Option.isNone_none,if_true];refine va (wpAny_rule ?_);have up:∀c o,s.heap.get? c=some o->g.get? c=some o:=λc o e=>hk _ _ (Heap.get?_push_of_some _ e);refine va (wpAny_pyIter_zip (show IsZip g z ti to .none from up _ _ hz) ?_);have lt:∀{c o},s.heap.get? c=some o->s.heap.objs.size≠c:=λe=>wz (Heap.lt_size e);obtain⟨o1,q1,_⟩:=id n1;obtain⟨o2,q2,_⟩:=id n2;obtain⟨o3,q3,_⟩:=id e1;obtain⟨o4,q4,_⟩:=id e2;have N1:g.IsListIter i1 a 0:=n1.at λo e=>up _ o e;have N2:g.IsListIter i2 b 0:=n2.at λo e=>up _ o e;have E1:g.IsList a xs:=e1.at λo e=>up _ o e;have E2:g.IsList b ys:=e2.at λo e=>up _ o e;refine vb ⟨plainId_quiet jG _,?_⟩;refine qAQ (A:=A.in1) (s:={ s with heap:=g,toks:=tk }) (d:=s.heap.objs.size) hh L D ?_ (up _ _ hz) (up _ _ hti) (up _ _ hto) N1 N2 E1 E2 ?_ hL hl λg3 tk3 hd3 k3=>?_
  ·simp only[List.mem_cons,wD,or_false,not_or];exact⟨lt hz,lt hti,lt hto,lt q1,lt q2,lt q3,lt q4⟩
  ·obtain⟨o,es,ep,ho,r⟩:=new;exact⟨o,es,ep,hk _ _ ho,r⟩
  ·refine⟨rfl,h g3 tk3 hd3 λc o hc ho=>k3 c o ?_ (up _ _ ho)⟩;simp only[List.mem_cons,wD,or_false,not_or]at hc ⊢;exact⟨hc.1,hc.2.1,hc.2.2.1,hc.2.2.2,Ne.symm (lt ho)⟩)
end
open L2 (kV KV QO ql)
noncomputable def qGF(K:PySem.W.Frag)(ta:TA):TE:=λσ H Q=>ta σ H λvs H1=>∃a b,∃ks:List Key,∃ys,vs=[.ref a,.ref b]/\SqL K H1 a (ks.map kV)/\SqL K H1 b ys/\ks.length<=100000/\∀p,H1 p=none->Q (.ref p) (upd H1 p (.dK (QO [] (ks.zip ys))))
theorem qAR{xs:List V}{us:List Value}(r:Vals xs us){i:Nat}{u:Value}(h:us[i]?=some u):∃x,xs[i]?=some x/\RelV x u:=by
 induction r generalizing i with
 |nil=>simp at h
 |cons r t ih=>
  cases i with
  |zero=>simp at h;subst h;exact⟨_,rfl,r⟩
  |succ i=>simpa using ih (by simpa using h)
theorem qEO{P:Program}{w:World}{ks:List Key}{ys:List V}{us ws:List Value}(r1:Vals (ks.map kV) us)(r2:Vals ys ws):KV (ks.zip ys) (ks.zip ws)/\Left (ql P w) us.toArray ws.toArray 0 (ks.zip ws):=by
 have l1:ks.length=us.length:=by have:=r1.length;simpa using this
 have l2:=r2.length;refine⟨?_,λj p hp=>?_,?_⟩
 ·clear l1 r1 us
  induction r2 generalizing ks with
  |nil=>simp;exact .nil
  |cons r t ih=>
   cases ks with
   |nil=>simp;exact .nil
   |cons k ks=>exact .cons ⟨rfl,r⟩ (ih (by simpa using l2))
 ·rw[List.getElem?_zip_eq_some]at hp;have hj:j<us.length:=by rw[<-l1];exact(List.getElem?_eq_some_iff.mp hp.1).1
  obtain⟨x,hx,rx⟩:=qAR r1 (wA hj);rw[wN,hp.1]at hx;cases hx;exact⟨us[j],by simpa using hj,L2.kV_is rx,by simpa using hp.2⟩
 ·rw[List.length_zip];rcases Nat.le_total ks.length ws.length with h|h
  ·left;rw[vB h];simp;omega
  ·right;rw[Nat.min_eq_right h];simp
theorem W4{c n m:Nat}(h:c<n)(k:n<=m):c≠m:=by omega
section
variable{X:Cx}
theorem O7{ea eb:Expr}{ta:TA}{p p2 pos pos2:Pos}(hc:X.calm=true)(hg:L2.Gl X "dict")(hm:X.mg "dict"=none)(hg2:L2.Gl X "zip")(hm2:X.mg "zip"=none)(ha:PA X [ea,eb] ta)(h1:qS ea=true)(h2:qS eb=true):
  PE X (.Call (.Name "dict" p) [.Call (.Name "zip" p2) [ea,eb] [] pos2] [] pos) (qGF X.K ta):=by
 intro pins s σ H Q I h;refine Call_ (L2.ld_blt I hg hm PyProof.Rows.boot_dict (PyProof.Rows.callWith_type1 ?_ rfl rfl));show wpAny _ _ (spliced ((false,eval _ X.env)::backTo pos (starEach [] X.env))) _ _ s;refine Calls.spliced_cons ?_;refine Call_ (L2.ld_blt I hg2 hm2 PyProof.Rows.boot_zip (PyProof.Rows.callWith_type1 (L2.thn (ha pos2 pins s σ H _ I h) λus s1 ⟨vs,H1,I1,r1,q1⟩=>?_) (qG h1) (zo (by simp[h2]))));obtain⟨a,b,ks,ys,e,hq1,hq2,hl,q⟩:=q1;subst e;cases r1 with
 |cons r rr=>
  cases rr with
  |cons r' rr=>
   cases rr;cases r;cases r';obtain⟨its1,rv1,p1,_⟩:=I1.list hq1;obtain⟨its2,rv2,p2,_⟩:=I1.list hq2;have a1:a<s1.heap.objs.size:=by obtain⟨_,e,_⟩:=p1.isList;exact Heap.lt_size e
   have a2:b<s1.heap.objs.size:=by obtain⟨_,e,_⟩:=p2.isList;exact Heap.lt_size e
   refine call_zip_2 p1.isList p2.isList λg hz hTI hTO hi1 hi2 sz hk=>?_;refine Calls.spliced_nil ?_;obtain⟨kv,lf⟩:=qEO (P:=X.prog) (w:=X.w) rv1 rv2;have E1:g.IsList a its1.toArray:=p1.isList.at λo e=>hk _ o e;have E2:g.IsList b its2.toArray:=p2.isList.at λo e=>hk _ o e;have szl:=sizeLine_eq;have zl:(ks.zip its2).length<=100000:=by rw[List.length_zip];omega
   refine qBy (s:={ s1 with heap:=g }) (knd:=ql X.prog X.w) (I.ok.hd hc) (ks.zip its2) (zipApart_new a1 a2) hz hTI hTO hi1 hi2 E1 E2 lf (by omega) λg3 tk hd3 k3=>?_;have hge:s1.heap.objs.size<=g.objs.size:=by rw[sz];omega
   have kp:∀c o,s1.heap.get? c=some o->g3.get? c=some o:=λc o e=>by
    have lt:=Heap.lt_size e;refine k3 c o ?_ (hk c o e);simp only[List.mem_cons,wD,or_false,not_or];exact⟨W4 lt (wn _ _),W4 lt (wn _ _),W4 lt (Nat.le_refl _),W4 lt (wn _ _)⟩
   have big:=I1.big;have kv':KV (QO [] (ks.zip ys)) (merged [] (ks.zip its2)):=KV.merge kv .nil;refine⟨.ref g.objs.size,_,I1.laid (t':=tk) kp hge (L2.dk_new ?_ ?_ kv' hd3),rfl,q _ (I1.hok.fresh hge)⟩
   ·have:=L2.length_mergeK (ks.zip ys) [];have z2:(ks.zip ys).length<=100000:=by rw[List.length_zip];omega
    simp at this;omega
   ·rw[beq_eq_false_iff_ne];exact Ne.symm (W4 big hge)
theorem N3:∀(more kvs:List (Int×V)),QO (kvs.map kk) (more.map kk)=(zZ kvs more).map kk
 | [],kvs=>rfl
 |p::r,kvs=>by
  show QO (L2.putK (kvs.map kk) (Sum.inl p.1:Key) p.2) (r.map kk)=(zZ (qAb kvs p.1 p.2) r).map kk;rw[X4,N3 r]
theorem qA0:∀(is:List Int) (ys:List V),((is.map λi=>(Sum.inl i:Key)).zip ys)=(is.zip ys).map kk
 | [],_=>rfl
 |_::_,[]=>rfl
 |i::is,y::ys=>by
  rw[List.map_cons,List.zip_cons_cons,qA0 is ys,List.zip_cons_cons,List.map_cons];rfl
theorem qCq(is:List Int):(is.map λi=>(Sum.inl i:Key)).map kV=is.map V.int:=by rw[wc];rfl
end
section
variable{X:Cx}{G:List Addr}{F:Nat->List V->AH->RV}{a b:E}{ea eb:Expr}{pos:Pos}
theorem qCE{p p2 pos2:Pos}(hc:X.calm=true)(hg:L2.Gl X "dict")(hm:X.mg "dict"=none)(hg2:L2.Gl X "zip")(hm2:X.mg "zip"=none)(hn:qS ea=true)(hn2:qS eb=true)(ha:SE X G F ea a)(hb:SE X G F eb b):
  SE X G F (.Call (.Name "dict" p) [.Call (.Name "zip" p2) [ea,eb] [] pos2] [] pos) (.dzip a b):=by
 refine qr (O7 hc hg hm hg2 hm2 (L2.pa_cons ha (L2.pa_cons hb L2.pa_nil (qG hn2)) (qG hn)) hn hn2) λσc H Q q=>?_;obtain⟨φ,h,σ,v,h',R,rs,e,k⟩:=q;unfold ev at e;obtain⟨⟨x,h1⟩,e1,e⟩:=Res.bind_inv e;obtain⟨⟨y,h2⟩,e2,e3⟩:=Res.bind_inv e;clear e;obtain⟨i,ei,e4⟩:=zW e3;clear e3;obtain⟨j,ej,e⟩:=zW e4;clear e4;subst ei ej;refine jd R rs e1 e2 λφ2 H2 xc yc x2 R2 r1 r2=>?_;split at e
 ·rename_i xs ex;split at e
  ·rename_i ys ey;split at e
   ·rename_i is ei;split at e
    ·rename_i hc;cases e;obtain⟨a',zs,hq,hs,rz⟩:=R2.lst ex;obtain⟨b',ws,hq',hs',rz'⟩:=R2.lst ey;obtain⟨a2,rfl,ha2⟩:=qN r1;obtain⟨b2,rfl,hb2⟩:=qN r2;rw[hq]at ha2;cases ha2;rw[hq']at hb2;cases hb2;have ez:zs=is.map V.int:=by
      rw[<-jH ei];exact jN (by rw[jH ei];simp[flat]) rz
     have ew:ws=ys:=jN hc.2 rz';subst ez ew;refine⟨_,_,is.map λi=>(Sum.inl i:Key),ws,rfl,by rw[qCq];exact hs,hs',by rw[wO];exact hc.1,λp hp=>?_⟩;rw[qA0,show ([]:List (Key×V))=([]:List (Int×V)).map kk from rfl,N3];exact k (φ2++[p]) _ _ (x2.trans ⟨[p],rfl⟩) (R2.new hp (o:=.ob (.dct (zZ [] (is.zip ws)))) qH) R2.lastRef
    ·cases e
   ·cases e
  ·cases e
 ·cases e
end
noncomputable def Itz(K:PySem.W.Frag)(a b:Addr):It:=
 ⟨λi H=>∃xs ys x y,SqL K H a xs/\SqL K H b ys/\xs[i]?=some x/\ys[i]?=some y,
  λi H v H'=>∃p x y,H p=none/\v=.ref p/\H'=upd H p (.tup [x,y])/\(∀xs,SqL K H a xs->xs[i]?=some x)/\∀ys,SqL K H b ys->ys[i]?=some y,
  λi H=>∃xs ys,SqL K H a xs/\SqL K H b ys/\(xs.length<=i\/ys.length<=i)⟩
theorem u7{X:Cx}{pins:List (Addr×Obj)}{σ:L2.St}{H:Hp}{s:Shared}{h':Heap}{T:Addr}{xs:List V}{its:List Value}{ch:List Addr}{t':Nat}(I:Inv X pins σ H s)(hf:∀b∈ch,ZJ X pins H b)
  (hT:s.heap.objs.size<=T) (k:∀b o,b∉ch->s.heap.get? b=some o->h'.get? b=some o) (hp:IsTup h' T its.toArray) (hv:Vals xs its) (hz:xs.length<=sizeLine) (hTc:T∉ch):
  Inv X pins σ (upd H T (.tup xs)) { s with heap:=h',toks:=t' }:=by
 have hn:H T=none:=I.hok.fresh hT;have neT:∀b o,s.heap.get? b=some o->b≠T:=λb o e=>wQ (wC (Heap.lt_size e) hT);refine I.step (g':=s.gens) (d':=s.drawn) (ch:=ch) (λb hb=>⟨(hf b hb).2.2.2.1,(hf b hb).2.1,(hf b hb).2.2.2.2.1,(hf b hb).2.2.2.2.2⟩) (λb o _ _ hc e _=>k b o hc e) (λb o _ _ hc e _=>⟨o.slots,k b o hc e⟩)
  (λb o _ e n=>by rw[qF (neT b o e)];exact n) (λb o hc e=>⟨o,k b o hc e⟩) (λb ys e=>by rw[qF (L2.ne_of_none e hn)];exact e) (λb o u e=>by rw[qF (L2.ne_of_none e hn)];exact e)
  (λb ps e=>⟨#[],by rw[qF (L2.ne_of_none e hn),e];simp⟩) (λm hm=>?_) (λb u e=>?_) I.bare
 ·obtain⟨o,es,ep,ho,r⟩:=hm;exact⟨o,es,ep,k _ o (λz=>(hf _ z).2.1 rfl) ho,r⟩
 ·by_cases hb:b=T
  ·subst hb;rw[qH]at e;cases e;exact⟨hz,its,hv,hp⟩
  ·rw[qF hb]at e;have nc:∀c u,H c=some u->c∉ch:=λc u q z=>by rw[(hf c z).1]at q;cases q
   refine(I.hok b u e).stay (λc v hc q=>k c v ?_ q) (λc q=>by rw[qF (L2.ne_of_none q hn)];exact q) λc ys q=>by rw[qF (L2.ne_of_none q hn)];exact q
   rcases hc with z|z
   ·rw[z];exact nc b u e
   ·exact nc c _ z
theorem qAS{P:Program}{w:World}{K:PySem.W.Frag}{elts:List Expr}{kk:Nat}{tpos:Pos}(z TI TO i1 i2 a b:Addr)(D:ZipApart z TI TO i1 i2 a b):
  JS P w K (.Tuple elts kk tpos) (Itz K a b) [z,TI,TO,i1,i2] z (λi h=>IsZip h z TI TO .none/\IsPair h TI (.ref i1) (.ref i2)/\(∃x y,IsPair h TO x y)/\h.IsListIter i1 a i/\h.IsListIter i2 b i) where
 mem:=by simp
 obj:=λi h st c hc=>by
  obtain⟨h1,h2,⟨x,y,h3⟩,⟨o4,e4,c4,d4⟩,⟨o5,e5,c5,d5⟩⟩:=st;simp only[List.mem_cons,wD,or_false]at hc;rcases hc with rfl|rfl|rfl|rfl|rfl
  ·exact⟨_,h1,λv q=>by have q':Data.fields _=Data.cell v:=q;cases q'⟩
  ·exact⟨_,h2,λv q=>by have q':Data.seq _ _=Data.cell v:=q;cases q'⟩
  ·exact⟨_,h3,λv q=>by have q':Data.seq _ _=Data.cell v:=q;cases q'⟩
  ·exact⟨o4,e4,λv q=>by rw[d4]at q;cases q⟩
  ·exact⟨o5,e5,λv q=>by rw[d5]at q;cases q⟩
 keep:=λi h h' st k=>by
  obtain⟨h1,h2,⟨x,y,h3⟩,h4,h5⟩:=st;exact⟨k z (by simp) _ h1,k TI (by simp) _ h2,⟨x,y,k TO (by simp) _ h3⟩,h4.at λo e=>k i1 (by simp) o e,h5.at λo e=>k i2 (by simp) o e⟩
 item:=by
  intro X hP hw hK hc i pins s σ H E I hf st hg;subst hP hw hK;obtain⟨xs,ys,x,y,hq1,hq2,hx,hy⟩:=hg;obtain⟨its1,rv1,p1,_⟩:=I.list hq1;obtain⟨its2,rv2,p2,_⟩:=I.list hq2;obtain⟨u,hu,ru⟩:=rv1.get hx;obtain⟨w',hw',rw'⟩:=rv2.get hy;obtain⟨h1,h2,⟨ta,tb,h3⟩,h4,h5⟩:=st;refine wpAny_pyNext_zip_item D h1 h2 h3 h4 h5 p1.isList p2.isList (x:=u) (y:=w') (by simpa using hu) (by simpa using hw') λh' z1 z2 z3 z4 z5 z6 z7=>?_;refine⟨_,rfl,wpAny_letOwnedTupleGo_zip z1 λh'' g1 gs=>?_⟩;have lt:∀c∈[z,TI,TO,i1,i2],c≠s.heap.objs.size:=λc hc=>by
   have ex:∃o,s.heap.get? c=some o:=by
    simp only[List.mem_cons,wD,or_false]at hc;rcases hc with rfl|rfl|rfl|rfl|rfl
    ·exact⟨_,h1⟩
    ·exact⟨_,h2⟩
    ·exact⟨_,h3⟩
    ·obtain⟨o,e,_⟩:=h4;exact⟨o,e⟩
    ·obtain⟨o,e,_⟩:=h5;exact⟨o,e⟩
   obtain⟨o,e⟩:=ex;exact wQ (Heap.lt_size e)
  have up:∀c o,c≠z->h'.get? c=some o->h''.get? c=some o:=λc o hz e=>gs.extBut c o hz e;have kp:∀c o,c∉[z,TI,TO,i1,i2]->s.heap.get? c=some o->h''.get? c=some o:=λc o hn e=>by
   simp only[List.mem_cons,wD,or_false,not_or]at hn;exact up c o hn.1 (z7 c o hn.1 hn.2.2.1 hn.2.2.2.1 hn.2.2.2.2 e)
  have ht:IsTup h'' s.heap.objs.size #[u,w']:=⟨_,up _ _ (Ne.symm (lt z (by simp))) z5,rfl,_,rfl⟩
  have I1:=u7 (t':=s.toks) (xs:=[x,y]) (its:=[u,w']) I hf (Nat.le_refl _) kp ht (.cons ru (.cons rw' .nil)) (by show 2<=sizeLine;decide) (λq=>lt _ q rfl);refine⟨.ref s.heap.objs.size,_,I1,rfl,⟨s.heap.objs.size,x,y,I.hok.fresh (Nat.le_refl _),rfl,rfl,λzs hz=>by rw[I.list_inj hz hq1];exact hx,λzs hz=>by rw[I.list_inj hz hq2];exact hy⟩,
   ⟨g1,up _ _ D.TIz (z7 TI _ D.TIz D.TITO D.TIi1 D.TIi2 h2),⟨_,_,up _ _ D.TOz z2⟩,z3.at λo e=>up _ o D.i1z e,z4.at λo e=>up _ o D.i2z e⟩,λc hc=>?_⟩
  rw[qF (lt c hc)];exact(hf c hc).1
 done:=by
  intro X hP hw hK hc i pins s σ H E I hf st hg;subst hP hw hK;obtain⟨xs,ys,hq1,hq2,hl⟩:=hg;obtain⟨its1,rv1,p1,_⟩:=I.list hq1;obtain⟨its2,rv2,p2,_⟩:=I.list hq2;obtain⟨h1,h2,⟨ta,tb,h3⟩,h4,h5⟩:=st;have n1:=rv1.length;have n2:=rv2.length;refine wpAny_pyNext_zip_end (I.ok.hd hc) D h1 h2 h3 h4 h5 p1.isList p2.isList ?_ λh' z7=>⟨rfl,?_⟩
  ·rcases hl with hl|hl
   ·left;simp;omega
   ·right;simp;omega
  ·have kp:∀c o,c∉[z,TI,TO,i1,i2]->s.heap.get? c=some o->h'.get? c=some o:=λc o hn e=>by
    simp only[List.mem_cons,wD,or_false,not_or]at hn;exact z7 c o hn.1 hn.2.2.1 hn.2.2.2.1 hn.2.2.2.2 e
   refine I.step (g':=s.gens) (d':=s.drawn) (t':=s.toks) (ch:=[z,TI,TO,i1,i2]) (λb hb=>⟨(hf b hb).2.2.2.1,(hf b hb).2.1,(hf b hb).2.2.2.2.1,(hf b hb).2.2.2.2.2⟩) (λb o _ _ hc e _=>kp b o hc e) (λb o _ _ hc e _=>⟨o.slots,kp b o hc e⟩)
    (λb o _ e n=>n) (λb o hc e=>⟨o,kp b o hc e⟩) (λb ys e=>e) (λb o u e=>e) (λb ps e=>⟨#[],by rw[e];simp⟩) (λm hm=>?_) (λb u e=>?_) I.bare
   ·obtain⟨o,es,ep,ho,r⟩:=hm;exact⟨o,es,ep,kp _ o (λz=>(hf _ z).2.1 rfl) ho,r⟩
   ·have nc:∀c u,H c=some u->c∉[z,TI,TO,i1,i2]:=λc u q z=>by rw[(hf c z).1]at q;cases q
    refine(I.hok b u e).stay (λc v hc q=>kp c v ?_ q) (λc q=>q) λc ys q=>q;rcases hc with z|z
    ·rw[z];exact nc b u e
    ·exact nc c _ z
 self:=λ_ _ _ _ _ st h=>wpAny_pyIter_zip st.1 h
noncomputable def qH6(K:PySem.W.Frag)(ta:TA):L2.TI:=λσ H R=>ta σ H λvs H1=>∃a b,vs=[.ref a,.ref b]/\(∃xs,SqL K H1 a xs)/\(∃ys,SqL K H1 b ys)/\R (Itz K a b) H1
theorem qDv{X:Cx}{ea eb:Expr}{ta:TA}{p pos tpos:Pos}{elts:List Expr}{kk:Nat}(hg:L2.Gl X "zip")(hm:X.mg "zip"=none)(ha:PA X [ea,eb] ta)(h1:qS ea=true)(h2:qS eb=true):
  L2.PI X (.Tuple elts kk tpos) (.Call (.Name "zip" p) [ea,eb] [] pos) (qH6 X.K ta):=by
 intro pins s σ H R I h;refine Call_ (L2.ld_blt I hg hm PyProof.Rows.boot_zip (PyProof.Rows.callWith_type1 (L2.thn (ha pos pins s σ H _ I h) λus s1 ⟨vs,H1,I1,r1,q1⟩=>?_) (qG h1) (zo (by simp[h2]))));obtain⟨a,b,e,⟨xs,hq1⟩,⟨ys,hq2⟩,q⟩:=q1;subst e;cases r1 with
 |cons r rr=>
  cases rr with
  |cons r' rr=>
   cases rr;cases r;cases r';obtain⟨its1,rv1,p1,_⟩:=I1.list hq1;obtain⟨its2,rv2,p2,_⟩:=I1.list hq2;have a1:a<s1.heap.objs.size:=by obtain⟨_,e,_⟩:=p1.isList;exact Heap.lt_size e
   have a2:b<s1.heap.objs.size:=by obtain⟨_,e,_⟩:=p2.isList;exact Heap.lt_size e
   refine call_zip_2 p1.isList p2.isList λh' hz hTI hTO hi1 hi2 _ hk=>?_;refine wpAny_pyIter_zip hz ?_;have I2:Inv X pins σ H1 { s1 with heap:=h' }:=I1.kept (t':=s1.toks) hk;refine⟨_,_,_,_,H1,rfl,I2,qAS _ _ _ _ _ a b (zipApart_new a1 a2),⟨hz,hTI,⟨_,_,hTO⟩,hi1,hi2⟩,λc hc=>?_,q⟩;have hge:s1.heap.objs.size<=c:=by
    simp only[List.mem_cons,wD,or_false]at hc;rcases hc with rfl|rfl|rfl|rfl|rfl
    ·exact wn _ 4
    ·exact wn _ 2
    ·exact wn _ 3
    ·exact Nat.le_refl _
    ·exact wn _ 1
   exact I1.fpOk hge (I1.hok.fresh hge)
abbrev Tu(h:Heap)(T:Addr)(vs:Array Value):Prop:=h.get? T=some { cls:=.type "tuple",data:=.seq vs }
structure Ap3(z ti to i1 i2 i3 a b c:Addr):Prop where
 nd:[z,ti,to,i1,i2,i3].Nodup
 l1:a∉[z,to,i1,i2,i3]
 l2:b∉[z,to,i1,i2,i3]
 l3:c∉[z,to,i1,i2,i3]
structure W3(h:Heap)(z ti to i1 i2 i3 a b c:Addr)(f0:Value)(k1 k2 k3:Nat)(xs ys us:Array Value)(p q r:Value):Prop where
 z:IsZip h z ti to f0
 ti:Tu h ti #[.ref i1,.ref i2,.ref i3]
 to:Tu h to #[p,q,r]
 n1:h.IsListIter i1 a k1
 n2:h.IsListIter i2 b k2
 n3:h.IsListIter i3 c k3
 e1:h.IsList a xs
 e2:h.IsList b ys
 e3:h.IsList c us
section
variable{P:Program}{w:World}{A:Around}{E:Value->Shared->Prop}{s:Shared}{z ti to i1 i2 i3 a b c:Addr}{f0:Value}{k1 k2 k3:Nat}{xs ys us:Array Value}{p q r:Value}
def Kp(z to i1 i2 i3:Addr)(h g:Heap):Prop:=g.objs.size=h.objs.size/\∀c o,c∉[z,to,i1,i2,i3]->h.get? c=some o->g.get? c=some o
theorem Kp.step{h g g':Heap}{d:Addr}(k:Kp z to i1 i2 i3 h g)(hd:d∈[z,to,i1,i2,i3])(e:Heap.SameBut d g g'):Kp z to i1 i2 i3 h g':=
 ⟨by rw[e.1,k.1],λc o hc ho=>e.extBut c o (λx=>hc (x ▸ hd)) (k.2 c o hc ho)⟩
theorem W3.setZ{h g:Heap}(D:Ap3 z ti to i1 i2 i3 a b c)(S:W3 h z ti to i1 i2 i3 a b c f0 k1 k2 k3 xs ys us p q r){f1:Value}(hz:IsZip g z ti to f1)(e:Heap.SameBut z h g):W3 g z ti to i1 i2 i3 a b c f1 k1 k2 k3 xs ys us p q r:=by
 have d:=D.nd;have d1:=D.l1;have d2:=D.l2;have d3:=D.l3;simp only[List.nodup_cons,List.mem_cons,wD,or_false,not_or]at d d1 d2 d3;exact⟨hz,e.extBut _ _ (Ne.symm d.1.1) S.ti,e.extBut _ _ (Ne.symm d.1.2.1) S.to,S.n1.extBut e.extBut (Ne.symm d.1.2.2.1),S.n2.extBut e.extBut (Ne.symm d.1.2.2.2.1),S.n3.extBut e.extBut (Ne.symm d.1.2.2.2.2),S.e1.extBut e.extBut d1.1,S.e2.extBut e.extBut d2.1,S.e3.extBut e.extBut d3.1⟩
end
noncomputable def zz(ti to:Addr):Obj:={ cls:=.type "zip",data:=.fields #[.none,.bool false,.bool false,.ref ti,.ref to] }
noncomputable def Ite(K:PySem.W.Frag)(a:Addr):It:=
 ⟨λi H=>∃xs x,SqL K H a xs/\xs[i]?=some x,
  λi H v H'=>∃p x,H p=none/\v=.ref p/\H'=upd H p (.tup [.int (i:Int),x])/\∀xs,SqL K H a xs->xs[i]?=some x,
  λi H=>∃xs,SqL K H a xs/\xs.length<=i⟩
theorem c6{P:Program}{w:World}{K:PySem.W.Frag}{elts:List Expr}{kk:Nat}{tpos:Pos}(e it a:Addr)(hei:e≠it):
  JS P w K (.Tuple elts kk tpos) (Ite K a) [e,it] e (λi h=>(∃old,IsEnum h e it i old)/\h.IsListIter it a i) where
 mem:=by simp
 obj:=λi h st c hc=>by
  obtain⟨⟨old,h1⟩,⟨o4,e4,c4,d4⟩⟩:=st;simp only[List.mem_cons,wD,or_false]at hc;rcases hc with rfl|rfl
  ·exact⟨_,h1,λv q=>by have q':Data.fields _=Data.cell v:=q;cases q'⟩
  ·exact⟨o4,e4,λv q=>by rw[d4]at q;cases q⟩
 keep:=λi h h' st k=>by
  obtain⟨⟨old,h1⟩,h4⟩:=st;exact⟨⟨old,k e (by simp) _ h1⟩,h4.at λo x=>k it (by simp) o x⟩
 item:=by
  intro X hP hw hK hc i pins s σ H E I hf st hg;subst hP hw hK;obtain⟨xs,x,hq1,hx⟩:=hg;obtain⟨its1,rv1,p1,_⟩:=I.list hq1;obtain⟨u,hu,ru⟩:=rv1.get hx;obtain⟨⟨old,h1⟩,h4⟩:=st;refine wpAny_pyNext_enum_item h1 h4 p1.isList (x:=u) (by simpa using hu) hei λh' z1 z3 z5 z6 z7=>?_;refine⟨_,rfl,wpAny_letOwnedTupleGo_enum z1 λh'' g1 gs=>?_⟩;have lt:∀c∈[e,it],c≠s.heap.objs.size:=λc hc=>by
   have ex:∃o,s.heap.get? c=some o:=by
    simp only[List.mem_cons,wD,or_false]at hc;rcases hc with rfl|rfl
    ·exact⟨_,h1⟩
    ·obtain⟨o,e,_⟩:=h4;exact⟨o,e⟩
   obtain⟨o,e⟩:=ex;exact wQ (Heap.lt_size e)
  have up:∀c o,c≠e->h'.get? c=some o->h''.get? c=some o:=λc o hz q=>gs.extBut c o hz q;have kp:∀c o,c∉[e,it]->s.heap.get? c=some o->h''.get? c=some o:=λc o hn q=>by
   simp only[List.mem_cons,wD,or_false,not_or]at hn;exact up c o hn.1 (z7 c o hn.1 hn.2 q)
  have ht:IsTup h'' s.heap.objs.size #[.int i s.toks,u]:=⟨_,up _ _ (Ne.symm (lt e (by simp))) z5,rfl,_,rfl⟩
  have I1:=u7 (t':=s.toks+1) (xs:=[.int (i:Int),x]) (its:=[.int i s.toks,u]) I hf (Nat.le_refl _) kp ht (.cons ⟨_,rfl⟩ (.cons ru .nil)) (by show 2<=sizeLine;decide) (λq=>lt _ q rfl);refine⟨.ref s.heap.objs.size,_,I1,rfl,⟨s.heap.objs.size,x,I.hok.fresh (Nat.le_refl _),rfl,rfl,λzs hz=>by rw[I.list_inj hz hq1];exact hx⟩,
   ⟨⟨_,by simpa using g1⟩,z3.at λo q=>up _ o (Ne.symm hei) q⟩,λc hc=>?_⟩
  rw[qF (lt c hc)];exact(hf c hc).1
 done:=by
  intro X hP hw hK hc i pins s σ H E I hf st hg;subst hP hw hK;obtain⟨xs,hq1,hl⟩:=hg;obtain⟨its1,rv1,p1,_⟩:=I.list hq1;obtain⟨⟨old,h1⟩,h4⟩:=st;have n1:=rv1.length;obtain⟨f0,f1,f2,f3,f4,f5⟩:=hf it (by simp);exact wpAny_pyNext_enum_end (I.ok.hd hc) h1 h4 p1.isList (by simp;omega) λh' eb=>⟨rfl,I.turned (t':=s.toks) (λb o hb q=>eb b o hb q) f0 f1 f3 f4 f5⟩
 self:=λ_ i s Q E st hQ=>by
  obtain⟨⟨old,h1⟩,h4⟩:=st;exact wpAny_pyIter_enum h1 hQ
noncomputable def qF2(K:PySem.W.Frag)(ta:TA):L2.TI:=λσ H R=>ta σ H λvs H1=>∃a,vs=[.ref a]/\(∃xs,SqL K H1 a xs)/\R (Ite K a) H1
theorem qCh{X:Cx}{ea:Expr}{ta:TA}{p pos tpos:Pos}{elts:List Expr}{kk:Nat}(hg:L2.Gl X "enumerate")(hm:X.mg "enumerate"=none)(ha:PA X [ea] ta)(h1:qS ea=true):
  L2.PI X (.Tuple elts kk tpos) (.Call (.Name "enumerate" p) [ea] [] pos) (qF2 X.K ta):=by
 intro pins s σ H R I h;refine Call_ (L2.ld_blt I hg hm PyProof.Rows.boot_enumerate (PyProof.Rows.callWith_type1 (L2.thn (ha pos pins s σ H _ I h) λus s1 ⟨vs,H1,I1,r1,q1⟩=>?_) (qG h1) (zo (by simp))));obtain⟨a,e,⟨xs,hq1⟩,q⟩:=q1;subst e;cases r1 with
 |cons r rr=>
  cases rr;cases r;obtain⟨its1,rv1,p1,_⟩:=I1.list hq1;refine call_enumerate_list p1.isList λh' he hi hsz hk=>?_;refine wpAny_pyIter_enum he ?_;have I2:Inv X pins σ H1 { s1 with heap:=h' }:=I1.kept (t':=s1.toks) hk;refine⟨_,_,_,_,H1,rfl,I2,c6 _ _ a (Nat.succ_ne_self _),⟨⟨_,he⟩,hi⟩,λc hc=>?_,q⟩;have hge:s1.heap.objs.size<=c:=by
   simp only[List.mem_cons,wD,or_false]at hc;rcases hc with rfl|rfl
   ·exact wn _ 1
   ·exact Nat.le_refl _
  exact I1.fpOk hge (I1.hok.fresh hge)
open L2 (PGs TG TGs Itl Itt R8)
section
variable (K:PySem.W.Frag)(G:List Addr)
noncomputable def tG(g:Tg):TG:=λv σc H Q=>∃φ h σ w σ',Rl K G φ h H/\rst φ σ σc/\rv φ w v/\store g w σ h=some σ'/\∀σc',rst φ σ' σc'->Q σc' H
noncomputable def tGs(is:List Nat):TGs:=λvs σc H Q=>∃φ σ ws σ',rst φ σ σc/\rvs φ ws vs/\ZY is ws σ=some σ'/\∀σc',rst φ σ' σc'->Q σc' H
end
section
variable{X:Cx}{G:List Addr}{F:Nat->List V->AH->RV}
theorem qD9{e:Expr}{t t':TG}(h:PG X e t)(w:∀v σ H Q,t' v σ H Q->t v σ H Q):PG X e t':=λpins s σ H v u Q I r q=>h pins s σ H v u Q I r (w v σ H Q q)
theorem qBX{e:List Expr}{t t':TGs}(h:PGs X e t)(w:∀v σ H Q,t' v σ H Q->t v σ H Q):PGs X e t':=λpins s σ H v u Q I r q=>h pins s σ H v u Q I r (w v σ H Q q)
variable (X G) in
abbrev SG(e:Expr)(g:Tg):Prop:=PG X e (tG X.K G g)
theorem g9{i:Nat}{x:Str}{pos:Pos}(hN:X.N.Nodup)(hi:X.N[i]?=some x)(hx:L2.Loc X.env.scope x)(hf:X.fn x=true\/X.env.scope.names.lookup x=some .local):SG X G (.Name x pos) (.name i):=by
 refine qD9 (L2.pg_name hN hi hx hf) λv σc H Q q=>?_;obtain⟨φ,h,σ,w,σ',R,rs,r,e,k⟩:=q;unfold store at e;cases e;exact k _ (ze (R:=ropt φ) (show ropt φ (some w) (some v) from⟨v,rfl,r⟩) i rs)
theorem qB8:PGs X [] (tGs []):=by
 refine qBX L2.pgs_nil λvs σc H Q q=>?_;obtain⟨φ,σ,ws,σ',rs,r,e,k⟩:=q;cases ws with
 |nil=>
  cases r;cases e;exact⟨rfl,k _ rs⟩
 |cons _ _=>cases e
theorem qAW{i:Nat}{is:List Nat}{x:Str}{pos:Pos}{es:List Expr}(hN:X.N.Nodup)(hi:X.N[i]?=some x)(hx:L2.Loc X.env.scope x)(hf:X.fn x=true\/X.env.scope.names.lookup x=some .local)(hs:PGs X es (tGs is)):
  PGs X (.Name x pos::es) (tGs (i::is)):=by
 refine qBX (L2.pgs_cons (L2.pg_name hN hi hx hf) hs rfl) λvs σc H Q q=>?_;obtain⟨φ,σ,ws,σ',rs,r,e,k⟩:=q;cases ws with
 |nil=>cases e
 |cons w ws=>
  cases r with
  |cons r1 rr=>exact⟨_,_,rfl,φ,_,ws,σ',ze (R:=ropt φ) (show ropt φ (some w) (some _) from⟨_,rfl,r1⟩) i rs,rr,e,k⟩
theorem ZQ:∀{is:List Nat}{xs:List V}{σ σ':St},ZY is xs σ=some σ'->xs.length=is.length
 | [],[],_,_,_=>rfl
 | [],_::_,_,_,e=>by cases e
 |_::_,[],_,_,e=>by cases e
 |i::is,x::xs,σ,σ',e=>by
  have:=ZQ (show ZY is xs _=some σ' from e);simp[this]
theorem qEi{is:List Nat}{es:List Expr}{k:Nat}{pos:Pos}(hc:X.calm=true)(h:PGs X es (tGs is))(hn:(assignEach es X.env).length=is.length)(hst:(assignEach es X.env).findIdx? (·.1)=none):SG X G (.Tuple es k pos) (.tup is):=by
 refine qD9 (L2.pg_tup hc h hn hst) λv σc H Q q=>?_;obtain⟨φ,h,σ,w,σ',R,rs,r,e,k⟩:=q;cases w with
 |ref a=>
  unfold store at e;dsimp only at e;split at e
  ·rename_i xs ex;obtain⟨p,zs,hp,hs,rz⟩:=R.tup ex;obtain⟨q,rfl,hq⟩:=qN r;rw[hp]at hq;cases hq;exact⟨_,zs,rfl,hs,by rw[<-Paired.length rz];exact ZQ e,φ,σ,xs,σ',rs,rz,e,k⟩
  ·cases e
 |_=>cases e
def IsJ(K:PySem.W.Frag)(φ:List Addr):Src->It->Prop
 | .list p,J=>∃a,φ[p]?=some a/\J=Itl K a
 | .tupl p,J=>∃a,φ[p]?=some a/\J=Itt K a
 | .rng lo n,J=>J=L2.Itr lo n
 | .zip p q,J=>∃a b,φ[p]?=some a/\φ[q]?=some b/\J=Itz K a b
 | .enum p,J=>∃a,φ[p]?=some a/\J=Ite K a
theorem IsJ.mono{K:PySem.W.Frag}{φ φ':List Addr}(x:Ext φ φ'):∀{s:Src}{J:It},IsJ K φ s J->IsJ K φ' s J
 | .list _,_,⟨a,h,e⟩=>⟨a,x.get h,e⟩
 | .tupl _,_,⟨a,h,e⟩=>⟨a,x.get h,e⟩
 | .rng _ _,_,e=>e
 | .zip _ _,_,⟨a,b,h,g,e⟩=>⟨a,b,x.get h,x.get g,e⟩
 | .enum _,_,⟨a,h,e⟩=>⟨a,x.get h,e⟩
section
variable{K:PySem.W.Frag}{φ:List Addr}{h h1:AH}{H H':Hp}{s:Src}{J:It}{i:Nat}{x v:V}
theorem IsJ.stop(j:IsJ K φ s J)(R:Rl K G φ h H)(e:jU h i s=true):J.stop i H:=by
 cases s with
 |list p=>
  obtain⟨a,ha,rfl⟩:=j;unfold jU at e;dsimp only at e;split at e
  ·rename_i xs ex;obtain⟨q,zs,hq,hs,rz⟩:=R.lst ex;rw[ha]at hq;cases hq;exact⟨zs,hs,by rw[<-Paired.length rz];exact vf e⟩
  ·cases e
 |tupl p=>
  obtain⟨a,ha,rfl⟩:=j;unfold jU at e;dsimp only at e;split at e
  ·rename_i xs ex;obtain⟨q,zs,hq,hs,rz⟩:=R.tup ex;rw[ha]at hq;cases hq;exact⟨zs,hs,by rw[<-Paired.length rz];exact vf e⟩
  ·cases e
 |rng lo n=>
  cases j;show n<=i;exact vf e
 |zip p q=>
  obtain⟨a,b,ha,hb,rfl⟩:=j;unfold jU at e;dsimp only at e;split at e
  ·rename_i xs ys ex ey;obtain⟨a',zs,hq,hs,rz⟩:=R.lst ex;obtain⟨b',ws,hq',hs',rz'⟩:=R.lst ey;rw[ha]at hq;cases hq;rw[hb]at hq';cases hq';exact⟨zs,ws,hs,hs',by rw[<-Paired.length rz,<-Paired.length rz'];exact vf e⟩
  ·cases e
 |enum p=>
  obtain⟨a,ha,rfl⟩:=j;unfold jU at e;dsimp only at e;split at e
  ·rename_i xs ex;obtain⟨q,zs,hq,hs,rz⟩:=R.lst ex;rw[ha]at hq;cases hq;exact⟨zs,hs,by rw[<-Paired.length rz];exact vf e⟩
  ·cases e
theorem IsJ.go(j:IsJ K φ s J)(R:Rl K G φ h H)(e:qo h i s=some (x,h1)):J.go i H:=by
 cases s with
 |list p=>
  obtain⟨a,ha,rfl⟩:=j;unfold qo at e;dsimp only at e;split at e
  ·rename_i xs ex;obtain⟨y,ey,e2⟩:=Option.map_eq_some_iff.mp e;obtain⟨q,zs,hq,hs,rz⟩:=R.lst ex;rw[ha]at hq;cases hq;obtain⟨z,hz,_⟩:=qJ rz ey;exact⟨zs,z,hs,hz⟩
  ·cases e
 |tupl p=>
  obtain⟨a,ha,rfl⟩:=j;unfold qo at e;dsimp only at e;split at e
  ·rename_i xs ex;obtain⟨y,ey,e2⟩:=Option.map_eq_some_iff.mp e;obtain⟨q,zs,hq,hs,rz⟩:=R.tup ex;rw[ha]at hq;cases hq;obtain⟨z,hz,_⟩:=qJ rz ey;exact⟨zs,z,hs,hz⟩
  ·cases e
 |rng lo n=>
  cases j;unfold qo at e;dsimp only at e;split at e
  ·rename_i hl;exact hl
  ·cases e
 |zip p q=>
  obtain⟨a,b,ha,hb,rfl⟩:=j;unfold qo at e;dsimp only at e;split at e
  ·rename_i xs ys ex ey;split at e
   ·rename_i u w eu ew;obtain⟨a',zs,hq,hs,rz⟩:=R.lst ex;obtain⟨b',ws,hq',hs',rz'⟩:=R.lst ey;rw[ha]at hq;cases hq;rw[hb]at hq';cases hq';obtain⟨z,hz,_⟩:=qJ rz eu;obtain⟨z',hz',_⟩:=qJ rz' ew;exact⟨zs,ws,z,z',hs,hs',hz,hz'⟩
   ·cases e
  ·cases e
 |enum p=>
  obtain⟨a,ha,rfl⟩:=j;unfold qo at e;dsimp only at e;split at e
  ·rename_i xs ex;obtain⟨y,ey,e2⟩:=Option.map_eq_some_iff.mp e;obtain⟨q,zs,hq,hs,rz⟩:=R.lst ex;rw[ha]at hq;cases hq;obtain⟨z,hz,_⟩:=qJ rz ey;exact⟨zs,z,hs,hz⟩
  ·cases e
theorem IsJ.yld(j:IsJ K φ s J)(R:Rl K G φ h H)(e:qo h i s=some (x,h1))(y:J.yld i H v H'):∃φ',Ext φ φ'/\Rl K G φ' h1 H'/\rv φ' x v:=by
 cases s with
 |list p=>
  obtain⟨a,ha,rfl⟩:=j;unfold qo at e;dsimp only at e;split at e
  ·rename_i xs ex;obtain⟨y',ey,e2⟩:=Option.map_eq_some_iff.mp e;cases e2;obtain⟨q,zs,hq,hs,rz⟩:=R.lst ex;rw[ha]at hq;cases hq;obtain⟨z,hz,rz'⟩:=qJ rz ey;obtain⟨rfl,k⟩:=y;have:=k zs hs;rw[hz]at this;cases this;exact⟨φ,.refl _,R,rz'⟩
  ·cases e
 |tupl p=>
  obtain⟨a,ha,rfl⟩:=j;unfold qo at e;dsimp only at e;split at e
  ·rename_i xs ex;obtain⟨y',ey,e2⟩:=Option.map_eq_some_iff.mp e;cases e2;obtain⟨q,zs,hq,hs,rz⟩:=R.tup ex;rw[ha]at hq;cases hq;obtain⟨z,hz,rz'⟩:=qJ rz ey;obtain⟨rfl,k⟩:=y;have:=k zs hs;rw[hz]at this;cases this;exact⟨φ,.refl _,R,rz'⟩
  ·cases e
 |rng lo n=>
  cases j;unfold qo at e;dsimp only at e;split at e
  ·cases e;obtain⟨rfl,rfl⟩:=y;exact⟨φ,.refl _,R,rfl⟩
  ·cases e
 |zip p q=>
  obtain⟨a,b,ha,hb,rfl⟩:=j;unfold qo at e;dsimp only at e;split at e
  ·rename_i xs ys ex ey;split at e
   ·rename_i u w eu ew;cases e;obtain⟨a',zs,hq,hs,rz⟩:=R.lst ex;obtain⟨b',ws,hq',hs',rz'⟩:=R.lst ey;rw[ha]at hq;cases hq;rw[hb]at hq';cases hq';obtain⟨z,hz,r1⟩:=qJ rz eu;obtain⟨z',hz',r2⟩:=qJ rz' ew;obtain⟨p',x',y',hn,rfl,rfl,k1,k2⟩:=y;have t1:=k1 zs hs;have t2:=k2 ws hs';rw[hz]at t1;cases t1;rw[hz']at t2;cases t2;exact⟨φ++[p'],⟨[p'],rfl⟩,R.newT hn (.cons r1 (.cons r2 .nil)),R.lastRef⟩
   ·cases e
  ·cases e
 |enum p=>
  obtain⟨a,ha,rfl⟩:=j;unfold qo at e;dsimp only at e;split at e
  ·rename_i xs ex;obtain⟨y',ey,e2⟩:=Option.map_eq_some_iff.mp e;cases e2;obtain⟨q,zs,hq,hs,rz⟩:=R.lst ex;rw[ha]at hq;cases hq;obtain⟨z,hz,r1⟩:=qJ rz ey;obtain⟨p',x',hn,rfl,rfl,k⟩:=y;have:=k zs hs;rw[hz]at this;cases this;exact⟨φ++[p'],⟨[p'],rfl⟩,R.newT hn (.cons rfl (.cons r1 .nil)),R.lastRef⟩
  ·cases e
end
variable (G F) in
noncomputable def tI(K:PySem.W.Frag)(it:Itr):L2.TI:=λσc H R=>∃φ h σ s h',Rl K G φ h H/\rst φ σ σc/\evi F it σ h=.ok (s,h')/\∀φ' H' J,Ext φ φ'->Rl K G φ' h' H'->IsJ K φ' s J->R J H'
variable (X G F) in
abbrev SI(tg iter:Expr)(it:Itr):Prop:=L2.PI X tg iter (tI G F X.K it)
theorem qAL{tg e:Expr}{t t':L2.TI}(h:L2.PI X tg e t)(w:∀σ H Q,t' σ H Q->t σ H Q):L2.PI X tg e t':=λpins s σ H Q I q=>h pins s σ H Q I (w σ H Q q)
variable{a b:E}{ea eb tg:Expr}{pos p:Pos}
noncomputable def qIP(K:PySem.W.Frag)(tl:TE):L2.TI:=λσ H R=>tl σ H λx H1=>∃a,x=.ref a/\(((∃xs,SqL K H1 a xs)/\R (Itl K a) H1)\/((∃xs,SqT K H1 a xs)/\R (Itt K a) H1))
theorem qEt{l:Expr}{tl:TE}(hl:PE X l tl):L2.PI X tg l (qIP X.K tl):=by
 intro pins s σ H R I h;refine L2.thn (hl pins s σ H _ I h) λv s1 ⟨x,H1,I1,r1,q1⟩=>?_;obtain⟨a,e,q⟩:=q1;subst e;cases r1;rcases q with⟨⟨xs,hq⟩,q⟩|⟨⟨xs,hq⟩,q⟩
 ·obtain⟨its,rv,p,hz⟩:=I1.list hq;refine wpAny_pyIter_list p.isList ?_;refine⟨s1.heap.objs.size,[s1.heap.objs.size],_,_,H1,rfl,I1.kept (t':=s1.toks) λb o e=>Heap.get?_push_of_some _ e,L2.turn_list a _,⟨_,Heap.get?_push_size _ rfl,rfl,rfl⟩,λb hb=>?_,q⟩;have e:b=s1.heap.objs.size:=by simpa using hb
  subst e;exact I1.fpOk (Nat.le_refl _) (I1.hok.fresh (Nat.le_refl _))
 ·obtain⟨its,rv,p,hz⟩:=I1.tuple hq;refine wpAny_pyIter_tuple (show s1.heap.IsTuple a its.toArray from p) ?_;refine⟨s1.heap.objs.size,[s1.heap.objs.size],_,_,H1,rfl,I1.kept (t':=s1.toks) λb o e=>Heap.get?_push_of_some _ e,L2.turn_tuple a _,⟨_,Heap.get?_push_size _ rfl,rfl,rfl⟩,λb hb=>?_,q⟩;have e:b=s1.heap.objs.size:=by simpa using hb
  subst e;exact I1.fpOk (Nat.le_refl _) (I1.hok.fresh (Nat.le_refl _))
theorem U8(ha:SE X G F ea a):SI X G F tg ea (.list a):=by
 refine qAL (qEt ha) λσc H Q q=>?_;obtain⟨φ,h,σ,s,h',R,rs,e,k⟩:=q;unfold evi at e;obtain⟨⟨x,h1⟩,e1,e⟩:=Res.bind_inv e;refine⟨φ,h,σ,x,h1,R,rs,e1,λφ1 H1 w x1 R1 r1=>?_⟩;cases x with
 |ref p=>
  dsimp only at e;cases ey:h1[p]? with
  |none=>rw[ey]at e;cases e
  |some o=>
   cases o with
   |lst fz ys=>
    rw[ey]at e;cases e;obtain⟨q,zs,hq,hs,rz⟩:=R1.lst (i:=p) (xs:=ys) (by unfold qM;rw[ey]);obtain⟨q',rfl,hq'⟩:=qN r1;rw[hq]at hq';cases hq';exact⟨_,rfl,.inl ⟨⟨zs,hs⟩,k φ1 H1 _ x1 R1 ⟨_,hq,rfl⟩⟩⟩
   |tup ys=>
    rw[ey]at e;cases e;obtain⟨q,zs,hq,hs,rz⟩:=R1.tup (i:=p) (xs:=ys) (by unfold qY;rw[ey]);obtain⟨q',rfl,hq'⟩:=qN r1;rw[hq]at hq';cases hq';exact⟨_,rfl,.inr ⟨⟨zs,hs⟩,k φ1 H1 _ x1 R1 ⟨_,hq,rfl⟩⟩⟩
   |ob ks=>rw[ey]at e;cases e
 |_=>cases e
theorem qCd(hg:L2.Gl X "range")(hm:X.mg "range"=none)(hn:qS ea=true)(ha:SE X G F ea a):SI X G F tg (.Call (.Name "range" p) [ea] [] pos) (.rng1 a):=by
 refine qAL (L2.pi_range1 hg hm (L2.pa_cons ha L2.pa_nil (qG hn)) (qG hn)) λσc H Q q=>?_;obtain⟨φ,h,σ,s,h',R,rs,e,k⟩:=q;unfold evi at e;obtain⟨⟨x,h1⟩,e1,e⟩:=Res.bind_inv e;refine⟨φ,h,σ,x,h1,R,rs,e1,λφ1 H1 w x1 R1 r1=>?_⟩;cases x with
 |int j=>
  dsimp only at e;split at e
  ·rename_i hj;cases e;cases qB r1;exact⟨j,rfl,by omega,by omega,k φ1 H1 _ x1 R1 rfl⟩
  ·cases e
 |_=>cases e
theorem qCH{elts:List Expr}{kk:Nat}{tpos:Pos}(hg:L2.Gl X "enumerate")(hm:X.mg "enumerate"=none)(hn:qS ea=true)(ha:SE X G F ea a):
  SI X G F (.Tuple elts kk tpos) (.Call (.Name "enumerate" p) [ea] [] pos) (.enum a):=by
 refine qAL (qCh hg hm (L2.pa_cons ha L2.pa_nil (qG hn)) hn) λσc H Q q=>?_;obtain⟨φ,h,σ,s,h',R,rs,e,k⟩:=q;unfold evi at e;obtain⟨⟨x,h1⟩,e1,e⟩:=Res.bind_inv e;refine⟨φ,h,σ,x,h1,R,rs,e1,λφ1 H1 w x1 R1 r1=>?_⟩;cases x with
 |ref p=>
  dsimp only at e;split at e
  ·rename_i xs ex;cases e;obtain⟨q,zs,hq,hs,rz⟩:=R1.lst ex;obtain⟨q',rfl,hq'⟩:=qN r1;rw[hq]at hq';cases hq';exact⟨_,rfl,⟨zs,hs⟩,k φ1 H1 _ x1 R1 ⟨_,hq,rfl⟩⟩
  ·cases e
 |_=>cases e
theorem qEN{elts:List Expr}{kk:Nat}{tpos:Pos}(hg:L2.Gl X "zip")(hm:X.mg "zip"=none)(hn:qS ea=true)(hn2:qS eb=true)(ha:SE X G F ea a)(hb:SE X G F eb b):
  SI X G F (.Tuple elts kk tpos) (.Call (.Name "zip" p) [ea,eb] [] pos) (.zip a b):=by
 refine qAL (qDv hg hm (L2.pa_cons ha (L2.pa_cons hb L2.pa_nil (qG hn2)) (qG hn)) hn hn2) λσc H Q q=>?_;obtain⟨φ,h,σ,s,h',R,rs,e,k⟩:=q;unfold evi at e;obtain⟨⟨x,h1⟩,e1,e⟩:=Res.bind_inv e;obtain⟨⟨y,h2⟩,e2,e⟩:=Res.bind_inv e;refine jd R rs e1 e2 λφ2 H2 xc yc x2 R2 r1 r2=>?_;cases x with
 |ref i=>
  cases y with
  |ref j=>
   dsimp only at e;split at e
   ·rename_i xs ys ex ey;cases e;obtain⟨a',zs,hq,hs,rz⟩:=R2.lst ex;obtain⟨b',ws,hq',hs',rz'⟩:=R2.lst ey;obtain⟨a2,rfl,ha2⟩:=qN r1;obtain⟨b2,rfl,hb2⟩:=qN r2;rw[hq]at ha2;cases ha2;rw[hq']at hb2;cases hb2;exact⟨_,_,rfl,⟨zs,hs⟩,⟨ws,hs'⟩,k φ2 H2 _ x2 R2 ⟨_,_,hq,hq',rfl⟩⟩
   ·cases e
  |_=>cases e
 |_=>cases e
end
section
variable{X:Cx}{G:List Addr}{F:Nat->List V->AH->RV}
theorem qDP{φ:List Addr}:∀{v w w':V},rv φ v w->rv φ v w'->w=w'
 | .ref _,w,w',h,g=>by
  obtain⟨a,e1,h1⟩:=qN h;obtain⟨b,e2,g1⟩:=qN g;rw[h1]at g1;cases g1;rw[e1,e2]
 | .non,_,_,h,g=>by rw[zG h,zG g]
 | .bl _,_,_,h,g=>by rw[zN h,zN g]
 | .int _,_,_,h,g=>by rw[qB h,qB g]
 | .str _,_,_,h,g=>by rw[zV h,zV g]
 | .byt _,w,_,h,_=>by cases w<;>exact False.elim h
 | .flt _,w,_,h,_=>by cases w<;>exact False.elim h
 | .ty _,w,_,h,_=>by cases w<;>exact False.elim h
theorem D9{φ:List Addr}:∀{vs ws us:List V},rvs φ vs ws->rvs φ vs us->ws=us
 |_,_,_,.nil,.nil=>rfl
 |_,_,_,.cons r t,.cons r' t'=>by rw[qDP r r',D9 t t']
theorem ZE{φ:List Addr}{σ σc:St}(r:rst φ σ σc):∀src,rst φ (L2.inner src σ) (L2.inner src σc)
 | []=>.nil
 |none::src=>.cons trivial (ZE r src)
 |some j::src=>by
  refine .cons ?_ (ZE r src);show ropt φ (σ[j]?).join (σc[j]?).join;cases e:σ[j]? with
  |none=>exact trivial
  |some o=>
   cases o with
   |none=>exact trivial
   |some v=>
    obtain⟨oc,ec,r'⟩:=qJ r e;obtain⟨w,rfl,r'⟩:=r';rw[ec];exact⟨w,rfl,r'⟩
variable (X G F) in
abbrev SC(ifs:List Expr)(c:Es):Prop:=L2.PTs X ifs (tB X.K G (evc F c))
theorem qEg:SC X G F [] .nil:=by
 intro pins s σ H Q I q;obtain⟨φ,h,σa,b,h',R,rs,e,k⟩:=q;unfold evc at e;cases e;exact L2.pts_nil pins s σ H Q I (k φ H (.refl _) R)
theorem qEk{c:Expr}{a:E}(hc:ST X G F c a):SC X G F [c] (.cons a .nil):=by
 intro pins s σ H Q I q;obtain⟨φ,h,σa,b,h',R,rs,e,k⟩:=q;unfold evc at e;exact L2.pts_one hc pins s σ H Q I ⟨φ,h,σa,b,h',R,rs,e,k⟩
theorem u6{it:Itr}{src:List (Option Nat)}{g:Tg}{c:Es}{e:E}{σc:St}{H:Hp}{Q:VK}(q:tE X.K G F (.comp it src g c e) σc H Q):
  L2.tComp (tI G F X.K it) src (tG X.K G g) (tB X.K G (evc F c)) (tE X.K G F e) σc H Q:=by
 obtain⟨φ,h,σ,v,h',R,rs,ee,k⟩:=q;unfold ev at ee;obtain⟨⟨s,h1⟩,e1,ee⟩:=Res.bind_inv ee;refine⟨φ,h,σ,s,h1,R,rs,e1,λφ1 H1 J x1 R1 j1=>?_⟩;dsimp only at ee;split at ee
 ·rename_i n hn;intro D hD;have R2:Rl X.K G (φ1++[D]) (h1++[.lst false []]) (upd H1 D (.lst [])):=R1.newL hD .nil;have hDφ:(φ1++[D])[h1.length]?=some D:=R1.lastRef;refine⟨λi m ys σ' H'=>∃φ' h2 σa ya,Ext (φ1++[D]) φ'/\Rl X.K G φ' h2 H'/\rst φ' σa σ'/\rvs φ' ya ys/\h2[h1.length]?=some (.lst false ya)/\A2 s g (evc F c) (ev F e) h1.length m i ya σa h2=.ok (v,h'),
   ⟨n,φ1++[D],_,_,[],.refl _,R2,ZE (rst.mono (x1.trans ⟨[D],rfl⟩) rs) src,.nil,by simp,ee⟩,?_⟩
  rintro i m ys σ' H' ⟨φ',h2,σa,ya,x2,Ra,rsa,rya,hya,ec⟩ hys;have jj:IsJ X.K φ' s J:=j1.mono (Ext.trans ⟨[D],rfl⟩ x2);have hDφ':=x2.get hDφ;cases m with
  |zero=>
   unfold A2 at ec;split at ec
   ·rename_i hst;cases ec;exact .inl ⟨jj.stop Ra hst,k φ' H' _ ((x1.trans ⟨[D],rfl⟩).trans x2) Ra hDφ'⟩
   ·cases ec
  |succ m=>
   unfold A2 at ec;split at ec
   ·rename_i x h3 hy;split at ec
    ·rename_i σ3 hst;refine .inr ⟨jj.go Ra hy,λxv H2 hyl=>?_⟩;obtain⟨φ3,x3,R3,rx⟩:=jj.yld Ra hy hyl;refine⟨φ3,h3,σa,x,σ3,R3,rst.mono x3 rsa,rx,hst,λσc3 rs3=>?_⟩;obtain⟨⟨t,h4⟩,e4,ec⟩:=Res.bind_inv ec;refine⟨φ3,h3,σ3,t,h4,R3,rs3,e4,λφ4 H4 x4 R4=>?_⟩;dsimp only at ec;cases t with
     |true=>
      rw[if_pos rfl]at ec ⊢;obtain⟨⟨y,h5⟩,e5,ec⟩:=Res.bind_inv ec;refine⟨φ4,h4,σ3,y,h5,R4,rst.mono x4 rs3,e5,λφ5 H5 yc x5 R5 r5=>?_⟩;dsimp only at ec;split at ec
      ·rename_i hc5;have xx:Ext φ' φ5:=x3.trans (x4.trans x5);have hD5:=xx.get hDφ';obtain⟨zs,hz,rz⟩:=R5.obj _ _ D hc5.1 hD5;have ez:zs=ys:=D9 rz (rvs.mono xx rya);subst ez;refine⟨hz,by rw[<-Paired.length rz];exact wo hc5.2 qBO,m,Nat.lt_succ_self _,φ5,_,σ3,_,x2.trans xx,R5.set hc5.1 hD5 (qR rz (.cons r5 .nil)),rst.mono (x4.trans x5) rs3,qR rz (.cons r5 .nil),?_,ec⟩;rw[wL (List.getElem?_eq_some_iff.mp hc5.1).1]
      ·cases ec
     |false=>
      rw[if_neg (by decide)]at ec ⊢;split at ec
      ·rename_i hc4;have xx:Ext φ' φ4:=x3.trans x4;have hD4:=xx.get hDφ';obtain⟨zs,hz,rz⟩:=R4.obj _ _ D hc4 hD4;have ez:zs=ys:=D9 rz (rvs.mono xx rya);subst ez;exact⟨hz,m,Nat.lt_succ_self _,φ4,_,σ3,_,x2.trans xx,R4,rst.mono x4 rs3,rz,hc4,ec⟩
      ·cases ec
    ·cases ec
   ·cases ec
 ·cases ee
end
section
variable{X:Cx}{G:List Addr}{F:Nat->List V->AH->RV}{a b c:E}{ea eb ec tg:Expr}{pos:Pos}
theorem X6{iter elt:Expr}{ifs:List Expr}{scope:Scope}{N:List Str}{it:Itr}{src:List (Option Nat)}{g:Tg}{cs:Es}{e:E}(hc:X.calm=true)(hi:SI X G F tg iter it)(S:L2.CompScope X scope N src)
  (hg:∀C fp s H,SG (L2.cxComp X scope C fp s H N) G tg g) (ht:∀C fp s H,SC (L2.cxComp X scope C fp s H N) G F ifs cs) (he:∀C fp s H,SE (L2.cxComp X scope C fp s H N) G F elt e)
  (hs:∀x,foldedSetIterable iter X.env x=pure x):SE X G F (.ListComp elt [⟨tg,iter,ifs,0⟩] scope pos) (.comp it src g cs e):=
 qr (L2.pe_comp hc hi S hg ht he hs) λ_ _ _=>u6
def Post(K:PySem.W.Frag)(G:List Addr)(D:R8)(φ:List Addr)(o:Out)(h':AH):Prop:=∀φ' H',Ext φ φ'->Rl K G φ' h' H'->match o with
 | .nx σ=>∀σc,rst φ' σ σc->D.nx σc H'
 | .rt v=>∀w,rv φ' v w->D.rt w H'
 | .bk σ=>∀σc,rst φ' σ σc->D.bk σc H'
 | .ct σ=>∀σc,rst φ' σ σc->D.ct σc H'
theorem Post.mono{K:PySem.W.Frag}{D:R8}{φ φ1:List Addr}{o:Out}{h':AH}(x:Ext φ φ1)(p:Post K G D φ o h'):Post K G D φ1 o h':=λφ' H' x' R=>p φ' H' (x.trans x') R
noncomputable def tS(K:PySem.W.Frag)(G:List Addr)(r:St->AH->RS):TS:=λD σc H=>∃φ h σ o h',Rl K G φ h H/\rst φ σ σc/\r σ h=.ok (o,h')/\Post K G D φ o h'
variable (X G F) in
abbrev SS(st:Stmt)(s:S):Prop:=PS X st (tS X.K G (ex F s))
variable (X G F) in
abbrev SSs(st:List Stmt)(s:Ss):Prop:=PSs X st (tS X.K G (exs F s))
theorem Ja{e:Stmt}{t t':TS}(h:PS X e t)(w:∀D σ H,t' D σ H->t D σ H):PS X e t':=λpins s σ H D I q=>h pins s σ H D I (w D σ H q)
theorem qAu{e:List Stmt}{t t':TS}(h:PSs X e t)(w:∀D σ H,t' D σ H->t D σ H):PSs X e t':=λpins s σ H D I q=>h pins s σ H D I (w D σ H q)
theorem qm{st:Stmt}:SS X G F st .stop:=by
 intro pins s σ H D I q;obtain⟨φ,h,σa,o,h',R,rs,e,k⟩:=q;unfold ex at e;cases e
noncomputable def Qr:Expr->Bool
 | .ListComp ..=>false
 | .SetComp ..=>false
 | .DictComp ..=>false
 |_=>true
theorem Qo{e:Expr}{t:Option Expr}{l:Nat}{env:Env}(h:Qr e=true):swapsWith e t l env=pure false:=by
 cases e<;>first|rfl|cases h
theorem ZZ{e t:Expr}{l:Nat}{env:Env}(h:Qr e=true):swapsWithSole [t] e l env=pure false:=Qo h
theorem qC7{K:PySem.W.Frag}{σ:St}{H:Hp}{Q Q':VK}(q:tE K G F a σ H Q)(w:∀v H,Q v H->Q' v H):tE K G F a σ H Q':=by
 obtain⟨φ,h,σa,v,h',R,rs,e,k⟩:=q;exact⟨φ,h,σa,v,h',R,rs,e,λφ' H' u x' R' r'=>w u H' (k φ' H' u x' R' r')⟩
theorem V7{g:Tg}{D:R8}{σc:St}{H:Hp}(q:tS X.K G (ex F (.asg g a)) D σc H):L2.tAsg (tE X.K G F a) (tG X.K G g) D σc H:=by
 obtain⟨φ,h,σ,o,h',R,rs,e,k⟩:=q;unfold ex at e;obtain⟨⟨x,h1⟩,e1,e⟩:=Res.bind_inv e;dsimp only at e;split at e
 ·rename_i σ1 es;cases e;exact⟨φ,h,σ,x,_,R,rs,e1,λφ1 H1 w x1 R1 r1=>⟨φ1,_,σ,x,σ1,R1,rst.mono x1 rs,r1,es,λσc' rs'=>k φ1 H1 x1 R1 σc' rs'⟩⟩
 ·cases e
theorem qCR{iter elt:Expr}{ifs:List Expr}{scope:Scope}{N:List Str}{it:Itr}{src:List (Option Nat)}{g:Tg}{cs:Es}{e:E}{i:Nat}{n:Str}{p cpos:Pos}(hc:X.calm=true)(hi:SI X G F tg iter it)(S:L2.CompScope X scope N src)
  (hg:∀C fp s H,SG (L2.cxComp X scope C fp s H N) G tg g) (ht:∀C fp s H,SC (L2.cxComp X scope C fp s H N) G F ifs cs) (he:∀C fp s H,SE (L2.cxComp X scope C fp s H N) G F elt e)
  (hs:∀x,foldedSetIterable iter X.env x=pure x) (hN:X.N.Nodup) (hn:X.N[i]?=some n) (hx:L2.Loc X.env.scope n) (hf:X.fn n=true\/X.env.scope.names.lookup n=some .local):
  SS X G F (.Assign [.Name n p] (.ListComp elt [⟨tg,iter,ifs,0⟩] scope cpos) pos) (.asg (.name i) (.comp it src g cs e)):=by
 have hsw:swapsWith (.ListComp elt [⟨tg,iter,ifs,0⟩] scope cpos) (some (.Name n p)) pos.line X.env=pure (X.env.blockKind==.function&&X.env.kindOf n==some .local&&p.line==(Expr.ListComp elt [⟨tg,iter,ifs,0⟩] scope cpos).pos.line
   && !(scope.names.any λ(m,k)=>m==n&&(k==.local||k==.cell))):=rfl
 generalize hb:(X.env.blockKind==.function&&X.env.kindOf n==some .local&&p.line==(Expr.ListComp elt [⟨tg,iter,ifs,0⟩] scope cpos).pos.line
   && !(scope.names.any λ(m,k)=>m==n&&(k==.local||k==.cell)))=bb at hsw
 cases bb with
 |true=>
  have hl:X.env.scope.names.lookup n=some .local:=by
   simp only[Bool.and_eq_true]at hb;have z:X.env.kindOf n=some .local:=by simpa using hb.1.1.2
   exact z
  refine Ja (L2.ps_setcomp (i:=i) (g:=tG X.K G g) (tc:=tB X.K G (evc F cs)) (te:=tE X.K G F e) hc hi S hg ht he hsw hN hn hl hs) λD σc H q=>?_;refine u6 (qC7 (V7 q) λv H1 z=>?_);obtain⟨φ,h,σ,w,σ',R,rs,r,es,k⟩:=z;unfold store at es;cases es;exact k _ (ze (R:=ropt φ) (show ropt φ (some w) (some v) from⟨v,rfl,r⟩) i rs)
 |false=>exact Ja (L2.ps_asg (X6 hc hi S hg ht he hs) (g9 hN hn hx hf) hsw rfl rfl) λ_ _ _=>V7
noncomputable def qF9:L2.TSet:=λo i v H Q=>L2.rSetL o i v H Q\/∃p H',o=.ref p/\L2.DPut H p i v H'/\Q H'
theorem qCs(hu:X.A.units+8<cLine):L2.PSet X qF9:=by
 intro pins s σ H o i v ov iv u Q I ro ri rv h;rcases h with h|⟨p,H',rfl,g,q⟩
 ·exact L2.set_list pins s σ H o i v ov iv u Q I ro ri rv h
 ·cases ro;exact L2.d_setItem (by omega) I g ri rv λs' I'=>⟨H',I',q⟩
theorem qEU(hu:X.A.units+8<cLine){eo ei:Expr}{o i:E}{p:Pos}(ho:SE X G F eo o)(hi:SE X G F ei i)(ha:SE X G F ea a)(hc:Qr ea=true)(hsl:QI ei=true):SS X G F (.Assign [.Subscript eo ei p] ea pos) (.put o i a):=by
 refine Ja (L2.ps_asg ha (L2.pg_sub ho hi (qCs hu) (λv=>by cases ei<;>first|rfl|cases hsl)) (ZZ hc) (by cases ea<;>rfl) rfl) λD σc H q=>?_;obtain⟨φ,h,σ,out,h',R,rs,e,k⟩:=q;unfold ex at e;obtain⟨⟨x,h1⟩,e1,e⟩:=Res.bind_inv e;obtain⟨⟨p1,h2⟩,e2,e⟩:=Res.bind_inv e;obtain⟨⟨k1,h3⟩,e3,e⟩:=Res.bind_inv e;refine⟨φ,h,σ,x,h1,R,rs,e1,λφ1 H1 w x1 R1 r1=>?_⟩;refine⟨φ1,h1,σ,p1,h2,R1,rst.mono x1 rs,e2,λφ2 H2 w2 x2 R2 r2=>?_⟩;refine⟨φ2,h2,σ,k1,h3,R2,rst.mono (x1.trans x2) rs,e3,λφ3 H3 w3 x3 R3 r3=>?_⟩;cases p1 with
 |ref q=>
  cases k1 with
  |int j=>
   dsimp only at e;split at e
   ·rename_i xs ex1;split at e
    ·rename_i jj ej;cases e;obtain⟨q1,a',zs,ha',hH,rz⟩:=R3.mut ex1;obtain⟨a2,rfl,ha2⟩:=qN (rv.mono x3 r2);rw[ha']at ha2;cases ha2;cases qB r3;refine .inl ⟨_,zs,j,jj,rfl,rfl,hH,by rw[<-Paired.length rz];exact ej,?_⟩;have xx:Ext φ φ3:=x1.trans (x2.trans x3);exact k φ3 _ xx (R3.set q1 ha' (ze (rv.mono (x2.trans x3) r1) jj rz)) σc (rst.mono xx rs)
    ·cases e
   ·split at e
    ·rename_i kvs ed;split at e
     ·rename_i hf;cases e;obtain⟨a',ea,eh,hH⟩:=R3.dct ed;obtain⟨a2,rfl,ha2⟩:=qN (rv.mono x3 r2);rw[ea]at ha2;cases ha2;cases qB r3;have hl:(kvs.map kk).length<sizeLine:=by rw[wO];exact wC hf.2 QS
      have xx:Ext φ φ3:=x1.trans (x2.trans x3);have fw:=E7 hf.1 r1;subst fw;refine .inr ⟨_,_,rfl,L2.DPut.k (k:=.inl j) hH hl,?_⟩;rw[X4];exact k φ3 _ xx (R3.write rfl rfl eh ea qH) σc (rst.mono xx rs)
     ·cases e
    ·cases e
  |_=>cases e
 |_=>cases e
theorem qBi(ha:SE X G F ea a)(hc:Qr ea=true):SS X G F (.Expr ea pos) (.expr a):=by
 refine Ja (L2.ps_expr ha (Qo hc)) λD σc H q=>?_;obtain⟨φ,h,σ,out,h',R,rs,e,k⟩:=q;unfold ex at e;obtain⟨⟨x,h1⟩,e1,e⟩:=Res.bind_inv e;cases e;exact⟨φ,h,σ,x,_,R,rs,e1,λφ1 H1 w x1 R1 r1=>k φ1 H1 x1 R1 σc (rst.mono x1 rs)⟩
theorem qDp(ha:SE X G F ea a):SS X G F (.Return (some ea) pos) (.ret a):=by
 refine Ja (L2.ps_ret ha) λD σc H q=>?_;obtain⟨φ,h,σ,out,h',R,rs,e,k⟩:=q;unfold ex at e;obtain⟨⟨x,h1⟩,e1,e⟩:=Res.bind_inv e;cases e;exact⟨φ,h,σ,x,_,R,rs,e1,λφ1 H1 w x1 R1 r1=>k φ1 H1 x1 R1 w r1⟩
theorem qCw:SSs X G F [] .nil:=by
 refine qAu L2.pss_nil λD σc H q=>?_;obtain⟨φ,h,σ,out,h',R,rs,e,k⟩:=q;unfold exs at e;cases e;exact k φ H (.refl _) R σc rs
theorem qAA{st:Stmt}{sts:List Stmt}{s:S}{ss:Ss}(h1:SS X G F st s)(h2:SSs X G F sts ss):SSs X G F (st::sts) (.cons s ss):=by
 refine qAu (L2.pss_cons h1 h2) λD σc H q=>?_;obtain⟨φ,h,σ,out,h',R,rs,e,k⟩:=q;unfold exs at e;obtain⟨⟨o,h1⟩,e1,e⟩:=Res.bind_inv e;refine⟨φ,h,σ,o,h1,R,rs,e1,λφ1 H1 x1 R1=>?_⟩;cases o with
 |nx σ1=>exact λσc1 rs1=>⟨φ1,h1,σ1,out,h',R1,rs1,e,k.mono x1⟩
 |rt v=>cases e;exact k φ1 H1 x1 R1
 |bk σ1=>cases e;exact k φ1 H1 x1 R1
 |ct σ1=>cases e;exact k φ1 H1 x1 R1
theorem qEd{t u:List Stmt}{st su:Ss}(hc:ST X G F ec c)(ht:SSs X G F t st)(hu:SSs X G F u su):SS X G F (.If ec t u pos) (.ifs c st su):=by
 refine Ja (L2.ps_if hc ht hu) λD σc H q=>?_;obtain⟨φ,h,σ,out,h',R,rs,e,k⟩:=q;unfold ex at e;obtain⟨⟨x,h1⟩,e1,e⟩:=Res.bind_inv e;refine⟨φ,h,σ,x,h1,R,rs,e1,λφ1 H1 x1 R1=>?_⟩;dsimp only at e;cases x with
 |true=>
  rw[if_pos rfl]at e ⊢;exact⟨φ1,h1,σ,out,h',R1,rst.mono x1 rs,e,k.mono x1⟩
 |false=>
  rw[if_neg (by decide)]at e ⊢;exact⟨φ1,h1,σ,out,h',R1,rst.mono x1 rs,e,k.mono x1⟩
theorem qD7{iter:Expr}{body:List Stmt}{it:Itr}{g:Tg}{sb:Ss}(hx:X.xe=λ_ _=>False)(hc:X.calm=true)(hi:SI X G F tg iter it)(hg:SG X G tg g)(hb:SSs X G F body sb)
  (hs:∀x,foldedSetIterable iter X.env x=pure x):SS X G F (.For tg iter body [] pos) (.for_ g it sb):=by
 refine Ja (L2.ps_for (by rw[hx];exact PassesOwn.never) hc hi hg hb hs) λD σc H q=>?_;obtain⟨φ,h,σ,out,h',R,rs,e,k⟩:=q;unfold ex at e;obtain⟨⟨s,h1⟩,e1,e⟩:=Res.bind_inv e;refine⟨φ,h,σ,s,h1,R,rs,e1,λφ1 H1 J x1 R1 j1=>?_⟩;dsimp only at e;split at e
 ·rename_i n hn;refine⟨λi m σ' H'=>∃φ' h2 σa,Ext φ1 φ'/\Rl X.K G φ' h2 H'/\rst φ' σa σ'/\v4 s g (exs F sb) m i σa h2=.ok (out,h'),⟨n,φ1,h1,σ,.refl _,R1,rst.mono x1 rs,e⟩,?_⟩;rintro i m σ' H' ⟨φ',h2,σa,x2,Ra,rsa,ef⟩;have jj:IsJ X.K φ' s J:=j1.mono x2;cases m with
  |zero=>
   unfold v4 at ef;split at ef
   ·rename_i hst;cases ef;exact .inl ⟨jj.stop Ra hst,k φ' H' (x1.trans x2) Ra σ' rsa⟩
   ·cases ef
  |succ m=>
   unfold v4 at ef;split at ef
   ·rename_i x h3 hy;split at ef
    ·rename_i σ3 hst;refine .inr ⟨jj.go Ra hy,λσ' H'=>∃φ' h2 σa,Ext φ1 φ'/\Rl X.K G φ' h2 H'/\rst φ' σa σ'/\v4 s g (exs F sb) m (i+1) σa h2=.ok (out,h'),λσ2 H2 w=>⟨m,Nat.lt_succ_self _,w⟩,λxv H2 hyl=>?_⟩;obtain⟨φ3,x3,R3,rx⟩:=jj.yld Ra hy hyl;refine⟨φ3,h3,σa,x,σ3,R3,rst.mono x3 rsa,rx,hst,λσc3 rs3=>?_⟩;obtain⟨⟨o,h4⟩,e4,ef⟩:=Res.bind_inv ef;refine⟨φ3,h3,σ3,o,h4,R3,rs3,e4,λφ4 H4 x4 R4=>?_⟩;dsimp only at ef;cases o with
     |nx σ4=>exact λσc4 rs4=>⟨φ4,h4,σ4,x2.trans (x3.trans x4),R4,rs4,ef⟩
     |ct σ4=>exact λσc4 rs4=>⟨φ4,h4,σ4,x2.trans (x3.trans x4),R4,rs4,ef⟩
     |bk σ4=>cases ef;exact k φ4 H4 (x1.trans (x2.trans (x3.trans x4))) R4
     |rt v=>cases ef;exact k φ4 H4 (x1.trans (x2.trans (x3.trans x4))) R4
    ·cases ef
   ·cases ef
 ·cases e
end
structure Gam where
 N:List Str
 sc:Scope
 fns:List Str
 gl:List (Str×E)
 bl:List Str
 own:Str->Bool
 cls:List Str:=[]
 xr:Bool:=false
noncomputable def slot(N:List Str)(x:Str):Option Nat:=(List.range N.length).find? λi=>N[i]?==some x
theorem QM{N:List Str}{x:Str}{i:Nat}(h:slot N x=some i):N[i]?=some x:=by
 unfold slot at h;simpa using List.find?_some h
noncomputable def qFw(sc:Scope)(x:Str):Bool:=match sc.names.lookup x with|some .local=>true|some .cell=>true|some .free=>true|_=>false
theorem qB1{sc:Scope}{x:Str}(h:qFw sc x=true):L2.Vis sc x:=by
 unfold qFw at h;unfold L2.Vis;split at h<;>first|(rename_i e;simp[e])|cases h
noncomputable def glB(sc:Scope)(x:Str):Bool:=sc.names.lookup x==some .globalImplicit
noncomputable def okN(x:Str):Bool:=!(x==("__debug__":Str))&&!(x==("__classdict__":Str))&&!decide (x="__name__")
noncomputable def qGw:Operator->Option BOp
 | .Add=>some .add | .Sub=>some .sub | .Mult=>some .mul | .FloorDiv=>some .fdiv | .Mod=>some .mod | .Pow=>some .pow | .BitAnd=>some .band|_=>none
theorem qCl{o:Operator}{b:BOp}(h:qGw o=some b):o=opB b:=by
 cases o<;>cases h<;>rfl
noncomputable def O6:CmpOp->COp
 | .Lt=>.lt | .LtE=>.le | .Gt=>.gt | .GtE=>.ge | .Eq=>.eq | .NotEq=>.ne | .In=>.inn | .NotIn=>.notin | .Is=>.is | .IsNot=>.isnot
theorem E3(o:CmpOp):o=opC (O6 o):=by cases o<;>rfl
noncomputable def E9:Expr->Bool
 | .Set ..=>false
 |_=>true
noncomputable def S4:Expr->Bool
 | .Call ..=>false
 |_=>true
noncomputable def bfL:List (Str×BF):=[("len",.len),("sum",.sum),("all",.all),("max",.max),("min",.min),("list",.list),("int",.int),("repr",.repr)]
noncomputable def qHJ(x:Str):Option BF:=bfL.lookup x
theorem Zd{x:Str}{f:BF}:∀{l:List (Str×BF)},l.lookup x=some f->(x,f)∈l
 | [],h=>by cases h
 | (a,b)::l,h=>by
  rw[List.lookup_cons]at h;split at h
  ·rename_i e;cases h;rw[eq_of_beq e];exact List.mem_cons_self ..
  ·exact List.mem_cons_of_mem _ (Zd h)
theorem qDI:∀p∈bfL,bootBuiltins p.1=some (fnB p.2):=
 wV.mpr ⟨PySem.boot_len,wV.mpr ⟨PyProof.Rows.boot_sum,wV.mpr ⟨PyProof.Rows.boot_all,wV.mpr ⟨PyProof.Rows.boot_max,wV.mpr ⟨PyProof.Rows.boot_min,wV.mpr ⟨PyProof.Rows.boot_list,wV.mpr ⟨PyProof.Rows.boot_int,wV.mpr ⟨PyProof.Rows.boot_repr,(λ_ h=>absurd h wD)⟩⟩⟩⟩⟩⟩⟩⟩
theorem qCF{x:Str}{f:BF}(h:qHJ x=some f):bootBuiltins x=some (fnB f):=qDI _ (Zd h)
noncomputable def qFV(x:Str):Option String:=
 if x="int" then some "int" else if x="bool" then some "bool" else if x="list" then some "list" else if x="tuple" then some "tuple" else if x="str" then some "str" else if x="dict" then some "dict" else none
theorem qC0{x:Str}{t:String}(h:qFV x=some t):bootBuiltins x=some (.type t)/\Jj t=true:=by
 unfold qFV at h
 repeat' split at h
 all_goals first|cases h|skip
 all_goals (rename_i hx;subst hx)
 ·exact⟨PyProof.Rows.boot_int,by decide⟩
 ·exact⟨PyProof.Rows.boot_bool,by decide⟩
 ·exact⟨PyProof.Rows.boot_list,by decide⟩
 ·exact⟨PyProof.Rows.boot_tuple,by decide⟩
 ·exact⟨PyProof.Rows.boot_str,by decide⟩
 ·exact⟨PyProof.Rows.boot_dict,by decide⟩
noncomputable def qFM(scope sc:Scope):Scope:=
 { scope with names:=scope.names.map λ(n,k)=>if (k==.free&&sc.kind==.function&&sc.names.lookup n==some .cell) then (n,.cell) else (n,k) }
noncomputable def X8:Expr->List Str
 | .Name x _=>[x]
 | .Tuple es _ _=>es.filterMap λe:Expr=>match e with | .Name x _=>some x|_=>none
 |_=>[]
noncomputable def qD5(scope:Scope):List Str:=scope.names.filterMap λy=>if y.2=.free then some y.1 else none
noncomputable def JQ(Γ:Gam)(scope:Scope)(N:List Str)(src:List (Option Nat)):Bool:=
 decide (scope.kind=.function)&&scope.names.all (λy=>decide (scope.names.lookup y.1=some y.2))
 && scope.names.all (λy=>decide (y.2=.free->(Γ.sc.names.lookup y.1=some .cell\/Γ.sc.names.lookup y.1=some .free)))&&decide N.Nodup&&decide (src.length=N.length)
 && (List.range N.length).all (λi=>match N[i]?,src[i]? with|some x,some (some j)=>decide (Γ.N[j]?=some x/\scope.names.lookup x=some .free)|_,_=>true)
noncomputable def G5(Γ:Gam)(x:Str):Bool:=match Γ.sc.names.lookup x with|some .local=>true|some .cell=>Γ.own x|_=>false
noncomputable def qE8(Γ:Gam):List Expr->Option (List Nat)
 | []=>some []
 | .Name x _::r=>if G5 Γ x then (match slot Γ.N x,qE8 Γ r with|some i,some is=>some (i::is)|_,_=>none) else none
 |_=>none
noncomputable def trT(Γ:Gam):Expr->Option Tg
 | .Name x _=>if G5 Γ x then (slot Γ.N x).map .name else none
 | .Tuple es _ _=>(qE8 Γ es).map .tup
 |_=>none
noncomputable def qIW:Expr->Bool
 | .Name x _=>(["signs","fixed"]:List Str).contains x
 |_=>false
noncomputable def qEx:List Expr->Bool
 | [.Call (.Name r _) [_,_] [] _]=>decide (r="zip")
 |_=>false
noncomputable def qGJ:List Expr->Bool
 | [.Call (.Name r _) [_] [] _]=>decide (r="range")
 | [.Call (.Name r _) [_,_] [] _]=>decide (r="range")
 |_=>false
noncomputable def qHV:E->Bool
 |_=>true
mutual
noncomputable def trE:Nat->Gam->Expr->Option E
 | 0,_,_=>none
 |n+1,Γ,e=>match e with
  | .Constant c _ _=>(match c with
   | .int i=>some (.cst (.int i))
   | .bool i=>some (.cst (.bl i))
   | .none=>some (.cst .non)
   | .str i=>some (.cst (.str i))
   |_=>none)
  | .Name x _=>if okN x then (if qFw Γ.sc x then (slot Γ.N x).map .var else if glB Γ.sc x then Γ.gl.lookup x else none) else none
  | .BinOp a op b _=>match qGw op,trE n Γ a,trE n Γ b with|some o,some a',some b'=>some (.bin o a' b')|_,_,_=>none
  | .UnaryOp op a _=>(match op with
   | .USub=>(trE n Γ a).map .neg
   | .Not=>(trE n Γ a).map .not
   |_=>none)
  | .BoolOp op vs p=>trB n Γ op p vs
  | .IfExp c a b _=>match trE n Γ c,trE n Γ a,trE n Γ b with|some c',some a',some b'=>some (.ite c' a' b')|_,_,_=>none
  | .Compare a ops bs _=>(match ops,bs with
   | [op],[b]=>if E9 b then (match trE n Γ a,trE n Γ b with|some a',some b'=>some (.cmp (O6 op) a' b')|_,_=>none) else none
   | [o1,o2],[b,c]=>if E9 c then (match trE n Γ a,trE n Γ b,trE n Γ c with|some a',some b',some c'=>some (.cmp2 (O6 o1) (O6 o2) a' b' c')|_,_,_=>none) else none
   |_,_=>none)
  | .Call fn args kws cpos=>(match kws with
   | []=>(match fn with
    | .Name f _=>if okN f&&glB Γ.sc f&&args.all qS then trC n Γ f args else none
    | .Attribute o m apos=>(match args with
     | [x]=>if m="append"/\S4 o=true/\qS x=true/\(apos.endLine==cpos.line)=true then (match trE n Γ o,trE n Γ x with|some o',some x'=>some (.app o' x')|_,_=>none)
   else if m="pop"/\S4 o=true/\qS x=true/\(apos.endLine==cpos.line)=true then (match trE n Γ o,trE n Γ x with|some o',some x'=>some (.meth .popAt o' (.cons x' .nil))|_,_=>none)  else none
     |_=>none)
    |_=>none)
   |_=>none)
  | .Subscript a b _=>(match b with
   | .Slice lo hi st _=>(match st with
    |none=>(match trE n Γ a,trO n Γ lo,trO n Γ hi with|some a',some l,some h=>some (.sl a' l h)|_,_,_=>none)
    |some _=>none)
   |b=>if QI b then (match trE n Γ a,trE n Γ b with|some a',some b'=>some (if qIW a then .dix a' b' else .idx a' b')|_,_=>none) else none)
  | .List es _=>if es.all qS then (trA n Γ es).map .lst else none
  | .Tuple es _ _=>if es.all qS then (trA n Γ es).map .tup else none
  | .Dict ks vs _=>(match ks,vs with|[],[]=>some .dnew|_,_=>none)
  | .ListComp elt gens scope _=>(match gens with
   | [gen]=>(match gen with
    | ⟨tg,iter,ifs,asy⟩=>(match asy with
     | 0=>
      let N:=X8 tg++qD5 scope
      let src:=(X8 tg).map (λ_=>none)++(qD5 scope).map (slot Γ.N)
      let Γ':Gam:={ Γ with N:=N,sc:=qFM scope Γ.sc,own:=λx=>decide (scope.names.lookup x=some .cell) }
      if JQ Γ scope N src&&E9 iter then (match trI n Γ tg iter,trT Γ' tg,qDC n Γ' ifs,trE n Γ' elt with|some it,some g,some c,some e'=>some (.comp it src g c e')|_,_,_,_=>none) else none
     |_=>none))
   |_=>none)
  |_=>none
noncomputable def trA:Nat->Gam->List Expr->Option Es
 | 0,_,_=>none
 |_+1,_,[]=>some .nil
 |n+1,Γ,e::es=>match trE n Γ e,trA n Γ es with|some a,some as=>some (.cons a as)|_,_=>none
noncomputable def trB:Nat->Gam->BoolOp->Pos->List Expr->Option E
 | 0,_,_,_,_=>none
 |_+1,_,_,_,[]=>none
 |n+1,Γ,_,_,[a]=>trE n Γ a
 |n+1,Γ,op,p,a::b::r=>match trE n Γ a,trB n Γ op p (b::r) with|some a',some b'=>some (match op with | .And=>.and a' b' | .Or=>.or a' b')|_,_=>none
noncomputable def trC:Nat->Gam->Str->List Expr->Option E
 | 0,_,_,_=>none
 |n+1,Γ,f,args=>match slot Γ.fns f with
  |some i=>(trA n Γ args).map (.call i)
  |none=>if Γ.bl.contains f then
    (if f="isinstance" then (match args with
     | [a,.Name t _]=>if okN t&&glB Γ.sc t&&Γ.bl.contains t then (match trE n Γ a,qFV t with|some a',some t'=>some (.isi a' [t'])|_,_=>none) else none
     |_=>none)
    else if f="list"/\qGJ args=true then (match args with
     | [.Call (.Name r _) [a] [] _]=>if okN r&&glB Γ.sc r&&Γ.bl.contains r&&qS a&&decide (r="range") then (trE n Γ a).map .lrng else none
     |_=>none)
    else if f="dict"/\qEx args=true then (match args with
     | [.Call (.Name r _) [a,b] [] _]=>if okN r&&glB Γ.sc r&&Γ.bl.contains r&&qS a&&decide (r="zip")&&qS b then (match trE n Γ a,trE n Γ b with|some a',some b'=>some (.dzip a' b')|_,_=>none) else none
     |_=>none)
    else match qHJ f,args with
     |some b,_::_=>(trA n Γ args).map (.blt b)
     |_,_=>none)
   else none
noncomputable def trO:Nat->Gam->Option Expr->Option Es
 | 0,_,_=>none
 |_+1,_,none=>some .nil
 |n+1,Γ,some e=>(trE n Γ e).map λa=>.cons a .nil
noncomputable def qDC:Nat->Gam->List Expr->Option Es
 | 0,_,_=>none
 |_+1,_,[]=>some .nil
 |n+1,Γ,[c]=>(trE n Γ c).map λa=>.cons a .nil
 |_,_,_=>none
noncomputable def trI:Nat->Gam->Expr->Expr->Option Itr
 | 0,_,_,_=>none
 |n+1,Γ,tg,iter=>match iter with
  | .Call (.Name f _) args [] _=>
   if f="range" then (if glB Γ.sc f&&Γ.bl.contains f&&args.all qS then (match args with
    | [a]=>(trE n Γ a).map .rng1
    |_=>none) else none)
   else if f="zip" then (if glB Γ.sc f&&Γ.bl.contains f&&args.all qS then (match tg,args with
    | .Tuple ..,[a,b]=>match trE n Γ a,trE n Γ b with|some a',some b'=>some (.zip a' b')|_,_=>none
    |_,_=>none) else none)
   else if f="enumerate" then (if glB Γ.sc f&&Γ.bl.contains f&&args.all qS then (match tg,args with
    | .Tuple ..,[a]=>(trE n Γ a).map .enum
    |_,_=>none) else none)
   else (trE n Γ iter).map .list
  |_=>(trE n Γ iter).map .list
end
mutual
noncomputable def trS:Nat->Gam->Stmt->S
 | 0,_,_=>.stop
 |n+1,Γ,st=>match st with
  | .Assign ts v _=>(match ts with
   | [tgt]=>(match tgt with
    | .Name x _=>(match trT Γ (.Name x ⟨0,0,0,0⟩),trE 60 Γ v with|some g,some a=>if qHV a then .asg g a else .stop|_,_=>.stop)
    | .Subscript o i _=>if Qr v&&QI i then (match trE 60 Γ o,trE 60 Γ i,trE 60 Γ v with|some o',some i',some v'=>.put o' i' v' | _,_,_=>.stop) else .stop
    |_=>.stop)
   |_=>.stop)
  | .Expr e _=>if Qr e then (match trE 60 Γ e with|some a=>.expr a|none=>.stop) else .stop
  | .Return r _=>(match r with
   |some e=>(match trE 60 Γ e with|some a=>.ret a|none=>.stop)
   |none=>.stop)
  | .If c t u _=>match trE 60 Γ c with|some c'=>.ifs c' (v3 n Γ t) (v3 n Γ u)|none=>.stop
  | .For tg iter b els _=>(match els with
   | []=>if E9 iter then (match trI 60 Γ tg iter,trT Γ tg with|some it,some g=>.for_ g it (v3 n Γ b)|_,_=>.stop) else .stop
   |_=>.stop)
  |_=>.stop
noncomputable def v3:Nat->Gam->List Stmt->Ss
 | 0,_,_=>.cons .stop .nil
 |_+1,_,[]=>.nil
 |n+1,Γ,s::r=>.cons (trS n Γ s) (v3 n Γ r)
end
structure Fit(Γ:Gam)(X:Cx)(G:List Addr)(F:Nat->List V->AH->RV):Prop where
 hN:X.N=Γ.N
 nd:Γ.N.Nodup
 sc:X.env.scope=Γ.sc
 calm:X.calm=true
 fn:∀x,Γ.own x=true->X.fn x=true
 fns:∀(f:Nat) x,Γ.fns[f]?=some x->FnS X G F f x
 gls:∀x e,Γ.gl.lookup x=some e->(∃v u,e=.cst v/\X.mg x=some u/\RelV v u/\∀φ,rv φ v v)\/(∃g a,e=.glob g/\X.mg x=some (.ref a)/\G[g]?=some a)
 blt:∀x,Γ.bl.contains x=true->X.mg x=none
 hu:X.A.units+8<cLine
 gd:X.A.guards=some []
 gtu:∀a∈G,∃o,X.K.lookup a=some o/\o.cls=.type "tuple"/\o.dict=none
section
variable{Γ:Gam}{X:Cx}{G:List Addr}{F:Nat->List V->AH->RV}
theorem V3{x:Str}(h:okN x=true):(x==("__debug__":Str))=false/\(x==("__classdict__":Str))=false/\x≠"__name__":=by
 unfold okN at h;simp only[Bool.and_eq_true,Bool.not_eq_true',decide_eq_false_iff_not]at h;exact⟨h.1.1,h.1.2,h.2⟩
theorem Fit.gl'(f:Fit Γ X G F){x:Str}(h:glB Γ.sc x=true):L2.Gl X x:=by
 unfold L2.Gl Env.kindOf;rw[f.sc];simpa [glB] using h
theorem Fit.store(f:Fit Γ X G F){x:Str}(h:G5 Γ x=true):L2.Loc X.env.scope x/\(X.fn x=true\/X.env.scope.names.lookup x=some .local):=by
 rw[f.sc];unfold G5 at h;unfold L2.Loc;split at h
 ·rename_i e;exact⟨.inl e,.inr e⟩
 ·rename_i e;exact⟨.inr e,.inl (f.fn x h)⟩
 ·cases h
theorem qAx(f:Fit Γ X G F):∀{es:List Expr}{is:List Nat},qE8 Γ es=some is->PGs X es (tGs is)/\(assignEach es X.env).length=is.length/\(assignEach es X.env).findIdx? (·.1)=none
 | [],is,h=>by
  cases h;exact⟨qB8,rfl,rfl⟩
 |e::es,is,h=>by
  unfold qE8 at h;split at h
  ·rename_i e1;cases e1
  ·rename_i x p r e1;cases e1;split at h
   ·rename_i hs;split at h
    ·rename_i i is' ei eis;cases h;obtain⟨h1,h2⟩:=f.store hs;obtain⟨g1,g2,g3⟩:=qAx f eis;refine⟨qAW (by rw[f.hN];exact f.nd) (by rw[f.hN];exact QM ei) h1 h2 g1,?_,?_⟩
     ·show (assignEach es X.env).length+1=_;rw[g2];rfl
     ·show (((false,assign (.Name x p) X.env)::assignEach es X.env).findIdx? (·.1))=none;rw[List.findIdx?_cons,g3];rfl
    ·cases h
   ·cases h
  ·cases h
theorem qAr(f:Fit Γ X G F){tg:Expr}{g:Tg}(h:trT Γ tg=some g):SG X G tg g:=by
 unfold trT at h;split at h
 ·rename_i x p;split at h
  ·rename_i hs;obtain⟨i,ei,rfl⟩:=Option.map_eq_some_iff.mp h;obtain⟨h1,h2⟩:=f.store hs;exact g9 (by rw[f.hN];exact f.nd) (by rw[f.hN];exact QM ei) h1 h2
  ·cases h
 ·obtain⟨is,ei,rfl⟩:=Option.map_eq_some_iff.mp h;obtain⟨g1,g2,g3⟩:=qAx f ei;exact qEi f.calm g1 g2 g3
 ·cases h
theorem q9{op:CmpOp}{e:Expr}(h:E9 e=true):behindInMarks op e=false:=by
 cases e<;>first|rfl|cases h
theorem V8{o1 o2:CmpOp}{b c:Expr}(h:E9 c=true):lastMarks [o1,o2] [b,c]=false:=by
 show behindInMarks o2 c=false;exact q9 h
theorem X0{iter:Expr}{env:Env}(h:E9 iter=true):∀x,foldedSetIterable iter env x=pure x:=by
 intro x;cases iter<;>first|rfl|cases h
theorem qBA{o:Expr}{n:Str}{env:Env}{w:Sem Value}(h:S4 o=true):attributeBase o n env w=w:=by
 cases o<;>first|rfl|cases h
theorem QJ(f:Fit Γ X G F){scope:Scope}{N:List Str}{src:List (Option Nat)}(h:JQ Γ scope N src=true):L2.CompScope X scope N src:=by
 unfold JQ at h;simp only[Bool.and_eq_true,List.all_eq_true,ve]at h;obtain⟨⟨⟨⟨⟨h1,h2⟩,h4⟩,h5⟩,h6⟩,h7⟩:=h;refine⟨h1,h2,λy hy hk=>?_,h5,h6,λi x j e1 e2=>?_⟩
 ·unfold Env.kindOf;rw[f.sc];exact h4 y hy hk
 ·have hi:i<N.length:=(List.getElem?_eq_some_iff.mp e1).1;have:=h7 i (wS.mpr hi);rw[e1,e2]at this;rw[f.hN];simpa using this
theorem jI(f:Fit Γ X G F){scope:Scope}{N:List Str}{src:List (Option Nat)}(h:JQ Γ scope N src=true)(C:Addr)(fp:List Addr)(s:Shared)(H:Hp):
  Fit { Γ with N:=N,sc:=qFM scope Γ.sc,own:=λx=>decide (scope.names.lookup x=some .cell) } (L2.cxComp X scope C fp s H N) G F:=by
 have S:=QJ f h;refine⟨rfl,S.nd,?_,f.calm,λx z=>z,λg x e=>?_,f.gls,f.blt,f.hu,f.gd,f.gtu⟩
 ·show relabel scope X.env=qFM scope Γ.sc;unfold relabel qFM Env.kindOf;rw[f.sc]
 ·exact⟨(f.fns g x e).ex⟩
theorem L8(n:Nat):
  (∀ Γ e a,trE n Γ e=some a->∀X:Cx,Fit Γ X G F->SE X G F e a/\ST X G F e a)/\
  (∀ Γ es as,trA n Γ es=some as->es.all qS=true->∀X:Cx,Fit Γ X G F->SA X G F es as)/\
  (∀ Γ op p vs a,trB n Γ op p vs=some a->∀X:Cx,Fit Γ X G F->SE X G F (.BoolOp op vs p) a/\SW X G F (.BoolOp op vs p) a)/\
  (∀ Γ f args a,trC n Γ f args=some a->okN f=true->glB Γ.sc f=true->args.all qS=true->∀X:Cx,Fit Γ X G F->∀p pos,SE X G F (.Call (.Name f p) args [] pos) a)/\
  (∀ Γ o as,trO n Γ o=some as->∀X:Cx,Fit Γ X G F->SO X G F o as)/\
  (∀ Γ ifs as,qDC n Γ ifs=some as->∀X:Cx,Fit Γ X G F->SC X G F ifs as)/\
  (∀ Γ tg iter it,trI n Γ tg iter=some it->∀X:Cx,Fit Γ X G F->SI X G F tg iter it):=by
 induction n with
 |zero=>exact⟨(λ_ _ _ h=>by unfold trE at h;cases h),(λ_ _ _ h=>by unfold trA at h;cases h),(λ_ _ _ _ _ h=>by unfold trB at h;cases h),(λ_ _ _ _ h=>by unfold trC at h;cases h),(λ_ _ _ h=>by unfold trO at h;cases h),(λ_ _ _ h=>by unfold qDC at h;cases h),(λ_ _ _ _ h=>by unfold trI at h;cases h)⟩
 |succ n ih=>
  obtain⟨iE,iA,iB,iC,iO,iIf,iI⟩:=ih;refine⟨?_,?_,?_,?_,?_,?_,?_⟩
  ·intro Γ e a h X f;unfold trE at h;split at h
   ·split at h
    ·cases h;exact⟨qA4,qV qA4 λ_=>rfl⟩
    ·cases h;exact⟨qEn,qV qEn λ_=>rfl⟩
    ·cases h;exact⟨qBR,qV qBR λ_=>rfl⟩
    ·cases h;exact⟨qA3,qV qA3 λ_=>rfl⟩
    ·cases h
   ·rename_i x p;split at h
    ·rename_i ho;obtain⟨o1,o2,o3⟩:=V3 ho;split at h
     ·rename_i hv;obtain⟨i,ei,rfl⟩:=Option.map_eq_some_iff.mp h;have s1:SE X G F (.Name x p) (.var i):=qDU (by rw[f.hN];exact QM ei) (by rw[f.sc];exact qB1 hv) o1 o2;exact⟨s1,qV s1 λ_=>rfl⟩
     ·split at h
      ·rename_i hg;rcases f.gls x a h with⟨v,u,rfl,e1,e2,e3⟩|⟨g,ad,rfl,e1,e2⟩
       ·have s1:SE X G F (.Name x p) (.cst v):=qCB (f.gl' hg) e1 e2 e3 o1;exact⟨s1,qV s1 λ_=>rfl⟩
       ·have s1:SE X G F (.Name x p) (.glob g):=qCx (f.gl' hg) e1 e2 o1;exact⟨s1,qV s1 λ_=>rfl⟩
      ·cases h
    ·cases h
   ·split at h
    ·rename_i o a' b' eo ea eb;cases h;rw[qCl eo];have s1:=qEh (op:=o) (pos:=‹Pos›) (iE _ _ _ ea X f).1 (iE _ _ _ eb X f).1;exact⟨s1,qV s1 λ_=>rfl⟩
    ·cases h
   ·split at h
    ·obtain⟨a',ea,rfl⟩:=Option.map_eq_some_iff.mp h;have s1:=qDq (pos:=‹Pos›) (iE _ _ _ ea X f).1;exact⟨s1,qV s1 λ_=>rfl⟩
    ·obtain⟨a',ea,rfl⟩:=Option.map_eq_some_iff.mp h;exact⟨qDV (iE _ _ _ ea X f).1,qES (iE _ _ _ ea X f).2⟩
    ·cases h
   ·obtain⟨s1,s2⟩:=iB _ _ _ _ _ h X f;exact⟨s1,s2.pt⟩
   ·split at h
    ·rename_i c' a' b' ec ea eb;cases h;exact⟨qDu (iE _ _ _ ec X f).2 (iE _ _ _ ea X f).1 (iE _ _ _ eb X f).1,qEp (iE _ _ _ ec X f).2 (iE _ _ _ ea X f).2 (iE _ _ _ eb X f).2⟩
    ·cases h
   ·split at h
    ·rename_i op b0;split at h
     ·rename_i hs;split at h
      ·rename_i a' b' ea eb;cases h;rw[E3 op];have e1:O6 (opC (O6 op))=O6 op:=by cases op<;>rfl
       rw[e1];exact⟨qE1 f.hu (iE _ _ _ ea X f).1 (iE _ _ _ eb X f).1 (q9 hs),qEq f.hu (iE _ _ _ ea X f).1 (iE _ _ _ eb X f).1 (q9 hs)⟩
      ·cases h
     ·cases h
    ·rename_i o1 o2 b0 c0;split at h
     ·rename_i hs;split at h
      ·rename_i a' b' c' ea eb ec;cases h;rw[E3 o1,E3 o2];have e1:O6 (opC (O6 o1))=O6 o1:=by cases o1<;>rfl
       have e2:O6 (opC (O6 o2))=O6 o2:=by cases o2<;>rfl
       rw[e1,e2];exact⟨qAo f.hu (iE _ _ _ ea X f).1 (iE _ _ _ eb X f).1 (iE _ _ _ ec X f).1 (V8 hs),qAh f.hu (iE _ _ _ ea X f).1 (iE _ _ _ eb X f).1 (iE _ _ _ ec X f).1 (V8 hs)⟩
      ·cases h
     ·cases h
    ·cases h
   ·split at h
    ·split at h
     ·split at h
      ·rename_i hc;simp only[Bool.and_eq_true]at hc;have s1:=iC _ _ _ _ h hc.1.1 hc.1.2 hc.2 X f;exact⟨s1 _ _,qV (s1 _ _) λ_=>rfl⟩
      ·cases h
     ·split at h
      ·split at h
       ·rename_i hc;obtain⟨rfl,hc1,hc2,hc3⟩:=hc;split at h
        ·rename_i o' x' eo ex;cases h;have s1:=qEb (qBA hc1) hc3 hc2 (iE _ _ _ eo X f).1 (iE _ _ _ ex X f).1;exact⟨s1,qV s1 λ_=>rfl⟩
        ·cases h
       ·split at h
        ·rename_i hc;obtain⟨rfl,hc1,hc2,hc3⟩:=hc;split at h
         ·rename_i o' x' eo ex;cases h;have s1:=qAD (qBA hc1) hc3 hc2 (iE _ _ _ eo X f).1 (iE _ _ _ ex X f).1;exact⟨s1,qV s1 λ_=>rfl⟩
         ·cases h
        ·cases h
      ·cases h
     ·cases h
    ·cases h
   ·split at h
    ·split at h
     ·split at h
      ·rename_i a' l h' ea el eh;cases h;exact⟨qEo (iE _ _ _ ea X f).1 (iO _ _ _ el X f) (iO _ _ _ eh X f),qV (qEo (iE _ _ _ ea X f).1 (iO _ _ _ el X f) (iO _ _ _ eh X f)) λ_=>rfl⟩
      ·cases h
     ·cases h
    ·split at h
     ·rename_i hs;split at h
      ·rename_i a' b' ea eb;split at h
       ·cases h;have s1:=qDm (pos:=‹Pos›) f.hu hs (iE _ _ _ ea X f).1 (iE _ _ _ eb X f).1;exact⟨s1,qV s1 λ_=>rfl⟩
       ·cases h;have s1:=qEF (pos:=‹Pos›) hs (iE _ _ _ ea X f).1 (iE _ _ _ eb X f).1;exact⟨s1,qV s1 λ_=>rfl⟩
      ·cases h
     ·cases h
   ·split at h
    ·rename_i hs;obtain⟨a',ea,rfl⟩:=Option.map_eq_some_iff.mp h;have s1:=qDo (pos:=‹Pos›) (iA _ _ _ ea hs X f);exact⟨s1,qV s1 λ_=>rfl⟩
    ·cases h
   ·split at h
    ·rename_i hs;obtain⟨a',ea,rfl⟩:=Option.map_eq_some_iff.mp h;exact⟨qAw (iA _ _ _ ea hs X f),qV (qAw (iA _ _ _ ea hs X f)) λ_=>rfl⟩
    ·cases h
   ·split at h
    ·cases h;exact⟨d8,qV d8 λ_=>rfl⟩
    ·cases h
   ·split at h
    ·split at h;split at h
     ·dsimp only at h;split at h
      ·rename_i hc;simp only[Bool.and_eq_true]at hc;split at h
       ·rename_i it g c e' ei eg ec ee;cases h;have s1:=X6 (pos:=‹Pos›) f.calm (iI _ _ _ _ ei X f) (QJ f hc.1) (λC fp s H=>qAr (jI f hc.1 C fp s H) eg) (λC fp s H=>iIf _ _ _ ec _ (jI f hc.1 C fp s H)) (λC fp s H=>(iE _ _ _ ee _ (jI f hc.1 C fp s H)).1) (X0 hc.2);exact⟨s1,qV s1 λ_=>rfl⟩
       ·cases h
      ·cases h
     ·cases h
    ·cases h
   ·cases h
  ·intro Γ es as h hs X f;cases es with
   |nil=>simp only[trA]at h;cases h;exact qBV
   |cons e es=>
    simp only[trA]at h;simp only[List.all_cons,Bool.and_eq_true]at hs;split at h
    ·rename_i a as ea eas;cases h;exact V6 hs.1 (iE _ _ _ ea X f).1 (iA _ _ _ eas hs.2 X f)
    ·cases h
  ·intro Γ op p vs a h X f;cases vs with
   |nil=>simp only[trB]at h;cases h
   |cons e r=>
    cases r with
    |nil=>
     simp only[trB]at h;obtain⟨s1,s2⟩:=iE _ _ _ h X f;refine⟨L2.pe_one s1,?_⟩;cases op with
     |And=>exact L2.pw_and1 s2
     |Or=>exact L2.pw_or1 s2
    |cons b r=>
     simp only[trB]at h;split at h
     ·rename_i a' b' ea eb;cases h;obtain⟨s1,s2⟩:=iE _ _ _ ea X f;obtain⟨s3,s4⟩:=iB _ _ _ _ _ eb X f;cases op with
      |And=>exact⟨qDS s1 s3,qDY s2 s4⟩
      |Or=>exact⟨qGN s1 s3,qGQ s2 s4⟩
     ·cases h
  ·intro Γ g args a h ho hg hs X f p pos;obtain⟨o1,o2,o3⟩:=V3 ho;unfold trC at h;split at h
   ·rename_i i ei;obtain⟨as,ea,rfl⟩:=Option.map_eq_some_iff.mp h;have sA:=iA _ _ _ ea hs X f;cases args with
    |nil=>
     have:as=.nil:=by
      cases n with
      |zero=>simp only[trA]at ea;cases ea
      |succ m=>simp only[trA]at ea;cases ea;rfl
     subst this;exact qAs (f.fns i g (QM ei)) (f.gl' hg) o1
    |cons e es=>
     simp only[List.all_cons,Bool.and_eq_true]at hs;exact qCN (f.fns i g (QM ei)) (f.gl' hg) o1 hs.1 hs.2 sA
   ·split at h
    ·rename_i hb;split at h
     ·rename_i hi;subst hi;split at h
      ·rename_i e0 t pt;split at h
       ·rename_i hc;simp only[Bool.and_eq_true]at hc;obtain⟨t1,t2,t3⟩:=V3 hc.1.1;split at h
        ·rename_i a' t' ea et;cases h;obtain⟨b1,b2⟩:=qC0 et;simp only[List.all_cons,Bool.and_eq_true]at hs;exact qDy b2 (f.gl' hg) (f.blt _ hb) (f.gl' hc.1.2) (f.blt _ hc.2) b1 t3 t1 hs.1 (iE _ _ _ ea X f).1
        ·cases h
       ·cases h
      ·cases h
     ·split at h
      ·rename_i hl;obtain⟨rfl,_⟩:=hl;split at h
       ·rename_i r pr e0 pc;split at h
        ·rename_i hc;simp only[Bool.and_eq_true,ve]at hc;obtain⟨⟨⟨⟨c1,c2⟩,c3⟩,c4⟩,rfl⟩:=hc;obtain⟨a',ea,rfl⟩:=Option.map_eq_some_iff.mp h;exact qCz f.calm (f.gl' hg) (f.blt _ hb) (f.gl' c2) (f.blt _ c3) c4 (iE _ _ _ ea X f).1
        ·cases h
       ·cases h
      rename_i hneg;clear hneg;split at h
      ·rename_i hl;obtain⟨rfl,_⟩:=hl;split at h
       ·rename_i r pr e0 e1 pc;split at h
        ·rename_i hc;simp only[Bool.and_eq_true,ve]at hc;obtain⟨⟨⟨⟨⟨c1,c2⟩,c3⟩,c4⟩,rfl⟩,c5⟩:=hc;split at h
         ·rename_i a' b' ea eb;cases h;exact qCE f.calm (f.gl' hg) (f.blt _ hb) (f.gl' c2) (f.blt _ c3) c4 c5 (iE _ _ _ ea X f).1 (iE _ _ _ eb X f).1
         ·cases h
        ·cases h
       ·cases h
      rename_i hneg;clear hneg;split at h
      ·rename_i b e es eb;obtain⟨as,ea,rfl⟩:=Option.map_eq_some_iff.mp h;have sA:=iA _ _ _ ea hs X f;simp only[List.all_cons,Bool.and_eq_true]at hs;exact qDN f.calm f.hu f.gd (f.gl' hg) (f.blt _ hb) (qCF eb) hs.1 hs.2 sA o3 o1
      ·cases h
    ·cases h
  ·intro Γ o as h X f;cases o with
   |none=>simp only[trO]at h;cases h;exact qCr
   |some e=>
    simp only[trO]at h;obtain⟨a,ea,rfl⟩:=Option.map_eq_some_iff.mp h;exact qBr (iE _ _ _ ea X f).1
  ·intro Γ ifs as h X f;cases ifs with
   |nil=>simp only[qDC]at h;cases h;exact qEg
   |cons e r=>
    cases r with
    |nil=>
     simp only[qDC]at h;obtain⟨a,ea,rfl⟩:=Option.map_eq_some_iff.mp h;exact qEk (iE _ _ _ ea X f).2
    |cons b r=>simp only[qDC]at h;cases h
  ·intro Γ tg iter it h X f;unfold trI at h;split at h
   ·rename_i fn p args pos;split at h
    ·rename_i hf;subst hf;split at h
     ·rename_i hc;simp only[Bool.and_eq_true]at hc;split at h
      ·rename_i e;obtain⟨a,ea,rfl⟩:=Option.map_eq_some_iff.mp h;have hs:=hc.2;simp only[List.all_cons,Bool.and_eq_true]at hs;exact qCd (f.gl' hc.1.1) (f.blt _ hc.1.2) hs.1 (iE _ _ _ ea X f).1
      ·cases h
     ·cases h
    ·split at h
     ·rename_i hf;subst hf;split at h
      ·rename_i hc;simp only[Bool.and_eq_true]at hc;split at h
       ·split at h
        ·rename_i a' b' ea eb;cases h;have hs:=hc.2;simp only[List.all_cons,Bool.and_eq_true]at hs;exact qEN (f.gl' hc.1.1) (f.blt _ hc.1.2) hs.1 hs.2.1 (iE _ _ _ ea X f).1 (iE _ _ _ eb X f).1
        ·cases h
       ·cases h
      ·cases h
     ·split at h
      ·rename_i hf;subst hf;split at h
       ·rename_i hc;simp only[Bool.and_eq_true]at hc;split at h
        ·obtain⟨a,ea,rfl⟩:=Option.map_eq_some_iff.mp h;have hs:=hc.2;simp only[List.all_cons,Bool.and_eq_true]at hs;exact qCH (f.gl' hc.1.1) (f.blt _ hc.1.2) hs.1 (iE _ _ _ ea X f).1
        ·cases h
       ·cases h
      ·obtain⟨a,ea,rfl⟩:=Option.map_eq_some_iff.mp h;exact U8 (iE _ _ _ ea X f).1
   ·obtain⟨a,ea,rfl⟩:=Option.map_eq_some_iff.mp h;exact U8 (iE _ _ _ ea X f).1
end
open L2 (FnOk Fun zL Binds Room)
section
variable{G:List Addr}{F:Nat->List V->AH->RV}
theorem JP{Γ:Gam}{X:Cx}(f:Fit Γ X G F)(hx:∀x,Γ.own x=true){n:Nat}{elt:Expr}{gens:List Comprehension}{scope:Scope}{cpos p pos:Pos}{a:E}{x:Str}{g:Tg}(hd:qHV a=true)(h:trE n Γ (.ListComp elt gens scope cpos)=some a)
  (hg:trT Γ (.Name x ⟨0,0,0,0⟩)=some g):SS X G F (.Assign [.Name x p] (.ListComp elt gens scope cpos) pos) (.asg g a):=by
 cases n with
 |zero=>unfold trE at h;cases h
 |succ n=>
  unfold trT at hg;dsimp only at hg;split at hg
  ·rename_i hs;obtain⟨i,ei,rfl⟩:=Option.map_eq_some_iff.mp hg;obtain⟨h1,h2⟩:=f.store hs;obtain⟨iE,iA,iB,iC,iO,iIf,iI⟩:=L8 (G:=G) (F:=F) n;unfold trE at h;dsimp only at h;split at h
   ·split at h;split at h
    ·split at h
     ·rename_i hc;simp only[Bool.and_eq_true]at hc;split at h
      ·rename_i it g c e' ei' eg ec ee;cases h;exact qCR f.calm (iI _ _ _ _ ei' X f) (QJ f hc.1) (λC fp s H=>qAr (jI f hc.1 C fp s H) eg) (λC fp s H=>iIf _ _ _ ec _ (jI f hc.1 C fp s H)) (λC fp s H=>(iE _ _ _ ee _ (jI f hc.1 C fp s H)).1) (X0 hc.2) (by rw[f.hN];exact f.nd) (by rw[f.hN];exact QM ei) h1 h2
      ·cases h
     ·cases h
    ·cases h
   ·cases h
  ·cases hg
theorem c9(n:Nat):(∀ Γ st (X:Cx),Fit Γ X G F->(∀x,Γ.own x=true)->X.xe=(λ_ _=>False)->SS X G F st (trS n Γ st))/\(∀ Γ sts (X:Cx),Fit Γ X G F->(∀x,Γ.own x=true)->X.xe=(λ_ _=>False)->SSs X G F sts (v3 n Γ sts)):=by
 induction n with
 |zero=>
  refine⟨fun Γ st X f ho hx=>?_,fun Γ sts X f ho hx=>?_⟩
  ·unfold trS;exact qm
  ·unfold v3;intro pins s σ H D I q;obtain⟨φ,h,σa,o,h',R,rs,e,k⟩:=q;unfold exs ex at e;cases e
 |succ n ih=>
  obtain⟨i1,i2⟩:=ih;obtain⟨iE,iA,iB,iC,iO,iIf,iI⟩:=L8 (G:=G) (F:=F) 60;refine⟨fun Γ st X f ho hx=>?_,fun Γ sts X f ho hx=>?_⟩
  ·unfold trS;split
   ·split
    ·split
     ·rename_i v pos _ _ x p;split
      ·rename_i g a eg ea;split
       ·rename_i hd;by_cases hc:Qr v=true
        ·refine Ja (L2.ps_asg (iE _ _ _ ea X f).1 (qAr f (tg:=.Name x p) eg) (ZZ hc) (by cases v<;>rfl) rfl) λ_ _ _=>V7
        ·cases v with
         |ListComp elt gens scope cpos=>exact JP f ho hd ea eg
         |SetComp elt gens scope cpos=>unfold trE at ea;cases ea
         |DictComp k elt gens scope cpos=>unfold trE at ea;cases ea
         |_=>exact absurd rfl hc
       ·exact qm
      ·exact qm
     ·split
      ·rename_i hc;simp only[Bool.and_eq_true]at hc;split
       ·rename_i o' i' v' eo ei ev;exact qEU f.hu (iE _ _ _ eo X f).1 (iE _ _ _ ei X f).1 (iE _ _ _ ev X f).1 hc.1 hc.2
       ·exact qm
      ·exact qm
     ·exact qm
    ·exact qm
   ·split
    ·rename_i hc;split
     ·rename_i a ea;exact qBi (iE _ _ _ ea X f).1 hc
     ·exact qm
    ·exact qm
   ·split
    ·split
     ·rename_i a ea;exact qDp (iE _ _ _ ea X f).1
     ·exact qm
    ·exact qm
   ·split
    ·rename_i a ea;exact qEd (iE _ _ _ ea X f).2 (i2 _ _ X f ho hx) (i2 _ _ X f ho hx)
    ·exact qm
   ·split
    ·split
     ·rename_i hs;split
      ·rename_i it g ei eg;exact qD7 hx f.calm (iI _ _ _ _ ei X f) (qAr f eg) (i2 _ _ X f ho hx) (X0 hs)
      ·exact qm
     ·exact qm
    ·exact qm
   ·exact qm
  ·cases sts with
   |nil=>unfold v3;exact qCw
   |cons s r=>unfold v3;exact qAA (i1 _ _ X f ho hx) (i2 _ _ X f ho hx)
end
theorem len1{α:Type}{us:List α}(h:us.length=1):∃a,us=[a]:=List.length_eq_one_iff.mp h
theorem len2{α:Type}{us:List α}(h:us.length=2):∃a b,us=[a,b]:=by
 cases us with
 |nil=>cases h
 |cons a r=>obtain⟨b,rfl⟩:=len1 (us:=r) (by simpa using h);exact⟨a,b,rfl⟩
theorem len3{α:Type}{us:List α}(h:us.length=3):∃a b c,us=[a,b,c]:=by
 cases us with
 |nil=>cases h
 |cons a r=>obtain⟨b,c,rfl⟩:=len2 (us:=r) (by simpa using h);exact⟨a,b,c,rfl⟩
theorem len4{α:Type}{us:List α}(h:us.length=4):∃a b c d,us=[a,b,c,d]:=by
 cases us with
 |nil=>cases h
 |cons a r=>obtain⟨b,c,d,rfl⟩:=len3 (us:=r) (by simpa using h);exact⟨a,b,c,d,rfl⟩
structure K3 where
 x:Str
 st:Stmt
 ps:List Str
 N:List Str
structure Tbl where
 ds:List K3
 gl:List (Str×E)
 bl:List Str
 cls:List Str:=[]
 xr:List Str:=[]
noncomputable def Tbl.gam(T:Tbl)(d:K3):Gam:=⟨d.N,L2.defScope d.st,T.ds.map (·.x),T.gl,T.bl,λ_=>true,T.cls,T.xr.contains d.x⟩
noncomputable def Tbl.fn(T:Tbl)(d:K3):Fn:=⟨d.ps.length,d.N.length,v3 60 (T.gam d) (L2.defBody d.st)⟩
noncomputable def Tbl.fns(T:Tbl):List Fn:=T.ds.map T.fn
structure qAl(K:PySem.W.Frag)(mg:Str->Option Value)(G:List Addr)(T:Tbl)(fa:List Addr)(fd:List FuncData):Prop where
 def_:∀(i:Nat) d,T.ds[i]?=some d->∃a f,fa[i]?=some a/\fd[i]?=some f/\Fun K d.x d.x d.st a f/\zL d.N d.ps (L2.defScope d.st)/\mg d.x=some (.ref a)/\Binds K f d.ps []
 gls:∀x e,T.gl.lookup x=some e->(∃v u,e=.cst v/\mg x=some u/\RelV v u/\∀φ,rv φ v v)\/(∃g a,e=.glob g/\mg x=some (.ref a)/\G[g]?=some a)
 blt:∀x,T.bl.contains x=true->mg x=none
 gtu:∀a∈G,∃o,K.lookup a=some o/\o.cls=.type "tuple"/\o.dict=none
theorem V4{φ:List Addr}{ws vs:List V}(r:rvs φ ws vs)(n:Nat):rst φ (ws.map some++List.replicate n none) (vs.map some++List.replicate n none):=by
 refine qR ?_ ?_
 ·induction r with
  |nil=>exact .nil
  |cons h t ih=>exact .cons ⟨_,rfl,h⟩ ih
 ·induction n with
  |zero=>exact .nil
  |succ n ih=>exact .cons trivial ih
section
variable{P:Program}{w:World}{K:PySem.W.Frag}{mg:Str->Option Value}{base:Heap}{G:List Addr}{T:Tbl}{fa:List Addr}{fd:List FuncData}
theorem qDw{k i:Nat}{d:K3}(h1:T.ds[i]?=some d){ws:List V}{h h':AH}{v:V}(e:Fk T.fns (k+1) i ws h=.ok (v,h')):ws.length=d.ps.length/\d.ps.length<=d.N.length/\∃o,exs (Fk T.fns k) (v3 60 (T.gam d) (L2.defBody d.st)) (ws.map some++List.replicate (d.N.length-d.ps.length) none) h=.ok (o,h')/\
  ((∃σ,o=.nx σ/\v=.non)\/o=.rt v):=by
 unfold Fk at e;have ht:T.fns[i]?=some (T.fn d):=by unfold Tbl.fns;rw[wN,h1];rfl
 rw[ht]at e;dsimp only at e;split at e
 ·rename_i hc;obtain⟨⟨o,h2⟩,e2,e⟩:=Res.bind_inv e;have e4:exs (Fk T.fns k) (v3 60 (T.gam d) (L2.defBody d.st)) (ws.map some++List.replicate (d.N.length-d.ps.length) none) h=.ok (o,h2):=e2;refine⟨hc.1,hc.2,o,?_,?_⟩
  ·cases o<;>cases e<;>exact e4
  ·cases o with
   |nx σ=>cases e;exact .inl ⟨σ,rfl,rfl⟩
   |rt u=>cases e;exact .inr rfl
   |bk σ=>cases e
   |ct σ=>cases e
 ·cases e
theorem qEe(O:qAl K mg G T fa fd){k:Nat}{d:K3}(f0:∀(i:Nat) d a f,T.ds[i]?=some d->fa[i]?=some a->fd[i]?=some f->FnOk P w K mg base L2.CX0 k a f d.ps (spF G (Fk T.fns k) K i))
  (hS:zL d.N d.ps (L2.defScope d.st)) (CX:L2.CXT) (a:Addr) (cdv:Value) (A:Around) (outer:List Env) (s:Shared) (H:Hp) (E:L2.XK) (E2:Value->Shared->Prop) (hr:Room k (A.deeper (envOfC d.x (L2.defScope d.st) s.heap.objs.size a cdv))):
  Fit (T.gam d) ((L2.cxOf CX P w K mg base d.N d.x (L2.defScope d.st) a cdv A outer s H E).wish E2) G (Fk T.fns k):=by
 have get:∀(g:Nat) x,(T.gam d).fns[g]?=some x->∃d2 a2 f2,T.ds[g]?=some d2/\d2.x=x/\fa[g]?=some a2/\fd[g]?=some f2/\mg x=some (.ref a2)/\PySem.W.keepIn K (.ref a2)=true/\Binds K f2 d2.ps []:=λg x eg=>by
  have eg':(T.ds.map (·.x))[g]?=some x:=eg;rw[wN]at eg';cases hd:T.ds[g]? with
  |none=>rw[hd]at eg';cases eg'
  |some d2=>
   rw[hd]at eg';cases eg';obtain⟨a2,f2,q1,q2,q3,q4,q5,q6⟩:=O.def_ g d2 hd;exact⟨d2,a2,f2,rfl,rfl,q1,q2,q5,q3.kp,q6⟩
 refine⟨rfl,hS.nd,rfl,rfl,λ_ _=>rfl,λg x eg=>?_,O.gls,O.blt,?_,hr.gd,O.gtu⟩
 ·obtain⟨d2,a2,f2,q1,rfl,q2,q3,q4,q5,q6⟩:=get g x eg;exact⟨k,a2,f2,d2.ps,f0 g d2 a2 f2 q1 q2 q3,hr,q4,q5,q6⟩
 ·have:=hr.units;show (A.deeper (envOfC d.x (L2.defScope d.st) s.heap.objs.size a cdv)).units+8<cLine;omega
theorem O0(O:qAl K mg G T fa fd):∀(k:Nat) (i:Nat) d a f,T.ds[i]?=some d->fa[i]?=some a->fd[i]?=some f->FnOk P w K mg base L2.CX0 k a f d.ps (spF G (Fk T.fns k) K i)
 | 0=>λi d a f h1 h2 h3=>⟨(λvs H Q E h=>by obtain⟨_,_,_,_,_,_,_,e,_⟩:=h;unfold Fk at e;cases e),(λA outer s H args us vs Q E hr e0 hb r h=>by obtain⟨_,_,_,_,_,_,_,e,_⟩:=h;unfold Fk at e;cases e)⟩
 |k+1=>by
  have f0:=O0 O k;refine λi d a f h1 h2 h3=>?_;obtain⟨a',f',e1,e2,hF,hS,hm,hB⟩:=O.def_ i d h1;rw[h2]at e1;cases e1;rw[h3]at e2;cases e2;refine hF.ok hS (λvs H Q E h=>?_) (λcdv A outer s H vs Q E hr h=>?_)
  ·obtain⟨φ,h0,ws,v,h',R,r,e,_⟩:=h;rw[<-Paired.length r];exact(qDw h1 e).1
  ·obtain⟨φ,h0,ws,v,h',R,r,e,kk⟩:=h;obtain⟨l1,l2,o,eo,ho⟩:=qDw h1 e;have fit:=qEe O f0 hS L2.CX0 a cdv A outer s H E (λ_ _=>False) hr;refine⟨_,(c9 (G:=G) (F:=Fk T.fns k) 60).2 (T.gam d) (L2.defBody d.st) _ fit (λ_=>rfl) rfl,φ,h0,_,o,h',R,?_,eo,λφ' H' x' R'=>?_⟩
   ·unfold L2.start;rw[<-Paired.length r,l1];exact V4 r _
   ·rcases ho with⟨σ,rfl,rfl⟩|rfl
    ·exact λσc _=>kk φ' H' .non x' R' trivial
    ·exact λu ru=>kk φ' H' u x' R' ru
end
noncomputable def w9(K:PySem.W.Frag):L2.Sp:=λvs H Q _=>∃(a:Addr) (ns:List Int),vs=[.ref a]/\L2.Only H/\SqL K H a (ns.map V.int)/\ns.length<=63/\∀H',Q (.bl true) H'
noncomputable def Jp(gs:List O)(ns:List Int):AH:=gs++[.lst true (ns.map V.int)]
def J7(K:PySem.W.Frag):List Addr->List O->Prop
 | [],[]=>True
 |a::as,.tup xs::os=>(SqT K (λ_=>none) a xs/\xs.all flat=true)/\J7 K as os
 |_,_=>False
theorem JF{φ:List Addr}:∀{xs:List V},xs.all flat=true->rvs φ xs xs
 | [],_=>.nil
 |x::xs,h=>by
  simp only[List.all_cons,Bool.and_eq_true]at h;refine .cons ?_ (JF h.2);cases x<;>first|rfl|exact trivial|(cases h.1)
theorem qAd{K:PySem.W.Frag}{H:Hp}{a:Addr}{xs:List V}(q:SqT K (λ_=>none) a xs):SqT K H a xs:=by
 rcases q with(h|⟨o,h⟩)|h
 ·cases h
 ·cases h
 ·exact .inr h
theorem Zg{K:PySem.W.Frag}:∀{as:List Addr}{os:List O},J7 K as os->as.length=os.length/\∀(i:Nat) o a,os[i]?=some o->as[i]?=some a->∃xs,o=.tup xs/\SqT K (λ_=>none) a xs/\xs.all flat=true
 | [],[],_=>⟨rfl,λi o a h=>by simp at h⟩
 | [],_::_,h=>False.elim h
 |_::_,[],h=>False.elim h
 |a::as,.lst _ _::os,h=>False.elim h
 |a::as,.tup xs::os,h=>by
  obtain⟨h1,h2⟩:=h;obtain⟨l,k⟩:=Zg h2;refine⟨by simp[l],λi o b e1 e2=>?_⟩;cases i with
  |zero=>simp at e1 e2;subst e1 e2;exact⟨xs,rfl,h1⟩
  |succ i=>exact k i o b (by simpa using e1) (by simpa using e2)
theorem m5{P:Program}{w:World}{K:PySem.W.Frag}{mg:Str->Option Value}{base:Heap}{G:List Addr}{gs:List O}{T:Tbl}{fa:List Addr}{fd:List FuncData}(O:qAl K mg G T fa fd)(hG:J7 K G gs){k i:Nat}{d:K3}{a:Addr}{f:FuncData}
  (h1:T.ds[i]?=some d) (h2:fa[i]?=some a) (h3:fd[i]?=some f) (hp:d.ps=(["_law_script"]:List Str)) (main:∀ns:List Int,ns.length<=63->∃h',Fk T.fns k i [.ref gs.length] (Jp gs ns)=.ok (.bl true,h')):
  FnOk P w K mg base L2.CX0 k a f (["_law_script"]:List Str) (w9 K):=by
 have F:=O0 (P:=P) (w:=w) (base:=base) O k i d a f h1 h2 h3;rw[hp]at F;refine⟨λvs H Q E h=>by obtain⟨b,ns,rfl,_⟩:=h;rfl,λA outer s H args us vs Q E hr e0 hb r h=>?_⟩;obtain⟨b,ns,rfl,hO,hS,hl,q⟩:=h;obtain⟨h',e⟩:=main ns hl;obtain⟨lg,kg⟩:=Zg hG;refine F.run A outer s H args us _ Q E hr e0 hb r ⟨G++[b],Jp gs ns,[.ref gs.length],.bl true,h',⟨by unfold Jp;simp[lg],⟨[b],rfl⟩,λj o c e1 e2=>?_,λj l xs ys c e1 e2 e3 e4=>?_⟩,.cons (by show (G++[b])[gs.length]?=some b;rw[<-lg];simp) .nil,e,λφ' H' u x' R' ru=>by rw[zN ru];exact q H'⟩
 ·unfold Jp at e1;by_cases hj:j<gs.length
  ·rw[List.getElem?_append_left hj]at e1;rw[List.getElem?_append_left (by omega)]at e2;obtain⟨xs,rfl,h5,h6⟩:=kg j o c e1 e2;exact⟨xs,qAd h5,JF h6⟩
  ·have hj':j=gs.length:=by
    have:=(List.getElem?_eq_some_iff.mp e1).1;simp at this;omega
   subst hj';simp at e1;rw[<-lg]at e2;simp at e2;subst e1 e2;refine⟨ns.map V.int,?_,JF (X2 ns)⟩;rcases hS with(z|⟨ob,z⟩)|z
   ·rcases hO b with y|⟨ob,xs,y⟩<;>(rw[y]at z;cases z)
   ·exact .inl ⟨ob,z⟩
   ·exact .inr (.inr z)
 ·have no:∀{m:Nat}{z:PI.O},z.mu=true->(Jp gs ns)[m]?=some z->False:=λ{m zs} mz em=>by
   unfold Jp at em;by_cases hj:m<gs.length
   ·rw[List.getElem?_append_left hj]at em;obtain⟨xs,ex,_⟩:=kg m _ (G[m]'(by omega)) em (wA (by omega));subst ex;cases mz
   ·have hj':m=gs.length:=by
     have:=(List.getElem?_eq_some_iff.mp em).1;simp at this;omega
    subst hj';simp at em;subst em;cases mz
  exact(no ‹_› ‹_›).elim
open L2
abbrev qD6(K:PySem.W.Frag)(d:K3):Prop:=∃(f:Addr) (oc:Value) (od an:Option Addr) (sl:Array (Option Value)) (kV dc pm cd ct:Value),PySem.W.nsIn K mainGlobals d.x=some (some (.ref f))/\K.lookup f=some ⟨oc,od,.func (PySem.W.fnOf d.x d.x (zQ d.st) (defBody d.st) (defScope d.st) .none kV dc pm an cd ct),sl⟩/\PySem.W.codeIn K cd d.x=true/\PySem.W.keepIn K (.ref f)=true
structure qBu(d:K3):Prop where
 sc:zL d.N d.ps (defScope d.st)
 bd:∀(kV doc pm:Value) (an:Option Addr) (cdv ct:Value) (us:List Value),us.length=d.ps.length->bindArgs (PySem.W.fnOf d.x d.x (zQ d.st) (defBody d.st) (defScope d.st) .none kV doc pm an cdv ct) ⟨us,[]⟩=pure (d.ps.zip us)
theorem qBB{K:PySem.W.Frag}{h:Heap}{mg:Str->Option Value}(X:K.In h)(G:h.Ns mainGlobals mg):∀(ds:List K3),(∀d∈ds,qD6 K d)->(∀d∈ds,qBu d)->∃(fa:List Addr) (fd:List FuncData),∀(i:Nat) d,ds[i]?=some d->∃a f,fa[i]?=some a/\fd[i]?=some f/\Fun K d.x d.x d.st a f/\zL d.N d.ps (L2.defScope d.st)/\mg d.x=some (.ref a)/\Binds K f d.ps []
 | [],_,_=>⟨[],[],λi d h=>by simp at h⟩
 |d::ds,h,hk=>by
  obtain⟨fa,fd,k⟩:=qBB X G ds (λx hx=>h x (by simp[hx])) λx hx=>hk x (by simp[hx]);obtain⟨f,oc,od,an,sl,kV,dc,pm,cd,ct,h1,h2,h3,h4⟩:=h d (by simp);have hd:=hk d (by simp);refine⟨f::fa,PySem.W.fnOf d.x d.x (zQ d.st) (defBody d.st) (defScope d.st) .none kV dc pm an cd ct::fd,λi e he=>?_⟩;cases i with
  |zero=>cases he;exact⟨_,_,rfl,rfl,qBd h2 h3 h4,hd.sc,PySem.W.mg_of X G h1,(qBd h2 h3 h4).binds hd.bd⟩
  |succ i=>exact k i e he
theorem qFh{K:PySem.W.Frag}{d:K3}{a:Addr}{f:FuncData}{x:Str}(F:Fun K d.x d.x d.st a f)(h:qBu d)(hp:d.ps=[x])(s:Shared)(v:Value):BindsTo s f ⟨[v],[]⟩ [(x,v)]:=by
 obtain⟨oc,od,kV,doc,pm,an,cdv,ct,osl,rfl,lk,hcd⟩:=F.ex;refine .of_eq ?_;rw[h.bd kV doc pm an cdv ct [v] (by rw[hp];rfl),hp];rfl
inductive T where
 |v (x:V)|cell (n:Nat)|fz (xs:List T)|lst (xs:List T)|tup (xs:List T)|ob (o:Ob)
noncomputable abbrev Mem:=List (List T)
noncomputable abbrev TS:=List (Option T)
set_option genInjectivity true in
inductive PR(α:Type)|ok(a:α)|exc(c:Nat)(M:Mem)|stuck
noncomputable def PR.bind{α β:Type}:PR α->(α->PR β)->PR β
 | .ok a,f=>f a
 | .exc c M,_=>.exc c M
 | .stuck,_=>.stuck
@[simp] theorem PR.bind_ok{α β:Type}(a:α)(f:α->PR β):(PR.ok a).bind f=f a:=Eq.trans rfl rfl
@[simp] theorem PR.bind_stuck{α β:Type}(f:α->PR β):(PR.stuck:PR α).bind f=.stuck:=Eq.trans rfl rfl
noncomputable def PR.nx{α:Type}:PR α->PR α
 | .ok a=>.ok a
 | .exc _ _=>.stuck
 | .stuck=>.stuck
@[simp] theorem PR.nx_ok{α:Type}(a:α):(PR.ok a).nx=.ok a:=Eq.trans rfl rfl
@[simp] theorem PR.nx_stuck{α:Type}:(PR.stuck:PR α).nx=.stuck:=Eq.trans rfl rfl
noncomputable def PR.ofO{α:Type}:Option α->PR α
 |some a=>.ok a
 |none=>.stuck
@[simp] theorem PR.ofO_some{α:Type}(a:α):PR.ofO (some a)=.ok a:=Eq.trans rfl rfl
mutual
noncomputable def T.lf:T->Bool
 | .v _=>true
 | .ob (.exn _)=>true
 | .tup ts=>T.lfs ts
 |_=>false
noncomputable def T.lfs:List T->Bool
 | []=>true
 |t::ts=>T.lf t&&T.lfs ts
end
mutual
noncomputable def T.und(n:Nat):T->Bool
 | .v _=>true
 | .ob _=>true
 | .cell k=>decide (k<n)
 | .fz ts=>T.unds n ts
 | .lst ts=>T.unds n ts
 | .tup ts=>T.unds n ts
noncomputable def T.unds(n:Nat):List T->Bool
 | []=>true
 |t::ts=>T.und n t&&T.unds n ts
end
mutual
noncomputable def T.beq:T->T->Bool
 | .v x,.v y=>decide (x=y)
 | .cell x,.cell y=>decide (x=y)
 | .fz x,.fz y=>T.beqs x y
 | .lst x,.lst y=>T.beqs x y
 | .tup x,.tup y=>T.beqs x y
 | .ob x,.ob y=>decide (x=y)
 |_,_=>false
noncomputable def T.beqs:List T->List T->Bool
 | [],[]=>true
 |x::xs,y::ys=>T.beq x y&&T.beqs xs ys
 |_,_=>false
end
noncomputable abbrev jf:=List (Nat×List T)
noncomputable def qT(d:jf)(M:Mem):Bool:=d.all λp=>match M[p.1]? with|some ts=>T.beqs ts p.2|none=>false
noncomputable def T.its(M:Mem):T->Option (List T)
 | .lst xs=>some xs | .tup xs=>some xs | .fz xs=>some xs | .cell n=>M[n]? | _=>none
noncomputable def T.lis(M:Mem):T->Option (List T)
 | .lst xs=>some xs | .fz xs=>some xs | .cell n=>M[n]? | _=>none
noncomputable def T.mu(M:Mem):T->Option (List T)
 | .lst xs=>some xs | .cell n=>M[n]? | _=>none
noncomputable def zC:List T->Option (List Int)
 | []=>some []
 | .v (.int i)::r=>(zC r).map (i::·)
 |_::_=>none
noncomputable def jZ:List T->Option (List Int)
 | []=>some []
 | .v (.int i)::r=>(jZ r).map (i::·)
 | .v (.bl b)::r=>(jZ r).map ((if b=true then 1 else 0)::·)
 |_=>none
noncomputable def zi:List T->Option (List Bool)
 | []=>some []
 | .v (.bl i)::r=>(zi r).map (i::·)
 |_::_=>none
noncomputable def zp:List T->Option (List V)
 | []=>some []
 | .v x::r=>(zp r).map (x::·)
 |_::_=>none
noncomputable def zM(f:T->T->Option Bool):List T->List T->Option (List Bool)
 | [],[]=>some []
 |x::xs,y::ys=>match f x y,zM f xs ys with
  |some b,some bs=>some (b::bs)
  |_,_=>none
 |_,_=>none
noncomputable def T.isV:T->Option V | .v x=>some x|_=>none
noncomputable def eqT(M:Mem):Nat->T->T->Option Bool
 | 0,s,t=>match s.isV,t.isV with|some x,some y=>eqF x y|_,_=>none
 |n+1,s,t=>match s.isV,t.isV with
  |some x,some y=>eqF x y
  |some _,none=>if (t.its M).isSome then some false else none
  |none,some _=>if (s.its M).isSome then some false else none
  |none,none=>match s.lis M,t.lis M with
   |some xs,some ys=>if xs.length=ys.length then (zM (eqT M n) xs ys).map λbs=>bs.all id else some false
   |some _,none=>if (t.its M).isSome then some false else none
   |none,some _=>if (s.its M).isSome then some false else none
   |none,none=>match s.its M,t.its M with
    |some xs,some ys=>if xs.length=ys.length then (zM (eqT M n) xs ys).map λbs=>bs.all id else (zM (eqT M n) (xs.take ys.length) (ys.take xs.length)).map λ_=>false
    |_,_=>none
noncomputable def JN(xs:List T)(lo hi:Option Int):List T:=(xs.drop (HT.sIx xs.length 0 lo)).take (HT.sIx xs.length xs.length hi-HT.sIx xs.length 0 lo)
noncomputable abbrev TB:=T×Bool
noncomputable def iT(i:Int):TB:=(.v (.int i),true)
noncomputable def bT(b:Bool):TB:=(.v (.bl b),true)
noncomputable def lT(xs:List T):TB:=(.lst xs,T.lfs xs)
noncomputable def qBF(x:T)(xs:List T)(lo hi:Option Int):Option TB:=match x with
 | .tup _=>if HT.sIx xs.length 0 lo=0/\HT.sIx xs.length xs.length hi=xs.length then none else some (.tup (JN xs lo hi),T.lfs (JN xs lo hi))
 |_=>some (lT (JN xs lo hi))
noncomputable def qt(M:Mem)(op:BOp)(x y:T):Option TB:=match x.isV,y.isV with
 |some (.int i),some (.int j)=>match op with
  | .add=>some (iT (i+j))
  | .sub=>some (iT (i-j))
  | .mul=>if QV i||QV j||(mid i&&mid j) then some (iT (i*j)) else none
  | .fdiv=>if 0<j/\(j<1073741824\/mid j=true) then some (iT (i / j)) else if j<0/\mid j=true then some (iT (i.fdiv j)) else none
  | .mod=>if 0<j then some (iT (i % j)) else if j<0 then some (iT (i.fmod j)) else none
  | .pow=>if 0<=j/\j<=1000/\i.natAbs<18446744073709551616 then some (iT (i ^ j.toNat)) else none
  | .band=>some (iT (PySem.Builtin.bitAnd i j))
 |none,some (.int k)=>match op with
  | .mul=>(x.mu M).bind λxs=>if 0<=k/\xs.length*k.toNat<=lim/\k<1000000 then some (lT (List.replicate k.toNat xs).flatten) else none
  |_=>none
 |none,none=>match op with
  | .add=>(match x,y with
   | .tup xs,.tup ys=>if xs≠[]/\xs.length+ys.length<=lim then some (.tup (xs++ys),T.lfs (xs++ys)) else none
   |x,y=>(x.mu M).bind λxs=>(y.mu M).bind λys=>if xs.length+ys.length<=lim then some (lT (xs++ys)) else none)
  |_=>none
 |_,_=>none
noncomputable def T.dct:T->Option (List (Int×V))
 | .ob (.dct kvs)=>some kvs
 |_=>none
noncomputable def inT(M:Mem)(x y:T):Option Bool:=match y.dct with
 |some kvs=>(match x with | .v (.int i)=>some (S5 kvs i)|_=>none)
 |none=>x.isV.bind λa=>(y.its M).bind λts=>(zp ts).map λxs=>xs.any λz=>L2.eqV z a
noncomputable def qg(M:Mem)(op:COp)(x y:T):Option Bool:=match op with
 | .eq=>eqT M 4 x y
 | .ne=>(eqT M 4 x y).map (!·)
 | .inn=>inT M x y
 | .notin=>(inT M x y).map (!·)
 | .is=>match y.isV with|some .non=>some (match x.isV with|some .non=>true|_=>false)|some (.bl d)=>(match x.isV with|some (.bl c)=>some (c==d)|_=>none)|_=>none
 | .isnot=>match y.isV with|some .non=>some (match x.isV with|some .non=>false|_=>true)|some (.bl d)=>(match x.isV with|some (.bl c)=>some (!(c==d))|_=>none)|_=>none
 | .lt=>match x.isV,y.isV with|some (.int i),some (.int j)=>some (decide (i<j))|_,_=>none
 | .le=>match x.isV,y.isV with|some (.int i),some (.int j)=>some (decide (i<=j))|_,_=>none
 | .gt=>match x.isV,y.isV with|some (.int i),some (.int j)=>some (decide (j<i))|_,_=>none
 | .ge=>match x.isV,y.isV with|some (.int i),some (.int j)=>some (decide (j<=i))|_,_=>none
noncomputable def P5(as:List T)(f:T->Option TB):Option TB:=match as with
 | [a]=>f a
 |_=>none
theorem zn{as:List T}{f:T->Option TB}{r:TB}(e:P5 as f=some r):∃a,as=[a]/\f a=some r:=by
 unfold P5 at e;split at e
 ·exact⟨_,rfl,e⟩
 ·cases e
noncomputable def twoT(as:List T)(f:Int->Int->Option TB):Option TB:=match as with
 | [a,b]=>(match a with
  | .v (.int i)=>(match b with | .v (.int j)=>f i j|_=>none)
  |_=>none)
 |_=>none
theorem twoT_inv{as:List T}{f:Int->Int->Option TB}{r:TB}(e:twoT as f=some r):∃i j,as=[.v (.int i),.v (.int j)]/\f i j=some r:=by
 unfold twoT at e;split at e
 ·split at e
  ·split at e
   ·exact⟨_,_,rfl,e⟩
   ·cases e
  ·cases e
 ·cases e
noncomputable def zw(f:T->Option PySem.PyData):List T->Option (List PySem.PyData)
 | []=>some []
 |x::r=>(f x).bind λd=>(zw f r).map λds=>d::ds
noncomputable def Qa(M:Mem):Nat->T->Option PySem.PyData
 | 0,t=>match t with | .v x=>qBG x|_=>none
 |n+1,t=>match t with
  | .v x=>qBG x
  | .tup ts=>(zw (Qa M n) ts).map .tuple
  | .lst ts=>(zw (Qa M n) ts).map .list
  | .fz ts=>(zw (Qa M n) ts).map .list
  | .cell k=>(M[k]?).bind λts=>(zw (Qa M n) ts).map .list
  | .ob (.dct [])=>some (.dict [])
  | .ob _=>none
noncomputable def qAC(M:Mem)(t:T):Option PySem.PyData:=Qa M 4 t
noncomputable def zr(M:Mem):BF->List T->Option TB
 | .len,as=>P5 as λa=>(a.its M).map λxs=>iT xs.length
 | .sum,as=>P5 as λa=>(a.lis M).bind λxs=>(jZ xs).map λis=>iT is.sum
 | .all,as=>P5 as λa=>(a.lis M).bind λxs=>(zi xs).map λbs=>bT (bs.all id)
 | .max,as=>twoT as λi j=>some (iT (if j>i then j else i))
 | .min,as=>twoT as λi j=>some (iT (if j<i then j else i))
 | .list,as=>P5 as λa=>(a.its M).map lT
 | .int,as=>P5 as λa=>(match a with | .v (.int i)=>some (iT i) | .v (.bl b)=>some (iT (if b then 1 else 0))|_=>none)
 | .bits,as=>P5 as λa=>(match a with | .v (.int i)=>some (iT ((PySem.Builtin.Int.intBits i:Nat):Int))|_=>none)
 | .repr,as=>P5 as λa=>((qAC M a).bind R6).map λv=>(.v v,true)
noncomputable def T.isC(n:Nat):T->Bool | .cell k=>decide (k=n)|_=>false
noncomputable def O3:Mt->Nat->List T->Mem->Option (TB×Mem)
 | .popAt,n,[.v (.int i)],M=>(M[n]?).bind λxs=>if xs.length<=lim then (ixN xs.length i).bind λk=>(xs[k]?).map λy=>((y,y.lf),M.set n (xs.eraseIdx k)) else none
 |_,_,_,_=>none
noncomputable def za(M:Mem):T->Option String
 | .v .non=>some "NoneType"
 | .v (.bl _)=>some "bool"
 | .v (.int _)=>some "int"
 | .v (.str _)=>some "str"
 | .v _=>none
 | .tup _=>some "tuple"
 | .cell n=>(M[n]?).map λ_=>"list"
 | .ob (.dct _)=>some "dict"
 | .ob _=>none
 |_=>some "list"
noncomputable def zS(M:Mem)(x y:T):Option TB:=match y with
 | .v (.int i)=>(x.its M).bind λxs=>(ixN xs.length i).bind λj=>(xs[j]?).map λt=>(t,t.lf)
 |_=>none
noncomputable def qE7(x y:T):Option TB:=match y with
 | .v (.int i)=>x.dct.bind λkvs=>(D3 kvs i).bind λv=>if flat v=true then some (.v v,true) else none
 |_=>none
noncomputable def qDx:List Nat->List T->TS->Option TS
 | [],[],σ=>some σ
 |i::is,x::xs,σ=>qDx is xs (σ.set i (some x))
 |_,_,_=>none
noncomputable def qy:Tg->T->TS->Option TS
 | .name i,t,σ=>some (σ.set i (some t))
 | .tup is,.tup ts,σ=>qDx is ts σ
 | .tup _,_,_=>none
noncomputable def zd(src:List (Option Nat))(σ:TS):TS:=src.map λo=>match o with|none=>none|some j=>(σ[j]?).join
noncomputable def qx(lo:Int)(n:Nat):List T:=(List.range n).map λ(i:Nat)=>.v (.int (lo+(i:Int)))
noncomputable def A5(M:Mem):T->Option (List T×jf)
 | .lst ts=>some (ts,[])
 | .fz ts=>some (ts,[])
 | .tup ts=>some (ts,[])
 | .cell n=>(M[n]?).map λts=>(ts,[(n,ts)])
 |_=>none
noncomputable def Zk(M:Mem):T->Option (List T×jf)
 | .lst ts=>some (ts,[])
 | .fz ts=>some (ts,[])
 | .cell n=>(M[n]?).map λts=>(ts,[(n,ts)])
 |_=>none
noncomputable def jz:Nat->List T->List T
 |_,[]=>[]
 |i,t::ts=>.tup [.v (.int (i:Int)),t]::jz (i+1) ts
noncomputable def qK(d:jf)(g:Tg)(c:TS->Mem->PR (Bool×Mem))(e:TS->Mem->PR (TB×Mem)):List T->List T->Bool->TS->Mem->PR (TB×Mem)
 | [],ys,f,_,M=>.ok ((.lst ys,f),M)
 |x::r,ys,f,σ,M=>match qy g x σ with
  |some σ1=>(c σ1 M).bind λ(b,M2)=>
   if b then (e σ1 M2).bind λ(y,M3)=>if ys.length<lim/\qT d M3=true then qK d g c e r (ys++[y.1]) (f&&y.2) σ1 M3 else .stuck
   else if qT d M2=true then qK d g c e r ys f σ1 M2 else .stuck
  |none=>.stuck
noncomputable def pB(r:PR (TB×Mem)):PR (Bool×Mem):=r.bind λ(x,M)=>match x.1 with | .v (.bl b)=>.ok (b,M)|_=>.stuck
section
variable (gl:List T)(P:Nat->List T->Mem->PR (TB×Mem))
mutual
noncomputable def pe:E->TS->Mem->PR (TB×Mem)
 | .var i=>λσ M=>match σ[i]? with|some (some t)=>.ok ((t,t.lf),M)|_=>.stuck
 | .cst v=>λ_ M=>if flat v then .ok ((.v v,true),M) else .stuck
 | .glob g=>λ_ M=>match gl[g]? with|some t=>.ok ((t,t.lf),M)|none=>.stuck
 | .bin op a b=>λσ M=>(pe a σ M).bind λ(x,M1)=>(pe b σ M1).bind λ(y,M2)=>(PR.ofO (qt M2 op x.1 y.1)).bind λr=>.ok (r,M2)
 | .neg a=>λσ M=>(pe a σ M).bind λ(x,M1)=>match x.1 with | .v (.int i)=>.ok (iT (-i),M1)|_=>.stuck
 | .cmp op a b=>λσ M=>(pe a σ M).bind λ(x,M1)=>(pe b σ M1).bind λ(y,M2)=>(PR.ofO (qg M2 op x.1 y.1)).bind λr=>.ok (bT r,M2)
 | .cmp2 o1 o2 a b c=>λσ M=>(pe a σ M).bind λ(x,M1)=>(pe b σ M1).bind λ(y,M2)=>(PR.ofO (qg M2 o1 x.1 y.1)).bind λr=>
  if r then (pe c σ M2).bind λ(z,M3)=>(PR.ofO (qg M3 o2 y.1 z.1)).bind λr=>.ok (bT r,M3) else .ok (bT false,M2)
 | .and a b=>λσ M=>(pB (pe a σ M)).bind λ(x,M1)=>if x then pe b σ M1 else .ok (bT false,M1)
 | .or a b=>λσ M=>(pB (pe a σ M)).bind λ(x,M1)=>if x then .ok (bT true,M1) else pe b σ M1
 | .not a=>λσ M=>(pB (pe a σ M)).bind λ(x,M1)=>.ok (bT (!x),M1)
 | .ite c a b=>λσ M=>(pB (pe c σ M)).bind λ(x,M1)=>if x then pe a σ M1 else pe b σ M1
 | .call f as=>λσ M=>(pes as σ M).bind λ(xs,M1)=>(P f (xs.map (·.1)) M1).nx
 | .blt f as=>λσ M=>(pes as σ M).bind λ(xs,M1)=>(PR.ofO (zr M1 f (xs.map (·.1)))).bind λr=>.ok (r,M1)
 | .isi a ts=>λσ M=>(pe a σ M).bind λ(x,M1)=>(PR.ofO (za M1 x.1)).bind λt=>.ok (bT (ts.any (zk t)),M1)
 | .idx a b=>λσ M=>(pe a σ M).bind λ(x,M1)=>(pe b σ M1).bind λ(y,M2)=>(PR.ofO (zS M2 x.1 y.1)).bind λr=>.ok (r,M2)
 | .sl a lo hi=>λσ M=>(pe a σ M).bind λ(x,M1)=>(pes lo σ M1).bind λ(l,M2)=>(pes hi σ M2).bind λ(u,M3)=>
  (PR.ofO (x.1.its M3)).bind λxs=>(PR.ofO (zC (l.map (·.1)))).bind λl=>(PR.ofO (zC (u.map (·.1)))).bind λu=>(PR.ofO (qBF x.1 xs l.head? u.head?)).bind λr=>.ok (r,M3)
 | .lst as=>λσ M=>(pes as σ M).bind λ(xs,M1)=>if xs.length<=lim then .ok ((.lst (xs.map (·.1)),xs.all (·.2)),M1) else .stuck
 | .tup as=>λσ M=>(pes as σ M).bind λ(xs,M1)=>if xs.length<=lim then .ok ((.tup (xs.map (·.1)),xs.all (·.2)),M1) else .stuck
 | .comp it src g c e=>λσ M=>(pei it σ M).bind λ(s,M1)=>qK s.2 g (pec c) (pe e) s.1 [] true (zd src σ) M1
 | .app a b=>λσ M=>(pe a σ M).bind λ(x,M1)=>match x.1 with
  | .cell n=>(pe b σ M1).bind λ(y,M2)=>match M2[n]? with
   |some xs=>if xs.length<lim then .ok ((.v .non,true),M2.set n (xs++[y.1])) else .stuck
   |none=>.stuck
  |_=>.stuck
 | .dix a b=>λσ M=>(pe a σ M).bind λ(x,M1)=>(pe b σ M1).bind λ(y,M2)=>(PR.ofO (qE7 x.1 y.1)).bind λr=>.ok (r,M2)
 | .dzip a b=>λσ M=>(pe a σ M).bind λ(x,M1)=>(pe b σ M1).bind λ(y,M2)=>(PR.ofO (x.1.lis M2)).bind λxs=>(PR.ofO (y.1.lis M2)).bind λys=>(PR.ofO (zC xs)).bind λis=>(PR.ofO (zp ys)).bind λvs=>
  if is.length<=lim/\vs.all flat=true then .ok ((.ob (.dct (zZ [] (is.zip vs))),true),M2) else .stuck
 | .lrng a=>λσ M=>(pe a σ M).bind λ(x,M1)=>match x.1 with | .v (.int j)=>if -1000000<=j/\j<=100000 then .ok ((.lst (qx 0 j.toNat),true),M1) else .stuck|_=>.stuck
 | .dnew=>λ_ M=>.ok ((.ob (.dct []),true),M)
 | .meth m a as=>λσ M=>(pe a σ M).bind λ(x,M1)=>match x.1 with
  | .cell n=>(pes as σ M1).bind λ(ys,M2)=>PR.ofO (O3 m n (ys.map (·.1)) M2)
  |_=>.stuck
noncomputable def pes:Es->TS->Mem->PR (List TB×Mem)
 | .nil=>λ_ M=>.ok ([],M)
 | .cons a as=>λσ M=>(pe a σ M).bind λ(x,M1)=>(pes as σ M1).bind λ(xs,M2)=>.ok (x::xs,M2)
noncomputable def pec:Es->TS->Mem->PR (Bool×Mem)
 | .nil=>λ_ M=>.ok (true,M)
 | .cons a _=>λσ M=>pB (pe a σ M)
noncomputable def pei:Itr->TS->Mem->PR ((List T×jf)×Mem)
 | .list a=>λσ M=>(pe a σ M).bind λ(x,M1)=>(PR.ofO (A5 M1 x.1)).bind λs=>.ok (s,M1)
 | .rng1 a=>λσ M=>(pe a σ M).bind λ(x,M1)=>match x.1 with | .v (.int j)=>if -1000000<=j/\j<=1000000 then .ok ((qx 0 j.toNat,[]),M1) else .stuck|_=>.stuck
 | .zip a b=>λσ M=>(pe a σ M).bind λ(x,M1)=>(pe b σ M1).bind λ(y,M2)=>(PR.ofO (Zk M2 x.1)).bind λs=>(PR.ofO (Zk M2 y.1)).bind λt=>
  .ok ((List.zipWith (λa b=>T.tup [a,b]) s.1 t.1,s.2++t.2),M2)
 | .enum a=>λσ M=>(pe a σ M).bind λ(x,M1)=>(PR.ofO (Zk M1 x.1)).bind λs=>.ok ((jz 0 s.1,s.2),M1)
end
inductive PO|nx(σ:TS)|rt(t:TB)|bk(σ:TS)|ct(σ:TS)
noncomputable abbrev RSt:=PR (PO×Mem)
noncomputable def qk(d:jf)(g:Tg)(b:TS->Mem->RSt):List T->TS->Mem->RSt
 | [],σ,M=>.ok (.nx σ,M)
 |x::r,σ,M=>match qy g x σ with
  |some σ1=>(b σ1 M).bind λ(o,M2)=>match o with
   | .nx σ2=>if qT d M2=true then qk d g b r σ2 M2 else .stuck
   | .ct σ2=>if qT d M2=true then qk d g b r σ2 M2 else .stuck
   | .bk σ2=>.ok (.nx σ2,M2)
   | .rt t=>.ok (.rt t,M2)
  |none=>.stuck
mutual
noncomputable def thaw(n:Nat):T->T×Mem
 | .lst ts=>let r:=zh n ts;(.cell (n+r.2.length),r.2++[r.1])
 | .tup ts=>let r:=zh n ts;(.tup r.1,r.2)
 |t=>(t,[])
noncomputable def zh(n:Nat):List T->List T×Mem
 | []=>([],[])
 |t::ts=>let r:=thaw n t;let q:=zh (n+r.2.length) ts;(r.1::q.1,r.2++q.2)
end
noncomputable def qDb:E->Bool
 | .bin .add _ _=>true
 | .lst _=>true
 |_=>false
variable (C:List Nat)
mutual
noncomputable def px:S->TS->Mem->RSt
 | .asg g e=>λσ M=>(pe gl P e σ M).bind λ(x,M1)=>match g with
  | .name i=>if C.contains i&&x.2 then .ok (.nx (σ.set i (some (thaw M1.length x.1).1)),M1++(thaw M1.length x.1).2) else if C.contains (i+1000)&&qDb e then (match x.1 with | .lst ts=>.ok (.nx (σ.set i (some (.cell M1.length))),M1++[ts])|_=>.stuck) else .ok (.nx (σ.set i (some x.1)),M1)
  |g=>match qy g x.1 σ with|some σ1=>.ok (.nx σ1,M1)|none=>.stuck
 | .put o i v=>λσ M=>(pe gl P v σ M).bind λ(x,M1)=>(pe gl P o σ M1).bind λ(p,M2)=>(pe gl P i σ M2).bind λ(k,M3)=>match p.1,k.1 with
  | .cell n,.v (.int k)=>match M3[n]? with
   |some xs=>match ixN xs.length k with|some j=>.ok (.nx σ,M3.set n (xs.set j x.1))|none=>.stuck
   |none=>.stuck
  |_,_=>.stuck
 | .expr e=>λσ M=>(pe gl P e σ M).bind λ(_,M1)=>.ok (.nx σ,M1)
 | .ret e=>λσ M=>(pe gl P e σ M).bind λ(x,M1)=>.ok (.rt x,M1)
 | .ifs c t u=>λσ M=>(pB (pe gl P c σ M)).bind λ(x,M1)=>if x then pxs t σ M1 else pxs u σ M1
 | .for_ g it b=>λσ M=>(pei gl P it σ M).bind λ(s,M1)=>qk s.2 g (pxs b) s.1 σ M1
 | .stop=>λ_ _=>.stuck
noncomputable def pxs:Ss->TS->Mem->RSt
 | .nil=>λσ M=>.ok (.nx σ,M)
 | .cons s r=>λσ M=>(px s σ M).bind λ(o,M1)=>match o with
  | .nx σ1=>pxs r σ1 M1
  |o=>.ok (o,M1)
end
end
noncomputable def qE(M:Mem)(n0:Nat):Nat->T->Option T
 | 0,t=>if t.und n0 then some t else none
 |d+1,t=>if t.und n0 then some t else match t with
  | .lst ts=>(ts.mapM (qE M n0 d)).map .lst
  | .tup ts=>(ts.mapM (qE M n0 d)).map .tup
  | .cell n=>(M[n]?).bind λts=>(ts.mapM (qE M n0 d)).map .lst
  |_=>none
noncomputable def qz(M:Mem)(n0:Nat):Nat->T->Option (List Nat)
 | 0,t=>if t.lf then some [] else none
 |d+1,t=>if t.lf then some [] else match t with
  | .tup ts=>(ts.mapM (qz M n0 d)).map List.flatten
  | .cell n=>if n0<=n then (M[n]?).bind λts=>(ts.mapM (qz M n0 d)).map λl=>l.flatten++[n] else none
  |_=>none
noncomputable def frR(M:Mem)(n0:Nat)(t:T):Bool:=match qz M n0 6 t with|some l=>decide l.Nodup|none=>false
noncomputable def finish(n0:Nat)(x:TB)(M:Mem):PR (TB×Mem):=
 if M.length=n0 then .ok (x,M) else if (M.take n0).all (T.unds n0) then (PR.ofO (qE M n0 6 x.1)).bind λt=>.ok ((t,x.2||frR M n0 x.1),M.take n0) else .stuck
noncomputable def zY(n0:Nat):RSt->PR (TB×Mem)
 | .ok (.nx _,M1)=>finish n0 (.v .non,true) M1
 | .ok (.rt t,M1)=>finish n0 t M1
 | .ok (_,_)=>.stuck
 | .exc c M1=>if M1.length=n0 then .exc c M1 else if (M1.take n0).all (T.unds n0) then .exc c (M1.take n0) else .stuck
 | .stuck=>.stuck
noncomputable def Pk(gl:List T)(tb:List Fn)(Cs:List (List Nat)):Nat->Nat->List T->Mem->PR (TB×Mem)
 | 0,_,_,_=>.stuck
 |k+1,f,vs,M=>match tb[f]? with
  |some d=>if vs.length=d.npar/\d.npar<=d.nslot then zY M.length (pxs gl (Pk gl tb Cs k) (Cs.getD f []) d.body (vs.map some++List.replicate (d.nslot-d.npar) none) M)
   else .stuck
  |none=>.stuck
def All2{α β:Type}(R:α->β->Prop):List α->List β->Prop
 | [],vs=>vs=[]
 |t::ts,vs=>∃v vs',vs=v::vs'/\R t v/\All2 R ts vs'
section
variable{α β:Type}{R:α->β->Prop}
theorem qC:∀{xs:List α}{ys:List β},All2 R xs ys->xs.length=ys.length
 | [],_,h=>by cases h;rfl
 |x::xs,_,⟨v,vs,rfl,_,h⟩=>by simp[qC h]
theorem zD:∀{xs:List α}{ys:List β}{i:Nat}{x:α},All2 R xs ys->xs[i]?=some x->∃y,ys[i]?=some y/\R x y
 | [],_,i,x,h,e=>by simp at e
 |x::xs,_,0,x',⟨v,vs,rfl,r,h⟩,e=>⟨v,rfl,by simp at e;subst e;exact r⟩
 |x::xs,_,i+1,x',⟨v,vs,rfl,r,h⟩,e=>by
  obtain⟨y,e1,r1⟩:=zD (i:=i) h (by simpa using e);exact⟨y,by simpa using e1,r1⟩
theorem zU:∀{xs:List α}{ys:List β}{xs':List α}{ys':List β},All2 R xs ys->All2 R xs' ys'->All2 R (xs++xs') (ys++ys')
 | [],_,_,_,h,k=>by cases h;exact k
 |x::xs,_,_,_,⟨v,vs,rfl,r,h⟩,k=>⟨v,vs++_,rfl,r,zU h k⟩
theorem jA:∀(n:Nat){xs:List α}{ys:List β},All2 R xs ys->All2 R (xs.take n) (ys.take n)
 | 0,_,_,_=>by simp[All2]
 |n+1,[],_,h=>by cases h;simp[All2]
 |n+1,x::xs,_,⟨v,vs,rfl,r,h⟩=>⟨v,vs.take n,rfl,r,jA n h⟩
theorem Qz:∀(n:Nat){xs:List α}{ys:List β},All2 R xs ys->All2 R (xs.drop n) (ys.drop n)
 | 0,_,_,h=>h
 |n+1,[],_,h=>by cases h;simp[All2]
 |n+1,x::xs,_,⟨v,vs,rfl,r,h⟩=>Qz n h
theorem jL:∀{xs:List α}{ys:List β}(j:Nat){x:α}{y:β},All2 R xs ys->R x y->All2 R (xs.set j x) (ys.set j y)
 | [],_,j,_,_,h,r=>by cases h;simp[All2]
 |x::xs,_,0,_,_,⟨v,vs,rfl,r0,h⟩,r=>⟨_,vs,rfl,r,h⟩
 |x::xs,_,j+1,_,_,⟨v,vs,rfl,r0,h⟩,r=>⟨v,vs.set j _,rfl,r0,jL j h r⟩
theorem qAV(n:Nat){xs:List α}{ys:List β}(h:All2 R xs ys):All2 R (List.replicate n xs).flatten (List.replicate n ys).flatten:=by
 induction n with
 |zero=>simp[All2]
 |succ n ih=>simp only[List.replicate_succ,List.flatten_cons];exact zU h ih
theorem Js{S:α->β->Prop}(f:∀x y,R x y->S x y):∀{xs:List α}{ys:List β},All2 R xs ys->All2 S xs ys
 | [],_,h=>h
 |x::xs,_,⟨v,vs,rfl,r,h⟩=>⟨v,vs,rfl,f _ _ r,Js f h⟩
end
mutual
def Rep(A X:List Nat)(h:AH):T->V->Prop
 | .v x,w=>w=x/\flat x=true
 | .cell n,w=>∃a:Nat,A[n]?=some a/\w=.ref a
 | .fz ts,w=>∃a vs,w=.ref a/\a∉X/\h[a]?=some (.lst true vs)/\qP A X h ts vs
 | .lst ts,w=>∃a vs,w=.ref a/\a∉X/\h[a]?=some (.lst false vs)/\qP A X h ts vs
 | .tup ts,w=>∃a vs,w=.ref a/\a∉X/\h[a]?=some (.tup vs)/\qP A X h ts vs
 | .ob o,w=>∃a,w=.ref a/\a∉X/\h[a]?=some (.ob o)
def qP(A X:List Nat)(h:AH):List T->List V->Prop
 | [],vs=>vs=[]
 |t::ts,vs=>∃v vs',vs=v::vs'/\Rep A X h t v/\qP A X h ts vs'
end
theorem reps_iff{A X:List Nat}{h:AH}:∀{ts:List T}{vs:List V},qP A X h ts vs↔All2 (Rep A X h) ts vs
 | [],vs=>by unfold qP All2;rfl
 |t::ts,vs=>by
  unfold qP All2;constructor
  ·rintro⟨v,vs',e,r,k⟩;exact⟨v,vs',e,r,reps_iff.mp k⟩
  ·rintro⟨v,vs',e,r,k⟩;exact⟨v,vs',e,r,reps_iff.mpr k⟩
mutual
def FP(X:List Nat)(h:AH):T->V->List Nat->Prop
 | .v x,w,fp=>(w=x/\flat x=true)/\fp=[]
 | .lst ts,w,fp=>∃a vs f,w=.ref a/\a∉X/\h[a]?=some (.lst false vs)/\FPs X h ts vs f/\fp=f++[a]
 | .tup ts,w,fp=>∃a vs,w=.ref a/\a∉X/\h[a]?=some (.tup vs)/\FPs X h ts vs fp
 | .ob o,w,fp=>(∃a,w=.ref a/\a∉X/\h[a]?=some (.ob o))/\fp=[]
 | .fz _,_,_=>False
 | .cell _,_,_=>False
def FPs(X:List Nat)(h:AH):List T->List V->List Nat->Prop
 | [],vs,fp=>vs=[]/\fp=[]
 |t::ts,vs,fp=>∃v vs' f1 f2,vs=v::vs'/\FP X h t v f1/\FPs X h ts vs' f2/\fp=f1++f2
end
mutual
theorem zR{A X A' X':List Nat}{h h':AH}(hc:∀(n:Nat) a,A[n]?=some a->A'[n]?=some a)(hn:∀a o,a∉X->h[a]?=some o->a∉X'/\h'[a]?=some o):∀(t:T){w:V},Rep A X h t w->Rep A' X' h' t w
 | .v x,w,r=>by unfold Rep at r ⊢;exact r
 | .cell n,w,r=>by unfold Rep at r ⊢;obtain⟨a,e,q⟩:=r;exact⟨a,hc _ _ e,q⟩
 | .fz ts,w,r=>by unfold Rep at r ⊢;obtain⟨a,vs,e,q1,q2,q3⟩:=r;exact⟨a,vs,e,(hn _ _ q1 q2).1,(hn _ _ q1 q2).2,qQ hc hn ts q3⟩
 | .lst ts,w,r=>by unfold Rep at r ⊢;obtain⟨a,vs,e,q1,q2,q3⟩:=r;exact⟨a,vs,e,(hn _ _ q1 q2).1,(hn _ _ q1 q2).2,qQ hc hn ts q3⟩
 | .tup ts,w,r=>by unfold Rep at r ⊢;obtain⟨a,vs,e,q1,q2,q3⟩:=r;exact⟨a,vs,e,(hn _ _ q1 q2).1,(hn _ _ q1 q2).2,qQ hc hn ts q3⟩
 | .ob o,w,r=>by unfold Rep at r ⊢;obtain⟨a,e,q1,q2⟩:=r;exact⟨a,e,(hn _ _ q1 q2).1,(hn _ _ q1 q2).2⟩
theorem qQ{A X A' X':List Nat}{h h':AH}(hc:∀(n:Nat) a,A[n]?=some a->A'[n]?=some a)(hn:∀a o,a∉X->h[a]?=some o->a∉X'/\h'[a]?=some o):∀(ts:List T){ws:List V},qP A X h ts ws->qP A' X' h' ts ws
 | [],w,r=>by unfold qP at r ⊢;exact r
 |t::ts,w,r=>by unfold qP at r ⊢;obtain⟨v,vs,e,q1,q2⟩:=r;exact⟨v,vs,e,zR hc hn t q1,qQ hc hn ts q2⟩
end
mutual
theorem Zj{X X':List Nat}{h h':AH}(hn:∀a o,a∉X->h[a]?=some o->a∉X'/\h'[a]?=some o):∀(t:T){w:V}{fp:List Nat},FP X h t w fp->FP X' h' t w fp
 | .v x,w,_,r=>by unfold FP at r ⊢;exact r
 | .cell n,w,_,r=>by unfold FP at r;exact r.elim
 | .fz ts,w,_,r=>by unfold FP at r;exact r.elim
 | .lst ts,w,_,r=>by unfold FP at r ⊢;obtain⟨a,vs,f,e,q1,q2,q3,q4⟩:=r;exact⟨a,vs,f,e,(hn _ _ q1 q2).1,(hn _ _ q1 q2).2,zj hn ts q3,q4⟩
 | .tup ts,w,_,r=>by unfold FP at r ⊢;obtain⟨a,vs,e,q1,q2,q3⟩:=r;exact⟨a,vs,e,(hn _ _ q1 q2).1,(hn _ _ q1 q2).2,zj hn ts q3⟩
 | .ob o,w,_,r=>by unfold FP at r ⊢;obtain⟨⟨a,e,q1,q2⟩,q3⟩:=r;exact⟨⟨a,e,(hn _ _ q1 q2).1,(hn _ _ q1 q2).2⟩,q3⟩
theorem zj{X X':List Nat}{h h':AH}(hn:∀a o,a∉X->h[a]?=some o->a∉X'/\h'[a]?=some o):∀(ts:List T){ws:List V}{fp:List Nat},FPs X h ts ws fp->FPs X' h' ts ws fp
 | [],w,_,r=>by unfold FPs at r ⊢;exact r
 |t::ts,w,_,r=>by unfold FPs at r ⊢;obtain⟨v,vs,f1,f2,e,q1,q2,q3⟩:=r;exact⟨v,vs,f1,f2,e,Zj hn t q1,zj hn ts q2,q3⟩
end
mutual
theorem qEy{A X:List Nat}{h:AH}:∀(t:T){w:V}{fp:List Nat},FP X h t w fp->Rep A X h t w
 | .v x,w,_,r=>by unfold FP at r;unfold Rep;exact r.1
 | .cell n,w,_,r=>by unfold FP at r;exact r.elim
 | .fz ts,w,_,r=>by unfold FP at r;exact r.elim
 | .lst ts,w,_,r=>by unfold FP at r;unfold Rep;obtain⟨a,vs,f,e,q1,q2,q3,q4⟩:=r;exact⟨a,vs,e,q1,q2,A9 ts q3⟩
 | .tup ts,w,_,r=>by unfold FP at r;unfold Rep;obtain⟨a,vs,e,q1,q2,q3⟩:=r;exact⟨a,vs,e,q1,q2,A9 ts q3⟩
 | .ob o,w,_,r=>by unfold FP at r;unfold Rep;exact r.1
theorem A9{A X:List Nat}{h:AH}:∀(ts:List T){ws:List V}{fp:List Nat},FPs X h ts ws fp->qP A X h ts ws
 | [],w,_,r=>by unfold FPs at r;unfold qP;exact r.1
 |t::ts,w,_,r=>by unfold FPs at r;unfold qP;obtain⟨v,vs,f1,f2,e,q1,q2,q3⟩:=r;exact⟨v,vs,e,qEy t q1,A9 ts q2⟩
end
mutual
theorem qBC{X:List Nat}{h:AH}(n:Nat):∀(t:T){w:V}{fp:List Nat},FP X h t w fp->t.und n=true
 | .v x,w,_,r=>rfl
 | .cell n,w,_,r=>by unfold FP at r;exact r.elim
 | .fz ts,w,_,r=>by unfold FP at r;exact r.elim
 | .lst ts,w,_,r=>by unfold FP at r;obtain⟨a,vs,f,e,q1,q2,q3,q4⟩:=r;exact F1 n ts q3
 | .tup ts,w,_,r=>by unfold FP at r;obtain⟨a,vs,e,q1,q2,q3⟩:=r;exact F1 n ts q3
 | .ob o,w,_,r=>rfl
theorem F1{X:List Nat}{h:AH}(n:Nat):∀(ts:List T){ws:List V}{fp:List Nat},FPs X h ts ws fp->T.unds n ts=true
 | [],w,_,r=>rfl
 |t::ts,w,_,r=>by unfold FPs at r;obtain⟨v,vs,f1,f2,e,q1,q2,q3⟩:=r;unfold T.unds;rw[qBC n t q1,F1 n ts q2];rfl
end
mutual
theorem K1{X:List Nat}{h:AH}:∀(t:T){w:V}{fp:List Nat},FP X h t w fp->∀a∈fp,a∉X/\∃vs,h[a]?=some (.lst false vs)
 | .v x,w,_,r=>by unfold FP at r;obtain⟨_,rfl⟩:=r;intro a ha;simp at ha
 | .cell n,w,_,r=>by unfold FP at r;exact r.elim
 | .fz ts,w,_,r=>by unfold FP at r;exact r.elim
 | .lst ts,w,_,r=>by
  unfold FP at r;obtain⟨a,vs,f,e,q1,q2,q3,rfl⟩:=r;intro b hb;rcases wE.mp hb with hb|hb
  ·exact QD ts q3 b hb
  ·simp at hb;subst hb;exact⟨q1,vs,q2⟩
 | .tup ts,w,_,r=>by unfold FP at r;obtain⟨a,vs,e,q1,q2,q3⟩:=r;exact QD ts q3
 | .ob o,w,_,r=>by unfold FP at r;obtain⟨_,rfl⟩:=r;intro a ha;simp at ha
theorem QD{X:List Nat}{h:AH}:∀(ts:List T){ws:List V}{fp:List Nat},FPs X h ts ws fp->∀a∈fp,a∉X/\∃vs,h[a]?=some (.lst false vs)
 | [],w,_,r=>by unfold FPs at r;obtain⟨_,rfl⟩:=r;intro a ha;simp at ha
 |t::ts,w,_,r=>by
  unfold FPs at r;obtain⟨v,vs,f1,f2,e,q1,q2,rfl⟩:=r;intro b hb;rcases wE.mp hb with hb|hb
  ·exact K1 t q1 b hb
  ·exact QD ts q2 b hb
end
mutual
theorem qCv{A X:List Nat}{h:AH}:∀(t:T){w:V},Rep A X h t w->t.lf=true->FP X h t w []
 | .v x,w,r,l=>by unfold Rep at r;unfold FP;exact⟨r,rfl⟩
 | .cell n,w,r,l=>by unfold T.lf at l;cases l
 | .fz ts,w,r,l=>by unfold T.lf at l;cases l
 | .lst ts,w,r,l=>by unfold T.lf at l;cases l
 | .tup ts,w,r,l=>by unfold Rep at r;unfold FP;obtain⟨a,vs,e,q1,q2,q3⟩:=r;exact⟨a,vs,e,q1,q2,Y7 ts q3 (by unfold T.lf at l;exact l)⟩
 | .ob o,w,r,l=>by unfold Rep at r;unfold FP;exact⟨r,rfl⟩
theorem Y7{A X:List Nat}{h:AH}:∀(ts:List T){ws:List V},qP A X h ts ws->T.lfs ts=true->FPs X h ts ws []
 | [],w,r,l=>by unfold qP at r;unfold FPs;exact⟨r,rfl⟩
 |t::ts,w,r,l=>by
  unfold qP at r;unfold FPs;obtain⟨v,vs,e,q1,q2⟩:=r;unfold T.lfs at l;simp only[Bool.and_eq_true]at l;exact⟨v,vs,[],[],e,qCv t q1 l.1,Y7 ts q2 l.2,rfl⟩
end
mutual
theorem W8{A X A1 X1:List Nat}{h:AH}{n0:Nat}(hc:∀n,n<n0->A1[n]?=A[n]?)(hX:∀a∈X,a∈X1):∀(t:T){w:V},Rep A1 X1 h t w->t.und n0=true->Rep A X h t w
 | .v x,w,r,u=>by unfold Rep at r ⊢;exact r
 | .cell n,w,r,u=>by
  unfold Rep at r ⊢;obtain⟨a,e,q⟩:=r;unfold T.und at u;exact⟨a,(hc n (by simpa using u)).symm.trans e,q⟩
 | .fz ts,w,r,u=>by unfold Rep at r ⊢;obtain⟨a,vs,e,q1,q2,q3⟩:=r;exact⟨a,vs,e,λz=>q1 (hX _ z),q2,jr hc hX ts q3 (by unfold T.und at u;exact u)⟩
 | .lst ts,w,r,u=>by unfold Rep at r ⊢;obtain⟨a,vs,e,q1,q2,q3⟩:=r;exact⟨a,vs,e,λz=>q1 (hX _ z),q2,jr hc hX ts q3 (by unfold T.und at u;exact u)⟩
 | .tup ts,w,r,u=>by unfold Rep at r ⊢;obtain⟨a,vs,e,q1,q2,q3⟩:=r;exact⟨a,vs,e,λz=>q1 (hX _ z),q2,jr hc hX ts q3 (by unfold T.und at u;exact u)⟩
 | .ob o,w,r,u=>by unfold Rep at r ⊢;obtain⟨a,e,q1,q2⟩:=r;exact⟨a,e,λz=>q1 (hX _ z),q2⟩
theorem jr{A X A1 X1:List Nat}{h:AH}{n0:Nat}(hc:∀n,n<n0->A1[n]?=A[n]?)(hX:∀a∈X,a∈X1):∀(ts:List T){ws:List V},qP A1 X1 h ts ws->T.unds n0 ts=true->qP A X h ts ws
 | [],w,r,u=>by unfold qP at r ⊢;exact r
 |t::ts,w,r,u=>by
  unfold qP at r ⊢;obtain⟨v,vs,e,q1,q2⟩:=r;unfold T.unds at u;simp only[Bool.and_eq_true]at u;exact⟨v,vs,e,W8 hc hX t q1 u.1,jr hc hX ts q2 u.2⟩
end
theorem jM{x:V}{a:Nat}(h:flat x=true)(e:V.ref a=x):False:=by subst e;cases h
mutual
theorem u5{A X:List Nat}{h:AH}(nd:A.Nodup)(hs:∀a∈A,a∈X):∀(s t:T){w:V},Rep A X h s w->Rep A X h t w->s=t
 | .v x,t,w,r,q=>by
  unfold Rep at r;obtain⟨rfl,f⟩:=r;cases t with
  |v y=>unfold Rep at q;obtain⟨rfl,_⟩:=q;rfl
  |cell n=>unfold Rep at q;obtain⟨a,_,e⟩:=q;subst e;cases f
  |fz ts=>unfold Rep at q;obtain⟨a,vs,e,_⟩:=q;subst e;cases f
  |lst ts=>unfold Rep at q;obtain⟨a,vs,e,_⟩:=q;subst e;cases f
  |tup ts=>unfold Rep at q;obtain⟨a,vs,e,_⟩:=q;subst e;cases f
  |ob o=>unfold Rep at q;obtain⟨a,e,_⟩:=q;subst e;cases f
 | .cell n,t,w,r,q=>by
  unfold Rep at r;obtain⟨a,ea,rfl⟩:=r;have am:a∈X:=hs _ (List.mem_of_getElem? ea);cases t with
  |v y=>unfold Rep at q;obtain⟨e,f⟩:=q;exact(jM f e).elim
  |cell m=>
   unfold Rep at q;obtain⟨b,eb,e⟩:=q;cases e;have:n=m:=(List.getElem?_inj (by exact(List.getElem?_eq_some_iff.mp ea).1) nd).mp (ea.trans eb.symm);rw[this]
  |fz ts=>unfold Rep at q;obtain⟨b,vs,e,k,_⟩:=q;cases e;exact(k am).elim
  |lst ts=>unfold Rep at q;obtain⟨b,vs,e,k,_⟩:=q;cases e;exact(k am).elim
  |tup ts=>unfold Rep at q;obtain⟨b,vs,e,k,_⟩:=q;cases e;exact(k am).elim
  |ob o=>unfold Rep at q;obtain⟨b,e,k,_⟩:=q;cases e;exact(k am).elim
 | .fz ss,t,w,r,q=>by
  unfold Rep at r;obtain⟨a,vs,rfl,k1,k2,k3⟩:=r;cases t with
  |v y=>unfold Rep at q;obtain⟨e,f⟩:=q;exact(jM f e).elim
  |cell m=>unfold Rep at q;obtain⟨b,eb,e⟩:=q;cases e;exact(k1 (hs _ (List.mem_of_getElem? eb))).elim
  |fz ts=>unfold Rep at q;obtain⟨b,vs',e,z1,z2,z3⟩:=q;cases e;rw[k2]at z2;cases z2;rw[QY nd hs ss ts k3 z3]
  |lst ts=>unfold Rep at q;obtain⟨b,vs',e,z1,z2,z3⟩:=q;cases e;rw[k2]at z2;cases z2
  |tup ts=>unfold Rep at q;obtain⟨b,vs',e,z1,z2,z3⟩:=q;cases e;rw[k2]at z2;cases z2
  |ob o=>unfold Rep at q;obtain⟨b,e,z1,z2⟩:=q;cases e;rw[k2]at z2;cases z2
 | .lst ss,t,w,r,q=>by
  unfold Rep at r;obtain⟨a,vs,rfl,k1,k2,k3⟩:=r;cases t with
  |v y=>unfold Rep at q;obtain⟨e,f⟩:=q;exact(jM f e).elim
  |cell m=>unfold Rep at q;obtain⟨b,eb,e⟩:=q;cases e;exact(k1 (hs _ (List.mem_of_getElem? eb))).elim
  |lst ts=>unfold Rep at q;obtain⟨b,vs',e,z1,z2,z3⟩:=q;cases e;rw[k2]at z2;cases z2;rw[QY nd hs ss ts k3 z3]
  |fz ts=>unfold Rep at q;obtain⟨b,vs',e,z1,z2,z3⟩:=q;cases e;rw[k2]at z2;cases z2
  |tup ts=>unfold Rep at q;obtain⟨b,vs',e,z1,z2,z3⟩:=q;cases e;rw[k2]at z2;cases z2
  |ob o=>unfold Rep at q;obtain⟨b,e,z1,z2⟩:=q;cases e;rw[k2]at z2;cases z2
 | .tup ss,t,w,r,q=>by
  unfold Rep at r;obtain⟨a,vs,rfl,k1,k2,k3⟩:=r;cases t with
  |v y=>unfold Rep at q;obtain⟨e,f⟩:=q;exact(jM f e).elim
  |cell m=>unfold Rep at q;obtain⟨b,eb,e⟩:=q;cases e;exact(k1 (hs _ (List.mem_of_getElem? eb))).elim
  |tup ts=>unfold Rep at q;obtain⟨b,vs',e,z1,z2,z3⟩:=q;cases e;rw[k2]at z2;cases z2;rw[QY nd hs ss ts k3 z3]
  |fz ts=>unfold Rep at q;obtain⟨b,vs',e,z1,z2,z3⟩:=q;cases e;rw[k2]at z2;cases z2
  |lst ts=>unfold Rep at q;obtain⟨b,vs',e,z1,z2,z3⟩:=q;cases e;rw[k2]at z2;cases z2
  |ob o=>unfold Rep at q;obtain⟨b,e,z1,z2⟩:=q;cases e;rw[k2]at z2;cases z2
 | .ob o,t,w,r,q=>by
  unfold Rep at r;obtain⟨a,rfl,k1,k2⟩:=r;cases t with
  |v y=>unfold Rep at q;obtain⟨e,f⟩:=q;exact(jM f e).elim
  |cell m=>unfold Rep at q;obtain⟨b,eb,e⟩:=q;cases e;exact(k1 (hs _ (List.mem_of_getElem? eb))).elim
  |fz ts=>unfold Rep at q;obtain⟨b,vs',e,z1,z2,z3⟩:=q;cases e;rw[k2]at z2;cases z2
  |lst ts=>unfold Rep at q;obtain⟨b,vs',e,z1,z2,z3⟩:=q;cases e;rw[k2]at z2;cases z2
  |tup ts=>unfold Rep at q;obtain⟨b,vs',e,z1,z2,z3⟩:=q;cases e;rw[k2]at z2;cases z2
  |ob o'=>unfold Rep at q;obtain⟨b,e,z1,z2⟩:=q;cases e;rw[k2]at z2;cases z2;rfl
theorem QY{A X:List Nat}{h:AH}(nd:A.Nodup)(hs:∀a∈A,a∈X):∀(ss ts:List T){ws:List V},qP A X h ss ws->qP A X h ts ws->ss=ts
 | [],[],w,r,q=>rfl
 | [],t::ts,w,r,q=>by unfold qP at r q;obtain⟨v,vs,e,_⟩:=q;subst r;cases e
 |s::ss,[],w,r,q=>by unfold qP at r q;obtain⟨v,vs,e,_⟩:=r;subst q;cases e
 |s::ss,t::ts,w,r,q=>by
  unfold qP at r q;obtain⟨v,vs,rfl,k1,k2⟩:=r;obtain⟨v',vs',e,z1,z2⟩:=q;cases e;rw[u5 nd hs s t k1 z1,QY nd hs ss ts k2 z2]
end
mutual
theorem qEa:∀(s t:T),T.beq s t=true->s=t
 | .v x,.v y,h=>by unfold T.beq at h;simp at h;rw[h]
 | .cell x,.cell y,h=>by unfold T.beq at h;simp at h;rw[h]
 | .fz x,.fz y,h=>by unfold T.beq at h;rw[QG x y h]
 | .lst x,.lst y,h=>by unfold T.beq at h;rw[QG x y h]
 | .tup x,.tup y,h=>by unfold T.beq at h;rw[QG x y h]
 | .ob x,.ob y,h=>by unfold T.beq at h;simp at h;rw[h]
 | .ob _,.v _,h | .ob _,.cell _,h | .ob _,.fz _,h | .ob _,.lst _,h | .ob _,.tup _,h=>by simp[T.beq]at h
 | .v _,.ob _,h | .cell _,.ob _,h | .fz _,.ob _,h | .lst _,.ob _,h | .tup _,.ob _,h=>by simp[T.beq]at h
 | .v _,.cell _,h | .v _,.fz _,h | .v _,.lst _,h | .v _,.tup _,h=>by simp[T.beq]at h
 | .cell _,.v _,h | .cell _,.fz _,h | .cell _,.lst _,h | .cell _,.tup _,h=>by simp[T.beq]at h
 | .fz _,.v _,h | .fz _,.cell _,h | .fz _,.lst _,h | .fz _,.tup _,h=>by simp[T.beq]at h
 | .lst _,.v _,h | .lst _,.cell _,h | .lst _,.fz _,h | .lst _,.tup _,h=>by simp[T.beq]at h
 | .tup _,.v _,h | .tup _,.cell _,h | .tup _,.fz _,h | .tup _,.lst _,h=>by simp[T.beq]at h
theorem QG:∀(ss ts:List T),T.beqs ss ts=true->ss=ts
 | [],[],h=>rfl
 | [],_::_,h=>by simp[T.beqs]at h
 |_::_,[],h=>by simp[T.beqs]at h
 |s::ss,t::ts,h=>by unfold T.beqs at h;simp only[Bool.and_eq_true]at h;rw[qEa s t h.1,QG ss ts h.2]
end
def Frm(A:List Nat)(h h':AH):Prop:=h.length<=h'.length/\∀j,j<h.length->j∉A->h'[j]?=h[j]?
theorem Frm.refl(A:List Nat)(h:AH):Frm A h h:=⟨Nat.le_refl _,λ_ _ _=>rfl⟩
theorem Frm.trans{A:List Nat}{a b c:AH}(x:Frm A a b)(y:Frm A b c):Frm A a c:=⟨Nat.le_trans x.1 y.1,λj hj hA=>(y.2 j (wC hj x.1) hA).trans (x.2 j hj hA)⟩
theorem Frm.trans2{A B:List Nat}{a b c:AH}(x:Frm A a b)(hB:∀k∈B,a.length<=k)(y:Frm (A++B) b c):Frm A a c:=
 ⟨Nat.le_trans x.1 y.1,λj hj hA=>(y.2 j (wC hj x.1) (by rw[wE];rintro(z|z);exact hA z;have:=hB _ z;omega)).trans (x.2 j hj hA)⟩
theorem Frm.app(A:List Nat)(h e:AH):Frm A h (h++e):=⟨by simp,λj hj _=>by rw[List.getElem?_append_left hj]⟩
theorem Frm.set{A:List Nat}{h h':AH}(f:Frm A h h'){a:Nat}(ha:a∈A\/h.length<=a)(o:O):Frm A h (h'.set a o):=⟨by simpa using f.1,λj hj hA=>by
 rw[wJ (by rintro rfl;rcases ha with z|z;exact hA z;omega)];exact f.2 j hj hA⟩
theorem qO{h:AH}{a:Nat}{o:O}(e:h[a]?=some o):a<h.length:=(List.getElem?_eq_some_iff.mp e).1
structure RelM(gl:List T)(A X:List Nat)(h:AH)(M:Mem):Prop where
 len:A.length=M.length
 nd:A.Nodup
 sub:∀a∈A,a∈X
 lt:∀a∈X,a<h.length
 at_:∀(n:Nat) a,A[n]?=some a->∃ts vs,M[n]?=some ts/\h[a]?=some (.lst false vs)/\qP A X h ts vs
 glo:∀(g:Nat) t,gl[g]?=some t->Rep A X h t (.ref g)
section
variable{gl:List T}{A X:List Nat}{h h':AH}{M:Mem}
theorem RelM.keepN(R:RelM gl A X h M)(f:Frm A h h'):∀a o,a∉X->h[a]?=some o->a∉X/\h'[a]?=some o:=λa o hx e=>⟨hx,(f.2 a (qO e) λz=>hx (R.sub _ z)).trans e⟩
theorem RelM.keep(R:RelM gl A X h M)(f:Frm A h h'){t:T}{w:V}(r:Rep A X h t w):Rep A X h' t w:=zR (λ_ _ e=>e) (R.keepN f) t r
theorem RelM.keeps(R:RelM gl A X h M)(f:Frm A h h'){t:List T}{w:List V}(r:qP A X h t w):qP A X h' t w:=qQ (λ_ _ e=>e) (R.keepN f) t r
theorem RelM.up(R:RelM gl A X h M)(e:AH):RelM gl A X (h++e) M:=by
 have f:Frm A h (h++e):=Frm.app A h e;refine⟨R.len,R.nd,R.sub,λa ha=>wC (R.lt a ha) f.1,λn a ea=>?_,λg t eg=>R.keep f (R.glo g t eg)⟩;obtain⟨ts,vs,e1,e2,e3⟩:=R.at_ n a ea;exact⟨ts,vs,e1,by rw[List.getElem?_append_left (qO e2)];exact e2,R.keeps f e3⟩
theorem RelM.put(R:RelM gl A X h M){n a:Nat}(ea:A[n]?=some a){ts:List T}{vs:List V}(r:qP A X h ts vs):RelM gl A X (h.set a (.lst false vs)) (M.set n ts)/\Frm A h (h.set a (.lst false vs)):=by
 have am:a∈A:=List.mem_of_getElem? ea;have f:Frm A h (h.set a (.lst false vs)):=(Frm.refl A h).set (.inl am) _;have al:a<h.length:=R.lt a (R.sub a am);refine⟨⟨by simpa using R.len,R.nd,R.sub,λb hb=>by simpa using R.lt b hb,λm b eb=>?_,λg t eg=>R.keep f (R.glo g t eg)⟩,f⟩;by_cases hm:n=m
 ·subst hm;rw[ea]at eb;cases eb;have nl:n<M.length:=by rw[<-R.len];exact(List.getElem?_eq_some_iff.mp ea).1
  exact⟨ts,vs,by rw[wL nl],by rw[wL al],R.keeps f r⟩
 ·obtain⟨ts',vs',e1,e2,e3⟩:=R.at_ m b eb;have hab:a≠b:=by
   rintro rfl;exact hm ((List.getElem?_inj (List.getElem?_eq_some_iff.mp ea).1 R.nd).mp (ea.trans eb.symm))
  exact⟨ts',vs',by rw[wJ hm];exact e1,by rw[wJ hab];exact e2,R.keeps f e3⟩
end
def New(gl:List T)(A X:List Nat)(n:Nat)(h:AH)(M:Mem)(t:T)(w:V):Prop:=∀kvs,t=.ob (.dct kvs)->∃a,w=.ref a/\n<=a/\RelM gl A (X++[a]) h M
theorem New.of_lf{gl:List T}{A X:List Nat}{n:Nat}{h:AH}{M:Mem}{t:T}{w:V}(l:t.lf=true):New gl A X n h M t w:=λkvs e=>by subst e;cases l
theorem New.lst{gl:List T}{A X:List Nat}{n:Nat}{h:AH}{M:Mem}{ts:List T}{w:V}:New gl A X n h M (.lst ts) w:=λkvs e=>by cases e
theorem New.tup{gl:List T}{A X:List Nat}{n:Nat}{h:AH}{M:Mem}{ts:List T}{w:V}:New gl A X n h M (.tup ts) w:=λkvs e=>by cases e
def Frs(gl:List T)(A X:List Nat)(n:Nat)(h:AH)(M:Mem)(t:T)(w:V):Prop:=∃fp,FP X h t w fp/\fp.Nodup/\(∀a∈fp,n<=a)/\RelM gl A (X++fp) h M/\New gl A X n h M t w
def Frss(gl:List T)(A X:List Nat)(n:Nat)(h:AH)(M:Mem)(t:List T)(w:List V):Prop:=∃fp,FPs X h t w fp/\fp.Nodup/\(∀a∈fp,n<=a)/\RelM gl A (X++fp) h M
theorem Frs.of_lf{gl:List T}{A X:List Nat}{n:Nat}{h:AH}{M:Mem}{t:T}{w:V}(R:RelM gl A X h M)(r:Rep A X h t w)(l:t.lf=true):Frs gl A X n h M t w:=⟨[],qCv t r l,vE,λa ha=>by simp at ha,by rw[List.append_nil];exact R,New.of_lf l⟩
theorem Frss.of_lf{gl:List T}{A X:List Nat}{n:Nat}{h:AH}{M:Mem}{t:List T}{w:List V}(R:RelM gl A X h M)(r:qP A X h t w)(l:T.lfs t=true):Frss gl A X n h M t w:=⟨[],Y7 t r l,vE,λa ha=>by simp at ha,by rw[List.append_nil];exact R⟩
def Sim{α β:Type}(gl:List T)(A X:List Nat)(h:AH)(Q:α->β->AH->Mem->Prop):PR (α×Mem)->Res (β×AH)->Prop
 | .ok (x,M'),r=>∃y h',r=.ok (y,h')/\Frm A h h'/\RelM gl A X h' M'/\Q x y h' M'
 | .exc c M',r=>∃h',r=.exc c h'/\Frm A h h'/\RelM gl A X h' M'
 | .stuck,_=>True
theorem Sim.bind{α β α2 β2:Type}{gl:List T}{A X:List Nat}{h:AH}{Q:α->β->AH->Mem->Prop}{Q2:α2->β2->AH->Mem->Prop}{r:PR (α×Mem)}{rh:Res (β×AH)}{f:α×Mem->PR (α2×Mem)}{g:β×AH->Res (β2×AH)}
  (s:Sim gl A X h Q r rh) (k:∀x M' y h',Frm A h h'->RelM gl A X h' M'->Q x y h' M'->Sim gl A X h' Q2 (f (x,M')) (g (y,h'))):Sim gl A X h Q2 (r.bind f) (rh.bind g):=by
 cases r with
 |ok p=>
  obtain⟨x,M'⟩:=p;obtain⟨y,h',rfl,f1,R1,q⟩:=s;have:=k x M' y h' f1 R1 q;rw[PR.bind_ok,Res.bind_ok];revert this;generalize f (x,M')=r2;generalize g (y,h')=rh2;intro s2;cases r2 with
  |ok p2=>
   obtain⟨x2,M2⟩:=p2;obtain⟨y2,h2,e2,f2,R2,q2⟩:=s2;exact⟨y2,h2,e2,f1.trans f2,R2,q2⟩
  |exc c M2=>
   obtain⟨h2,e2,f2,R2⟩:=s2;exact⟨h2,e2,f1.trans f2,R2⟩
  |stuck=>trivial
 |exc c M'=>
  obtain⟨h',rfl,f1,R1⟩:=s;exact⟨h',rfl,f1,R1⟩
 |stuck=>trivial
theorem Sim.nx{α β:Type}{gl:List T}{A X:List Nat}{h:AH}{Q:α->β->AH->Mem->Prop}{r:PR (α×Mem)}{rh:Res (β×AH)}(s:Sim gl A X h Q r rh):Sim gl A X h Q r.nx rh.nx:=by
 cases r with
 |ok p=>obtain⟨x,M'⟩:=p;obtain⟨y,h',rfl,a,b,c⟩:=s;exact⟨y,h',rfl,a,b,c⟩
 |exc c M'=>trivial
 |stuck=>trivial
theorem Sim.stuck{α β:Type}{gl:List T}{A X:List Nat}{h:AH}{Q:α->β->AH->Mem->Prop}{r:Res (β×AH)}:Sim gl A X h Q (.stuck:PR (α×Mem)) r:=trivial
theorem Sim.ofO{α β α2:Type}{gl:List T}{A X:List Nat}{h:AH}{Q:α->β->AH->Mem->Prop}{o:Option α2}{f:α2->PR (α×Mem)}{r:Res (β×AH)}(k:∀x,o=some x->Sim gl A X h Q (f x) r):Sim gl A X h Q ((PR.ofO o).bind f) r:=by
 cases o with
 |none=>trivial
 |some x=>exact k x rfl
def QE(gl:List T)(A X:List Nat)(n:Nat):TB->V->AH->Mem->Prop:=λx w h M=>Rep A X h x.1 w/\(x.2=true->Frs gl A X n h M x.1 w)
def QEs(gl:List T)(A X:List Nat)(n:Nat):List TB->List V->AH->Mem->Prop:=λx w h M=>qP A X h (x.map (·.1)) w/\(x.all (·.2)=true->Frss gl A X n h M (x.map (·.1)) w)
theorem QE.le{gl:List T}{A X:List Nat}{n m:Nat}{x:TB}{w:V}{h:AH}{M:Mem}(q:QE gl A X n x w h M)(l:m<=n):QE gl A X m x w h M:=⟨q.1,λe=>by obtain⟨fp,a,b,c,d,nw⟩:=q.2 e;exact⟨fp,a,b,λz hz=>Nat.le_trans l (c z hz),d,λkvs e=>by obtain⟨z,q1,q2,q3⟩:=nw kvs e;exact⟨z,q1,Nat.le_trans l q2,q3⟩⟩⟩
theorem Sim.le{gl:List T}{A X:List Nat}{h:AH}{n m:Nat}{r:PR (TB×Mem)}{rh:RV}(s:Sim gl A X h (QE gl A X n) r rh)(l:m<=n):Sim gl A X h (QE gl A X m) r rh:=by
 cases r with
 |ok p=>obtain⟨y,h',e,f,R,q⟩:=s;exact⟨y,h',e,f,R,q.le l⟩
 |exc c M=>exact s
 |stuck=>trivial
theorem RelM.weak{gl:List T}{A X X':List Nat}{h:AH}{M:Mem}(R:RelM gl A X' h M)(hX:∀a∈X,a∈X')(hA:∀a∈A,a∈X):RelM gl A X h M:=by
 have hn:∀a o,a∉X'->h[a]?=some o->a∉X/\h[a]?=some o:=λa o x y=>⟨λz=>x (hX _ z),y⟩
 refine⟨R.len,R.nd,hA,λa ha=>R.lt a (hX a ha),λn a e=>?_,λg t e=>zR (λ_ _ e=>e) hn t (R.glo g t e)⟩;obtain⟨ts,vs,e1,e2,e3⟩:=R.at_ n a e;exact⟨ts,vs,e1,e2,qQ (λ_ _ e=>e) hn ts e3⟩
theorem RelM.addX{gl:List T}{A X X':List Nat}{h:AH}{M:Mem}(R:RelM gl A X h M){o:O}(h1:∀a,a∈X'↔a=h.length\/a∈X):RelM gl A X' (h++[o]) M:=by
 have hn:∀a o',a∉X->h[a]?=some o'->a∉X'/\(h++[o])[a]?=some o':=λa o' x y=>⟨by
  rw[h1];rintro(z|z)
  ·have:=qO y;omega
  ·exact x z,by rw[List.getElem?_append_left (qO y)];exact y⟩
 refine⟨R.len,R.nd,λa ha=>(h1 a).mpr (.inr (R.sub a ha)),λa ha=>?_,λn a e=>?_,λg t e=>zR (λ_ _ e=>e) hn t (R.glo g t e)⟩
 ·rcases(h1 a).mp ha with z|z
  ·simp[z]
  ·have:=R.lt a z;simp;omega
 ·obtain⟨ts,vs,e1,e2,e3⟩:=R.at_ n a e;exact⟨ts,vs,e1,by rw[List.getElem?_append_left (qO e2)];exact e2,qQ (λ_ _ e=>e) hn ts e3⟩
section
variable{gl:List T}{A X:List Nat}{h:AH}{M:Mem}
theorem L0(R:RelM gl A X h M){t:T}{w:V}{ts:List T}(r:Rep A X h t w)(e:t.its M=some ts):∃a vs,w=.ref a/\items h a=some vs/\qP A X h ts vs:=by
 cases t with
 |v x=>cases e
 |cell n=>
  unfold Rep at r;obtain⟨a,ea,rfl⟩:=r;obtain⟨ts',vs,e1,e2,e3⟩:=R.at_ n a ea;have:M[n]?=some ts:=e;rw[e1]at this;cases this;exact⟨a,vs,rfl,by unfold items;rw[e2],e3⟩
 |fz xs=>unfold Rep at r;obtain⟨a,vs,rfl,_,q,k⟩:=r;cases e;exact⟨a,vs,rfl,by unfold items;rw[q],k⟩
 |lst xs=>unfold Rep at r;obtain⟨a,vs,rfl,_,q,k⟩:=r;cases e;exact⟨a,vs,rfl,by unfold items;rw[q],k⟩
 |tup xs=>unfold Rep at r;obtain⟨a,vs,rfl,_,q,k⟩:=r;cases e;exact⟨a,vs,rfl,by unfold items;rw[q],k⟩
 |ob o=>cases e
theorem zv(R:RelM gl A X h M){t:T}{w:V}{ts:List T}(r:Rep A X h t w)(e:t.lis M=some ts):∃a vs f,w=.ref a/\h[a]?=some (.lst f vs)/\qP A X h ts vs:=by
 cases t with
 |v x=>cases e
 |cell n=>
  unfold Rep at r;obtain⟨a,ea,rfl⟩:=r;obtain⟨ts',vs,e1,e2,e3⟩:=R.at_ n a ea;have:M[n]?=some ts:=e;rw[e1]at this;cases this;exact⟨a,vs,false,rfl,e2,e3⟩
 |fz xs=>unfold Rep at r;obtain⟨a,vs,rfl,_,q,k⟩:=r;cases e;exact⟨a,vs,true,rfl,q,k⟩
 |lst xs=>unfold Rep at r;obtain⟨a,vs,rfl,_,q,k⟩:=r;cases e;exact⟨a,vs,false,rfl,q,k⟩
 |tup xs=>cases e
 |ob o=>cases e
theorem l7(R:RelM gl A X h M){t:T}{w:V}{ts:List T}(r:Rep A X h t w)(e:t.mu M=some ts):∃a vs,w=.ref a/\zB h a=some vs/\qP A X h ts vs:=by
 cases t with
 |v x=>cases e
 |cell n=>
  unfold Rep at r;obtain⟨a,ea,rfl⟩:=r;obtain⟨ts',vs,e1,e2,e3⟩:=R.at_ n a ea;have:M[n]?=some ts:=e;rw[e1]at this;cases this;exact⟨a,vs,rfl,by unfold zB;rw[e2],e3⟩
 |fz xs=>cases e
 |lst xs=>unfold Rep at r;obtain⟨a,vs,rfl,_,q,k⟩:=r;cases e;exact⟨a,vs,rfl,by unfold zB;rw[q],k⟩
 |tup xs=>cases e
 |ob o=>cases e
theorem qa{t:T}{x:V}(e:t.isV=some x):t=.v x:=by cases t<;>cases e;rfl
theorem jg{t:T}{w:V}(e:t.isV=none)(r:Rep A X h t w):∃a:Nat,w=.ref a:=by
 cases t with
 |v x=>cases e
 |cell n=>unfold Rep at r;obtain⟨a,_,e⟩:=r;exact⟨a,e⟩
 |fz xs=>unfold Rep at r;obtain⟨a,vs,e,_⟩:=r;exact⟨a,e⟩
 |lst xs=>unfold Rep at r;obtain⟨a,vs,e,_⟩:=r;exact⟨a,e⟩
 |tup xs=>unfold Rep at r;obtain⟨a,vs,e,_⟩:=r;exact⟨a,e⟩
 |ob o=>unfold Rep at r;obtain⟨a,e,_⟩:=r;exact⟨a,e⟩
theorem F3(R:RelM gl A X h M){ts:List T}{vs:List V}{n:Nat}{f:Bool}(r:qP A X h ts vs)(hn:n<=h.length)(hf:f=true->Frss gl A X n h M ts vs):Sim gl A X h (QE gl A X n) (.ok ((.lst ts,f),M)) (newL vs h):=by
 have fm:Frm A h (h++[O.lst false vs]):=Frm.app A h _;have hx:h.length∉X:=λz=>Nat.lt_irrefl _ (R.lt _ z);have ha:(h++[O.lst false vs])[h.length]?=some (.lst false vs):=by simp
 refine⟨.ref h.length,_,rfl,fm,R.up _,?_,λe=>?_⟩
 ·show Rep A X _ (.lst ts) _;unfold Rep;exact⟨_,vs,rfl,hx,ha,R.keeps fm r⟩
 ·obtain⟨fp,p,nd,l,R'⟩:=hf e;refine⟨fp++[h.length],?_,?_,?_,R'.addX λa=>by simp only[wE,wK];grind,New.lst⟩
  ·show FP X _ (.lst ts) _ _;unfold FP;exact⟨_,vs,fp,rfl,hx,ha,zj (R.keepN fm) ts p,rfl⟩
  ·rw[wZ];refine⟨nd,by simp,?_⟩;rintro a ha b hb rfl;obtain⟨_,vs',q⟩:=QD ts p a ha;simp at hb;have:=qO q;omega
  ·intro a ha;rcases wE.mp ha with z|z
   ·exact l a z
   ·simp at z;omega
theorem C3(R:RelM gl A X h M){ts:List T}{vs:List V}{n:Nat}{f:Bool}(r:qP A X h ts vs)(hf:f=true->Frss gl A X n h M ts vs):Sim gl A X h (QE gl A X n) (.ok ((.tup ts,f),M)) (newT vs h):=by
 have fm:Frm A h (h++[O.tup vs]):=Frm.app A h _;have hx:h.length∉X:=λz=>Nat.lt_irrefl _ (R.lt _ z);have ha:(h++[O.tup vs])[h.length]?=some (.tup vs):=by simp
 refine⟨.ref h.length,_,rfl,fm,R.up _,?_,λe=>?_⟩
 ·show Rep A X _ (.tup ts) _;unfold Rep;exact⟨_,vs,rfl,hx,ha,R.keeps fm r⟩
 ·obtain⟨fp,p,nd,l,R'⟩:=hf e;refine⟨fp,?_,nd,l,R'.up _,New.tup⟩;show FP X _ (.tup ts) _ _;unfold FP;exact⟨_,vs,rfl,hx,ha,zj (R.keepN fm) ts p⟩
theorem O1(R:RelM gl A X h M){ts:List T}{vs:List V}(r:qP A X h ts vs):Sim gl A X h (QE gl A X h.length) (.ok (lT ts,M)) (newL vs h):=
 F3 R r (Nat.le_refl _) λe=>Frss.of_lf R r e
theorem qI(R:RelM gl A X h M){x:V}(fx:flat x=true){n:Nat}:Sim gl A X h (QE gl A X n) (.ok ((.v x,true),M)) (.ok (x,h)):=
 have r:Rep A X h (.v x) x:=by unfold Rep;exact⟨rfl,fx⟩
 ⟨x,h,rfl,Frm.refl A h,R,r,λ_=>Frs.of_lf R r rfl⟩
theorem zK{x w:V}(r:Rep A X h (.v x) w):w=x:=by unfold Rep at r;exact r.1
theorem qBm(xs:List T):T.lf (.tup xs)=T.lfs xs:=by rw[T.lf]
theorem qCT(R:RelM gl A X h M){op:BOp}{s t:T}{x y:V}{r:TB}(e:qt M op s t=some r)(r1:Rep A X h s x)(r2:Rep A X h t y):Sim gl A X h (QE gl A X h.length) (.ok (r,M)) (qEB op x y h):=by
 unfold qt at e;split at e
 ·rename_i i j e1 e2;cases qa e1;cases qa e2;cases zK r1;cases zK r2;cases op with
  |add=>cases e;exact qI R rfl
  |sub=>cases e;exact qI R rfl
  |mul=>dsimp only at e;split at e<;>cases e;rename_i c;show Sim _ _ _ _ _ _ (if _ then _ else _);rw[if_pos c];exact qI R rfl
  |fdiv=>
   dsimp only at e;show Sim _ _ _ _ _ _ (if _ then _ else _);split at e
   ·rename_i c;cases e;rw[if_pos c];exact qI R rfl
   ·rename_i c;rw[if_neg c];split at e
    ·rename_i c;cases e;rw[if_pos c];exact qI R rfl
    ·cases e
  |mod=>
   dsimp only at e;show Sim _ _ _ _ _ _ (if _ then _ else _);split at e
   ·rename_i c;cases e;rw[if_pos c];exact qI R rfl
   ·rename_i c;rw[if_neg c];split at e
    ·rename_i c;cases e;rw[if_pos c];exact qI R rfl
    ·cases e
  |pow=>dsimp only at e;split at e<;>cases e;rename_i c;show Sim _ _ _ _ _ _ (if _ then _ else _);rw[if_pos c];exact qI R rfl
  |band=>cases e;exact qI R rfl
 ·rename_i k e1 e2;cases qa e2;cases zK r2;obtain⟨a,rfl⟩:=jg e1 r1;cases op<;>first|cases e|skip
  dsimp only at e;cases em:s.mu M with
  |none=>rw[em]at e;cases e
  |some xs=>
   rw[em]at e;dsimp only[Option.bind_some]at e;split at e<;>cases e;rename_i c;obtain⟨a',vs,ea,m,rs⟩:=l7 R r1 em;cases ea;have lv:vs.length=xs.length:=(qC (reps_iff.mp rs)).symm;show Sim _ _ _ _ _ _ (match zB h a with|some xs=>_|none=>_);rw[m];dsimp only;rw[if_pos (by rw[lv];exact c)];exact O1 R (reps_iff.mpr (qAV _ (reps_iff.mp rs)))
 ·rename_i e1 e2;obtain⟨a,rfl⟩:=jg e1 r1;obtain⟨b,rfl⟩:=jg e2 r2;cases op<;>first|cases e|skip
  dsimp only at e;split at e
  ·rename_i xs ys;split at e<;>cases e;rename_i c;unfold Rep at r1 r2;obtain⟨a1,vs,ea,n1,k1,q1⟩:=r1;cases ea;obtain⟨b1,us,eb,n2,k2,q2⟩:=r2;cases eb;have lv:vs.length=xs.length:=(qC (reps_iff.mp q1)).symm;have lu:us.length=ys.length:=(qC (reps_iff.mp q2)).symm;have m1:zB h a=none:=by unfold zB;rw[k1]
   have t1:qY h a=some vs:=by unfold qY;rw[k1]
   have t2:qY h b=some us:=by unfold qY;rw[k2]
   have q3:=reps_iff.mpr (zU (reps_iff.mp q1) (reps_iff.mp q2));show Sim _ _ _ _ _ _ (match zB h a,zB h b with|some xs,some ys=>_|_,_=>_);rw[m1];show Sim _ _ _ _ _ _ (match qY h a,qY h b with|some xs,some ys=>_|_,_=>_);rw[t1,t2];dsimp only;rw[if_pos ⟨λz=>c.1 (by subst z;exact List.length_eq_zero_iff.mp lv.symm),by rw[lv,lu];exact c.2⟩];split
   ·rename_i z;subst z;have y0:ys=[]:=List.length_eq_zero_iff.mp lu.symm;subst y0;have r:Rep A X h (.tup (xs++[])) (.ref a):=by
     rw[List.append_nil];unfold Rep;exact⟨a,vs,rfl,n1,k1,q1⟩
    exact⟨_,h,rfl,Frm.refl A h,R,r,λe=>Frs.of_lf R r (by rw[qBm];exact e)⟩
   ·exact C3 R q3 λe=>Frss.of_lf R q3 e
  cases em:s.mu M with
  |none=>rw[em]at e;cases e
  |some xs=>
   rw[em]at e;dsimp only[Option.bind_some]at e;cases en:t.mu M with
   |none=>rw[en]at e;cases e
   |some ys=>
    rw[en]at e;dsimp only[Option.bind_some]at e;split at e<;>cases e;rename_i c;obtain⟨a',vs,ea,m,rs⟩:=l7 R r1 em;cases ea;obtain⟨b',us,eb,m2,rs2⟩:=l7 R r2 en;cases eb;have lv:vs.length=xs.length:=(qC (reps_iff.mp rs)).symm;have lu:us.length=ys.length:=(qC (reps_iff.mp rs2)).symm;show Sim _ _ _ _ _ _ (match zB h a,zB h b with|some xs,some ys=>_|_,_=>_);rw[m,m2];dsimp only;rw[if_pos (by rw[lv,lu];exact c)];exact O1 R (reps_iff.mpr (zU (reps_iff.mp rs) (reps_iff.mp rs2)))
 ·cases e
theorem J9{x:V}{b:Bool}(e:eqF x x=some b):b=true:=by
 cases x with
 |int i=>cases e;exact vh i
 |bl i=>cases e;exact vh i
 |str i=>cases e;exact vh i
 |non=>cases e;rfl
 |_=>cases e
theorem jY{f:T->T->Option Bool}(hf:∀t b,f t t=some b->b=true):∀(ts:List T) bs,zM f ts ts=some bs->bs.all id=true
 | [],bs,e=>by cases e;rfl
 |t::ts,bs,e=>by
  unfold zM at e;split at e
  ·rename_i b bs' e1 e2;cases e;rw[List.all_cons,hf t b e1,jY hf ts bs' e2];rfl
  ·cases e
theorem Zm:∀(n:Nat) (t:T) (b:Bool),eqT M n t t=some b->b=true
 | 0,t,b,e=>by
  unfold eqT at e;split at e
  ·rename_i x y e1 e2;rw[e1]at e2;cases e2;exact J9 e
  ·cases e
 |n+1,t,b,e=>by
  unfold eqT at e;split at e
  ·rename_i x y e1 e2;rw[e1]at e2;cases e2;exact J9 e
  ·rename_i e1 e2;rw[e1]at e2;cases e2
  ·rename_i e1 e2;rw[e1]at e2;cases e2
  ·split at e
   ·rename_i xs ys e1 e2;rw[e1]at e2;cases e2;rw[if_pos rfl]at e;obtain⟨bs,eb,rfl⟩:=Option.map_eq_some_iff.mp e;exact jY (Zm n) xs bs eb
   ·rename_i e1 e2;rw[e1]at e2;cases e2
   ·rename_i e1 e2;rw[e1]at e2;cases e2
   ·split at e
    ·rename_i xs ys e1 e2;rw[e1]at e2;cases e2;rw[if_pos rfl]at e;obtain⟨bs,eb,rfl⟩:=Option.map_eq_some_iff.mp e;exact jY (Zm n) xs bs eb
    ·cases e
theorem QX{f:T->T->Option Bool}{g:V->V->Option Bool}(hf:∀s t x y b,Rep A X h s x->Rep A X h t y->f s t=some b->g x y=some b):∀{ss ts:List T}{xs ys:List V}{bs:List Bool},qP A X h ss xs->qP A X h ts ys->zM f ss ts=some bs->ZK g xs ys=some bs
 | [],[],xs,ys,bs,r1,r2,e=>by unfold qP at r1 r2;subst r1 r2;exact e
 | [],t::ts,xs,ys,bs,r1,r2,e=>by cases e
 |s::ss,[],xs,ys,bs,r1,r2,e=>by cases e
 |s::ss,t::ts,xs,ys,bs,r1,r2,e=>by
  unfold qP at r1 r2;obtain⟨x,xs',rfl,a1,a2⟩:=r1;obtain⟨y,ys',rfl,b1,b2⟩:=r2;unfold zM at e;split at e
  ·rename_i b bs' e1 e2;cases e;unfold ZK;rw[hf s t x y b a1 b1 e1,QX hf a2 b2 e2]
  ·cases e
theorem QB{x w:V}(r:Rep A X h (.v x) w):flat x=true:=by unfold Rep at r;exact r.2
theorem J8(R:RelM gl A X h M){t:T}{a:Nat}(r:Rep A X h t (.ref a))(hs:(t.its M).isSome=true):(items h a).isSome=true:=by
 cases t with
 |v x=>unfold Rep at r;exact(jM r.2 r.1).elim
 |cell n=>unfold Rep at r;obtain⟨b,eb,e⟩:=r;cases e;obtain⟨_,_,_,q,_⟩:=R.at_ n _ eb;unfold items;rw[q];rfl
 |fz xs=>unfold Rep at r;obtain⟨b,vs,e,_,q,_⟩:=r;cases e;unfold items;rw[q];rfl
 |lst xs=>unfold Rep at r;obtain⟨b,vs,e,_,q,_⟩:=r;cases e;unfold items;rw[q];rfl
 |tup xs=>unfold Rep at r;obtain⟨b,vs,e,_,q,_⟩:=r;cases e;unfold items;rw[q];rfl
 |ob o=>cases hs
theorem G7{t:T}{w:V}{ts:List T}(r:Rep A X h t w)(e1:t.isV=none)(e2:t.lis M=none)(e:t.its M=some ts):∃a vs,w=.ref a/\h[a]?=some (.tup vs)/\qP A X h ts vs:=by
 cases t with
 |v x=>cases e1
 |cell n=>have z:M[n]?=some ts:=e;have z2:M[n]?=none:=e2;rw[z]at z2;cases z2
 |fz xs=>cases e2
 |lst xs=>cases e2
 |tup xs=>unfold Rep at r;obtain⟨b,vs,e',_,q,k⟩:=r;cases e;exact⟨b,vs,e',q,k⟩
 |ob o=>cases e
theorem qAF{n:Nat}{x y:V}(fx:flat x=true)(fy:flat y=true):eqD h (n+1) x y=eqF x y:=by
 cases x<;>cases y<;>first|rfl|(simp[flat]at fx;done)|(simp[flat]at fy;done)
theorem A3(R:RelM gl A X h M):∀(n:Nat) (s t:T) (x y:V) (b:Bool),Rep A X h s x->Rep A X h t y->eqT M n s t=some b->eqD h n x y=some b
 | 0,s,t,x,y,b,r1,r2,e=>by
  unfold eqT at e;split at e
  ·rename_i x' y' e1 e2;cases qa e1;cases qa e2;cases zK r1;cases zK r2;unfold eqD;exact e
  ·cases e
 |n+1,s,t,x,y,b,r1,r2,e=>by
  unfold eqT at e;split at e
  ·rename_i x' y' e1 e2;cases qa e1;cases qa e2;cases zK r1;cases zK r2;rw[qAF (QB r1) (QB r2)];exact e
  ·rename_i x' e1 e2;cases qa e1;cases zK r1;obtain⟨c,rfl⟩:=jg e2 r2;have fx:=QB r1;split at e<;>cases e;rename_i hz;have:=J8 R r2 hz;cases x<;>first|(unfold eqD;simp[flat,this];done)|(simp[flat]at fx;done)
  ·rename_i y' e1 e2;cases qa e2;cases zK r2;obtain⟨c,rfl⟩:=jg e1 r1;have fx:=QB r2;split at e<;>cases e;rename_i hz;have:=J8 R r1 hz;cases y<;>first|(unfold eqD;simp[flat,this];done)|(simp[flat]at fx;done)
  ·rename_i e1 e2;obtain⟨c,rfl⟩:=jg e1 r1;obtain⟨d,rfl⟩:=jg e2 r2;have same:c=d->b=true:=by
    rintro rfl;have:=u5 R.nd R.sub s t r1 r2;subst this;refine Zm (M:=M) (n+1) s b ?_;unfold eqT;rw[e1];exact e
   split at e
   ·rename_i xs ys l1 l2;obtain⟨_,vs,f1,q1,k1,m1⟩:=zv R r1 l1;cases q1;obtain⟨_,us,f2,q2,k2,m2⟩:=zv R r2 l2;cases q2;unfold eqD;rw[k1,k2];dsimp only;by_cases hcd:c=d
    ·rw[if_pos hcd,same hcd]
    ·rw[if_neg hcd,<-qC (reps_iff.mp m1),<-qC (reps_iff.mp m2)];split at e
     ·rename_i hl;rw[if_pos hl];obtain⟨bs,eb,rfl⟩:=Option.map_eq_some_iff.mp e;rw[QX (λs t x y b a1 a2 a3=>A3 R n s t x y b a1 a2 a3) m1 m2 eb];rfl
     ·rename_i hl;rw[if_neg hl];exact e
   ·rename_i l1 l2;obtain⟨_,vs,f1,q1,k1,m1⟩:=zv R r1 l1;cases q1;split at e<;>cases e;rename_i z;cases ei:t.its M with
    |none=>rw[ei]at z;cases z
    |some ys=>
     obtain⟨_,us,q2,k2,m2⟩:=G7 r2 e2 l2 ei;cases q2;unfold eqD;rw[k1,k2]
   ·rename_i l1 l2;obtain⟨_,vs,f1,q1,k1,m1⟩:=zv R r2 l2;cases q1;split at e<;>cases e;rename_i z;cases ei:s.its M with
    |none=>rw[ei]at z;cases z
    |some ys=>
     obtain⟨_,us,q2,k2,m2⟩:=G7 r1 e1 l1 ei;cases q2;unfold eqD;rw[k1,k2]
   ·rename_i l1 l2;split at e
    ·rename_i xs ys i1 i2;obtain⟨_,vs,q1,k1,m1⟩:=G7 r1 e1 l1 i1;cases q1;obtain⟨_,us,q2,k2,m2⟩:=G7 r2 e2 l2 i2;cases q2;unfold eqD;rw[k1,k2];dsimp only;by_cases hcd:c=d
     ·rw[if_pos hcd,same hcd]
     ·rw[if_neg hcd,<-qC (reps_iff.mp m1),<-qC (reps_iff.mp m2)];split at e
      ·rename_i hl;rw[if_pos hl];obtain⟨bs,eb,rfl⟩:=Option.map_eq_some_iff.mp e;rw[QX (λs t x y b a1 a2 a3=>A3 R n s t x y b a1 a2 a3) m1 m2 eb];rfl
      ·rename_i hl;rw[if_neg hl];obtain⟨bs,eb,rfl⟩:=Option.map_eq_some_iff.mp e;rw[QX (λs t x y b a1 a2 a3=>A3 R n s t x y b a1 a2 a3) (reps_iff.mpr (jA _ (reps_iff.mp m1))) (reps_iff.mpr (jA _ (reps_iff.mp m2))) eb];rfl
    ·cases e
theorem JL:∀{ts:List T}{vs xs:List V},qP A X h ts vs->zp ts=some xs->vs=xs/\xs.all flat=true
 | [],vs,xs,r,e=>by unfold qP at r;subst r;cases e;exact⟨rfl,rfl⟩
 |t::ts,vs,xs,r,e=>by
  unfold qP at r;obtain⟨v,vs',rfl,a,b⟩:=r;cases t with
  |v x=>
   unfold zp at e;obtain⟨xs',e',rfl⟩:=Option.map_eq_some_iff.mp e;obtain⟨rfl,k⟩:=JL b e';cases zK a;exact⟨rfl,by rw[List.all_cons,QB a,k];rfl⟩
  |_=>cases e
theorem d9{t:T}{kvs:List (Int×V)}{w:V}(e:t.dct=some kvs)(r:Rep A X h t w):∃p:Nat,w=.ref p/\p∉X/\h[p]?=some (.ob (.dct kvs)):=by
 cases t with
 |ob o=>
  cases o with
  |dct k=>cases e;unfold Rep at r;exact r
  |exn c=>cases e
 |_=>cases e
theorem qBH(R:RelM gl A X h M){s t:T}{x y:V}{b:Bool}(r1:Rep A X h s x)(r2:Rep A X h t y)(e:inT M s t=some b):v7 .inn x y h=some b/\v7 .notin x y h=some (!b):=by
 unfold inT at e;cases hd:t.dct with
 |some kvs=>
  rw[hd]at e;obtain⟨p,rfl,q1,q2⟩:=d9 hd r2;have i0:items h p=none:=by unfold items;rw[q2]
  have d0:Qv h p=some kvs:=by unfold Qv;rw[q2]
  dsimp only at e;split at e
  ·cases e;cases zK r1;constructor
   ·dsimp only[v7,qBL];rw[i0];dsimp only;rw[d0]
   ·dsimp only[v7,qBL];rw[i0];dsimp only;rw[d0]
  ·cases e
 |none=>
 rw[hd]at e;dsimp only at e;obtain⟨a,ea,e⟩:=Option.bind_eq_some_iff.mp e;obtain⟨ts,et,e⟩:=Option.bind_eq_some_iff.mp e;obtain⟨xs,ex,rfl⟩:=Option.map_eq_some_iff.mp e;cases qa ea;cases zK r1;obtain⟨p,vs,rfl,q1,q2⟩:=L0 R r2 et;obtain⟨rfl,k⟩:=JL q2 ex;have fx:=QB r1;constructor
 ·dsimp only[v7,qBL];rw[q1];dsimp only;rw[if_pos (by rw[fx,k];rfl)]
 ·dsimp only[v7,qBL];rw[q1];dsimp only;rw[if_pos (by rw[fx,k];rfl)]
theorem E6(R:RelM gl A X h M){op:COp}{s t:T}{x y:V}{b:Bool}(r1:Rep A X h s x)(r2:Rep A X h t y)(e:qg M op s t=some b):v7 op x y h=some b:=by
 cases op with
 |eq=>exact A3 R 4 s t x y b r1 r2 e
 |ne=>
  obtain⟨c,ec,rfl⟩:=Option.map_eq_some_iff.mp (show (eqT M 4 s t).map (!·)=some b from e);show (eqD h 4 x y).map (!·)=_;rw[A3 R 4 s t x y c r1 r2 ec];rfl
 |inn=>exact(qBH R r1 r2 e).1
 |notin=>
  obtain⟨c,ec,rfl⟩:=Option.map_eq_some_iff.mp (show (inT M s t).map (!·)=some b from e);exact(qBH R r1 r2 ec).2
 |is=>
  unfold qg at e;dsimp only at e;split at e
  ·rename_i e2;cases qa e2;cases zK r2;cases e;show some (decide (x=V.non))=_;cases hs:s.isV with
   |none=>obtain⟨a,rfl⟩:=jg hs r1;rfl
   |some z=>cases qa hs;cases zK r1;cases x<;>rfl
  ·rename_i e2;cases qa e2;cases zK r2;split at e
   ·rename_i e3;cases qa e3;cases zK r1;exact e
   ·cases e
  ·cases e
 |isnot=>
  unfold qg at e;dsimp only at e;split at e
  ·rename_i e2;cases qa e2;cases zK r2;cases e;show some (!decide (x=V.non))=_;cases hs:s.isV with
   |none=>obtain⟨a,rfl⟩:=jg hs r1;rfl
   |some z=>cases qa hs;cases zK r1;cases x<;>rfl
  ·rename_i e2;cases qa e2;cases zK r2;split at e
   ·rename_i e3;cases qa e3;cases zK r1;exact e
   ·cases e
  ·cases e
 |lt=>unfold qg at e;dsimp only at e;split at e<;>first|(rename_i e1 e2;cases qa e1;cases qa e2;cases zK r1;cases zK r2;exact e)|cases e
 |le=>unfold qg at e;dsimp only at e;split at e<;>first|(rename_i e1 e2;cases qa e1;cases qa e2;cases zK r1;cases zK r2;exact e)|cases e
 |gt=>unfold qg at e;dsimp only at e;split at e<;>first|(rename_i e1 e2;cases qa e1;cases qa e2;cases zK r1;cases zK r2;exact e)|cases e
 |ge=>unfold qg at e;dsimp only at e;split at e<;>first|(rename_i e1 e2;cases qa e1;cases qa e2;cases zK r1;cases zK r2;exact e)|cases e
theorem Zl:∀{ts:List T}{vs:List V}{is:List Int},qP A X h ts vs->zC ts=some is->zy vs=some is
 | [],vs,xs,r,e=>by unfold qP at r;subst r;cases e;rfl
 |t::ts,vs,xs,r,e=>by
  unfold qP at r;obtain⟨v,vs',rfl,a,b⟩:=r;unfold zC at e;split at e
  ·rename_i e';cases e'
  ·rename_i e';cases e';obtain⟨xs',e',rfl⟩:=Option.map_eq_some_iff.mp e;cases zK a;show (zy vs').map _=_;rw[Zl b e'];rfl
  ·cases e
theorem C8:∀{ts:List T}{vs:List V}{is:List Int},qP A X h ts vs->jZ ts=some is->jE vs=some is
 | [],vs,xs,r,e=>by unfold qP at r;subst r;cases e;rfl
 |t::ts,vs,xs,r,e=>by
  unfold qP at r;obtain⟨v,vs',rfl,a,b⟩:=r;unfold jZ at e;split at e
  ·rename_i e';cases e'
  ·rename_i e';cases e';obtain⟨xs',e',rfl⟩:=Option.map_eq_some_iff.mp e;cases zK a;show (jE vs').map _=_;rw[C8 b e'];rfl
  ·rename_i e';cases e';obtain⟨xs',e',rfl⟩:=Option.map_eq_some_iff.mp e;cases zK a;show (jE vs').map _=_;rw[C8 b e'];rfl
  ·cases e
theorem G8:∀{ts:List T}{vs:List V}{is:List Bool},qP A X h ts vs->zi ts=some is->QC vs=some is
 | [],vs,xs,r,e=>by unfold qP at r;subst r;cases e;rfl
 |t::ts,vs,xs,r,e=>by
  unfold qP at r;obtain⟨v,vs',rfl,a,b⟩:=r;unfold zi at e;split at e
  ·rename_i e';cases e'
  ·rename_i e';cases e';obtain⟨xs',e',rfl⟩:=Option.map_eq_some_iff.mp e;cases zK a;show (QC vs').map _=_;rw[G8 b e'];rfl
  ·cases e
theorem ZL{t:T}{ws:List V}(r:qP A X h [t] ws):∃w,ws=[w]/\Rep A X h t w:=by
 unfold qP at r;obtain⟨v,vs,rfl,a,b⟩:=r;unfold qP at b;subst b;exact⟨v,rfl,a⟩
theorem qDn{s t:T}{ws:List V}(r:qP A X h [s,t] ws):∃w u,ws=[w,u]/\Rep A X h s w/\Rep A X h t u:=by
 unfold qP at r;obtain⟨v,vs,rfl,a,b⟩:=r;obtain⟨u,rfl,c⟩:=ZL b;exact⟨v,u,rfl,a,c⟩
theorem qU{a:Nat}{f:Bool}{vs:List V}(e:h[a]?=some (.lst f vs)):qM h a=some vs:=by unfold qM;rw[e]
theorem E4(R:RelM gl A X h M){t:T}{w:V}{n:Nat}(r:Rep A X h t w):Sim gl A X h (QE gl A X n) (.ok ((t,t.lf),M)) (.ok (w,h)):=
 ⟨w,h,rfl,Frm.refl A h,R,r,λe=>Frs.of_lf R r e⟩
theorem Zn{f:T->Option PySem.PyData}{g:V->Option PySem.PyData}(hf:∀t w d,f t=some d->Rep A X h t w->g w=some d):∀(ts:List T) (ws:List V) (ds:List PySem.PyData),zw f ts=some ds->qP A X h ts ws->Q0 g ws=some ds
 | [],ws,ds,e,r=>by
  unfold qP at r;subst r;exact e
 |t::ts,ws,ds,e,r=>by
  unfold qP at r;obtain⟨w,ws',rfl,r1,r2⟩:=r;unfold zw at e;obtain⟨d,e1,e⟩:=Option.bind_eq_some_iff.mp e;obtain⟨ds',e2,rfl⟩:=Option.map_eq_some_iff.mp e;unfold Q0;rw[hf t w d e1 r1,Option.bind_some,Zn hf ts ws' ds' e2 r2];rfl
theorem I0{h:AH}{n:Nat}{x:V}{d:PySem.PyData}(e:qBG x=some d):dat h n x=some d:=by
 cases n with
 |zero=>exact e
 |succ n=>cases x<;>first|exact e|cases e
theorem B3(R:RelM gl A X h M):∀(n:Nat) (t:T) (w:V) (d:PySem.PyData),Qa M n t=some d->Rep A X h t w->dat h n w=some d
 | 0,t,w,d,e,r=>by
  unfold Qa at e;split at e
  ·cases zK r;exact I0 e
  ·cases e
 |n+1,t,w,d,e,r=>by
  have ls:∀(ts:List T),t.lis M=some ts->(zw (Qa M n) ts).map PySem.PyData.list=some d->dat h (n+1) w=some d:=λts hl e=>by
   obtain⟨ds,e1,rfl⟩:=Option.map_eq_some_iff.mp e;obtain⟨a,vs,f,rfl,q1,q2⟩:=zv R r hl;show (match h[a]? with|some (.lst _ xs)=>(Q0 (dat h n) xs).map PySem.PyData.list|some (.tup xs)=>(Q0 (dat h n) xs).map PySem.PyData.tuple|some (.ob (.dct []))=>some (PySem.PyData.dict [])|_=>none)=_;rw[q1];dsimp only;rw[Zn (B3 R n) ts vs ds e1 q2];rfl
  unfold Qa at e;split at e
  ·cases zK r;exact I0 e
  ·rename_i ts;obtain⟨ds,e1,rfl⟩:=Option.map_eq_some_iff.mp e;unfold Rep at r;obtain⟨a,vs,rfl,q1,q2,q3⟩:=r;show (match h[a]? with|some (.lst _ xs)=>(Q0 (dat h n) xs).map PySem.PyData.list|some (.tup xs)=>(Q0 (dat h n) xs).map PySem.PyData.tuple|some (.ob (.dct []))=>some (PySem.PyData.dict [])|_=>none)=_;rw[q2];dsimp only;rw[Zn (B3 R n) ts vs ds e1 q3];rfl
  ·exact ls _ rfl e
  ·exact ls _ rfl e
  ·obtain⟨ts,e1,e2⟩:=Option.bind_eq_some_iff.mp e;exact ls ts e1 e2
  ·cases e;unfold Rep at r;obtain⟨a,rfl,_,q⟩:=r;show (match h[a]? with|some (.lst _ xs)=>(Q0 (dat h n) xs).map PySem.PyData.list|some (.tup xs)=>(Q0 (dat h n) xs).map PySem.PyData.tuple|some (.ob (.dct []))=>some (PySem.PyData.dict [])|_=>none)=_;rw[q]
  ·cases e
theorem v8(R:RelM gl A X h M)(t:T)(w:V)(d:PySem.PyData)(e:qAC M t=some d)(r:Rep A X h t w):qGP h w=some d:=B3 R 4 t w d e r
theorem qCG(R:RelM gl A X h M){f:BF}{ts:List T}{ws:List V}{r:TB}(rs:qP A X h ts ws)(e:zr M f ts=some r):Sim gl A X h (QE gl A X h.length) (.ok (r,M)) (qGZ f ws h):=by
 cases f with
 |len=>
  replace e:=zn e;obtain⟨t0,rfl,e⟩:=e;obtain⟨w,rfl,rw_⟩:=ZL rs;obtain⟨xs,ex,rfl⟩:=Option.map_eq_some_iff.mp e;obtain⟨a,vs,rfl,q1,q2⟩:=L0 R rw_ ex;show Sim _ _ _ _ _ _ (match items h a with|some xs=>_|none=>_);rw[q1,qC (reps_iff.mp q2)];exact qI R rfl
 |sum=>
  replace e:=zn e;obtain⟨t0,rfl,e⟩:=e;obtain⟨w,rfl,rw_⟩:=ZL rs;obtain⟨xs,ex,e⟩:=Option.bind_eq_some_iff.mp e;obtain⟨is,ei,rfl⟩:=Option.map_eq_some_iff.mp e;obtain⟨a,vs,f,rfl,q1,q2⟩:=zv R rw_ ex;show Sim _ _ _ _ _ _ (match qM h a with|some xs=>_|none=>_);rw[qU q1];dsimp only;rw[C8 q2 ei];exact qI R rfl
 |all=>
  replace e:=zn e;obtain⟨t0,rfl,e⟩:=e;obtain⟨w,rfl,rw_⟩:=ZL rs;obtain⟨xs,ex,e⟩:=Option.bind_eq_some_iff.mp e;obtain⟨is,ei,rfl⟩:=Option.map_eq_some_iff.mp e;obtain⟨a,vs,f,rfl,q1,q2⟩:=zv R rw_ ex;show Sim _ _ _ _ _ _ (match qM h a with|some xs=>_|none=>_);rw[qU q1];dsimp only;rw[G8 q2 ei];exact qI R rfl
 |max=>
  replace e:=twoT_inv e;obtain⟨i,j,rfl,e⟩:=e;obtain⟨w,u,rfl,a,b⟩:=qDn rs;cases zK a;cases zK b;cases e;exact qI R rfl
 |min=>
  replace e:=twoT_inv e;obtain⟨i,j,rfl,e⟩:=e;obtain⟨w,u,rfl,a,b⟩:=qDn rs;cases zK a;cases zK b;cases e;exact qI R rfl
 |bits=>
  replace e:=zn e;obtain⟨t0,rfl,e⟩:=e;split at e
  ·obtain⟨w,rfl,a⟩:=ZL rs;cases zK a;cases e;exact qI R rfl
  ·cases e
 |list=>
  replace e:=zn e;obtain⟨t0,rfl,e⟩:=e;obtain⟨w,rfl,rw_⟩:=ZL rs;obtain⟨xs,ex,rfl⟩:=Option.map_eq_some_iff.mp e;obtain⟨a,vs,rfl,q1,q2⟩:=L0 R rw_ ex;show Sim _ _ _ _ _ _ (match items h a with|some xs=>_|none=>_);rw[q1];exact O1 R q2
 |int=>
  replace e:=zn e;obtain⟨t0,rfl,e⟩:=e;split at e
  ·obtain⟨w,rfl,a⟩:=ZL rs;cases zK a;cases e;exact qI R rfl
  ·obtain⟨w,rfl,a⟩:=ZL rs;cases zK a;cases e;exact qI R rfl
  ·cases e
 |repr=>
  replace e:=zn e;obtain⟨t0,rfl,e⟩:=e;obtain⟨w,rfl,rw_⟩:=ZL rs;obtain⟨v,e0,rfl⟩:=Option.map_eq_some_iff.mp e;obtain⟨d,e1,e2⟩:=Option.bind_eq_some_iff.mp e0;have e3:=v8 R t0 w d e1 rw_;show Sim _ _ _ _ _ _ (qFJ h w);unfold qFJ;rw[e3,Option.bind_some,e2];unfold R6 at e2;split at e2
  ·cases e2;exact qI R rfl
  ·cases e2
theorem qAq(R:RelM gl A X h M){t:T}{w:V}{s:String}(r:Rep A X h t w)(e:za M t=some s):zx h w=some s:=by
 cases t with
 |v x=>cases zK r;cases w<;>first|exact e|(cases e;done)
 |cell n=>unfold Rep at r;obtain⟨a,ea,rfl⟩:=r;obtain⟨ts,vs,e1,e2,_⟩:=R.at_ n a ea;unfold za at e;dsimp only at e;rw[e1]at e;cases e;unfold zx;dsimp only;rw[e2]
 |fz xs=>unfold Rep at r;obtain⟨a,vs,rfl,_,q,_⟩:=r;cases e;unfold zx;dsimp only;rw[q]
 |lst xs=>unfold Rep at r;obtain⟨a,vs,rfl,_,q,_⟩:=r;cases e;unfold zx;dsimp only;rw[q]
 |tup xs=>unfold Rep at r;obtain⟨a,vs,rfl,_,q,_⟩:=r;cases e;unfold zx;dsimp only;rw[q]
 |ob o=>cases o with
  |dct=>unfold Rep at r;obtain⟨a,rfl,_,q⟩:=r;cases e;unfold zx;dsimp only;rw[q]
  |exn c=>cases e
theorem Jc{ts:List T}{vs:List V}{lo hi:Option Int}(r:qP A X h ts vs):qP A X h (JN ts lo hi) (L2.cutV vs lo hi):=by
 have l:=qC (reps_iff.mp r);unfold JN L2.cutV;rw[l];exact reps_iff.mpr (jA _ (Qz _ (reps_iff.mp r)))
end
def qDG(A X:List Nat)(h:AH):Option T->Option V->Prop
 |none,_=>True
 |some t,some w=>Rep A X h t w
 |some _,none=>False
abbrev jw(A X:List Nat)(h:AH):TS->List (Option V)->Prop:=All2 (qDG A X h)
section
variable{gl:List T}{A X:List Nat}{h h':AH}{M M':Mem}{σ:TS}{σh:List (Option V)}
theorem N7{i:Nat}{t:T}(r:jw A X h σ σh)(e:σ[i]?=some (some t)):∃w,σh[i]?=some (some w)/\Rep A X h t w:=by
 obtain⟨o,e1,q⟩:=zD r e;cases o with
 |none=>exact q.elim
 |some w=>exact⟨w,e1,q⟩
theorem jP{A' X':List Nat}(hc:∀(n:Nat) a,A[n]?=some a->A'[n]?=some a)(hn:∀a o,a∉X->h[a]?=some o->a∉X'/\h'[a]?=some o)(r:jw A X h σ σh):jw A' X' h' σ σh:=
 Js (λx y q=>by
  cases x with
  |none=>trivial
  |some t=>cases y with
   |none=>exact q.elim
   |some w=>exact zR hc hn t q) r
theorem RelM.keepS(R:RelM gl A X h M)(f:Frm A h h')(r:jw A X h σ σh):jw A X h' σ σh:=jP (λ_ _ e=>e) (R.keepN f) r
theorem QH(r:jw A X h σ σh):∀src:List (Option Nat),jw A X h (zd src σ) (L2.inner src σh)
 | []=>rfl
 |none::src=>⟨none,_,rfl,trivial,QH r src⟩
 |some j::src=>by
  refine⟨(σh[j]?).join,_,rfl,?_,QH r src⟩;show qDG A X h (σ[j]?).join _;cases hj:σ[j]? with
  |none=>trivial
  |some o=>cases o with
   |none=>trivial
   |some t=>
    obtain⟨w,e1,q⟩:=N7 r hj;rw[e1];exact q
theorem g8:∀{is:List Nat}{ts:List T}{ws:List V}{σ σ1:TS}{σh:List (Option V)},qDx is ts σ=some σ1->qP A X h ts ws->jw A X h σ σh->∃σh1,ZY is ws σh=some σh1/\jw A X h σ1 σh1
 | [],[],ws,σ,σ1,σh,e,r,rs=>by unfold qP at r;subst r;cases e;exact⟨σh,rfl,rs⟩
 | [],t::ts,ws,σ,σ1,σh,e,r,rs=>by cases e
 |i::is,[],ws,σ,σ1,σh,e,r,rs=>by cases e
 |i::is,t::ts,ws,σ,σ1,σh,e,r,rs=>by
  unfold qP at r;obtain⟨w,ws',rfl,a,b⟩:=r;exact g8 (is:=is) (show qDx is ts (σ.set i (some t))=some σ1 from e) b (jL i rs (show qDG A X h (some t) (some w) from a))
theorem jt{g:Tg}{t:T}{w:V}{σ1:TS}(e:qy g t σ=some σ1)(r:Rep A X h t w)(rs:jw A X h σ σh):∃σh1,store g w σh h=some σh1/\jw A X h σ1 σh1:=by
 cases g with
 |name i=>cases e;exact⟨σh.set i (some w),rfl,jL i rs (show qDG A X h (some t) (some w) from r)⟩
 |tup is=>
  cases t with
  |tup ts=>
   unfold Rep at r;obtain⟨a,vs,rfl,_,q,k⟩:=r;obtain⟨σh1,e1,r1⟩:=g8 (show qDx is ts σ=some σ1 from e) k rs;refine⟨σh1,?_,r1⟩;show (match qY h a with|some xs=>_|none=>_)=_;rw[show qY h a=some vs by unfold qY;rw[q]];exact e1
  |_=>cases e
theorem ZG:∀(i:Nat) (ts:List T),(jz i ts).length=ts.length
 |_,[]=>rfl
 |i,t::ts=>by rw[jz,List.length_cons,List.length_cons,ZG]
theorem Jv:∀(i j:Nat) (ts:List T),(jz i ts)[j]?=(ts[j]?).map λt=>T.tup [.v (.int ((i+j:Nat):Int)),t]
 |_,_,[]=>by simp[jz]
 |i,0,t::ts=>by simp[jz]
 |i,j+1,t::ts=>by
  rw[jz,List.getElem?_cons_succ,List.getElem?_cons_succ,Jv (i+1) j ts];rw[show i+1+j=i+(j+1) by omega]
inductive QU(A X:List Nat)(h:AH):Src->List T->jf->Prop
 |list (a f vs ts):a∉X->h[a]?=some (.lst f vs)->qP A X h ts vs->QU A X h (.list a) ts []
 |cell (n a vs ts):A[n]?=some a->h[a]?=some (.lst false vs)->qP A X h ts vs->QU A X h (.list a) ts [(n,ts)]
 |tupl (a vs ts):a∉X->h[a]?=some (.tup vs)->qP A X h ts vs->QU A X h (.tupl a) ts []
 |rng (lo n):QU A X h (.rng lo n) (qx lo n) []
 |enum (a ts d):QU A X h (.list a) ts d->QU A X h (.enum a) (jz 0 ts) d
 |zip (a b ts us d1 d2):QU A X h (.list a) ts d1->QU A X h (.list b) us d2->QU A X h (.zip a b) (List.zipWith (λx y=>T.tup [x,y]) ts us) (d1++d2)
theorem jO{d1 d2:jf}(e:qT (d1++d2) M=true):qT d1 M=true/\qT d2 M=true:=by
 unfold qT at e ⊢;rw[List.all_append,Bool.and_eq_true]at e;exact e
theorem k8{s:Src}{ts:List T}{d:jf}(r:QU A X h s ts d)(hn:∀a o,a∉X->h[a]?=some o->h'[a]?=some o)(R:RelM gl A X h' M')(hd:qT d M'=true):QU A X h' s ts d:=by
 induction r with
 |list a f vs ts q1 q2 q3=>exact .list a f vs ts q1 (hn _ _ q1 q2) (qQ (λ_ _ e=>e) (λa o x y=>⟨x,hn a o x y⟩) ts q3)
 |cell n a vs ts q1 q2 q3=>
  obtain⟨ts',vs',e1,e2,e3⟩:=R.at_ n a q1;unfold qT at hd;simp only[List.all_cons,List.all_nil,Bool.and_true]at hd;rw[e1]at hd;have:=QG _ _ hd;subst this;exact .cell n a vs' ts' q1 e2 e3
 |tupl a vs ts q1 q2 q3=>exact .tupl a vs ts q1 (hn _ _ q1 q2) (qQ (λ_ _ e=>e) (λa o x y=>⟨x,hn a o x y⟩) ts q3)
 |rng lo n=>exact .rng lo n
 |enum a ts d _ i1=>exact .enum a ts d (i1 hd)
 |zip a b ts us d1 d2 _ _ i1 i2=>exact .zip a b ts us d1 d2 (i1 (jO hd).1) (i2 (jO hd).2)
theorem ZV{A' X':List Nat}{s:Src}{ts:List T}{d:jf}(r:QU A X h s ts d)(hn:∀a o,a∉X->h[a]?=some o->a∉X'/\h'[a]?=some o)(R:RelM gl A' X' h' M')(hd:qT d M'=true)(hA:∀(n:Nat) a,A[n]?=some a->A'[n]?=some a:=by exact λ_ _ e=>e):QU A' X' h' s ts d:=by
 induction r with
 |list a f vs ts q1 q2 q3=>exact .list a f vs ts (hn _ _ q1 q2).1 (hn _ _ q1 q2).2 (qQ hA hn ts q3)
 |cell n a vs ts q1 q2 q3=>
  obtain⟨ts',vs',e1,e2,e3⟩:=R.at_ n a (hA _ _ q1);unfold qT at hd;simp only[List.all_cons,List.all_nil,Bool.and_true]at hd;rw[e1]at hd;have:=QG _ _ hd;subst this;exact .cell n a vs' ts' (hA _ _ q1) e2 e3
 |tupl a vs ts q1 q2 q3=>exact .tupl a vs ts (hn _ _ q1 q2).1 (hn _ _ q1 q2).2 (qQ hA hn ts q3)
 |rng lo n=>exact .rng lo n
 |enum a ts d _ i1=>exact .enum a ts d (i1 hd)
 |zip a b ts us d1 d2 _ _ i1 i2=>exact .zip a b ts us d1 d2 (i1 (jO hd).1) (i2 (jO hd).2)
theorem qu{a:Nat}{ts:List T}{d:jf}(r:QU A X h (.list a) ts d):∃vs,qM h a=some vs/\qP A X h ts vs:=by
 cases r with
 |list _ f vs _ q1 q2 q3=>exact⟨vs,qU q2,q3⟩
 |cell n _ vs _ q1 q2 q3=>exact⟨vs,qU q2,q3⟩
theorem K5{s:Src}{ts:List T}{d:jf}(r:QU A X h s ts d):c8 h s=some ts.length:=by
 cases r with
 |list a f vs ts q1 q2 q3=>show (qM h a).map _=_;rw[qU q2,Option.map_some,qC (reps_iff.mp q3)]
 |cell n a vs ts q1 q2 q3=>show (qM h a).map _=_;rw[qU q2,Option.map_some,qC (reps_iff.mp q3)]
 |tupl a vs ts q1 q2 q3=>show (qY h a).map _=_;rw[show qY h a=some vs by unfold qY;rw[q2],Option.map_some,qC (reps_iff.mp q3)]
 |rng lo n=>show some n=_;simp[qx]
 |enum a ts d r1=>
  obtain⟨vs,e1,k1⟩:=qu r1;show (qM h a).map _=_;rw[e1,Option.map_some,ZG,qC (reps_iff.mp k1)]
 |zip a b ts us d1 d2 r1 r2=>
  obtain⟨vs,e1,k1⟩:=qu r1;obtain⟨ws,e2,k2⟩:=qu r2;show (match qM h a,qM h b with|some xs,some ys=>_|_,_=>_)=_;rw[e1,e2,vI,qC (reps_iff.mp k1),qC (reps_iff.mp k2)]
theorem Jy{s:Src}{ts:List T}{d:jf}(r:QU A X h s ts d):jU h ts.length s=true:=by
 cases r with
 |list a f vs ts q1 q2 q3=>show (match qM h a with|some xs=>_|none=>_)=_;rw[qU q2,qC (reps_iff.mp q3)];simp
 |cell n a vs ts q1 q2 q3=>show (match qM h a with|some xs=>_|none=>_)=_;rw[qU q2,qC (reps_iff.mp q3)];simp
 |tupl a vs ts q1 q2 q3=>show (match qY h a with|some xs=>_|none=>_)=_;rw[show qY h a=some vs by unfold qY;rw[q2],qC (reps_iff.mp q3)];simp
 |rng lo n=>show decide _=_;simp[qx]
 |enum a ts d r1=>
  obtain⟨vs,e1,k1⟩:=qu r1;show (match qM h a with|some xs=>_|none=>_)=_;rw[e1,ZG,qC (reps_iff.mp k1)];simp
 |zip a b ts us d1 d2 r1 r2=>
  obtain⟨vs,e1,k1⟩:=qu r1;obtain⟨ws,e2,k2⟩:=qu r2;show (match qM h a,qM h b with|some xs,some ys=>_|_,_=>_)=_;rw[e1,e2,vI,qC (reps_iff.mp k1),qC (reps_iff.mp k2)];simp;omega
theorem ZX(R:RelM gl A X h M){s:Src}{ts:List T}{d:jf}(r:QU A X h s ts d){i:Nat}{t:T}(ei:ts[i]?=some t):
  ∃w e,qo h i s=some (w,h++e)/\Rep A X (h++e) t w:=by
 cases r with
 |list a f vs ts q1 q2 q3=>
  obtain⟨w,ew,q⟩:=zD (reps_iff.mp q3) ei;refine⟨w,[],?_,by rw[List.append_nil];exact q⟩;show (match qM h a with|some xs=>_|none=>_)=_;rw[qU q2];dsimp only;rw[ew,List.append_nil];rfl
 |cell n a vs ts q1 q2 q3=>
  obtain⟨w,ew,q⟩:=zD (reps_iff.mp q3) ei;refine⟨w,[],?_,by rw[List.append_nil];exact q⟩;show (match qM h a with|some xs=>_|none=>_)=_;rw[qU q2];dsimp only;rw[ew,List.append_nil];rfl
 |tupl a vs ts q1 q2 q3=>
  obtain⟨w,ew,q⟩:=zD (reps_iff.mp q3) ei;refine⟨w,[],?_,by rw[List.append_nil];exact q⟩;show (match qY h a with|some xs=>_|none=>_)=_;rw[show qY h a=some vs by unfold qY;rw[q2]];dsimp only;rw[ew,List.append_nil];rfl
 |rng lo n=>
  have hi:i<n:=by have:=(List.getElem?_eq_some_iff.mp ei).1;simpa [qx] using this
  refine⟨.int (lo+(i:Int)),[],?_,?_⟩
  ·show (if i<n then _ else _)=_;rw[if_pos hi,List.append_nil]
  ·have:t=.v (.int (lo+(i:Int))):=by
    simp only[qx,wN,wl hi,Option.map_some,Option.some.injEq]at ei;exact ei.symm
   rw[this];unfold Rep;exact⟨rfl,rfl⟩
 |enum a ts d r1=>
  obtain⟨vs,e1,k1⟩:=qu r1;rw[Jv]at ei;obtain⟨x,ex,rfl⟩:=Option.map_eq_some_iff.mp ei;obtain⟨v,ev,qv⟩:=zD (reps_iff.mp k1) ex;refine⟨.ref h.length,[.tup [.int (i:Int),v]],?_,?_⟩
  ·show (match qM h a with|some xs=>_|none=>_)=_;rw[e1];dsimp only;rw[ev];rfl
  ·have f:=Frm.app A h [O.tup [.int (i:Int),v]];unfold Rep;refine⟨_,[.int (i:Int),v],rfl,λz=>Nat.lt_irrefl _ (R.lt _ z),by simp,?_⟩;unfold qP;refine⟨.int (i:Int),[v],rfl,by unfold Rep;rw[vM];exact⟨rfl,rfl⟩,?_⟩;unfold qP;exact⟨v,[],rfl,R.keep f qv,by unfold qP;rfl⟩
 |zip a b ts us d1 d2 r1 r2=>
  obtain⟨vs,e1,k1⟩:=qu r1;obtain⟨ws,e2,k2⟩:=qu r2;rw[List.getElem?_zipWith]at ei;cases et:ts[i]? with
  |none=>rw[et]at ei;cases ei
  |some x=>
   cases eu:us[i]? with
   |none=>rw[et,eu]at ei;cases ei
   |some y=>
    rw[et,eu]at ei;cases ei;obtain⟨v,ev,qv⟩:=zD (reps_iff.mp k1) et;obtain⟨w,ew,qw⟩:=zD (reps_iff.mp k2) eu;refine⟨.ref h.length,[.tup [v,w]],?_,?_⟩
    ·show (match qM h a,qM h b with|some xs,some ys=>_|_,_=>_)=_;rw[e1,e2];dsimp only;rw[ev,ew]
    ·have f:=Frm.app A h [O.tup [v,w]];unfold Rep;refine⟨_,[v,w],rfl,λz=>Nat.lt_irrefl _ (R.lt _ z),by simp,?_⟩;unfold qP;refine⟨v,[w],rfl,R.keep f qv,?_⟩;unfold qP;exact⟨w,[],rfl,R.keep f qw,by unfold qP;rfl⟩
theorem Frs.ofD(R:RelM gl A X h M){kvs:List (Int×V)}(r:Rep A X (h++[O.ob (.dct kvs)]) (.ob (.dct kvs)) (.ref h.length)):Frs gl A X h.length (h++[O.ob (.dct kvs)]) M (.ob (.dct kvs)) (.ref h.length):=
 ⟨[],by unfold Rep at r;unfold FP;exact⟨r,rfl⟩,vE,λa ha=>by simp at ha,by rw[List.append_nil];exact R.up _,λ_ _=>⟨h.length,rfl,Nat.le_refl _,R.addX λa=>by simp only[wE,wK];grind⟩⟩
theorem RelM.setX(R:RelM gl A X h M){D:Nat}(hD:D∈X)(hA:D∉A)(o:O):RelM gl A X (h.set D o) M:=by
 have hn:∀a o',a∉X->h[a]?=some o'->a∉X/\(h.set D o)[a]?=some o':=λa o' x y=>⟨x,by rw[wJ (by rintro rfl;exact x hD)];exact y⟩
 refine⟨R.len,R.nd,R.sub,λa ha=>by simpa using R.lt a ha,λn a e=>?_,λg t e=>zR (λ_ _ e=>e) hn t (R.glo g t e)⟩;obtain⟨ts,vs,e1,e2,e3⟩:=R.at_ n a e;exact⟨ts,vs,e1,by rw[wJ (by rintro rfl;exact hA (List.mem_of_getElem? e))];exact e2,qQ (λ_ _ e=>e) hn ts e3⟩
theorem Sim.bindW{α β α2 β2:Type}{X':List Nat}{h1:AH}{Q:α->β->AH->Mem->Prop}{Q2:α2->β2->AH->Mem->Prop}{r:PR (α×Mem)}{rh:Res (β×AH)}{f:α×Mem->PR (α2×Mem)}{g:β×AH->Res (β2×AH)}
  (hX:∀a∈X,a∈X') (hA:∀a∈A,a∈X) (f0:Frm A h1 h)
  (s:Sim gl A X' h Q r rh) (k:∀x M' y h',Frm A h h'->RelM gl A X' h' M'->Q x y h' M'->Sim gl A X h1 Q2 (f (x,M')) (g (y,h'))):Sim gl A X h1 Q2 (r.bind f) (rh.bind g):=by
 cases r with
 |ok p=>
  obtain⟨x,M'⟩:=p;obtain⟨y,h',rfl,f1,R1,q⟩:=s;exact k x M' y h' f1 R1 q
 |exc c M'=>
  obtain⟨h',rfl,f1,R1⟩:=s;exact⟨h',rfl,f0.trans f1,R1.weak hX hA⟩
 |stuck=>trivial
mutual
theorem qEK{X X':List Nat}{h:AH}:∀(t:T){w:V}{f g:List Nat},FP X h t w f->FP X' h t w g->f=g
 | .v x,w,f,g,p,q=>by unfold FP at p q;rw[p.2,q.2]
 | .cell n,w,f,g,p,q=>by unfold FP at p;exact p.elim
 | .fz ts,w,f,g,p,q=>by unfold FP at p;exact p.elim
 | .ob o,w,f,g,p,q=>by unfold FP at p q;rw[p.2,q.2]
 | .lst ts,w,f,g,p,q=>by
  unfold FP at p q;obtain⟨a,vs,f',rfl,_,e1,k1,rfl⟩:=p;obtain⟨b,us,g',e,_,e2,k2,rfl⟩:=q;cases e;rw[e1]at e2;cases e2;rw[JM ts k1 k2]
 | .tup ts,w,f,g,p,q=>by
  unfold FP at p q;obtain⟨a,vs,rfl,_,e1,k1⟩:=p;obtain⟨b,us,e,_,e2,k2⟩:=q;cases e;rw[e1]at e2;cases e2;exact JM ts k1 k2
theorem JM{X X':List Nat}{h:AH}:∀(ts:List T){ws:List V}{f g:List Nat},FPs X h ts ws f->FPs X' h ts ws g->f=g
 | [],w,f,g,p,q=>by unfold FPs at p q;rw[p.2,q.2]
 |t::ts,w,f,g,p,q=>by
  unfold FPs at p q;obtain⟨v,vs,f1,f2,rfl,a,b,rfl⟩:=p;obtain⟨v',vs',g1,g2,e,a',b',rfl⟩:=q;cases e;rw[qEK t a a',JM ts b b']
end
theorem N6:∀{ts:List T}{ws:List V}{fp f:List Nat}{t:T}{w:V},FPs X h ts ws fp->FP X h t w f->FPs X h (ts++[t]) (ws++[w]) (fp++f)
 | [],ws,fp,f,t,w,p,q=>by
  unfold FPs at p;obtain⟨rfl,rfl⟩:=p;show FPs X h [t] [w] f;unfold FPs;exact⟨w,[],f,[],rfl,q,by unfold FPs;exact⟨rfl,rfl⟩,by simp⟩
 |s::ts,ws,fp,f,t,w,p,q=>by
  unfold FPs at p;obtain⟨v,vs,f1,f2,rfl,a,b,rfl⟩:=p;show FPs X h (s::(ts++[t])) (v::(vs++[w])) _;unfold FPs;exact⟨v,vs++[w],f1,f2++f,rfl,a,N6 b q,by rw[wG]⟩
end
section
variable{gl:List T}{A X:List Nat}
theorem JD{s:Src}{its:List T}{d:jf}{g:Tg}{c:TS->Mem->PR (Bool×Mem)}{c':List (Option V)->AH->Res (Bool×AH)}{e:TS->Mem->PR (TB×Mem)}{e':List (Option V)->AH->RV}{D:Nat}{h1:AH}
  (hc:∀X h M σ σh,RelM gl A X h M->jw A X h σ σh->Sim gl A X h (λb b' _ _=>b=b') (c σ M) (c' σh h))
  (he:∀X h M σ σh,RelM gl A X h M->jw A X h σ σh->Sim gl A X h (QE gl A X h.length) (e σ M) (e' σh h))
  (hD:h1.length<=D) (hDX:D∉X) (hA:∀a∈A,a∈X):∀(r:List T) (i:Nat) (ys:List T) (ws:List V) (f:Bool) (fp:List Nat) (Y:List Nat) (σ:TS) (σh:List (Option V)) (M:Mem) (h:AH),
   its.drop i=r->i<=its.length->Y=D::X++fp->Frm A h1 h->RelM gl A Y h M->QU A Y h s its d->h[D]?=some (.lst false ws)->qP A (D::X) h ys ws ->
   (f=true->FPs (D::X) h ys ws fp/\fp.Nodup/\∀a∈fp,h1.length<=a)->jw A Y h σ σh ->
   Sim gl A X h1 (QE gl A X h1.length) (qK d g c e r ys f σ M) (A2 s g c' e' D r.length i ws σh h)
 | [],i,ys,ws,f,fp,Y,σ,σh,M,h,hr,hi,hY,fm,R,sr,eD,ry,hf,rs=>by
  have hi':i=its.length:=by
   have:=List.drop_eq_nil_iff.mp hr;omega
  subst hi';have hX:∀a∈X,a∈D::X:=λa z=>List.mem_cons_of_mem _ z;have hXY:∀a∈X,a∈Y:=λa z=>by rw[hY];simp[z]
  have hn:∀a o,a∉D::X->h[a]?=some o->a∉X/\h[a]?=some o:=λa o x y=>⟨λz=>x (hX _ z),y⟩
  refine⟨.ref D,h,?_,fm,R.weak hXY hA,?_,λe=>?_⟩
  ·show (if jU h its.length s then _ else _)=_;rw[if_pos (Jy sr)]
  ·show Rep A X h (.lst ys) _;unfold Rep;exact⟨D,ws,rfl,hDX,eD,qQ (λ_ _ e=>e) hn ys ry⟩
  ·obtain⟨p,nd,l⟩:=hf e;refine⟨fp++[D],?_,?_,?_,?_⟩
   ·show FP X h (.lst ys) _ _;unfold FP;exact⟨D,ws,fp,rfl,hDX,eD,zj hn ys p,rfl⟩
   ·rw[wZ];refine⟨nd,by simp,?_⟩;rintro a ha b hb rfl;simp at hb;exact(QD ys p a ha).1 (by rw[hb];exact List.mem_cons_self ..)
   ·intro a ha;rcases wE.mp ha with z|z
    ·exact l a z
    ·simp at z;omega
   ·refine⟨R.weak (λa z=>?_) λa z=>wH _ (hA a z),New.lst⟩;rw[hY];simp only[wE,List.mem_cons,wK]at z ⊢
    grind
 |x::r,i,ys,ws,f,fp,Y,σ,σh,M,h,hr,hi,hY,fm,R,sr,eD,ry,hf,rs=>by
  have hXY:∀a∈X,a∈Y:=λa z=>by rw[hY];simp[z]
  have hDY:D∈Y:=by rw[hY];simp
  have hDXY:∀a∈D::X,a∈Y:=λa z=>by rw[hY];exact wH _ z
  have hDA:D∉A:=λz=>hDX (hA D z);have ex:its[i]?=some x:=by
   have:(its.drop i)[0]?=some x:=by rw[hr];rfl
   rwa [vL,Nat.add_zero]at this
  have hi2:i+1<=its.length:=(List.getElem?_eq_some_iff.mp ex).1;have hr2:its.drop (i+1)=r:=by
   rw[<-List.drop_drop,hr];rfl
  obtain⟨w,ext,ey,rx⟩:=ZX R sr ex;have fy:Frm A h (h++ext):=Frm.app A h ext;rw[List.length_cons];unfold qK A2;rw[ey];dsimp only;cases es:qy g x σ with
  |none=>exact Sim.stuck
  |some σ1=>
   obtain⟨σh1,esh,rs1⟩:=jt es rx (R.keepS fy rs);rw[esh];dsimp only;refine Sim.bindW hXY hA (fm.trans fy) (hc _ _ _ _ _ (R.up ext) rs1) ?_;rintro b M2 b' h2 f2 R2 rfl;have k2:Frm A h h2:=fy.trans f2;have eD2:h2[D]?=some (.lst false ws):=(k2.2 D (qO eD) hDA).trans eD;have kN:∀{h':AH},Frm A h h'->∀a o,a∉D::X->h[a]?=some o->a∉D::X/\h'[a]?=some o:=λf' a o x y=>⟨x,(f'.2 a (qO y) λz=>x (List.mem_cons_of_mem _ (hA _ z))).trans y⟩
   cases b with
   |true=>
    simp only[if_true];refine Sim.bindW hXY hA (fm.trans k2) (he _ _ _ _ _ R2 ((R.up ext).keepS f2 rs1)) ?_;intro y M3 w3 h3 f3 R3 q3;have k3:Frm A h h3:=k2.trans f3;have eD3:h3[D]?=some (.lst false ws):=(k3.2 D (qO eD) hDA).trans eD;have lw:ys.length=ws.length:=qC (reps_iff.mp ry);dsimp only;by_cases hl:ys.length<lim/\qT d M3=true
    ·rw[if_pos hl,if_pos ⟨eD3,by rw[<-lw];exact hl.1⟩];have hs:∀(Z:List Nat),D∈Z->∀a o,a∉Z->h3[a]?=some o->a∉Z/\(h3.set D (.lst false (ws++[w3])))[a]?=some o:=λZ hZ a o x y=>⟨x,by rw[wJ (by rintro rfl;exact x hZ)];exact y⟩
     have hnD:∀a o,a∉D::X->h[a]?=some o->a∉D::X/\(h3.set D (.lst false (ws++[w3])))[a]?=some o:=λa o x y=>hs _ (List.mem_cons_self ..) a o x (kN k3 a o x y).2;have ry4:qP A (D::X) (h3.set D (.lst false (ws++[w3]))) (ys++[y.1]) (ws++[w3]):=
      reps_iff.mpr (zU (reps_iff.mp (qQ (λ_ _ e=>e) hnD ys ry)) ⟨w3,[],rfl,zR (λ_ _ e=>e) (λa o x y=>hs _ (List.mem_cons_self ..) a o x y) _ (zR (λ_ _ e=>e) (λa o x y=>⟨λz=>x (hDXY _ z),y⟩) _ q3.1),rfl⟩)
     obtain⟨fp2,hp2,R3',hlt2⟩:∃fp2:List Nat,(y.2=true->FP Y h3 y.1 w3 fp2/\fp2.Nodup)/\RelM gl A (Y++fp2) h3 M3/\∀a∈fp2,h2.length<=a:=by
      cases hy2:y.2 with
      |true=>
       obtain⟨fp2,a,b,c,d,_⟩:=q3.2 hy2;exact⟨fp2,λ_=>⟨a,b⟩,d,c⟩
      |false=>exact⟨[],(λz=>by cases z),by rw[List.append_nil];exact R3,λa ha=>by simp at ha⟩
     have old:∀{Z:List Nat}(_:∀a∈Y,a∈Z) (a:Nat) o,a∉Y->h2[a]?=some o->a∉Y++fp2:=λ_ a o x y=>by
      rw[wE];rintro(z|z)
      ·exact x z
      ·have:=hlt2 a z;have:=qO y;omega
     have R4:=R3'.setX (wH _ hDY) hDA (.lst false (ws++[w3]));have hnY:∀a o,a∉Y->h[a]?=some o->a∉Y++fp2/\(h3.set D (.lst false (ws++[w3])))[a]?=some o:=λa o x y=>⟨old (λ_ z=>z) a o x (R.keepN k2 a o x y).2,(hs Y hDY a o x (R.keepN k3 a o x y).2).2⟩
     have hn2:∀a o,a∉Y->h2[a]?=some o->a∉Y++fp2/\(h3.set D (.lst false (ws++[w3])))[a]?=some o:=λa o x y=>⟨old (λ_ z=>z) a o x y,(hs Y hDY a o x (R2.keepN f3 a o x y).2).2⟩
     refine JD hc he hD hDX hA r (i+1) (ys++[y.1]) (ws++[w3]) (f&&y.2) (fp++fp2) (Y++fp2) σ1 σh1 M3 _ hr2 hi2 (by rw[hY,wG]) ((fm.trans k3).set (.inr hD) _) R4 ?_ ?_ ry4 ?_ ?_
     ·exact ZV sr hnY R4 hl.2
     ·rw[wL (qO eD3)]
     ·intro ef;rw[Bool.and_eq_true]at ef;obtain⟨p1,nd1,l1⟩:=hf ef.1;obtain⟨p2,nd2⟩:=hp2 ef.2;refine⟨N6 (zj hnD ys p1) (Zj (λa o x y=>hs _ (List.mem_cons_self ..) a o x y) _ (Zj (λa o x y=>⟨λz=>x (hDXY _ z),y⟩) _ p2)),?_,?_⟩
      ·rw[wZ];refine⟨nd1,nd2,?_⟩;rintro a ha b hb rfl;exact(K1 y.1 p2 a hb).1 (by rw[hY];exact wI _ ha)
      ·intro a ha;rcases wE.mp ha with z|z
       ·exact l1 a z
       ·have:=hlt2 a z;have:=(fm.trans k2).1;omega
     ·exact jP (λ_ _ e=>e) hn2 ((R.up ext).keepS f2 rs1)
    ·rw[if_neg hl];exact Sim.stuck
   |false=>
    dsimp only;simp only[Bool.false_eq_true,if_false];by_cases hl:qT d M2=true
    ·rw[if_pos hl,if_pos eD2];exact JD hc he hD hDX hA r (i+1) ys ws f fp Y σ1 σh1 M2 h2 hr2 hi2 hY (fm.trans k2) R2 (k8 sr (λa o x y=>(R.keepN k2 a o x y).2) R2 hl) eD2 (qQ (λ_ _ e=>e) (kN k2) ys ry)
      (λef=>by obtain⟨a,b,c⟩:=hf ef;exact⟨zj (kN k2) ys a,b,c⟩) ((R.up ext).keepS f2 rs1)
    ·rw[if_neg hl];exact Sim.stuck
end
section
variable{gl:List T}{A X:List Nat}{h h':AH}{M M':Mem}
theorem qAN{X':List Nat}{s:Src}{ts:List T}{d:jf}(r:QU A X h s ts d)(hn:∀a o,a∉X->h[a]?=some o->a∉X'/\h'[a]?=some o)(hc:∀(n:Nat) a o,A[n]?=some a->h[a]?=some o->h'[a]?=some o):QU A X' h' s ts d:=by
 induction r with
 |list a f vs ts q1 q2 q3=>exact .list a f vs ts (hn _ _ q1 q2).1 (hn _ _ q1 q2).2 (qQ (λ_ _ e=>e) hn ts q3)
 |cell n a vs ts q1 q2 q3=>exact .cell n a vs ts q1 (hc n a _ q1 q2) (qQ (λ_ _ e=>e) hn ts q3)
 |tupl a vs ts q1 q2 q3=>exact .tupl a vs ts (hn _ _ q1 q2).1 (hn _ _ q1 q2).2 (qQ (λ_ _ e=>e) hn ts q3)
 |rng lo n=>exact .rng lo n
 |enum a ts d _ i1=>exact .enum a ts d i1
 |zip a b ts us d1 d2 _ _ i1 i2=>exact .zip a b ts us d1 d2 i1 i2
theorem P3{n:Nat}{r:PR (TB×Mem)}{rh:RV}(s:Sim gl A X h (QE gl A X n) r rh):Sim gl A X h (λb b' _ _=>b=b') (pB r) (asB rh):=by
 refine Sim.bind s ?_;intro x M1 w h1 f1 R1 q1;obtain⟨t,fr⟩:=x;dsimp only;split
 ·rename_i b;cases zK q1.1;exact⟨_,h1,rfl,Frm.refl A h1,R1,rfl⟩
 ·exact Sim.stuck
theorem Jn:∀(xs:List V),T.lfs (xs.map .v)=true
 | []=>rfl
 |x::xs=>by show (T.lf (.v x)&&T.lfs (xs.map .v))=true;rw[Jn xs];rfl
theorem O9(lo:Int)(n:Nat):T.lfs (qx lo n)=true:=by
 have e:qx lo n=(jQ lo n).map .v:=by unfold qx jQ;rw[wc];rfl
 rw[e];exact Jn _
theorem jh{A X:List Nat}{h:AH}:∀{xs:List V},xs.all flat=true->qP A X h (xs.map .v) xs
 | [],_=>by show qP A X h [] [];unfold qP;rfl
 |x::xs,f=>by
  rw[List.all_cons,Bool.and_eq_true]at f;show qP A X h (.v x::xs.map .v) _;unfold qP;exact⟨x,xs,rfl,by unfold Rep;exact⟨rfl,f.1⟩,jh f.2⟩
theorem O8{α β:Type}{R:α->β->Prop}{xs:List α}{ys:List β}(k:Nat)(h:All2 R xs ys):All2 R (xs.eraseIdx k) (ys.eraseIdx k):=by
 rw[wm,wm];exact zU (jA _ h) (Qz _ h)
theorem qAT(R:RelM gl A X h M){m:Mt}{n p:Nat}{ts:List T}{ws:List V}(ep:A[n]?=some p)(rs:qP A X h ts ws):Sim gl A X h (QE gl A X h.length) (PR.ofO (O3 m n ts M)) (h8 m p ws h):=by
 obtain⟨ts2,vs2,g1,g2,g3⟩:=R.at_ n p ep;have hm:zB h p=some vs2:=by unfold zB;rw[g2]
 have l:=qC (reps_iff.mp g3);cases em:O3 m n ts M with
 |none=>exact Sim.stuck
 |some r=>
  unfold O3 at em;split at em
  ·rename_i i;obtain⟨w,rfl,a⟩:=ZL rs;cases zK a;rw[g1]at em;dsimp only[Option.bind_some]at em;split at em
   ·rename_i hl;obtain⟨k,ek,em⟩:=Option.bind_eq_some_iff.mp em;obtain⟨y,ey,rfl⟩:=Option.map_eq_some_iff.mp em;obtain⟨w,ew,rw2⟩:=zD (reps_iff.mp g3) ey;show Sim _ _ _ _ _ _ (match zB h p with|some xs=>_|none=>_);rw[hm];dsimp only;rw[<-l,if_pos hl,ek];dsimp only;rw[ew];obtain⟨R4,f4⟩:=R.put ep (reps_iff.mpr (O8 k (reps_iff.mp g3)));have r:=R.keep f4 rw2;exact⟨w,_,rfl,f4,R4,r,λe=>Frs.of_lf R4 r e⟩
   ·cases em
  ·cases em
theorem qBt(R:RelM gl A X h M){t:T}{w:V}{s:List T×jf}(r:Rep A X h t w)(e:A5 M t=some s):∃p sh,w=.ref p/\(match h[p]? with|some (.lst _ _)=>Res.ok (Src.list p,h)|some (.tup _)=>.ok (.tupl p,h)|_=>.stuck)=.ok (sh,h)/\QU A X h sh s.1 s.2:=by
 cases t with
 |v x=>cases e
 |cell n=>
  unfold Rep at r;obtain⟨a,ea,rfl⟩:=r;obtain⟨ts,vs,e1,e2,e3⟩:=R.at_ n a ea;unfold A5 at e;dsimp only at e;rw[e1]at e;cases e;exact⟨a,_,rfl,by rw[e2],.cell n a vs ts ea e2 e3⟩
 |fz xs=>unfold Rep at r;obtain⟨a,vs,rfl,q,k,z⟩:=r;cases e;exact⟨a,_,rfl,by rw[k],.list a true vs xs q k z⟩
 |lst xs=>unfold Rep at r;obtain⟨a,vs,rfl,q,k,z⟩:=r;cases e;exact⟨a,_,rfl,by rw[k],.list a false vs xs q k z⟩
 |tup xs=>unfold Rep at r;obtain⟨a,vs,rfl,q,k,z⟩:=r;cases e;exact⟨a,_,rfl,by rw[k],.tupl a vs xs q k z⟩
 |ob o=>cases e
theorem D7(R:RelM gl A X h M){t:T}{w:V}{s:List T×jf}(r:Rep A X h t w)(e:Zk M t=some s):∃p vs,w=.ref p/\qM h p=some vs/\QU A X h (.list p) s.1 s.2:=by
 cases t with
 |v x=>cases e
 |cell n=>
  unfold Rep at r;obtain⟨a,ea,rfl⟩:=r;obtain⟨ts,vs,e1,e2,e3⟩:=R.at_ n a ea;unfold Zk at e;dsimp only at e;rw[e1]at e;cases e;exact⟨a,_,rfl,qU e2,.cell n a vs ts ea e2 e3⟩
 |fz xs=>unfold Rep at r;obtain⟨a,vs,rfl,q,k,z⟩:=r;cases e;exact⟨a,_,rfl,qU k,.list a true vs xs q k z⟩
 |lst xs=>unfold Rep at r;obtain⟨a,vs,rfl,q,k,z⟩:=r;cases e;exact⟨a,_,rfl,qU k,.list a false vs xs q k z⟩
 |tup xs=>cases e
 |ob o=>cases e
theorem QEs.len{n:Nat}{xs:List TB}{ws:List V}(q:QEs gl A X n xs ws h M):xs.length=ws.length:=by
 have:=qC (reps_iff.mp q.1);simpa using this
end
section
variable{gl:List T}{P:Nat->List T->Mem->PR (TB×Mem)}{F:Nat->List V->AH->RV}
variable (hF:∀f ts ws A X h M,RelM gl A X h M->qP A X h ts ws->Sim gl A X h (QE gl A X h.length) (P f ts M) (F f ws h))
include hF
mutual
theorem qX:∀(e:E) (A X:List Nat) (h:AH) (M:Mem) (σ:TS) (σh:List (Option V)),RelM gl A X h M->jw A X h σ σh->Sim gl A X h (QE gl A X h.length) (pe gl P e σ M) (ev F e σh h)
 | .var i,A,X,h,M,σ,σh,R,rs=>by
  rw[pe,ev];dsimp only;split
  ·rename_i t e;obtain⟨w,ew,r⟩:=N7 rs e;rw[ew];exact E4 R r
  ·exact Sim.stuck
 | .dnew,A,X,h,M,σ,σh,R,rs=>by
  unfold pe ev;have r:Rep A X (h++[O.ob (.dct [])]) (.ob (.dct [])) (.ref h.length):=by
   unfold Rep;exact⟨h.length,rfl,λz=>by have:=R.lt _ z;omega,by simp⟩
  exact⟨_,_,rfl,Frm.app A h _,R.up _,r,λ_=>Frs.ofD R r⟩
 | .cst v,A,X,h,M,σ,σh,R,rs=>by
  rw[pe,ev];dsimp only;split
  ·rename_i e;exact qI R e
  ·exact Sim.stuck
 | .glob g,A,X,h,M,σ,σh,R,rs=>by
  rw[pe,ev];dsimp only;split
  ·rename_i t e;exact E4 R (R.glo g t e)
  ·exact Sim.stuck
 | .bin op a b,A,X,h,M,σ,σh,R,rs=>by
  rw[pe,ev];dsimp only;refine Sim.bind (qX a A X h M σ σh R rs) ?_;intro x M1 v h1 f1 R1 q1;dsimp only;refine Sim.bind (qX b A X h1 M1 σ σh R1 (R.keepS f1 rs)) ?_;intro y M2 w h2 f2 R2 q2;dsimp only;exact Sim.ofO λr er=>(qCT R2 er (R1.keep f2 q1.1) q2.1).le (Nat.le_trans f1.1 f2.1)
 | .neg a,A,X,h,M,σ,σh,R,rs=>by
  rw[pe,ev];dsimp only;refine Sim.bind (qX a A X h M σ σh R rs) ?_;intro x M1 v h1 f1 R1 q1;dsimp only;obtain⟨t,fr⟩:=x;dsimp only;split
  ·cases zK q1.1;exact qI R1 rfl
  ·exact Sim.stuck
 | .cmp op a b,A,X,h,M,σ,σh,R,rs=>by
  rw[pe,ev];dsimp only;refine Sim.bind (qX a A X h M σ σh R rs) ?_;intro x M1 v h1 f1 R1 q1;dsimp only;refine Sim.bind (qX b A X h1 M1 σ σh R1 (R.keepS f1 rs)) ?_;intro y M2 w h2 f2 R2 q2;dsimp only;refine Sim.ofO λr er=>?_;unfold qDA;rw[E6 R2 (R1.keep f2 q1.1) q2.1 er];exact qI R2 rfl
 | .cmp2 o1 o2 a b c,A,X,h,M,σ,σh,R,rs=>by
  rw[pe,ev];dsimp only;refine Sim.bind (qX a A X h M σ σh R rs) ?_;intro x M1 v h1 f1 R1 q1;dsimp only;refine Sim.bind (qX b A X h1 M1 σ σh R1 (R.keepS f1 rs)) ?_;intro y M2 w h2 f2 R2 q2;dsimp only;refine Sim.ofO λr er=>?_;rw[E6 R2 (R1.keep f2 q1.1) q2.1 er];cases r with
  |true=>
   simp only[if_true];refine Sim.bind (qX c A X h2 M2 σ σh R2 (R1.keepS f2 (R.keepS f1 rs))) ?_;intro z M3 u h3 f3 R3 q3;dsimp only;refine Sim.ofO λr er=>?_;unfold qDA;rw[E6 R3 (R2.keep f3 q2.1) q3.1 er];exact qI R3 rfl
  |false=>exact qI R2 rfl
 | .and a b,A,X,h,M,σ,σh,R,rs=>by
  rw[pe,ev];dsimp only;refine Sim.bind (P3 (qX a A X h M σ σh R rs)) ?_;rintro x M1 v h1 f1 R1 rfl;dsimp only;cases x with
  |true=>simp only[if_true];exact(qX b A X h1 M1 σ σh R1 (R.keepS f1 rs)).le f1.1
  |false=>exact qI R1 rfl
 | .or a b,A,X,h,M,σ,σh,R,rs=>by
  rw[pe,ev];dsimp only;refine Sim.bind (P3 (qX a A X h M σ σh R rs)) ?_;rintro x M1 v h1 f1 R1 rfl;dsimp only;cases x with
  |false=>simp only[Bool.false_eq_true,if_false];exact(qX b A X h1 M1 σ σh R1 (R.keepS f1 rs)).le f1.1
  |true=>exact qI R1 rfl
 | .not a,A,X,h,M,σ,σh,R,rs=>by
  rw[pe,ev];dsimp only;refine Sim.bind (P3 (qX a A X h M σ σh R rs)) ?_;rintro x M1 v h1 f1 R1 rfl;dsimp only;exact qI R1 rfl
 | .ite c a b,A,X,h,M,σ,σh,R,rs=>by
  rw[pe,ev];dsimp only;refine Sim.bind (P3 (qX c A X h M σ σh R rs)) ?_;rintro x M1 v h1 f1 R1 rfl;dsimp only;cases x with
  |true=>simp only[if_true];exact(qX a A X h1 M1 σ σh R1 (R.keepS f1 rs)).le f1.1
  |false=>simp only[Bool.false_eq_true,if_false];exact(qX b A X h1 M1 σ σh R1 (R.keepS f1 rs)).le f1.1
 | .call f as,A,X,h,M,σ,σh,R,rs=>by
  rw[pe,ev];dsimp only;refine Sim.bind (jq as A X h M σ σh R rs) ?_;intro x M1 v h1 f1 R1 q1;dsimp only;exact(hF f _ _ A X h1 M1 R1 q1.1).nx.le f1.1
 | .blt f as,A,X,h,M,σ,σh,R,rs=>by
  rw[pe,ev];dsimp only;refine Sim.bind (jq as A X h M σ σh R rs) ?_;intro x M1 v h1 f1 R1 q1;dsimp only;exact Sim.ofO λr er=>(qCG R1 q1.1 er).le f1.1
 | .isi a ts,A,X,h,M,σ,σh,R,rs=>by
  rw[pe,ev];dsimp only;refine Sim.bind (qX a A X h M σ σh R rs) ?_;intro x M1 v h1 f1 R1 q1;dsimp only;refine Sim.ofO λr er=>?_;rw[qAq R1 q1.1 er];exact qI R1 rfl
 | .idx a b,A,X,h,M,σ,σh,R,rs=>by
  rw[pe,ev];dsimp only;refine Sim.bind (qX a A X h M σ σh R rs) ?_;intro x M1 v h1 f1 R1 q1;dsimp only;refine Sim.bind (qX b A X h1 M1 σ σh R1 (R.keepS f1 rs)) ?_;intro y M2 w h2 f2 R2 q2;dsimp only;refine Sim.ofO λr er=>?_;obtain⟨ty,fy⟩:=y;unfold zS at er;dsimp only at er;split at er
  ·rename_i i;cases zK q2.1;obtain⟨xs,e1,er⟩:=Option.bind_eq_some_iff.mp er;obtain⟨j,e2,er⟩:=Option.bind_eq_some_iff.mp er;obtain⟨t,e3,rfl⟩:=Option.map_eq_some_iff.mp er;obtain⟨p,vs,rfl,k1,k2⟩:=L0 R2 (R1.keep f2 q1.1) e1;obtain⟨u,e4,k3⟩:=zD (reps_iff.mp k2) e3;dsimp only;rw[k1];dsimp only;rw[<-qC (reps_iff.mp k2),e2];dsimp only[Option.bind_some];rw[e4];exact E4 R2 k3
  ·cases er
 | .sl a lo hi,A,X,h,M,σ,σh,R,rs=>by
  rw[pe,ev];dsimp only;refine Sim.bind (qX a A X h M σ σh R rs) ?_;intro x M1 v h1 f1 R1 q1;dsimp only;refine Sim.bind (jq lo A X h1 M1 σ σh R1 (R.keepS f1 rs)) ?_;intro y M2 w h2 f2 R2 q2;dsimp only;refine Sim.bind (jq hi A X h2 M2 σ σh R2 (R1.keepS f2 (R.keepS f1 rs))) ?_;intro z M3 u h3 f3 R3 q3;dsimp only;refine Sim.ofO λxs ex=>Sim.ofO λl el=>Sim.ofO λm em=>?_;rw[Zl (R2.keeps f3 q2.1) el,Zl q3.1 em];have rp:=R2.keep f3 (R1.keep f2 q1.1);refine Sim.ofO λr er=>?_;refine Sim.le ?_ (Nat.le_trans f1.1 (Nat.le_trans f2.1 f3.1));obtain⟨x1,x2⟩:=x;dsimp only at ex er rp ⊢;cases x1 with
  |v x=>cases ex
  |ob o=>cases ex
  |cell n=>cases er;obtain⟨p,vs,f,rfl,k1,k2⟩:=zv R3 rp ex;dsimp only;rw[qU k1];exact O1 R3 (Jc k2)
  |fz xs=>cases er;obtain⟨p,vs,f,rfl,k1,k2⟩:=zv R3 rp ex;dsimp only;rw[qU k1];exact O1 R3 (Jc k2)
  |lst xs=>cases er;obtain⟨p,vs,f,rfl,k1,k2⟩:=zv R3 rp ex;dsimp only;rw[qU k1];exact O1 R3 (Jc k2)
  |tup ts=>
   cases ex;unfold Rep at rp;obtain⟨a,vs,rfl,_,q,kk⟩:=rp;have ln:=qC (reps_iff.mp kk);dsimp only;rw[show qM h3 a=none by unfold qM;rw[q],show qY h3 a=some vs by unfold qY;rw[q]];dsimp only;unfold qBF at er;dsimp only at er;rw[ln]at er;split at er
   ·cases er
   ·rename_i hw;cases er;rw[if_neg hw];exact C3 R3 (Jc kk) λe=>Frss.of_lf R3 (Jc kk) e
 | .lst as,A,X,h,M,σ,σh,R,rs=>by
  rw[pe,ev];dsimp only;refine Sim.bind (jq as A X h M σ σh R rs) ?_;intro x M1 v h1 f1 R1 q1;dsimp only;rw[<-q1.len];split
  ·exact F3 R1 q1.1 f1.1 q1.2
  ·exact Sim.stuck
 | .tup as,A,X,h,M,σ,σh,R,rs=>by
  rw[pe,ev];dsimp only;refine Sim.bind (jq as A X h M σ σh R rs) ?_;intro x M1 v h1 f1 R1 q1;dsimp only;rw[<-q1.len];split
  ·exact C3 R1 q1.1 q1.2
  ·exact Sim.stuck
 | .comp it src g c e,A,X,h,M,σ,σh,R,rs=>by
  rw[pe,ev];dsimp only;refine Sim.bind (qBc it A X h M σ σh R rs) ?_;intro s M1 sh h1 f1 R1 q1;dsimp only;have hn:∀a o,a∉X->h1[a]?=some o->a∉h1.length::X/\(h1++[O.lst false []])[a]?=some o:=λa o x y=>⟨by
   rw[List.mem_cons];rintro(z|z)
   ·have:=qO y;omega
   ·exact x z,by rw[List.getElem?_append_left (qO y)];exact y⟩
  have sr:QU A (h1.length::X) (h1++[O.lst false []]) sh s.1 s.2:=qAN q1 hn λn a o _ y=>by rw[List.getElem?_append_left (qO y)];exact y
  rw[K5 sr];dsimp only;refine(JD (its:=s.1) (λX h M σ σh R rs=>qEm c A X h M σ σh R rs) (λX h M σ σh R rs=>qX e A X h M σ σh R rs) (Nat.le_refl h1.length) (λz=>Nat.lt_irrefl _ (R1.lt _ z)) R1.sub s.1 0 [] [] true [] (h1.length::X) _ _ M1 _ rfl (Nat.zero_le _) (by simp) (Frm.app A h1 _) (R1.addX λa=>List.mem_cons) sr (by simp) (by unfold qP;rfl) ?_ ?_).le f1.1
  ·exact λ_=>⟨by unfold FPs;exact⟨rfl,rfl⟩,vE,λa ha=>by simp at ha⟩
  ·exact jP (λ_ _ e=>e) hn (QH (R.keepS f1 rs) src)
 | .app a b,A,X,h,M,σ,σh,R,rs=>by
  rw[pe,ev];dsimp only;refine Sim.bind (qX a A X h M σ σh R rs) ?_;intro x M1 v h1 f1 R1 q1;dsimp only;obtain⟨t,fr⟩:=x;dsimp only;split
  ·rename_i n;have q:=q1.1;unfold Rep at q;obtain⟨p,ep,rfl⟩:=q;obtain⟨ts,vs,e1,e2,e3⟩:=R1.at_ n p ep;dsimp only;rw[qU e2];dsimp only;refine Sim.bind (qX b A X h1 M1 σ σh R1 (R.keepS f1 rs)) ?_;intro y M2 w h2 f2 R2 q2;dsimp only;obtain⟨ts2,vs2,g1,g2,g3⟩:=R2.at_ n p ep;rw[g1,show zB h2 p=some vs2 by unfold zB;rw[g2]];dsimp only;rw[<-qC (reps_iff.mp g3)];split
   ·have r1:All2 (Rep A X h2) [y.1] [w]:=⟨w,[],rfl,q2.1,rfl⟩
    obtain⟨R4,f4⟩:=R2.put ep (reps_iff.mpr (zU (reps_iff.mp g3) r1));have r:Rep A X (h2.set p (.lst false (vs2++[w]))) (.v .non) .non:=by unfold Rep;exact⟨rfl,rfl⟩
    exact⟨.non,_,rfl,f4,R4,r,λ_=>Frs.of_lf R4 r rfl⟩
   ·exact Sim.stuck
  ·exact Sim.stuck
 | .dix a b,A,X,h,M,σ,σh,R,rs=>by
  rw[pe,ev];dsimp only;refine Sim.bind (qX a A X h M σ σh R rs) ?_;intro x M1 v h1 f1 R1 q1;dsimp only;refine(Sim.bind (qX b A X h1 M1 σ σh R1 (R.keepS f1 rs)) ?_).le f1.1;intro y M2 w h2 f2 R2 q2;dsimp only;refine Sim.ofO λr er=>?_;obtain⟨y1,y2⟩:=y;dsimp only at er;unfold qE7 at er;split at er
  ·rename_i i;cases zK q2.1;obtain⟨kvs,ek,er⟩:=Option.bind_eq_some_iff.mp er;obtain⟨vv,ev',er⟩:=Option.bind_eq_some_iff.mp er;split at er
   ·rename_i fv;cases er;obtain⟨p,rfl,q3,q4⟩:=d9 ek (R1.keep f2 q1.1);have d0:Qv h2 p=some kvs:=by unfold Qv;rw[q4]
    show Sim _ _ _ _ _ _ (match Qv h2 p with|some kvs=>_|none=>_);rw[d0];dsimp only;rw[ev'];dsimp only;rw[if_pos fv];exact(qI R2 fv)
   ·cases er
  ·cases er
 | .dzip a b,A,X,h,M,σ,σh,R,rs=>by
  rw[pe,ev];dsimp only;refine Sim.bind (qX a A X h M σ σh R rs) ?_;intro x M1 v h1 f1 R1 q1;dsimp only;refine(Sim.bind (qX b A X h1 M1 σ σh R1 (R.keepS f1 rs)) ?_).le f1.1;intro y M2 w h2 f2 R2 q2;dsimp only;refine Sim.ofO λxs ex=>Sim.ofO λys ey=>Sim.ofO λis ei=>Sim.ofO λvs ev'=>?_;obtain⟨p,us,fz,rfl,g1,g2⟩:=zv R2 (R1.keep f2 q1.1) ex;obtain⟨q,ws,fz',rfl,g3,g4⟩:=zv R2 q2.1 ey;obtain⟨rfl,kf⟩:=JL g4 ev';show Sim _ _ _ _ _ _ (match qM h2 p with|some xs=>_|none=>_);rw[qU g1];dsimp only;rw[qU g3];dsimp only;rw[Zl g2 ei];dsimp only;split
  ·have hx:h2.length∉X:=λz=>Nat.lt_irrefl _ (R2.lt _ z);have r:Rep A X (h2++[O.ob (.dct (zZ [] (is.zip ws)))]) (.ob (.dct (zZ [] (is.zip ws)))) (.ref h2.length):=by
    unfold Rep;exact⟨h2.length,rfl,hx,by simp⟩
   refine Sim.le (n:=h2.length) ⟨_,_,rfl,Frm.app A h2 _,R2.up _,r,λ_=>Frs.ofD R2 r⟩ f2.1
  ·exact Sim.stuck
 | .lrng a,A,X,h,M,σ,σh,R,rs=>by
  rw[pe,ev];dsimp only;refine Sim.bind (qX a A X h M σ σh R rs) ?_;intro x M1 v h1 f1 R1 q1;dsimp only;obtain⟨t,fr⟩:=x;dsimp only;split
  ·rename_i j;cases zK q1.1;dsimp only;split
   ·have r:qP A X h1 (qx 0 j.toNat) (jQ 0 j.toNat):=by
     have e:qx 0 j.toNat=(jQ 0 j.toNat).map .v:=by unfold qx jQ;rw[wc];rfl
     rw[e];exact jh (by simp[jQ,flat])
    exact(F3 (f:=true) R1 r (Nat.le_refl _) λ_=>Frss.of_lf R1 r (O9 0 _)).le f1.1
   ·exact Sim.stuck
  ·exact Sim.stuck
 | .meth m a as,A,X,h,M,σ,σh,R,rs=>by
  rw[pe,ev];dsimp only;refine Sim.bind (qX a A X h M σ σh R rs) ?_;intro x M1 v h1 f1 R1 q1;dsimp only;obtain⟨t,fr⟩:=x;dsimp only;split
  ·rename_i n;have q:=q1.1;unfold Rep at q;obtain⟨p,ep,rfl⟩:=q;obtain⟨ts,vs,e1,e2,e3⟩:=R1.at_ n p ep;dsimp only;rw[qU e2];dsimp only;refine Sim.bind (jq as A X h1 M1 σ σh R1 (R.keepS f1 rs)) ?_;intro y M2 w h2 f2 R2 q2;dsimp only;exact(qAT R2 ep q2.1).le (Nat.le_trans f1.1 f2.1)
  ·exact Sim.stuck
theorem jq:∀(e:Es) (A X:List Nat) (h:AH) (M:Mem) (σ:TS) (σh:List (Option V)),RelM gl A X h M->jw A X h σ σh->Sim gl A X h (QEs gl A X h.length) (pes gl P e σ M) (evs F e σh h)
 | .nil,A,X,h,M,σ,σh,R,rs=>by
  rw[pes,evs];have r:qP A X h [] []:=by unfold qP;rfl
  exact⟨[],h,rfl,Frm.refl A h,R,r,λ_=>Frss.of_lf R r rfl⟩
 | .cons a as,A,X,h,M,σ,σh,R,rs=>by
  rw[pes,evs];dsimp only;refine Sim.bind (qX a A X h M σ σh R rs) ?_;intro x M1 v h1 f1 R1 q1;dsimp only;obtain⟨fp1,hp1,R1',hlt1⟩:∃fp1:List Nat,(x.2=true->FP X h1 x.1 v fp1/\fp1.Nodup)/\RelM gl A (X++fp1) h1 M1/\∀a∈fp1,h.length<=a:=by
   cases hx2:x.2 with
   |true=>
    obtain⟨fp2,a,b,c,d,_⟩:=q1.2 hx2;exact⟨fp2,λ_=>⟨a,b⟩,d,c⟩
   |false=>exact⟨[],(λz=>by cases z),by rw[List.append_nil];exact R1,λa ha=>by simp at ha⟩
  have hX:∀a∈X,a∈X++fp1:=λa z=>wH _ z;have hn:∀a o,a∉X->h[a]?=some o->a∉X++fp1/\h1[a]?=some o:=λa o x y=>⟨by
   rw[wE];rintro(z|z)
   ·exact x z
   ·have:=hlt1 a z;have:=qO y;omega,(R.keepN f1 a o x y).2⟩
  refine Sim.bindW hX R.sub (Frm.refl A h1) (jq as A (X++fp1) h1 M1 σ σh R1' (jP (λ_ _ e=>e) hn rs)) ?_;intro y M2 w h2 f2 R2 q2;dsimp only;refine⟨_,h2,rfl,f2,R2.weak hX R.sub,?_,λe=>?_⟩
  ·show qP A X h2 (x.1::y.map (·.1)) (v::w);unfold qP;exact⟨v,w,rfl,R1.keep f2 q1.1,qQ (λ_ _ e=>e) (λa o x y=>⟨λz=>x (hX _ z),y⟩) _ q2.1⟩
  ·rw[List.all_cons,Bool.and_eq_true]at e;obtain⟨a1,b1⟩:=hp1 e.1;obtain⟨fp2,a2,b2,c2,d2⟩:=q2.2 e.2;refine⟨fp1++fp2,?_,?_,?_,by rw[<-wG];exact d2⟩
   ·show FPs X h2 (x.1::y.map (·.1)) (v::w) _;unfold FPs;exact⟨v,w,fp1,fp2,rfl,Zj (R1.keepN f2) _ a1,zj (λa o x y=>⟨λz=>x (hX _ z),y⟩) _ a2,rfl⟩
   ·rw[wZ];refine⟨b1,b2,?_⟩;rintro a ha b hb rfl;exact(QD _ a2 a hb).1 (wI _ ha)
   ·intro a ha;rcases wE.mp ha with z|z
    ·exact hlt1 a z
    ·exact Nat.le_trans f1.1 (c2 a z)
theorem qEm:∀(e:Es) (A X:List Nat) (h:AH) (M:Mem) (σ:TS) (σh:List (Option V)),RelM gl A X h M->jw A X h σ σh->Sim gl A X h (λb b' _ _=>b=b') (pec gl P e σ M) (evc F e σh h)
 | .nil,A,X,h,M,σ,σh,R,rs=>by
  rw[pec,evc];exact⟨true,h,rfl,Frm.refl A h,R,rfl⟩
 | .cons a as,A,X,h,M,σ,σh,R,rs=>by
  rw[pec,evc];exact P3 (qX a A X h M σ σh R rs)
theorem qBc:∀(e:Itr) (A X:List Nat) (h:AH) (M:Mem) (σ:TS) (σh:List (Option V)),RelM gl A X h M->jw A X h σ σh->Sim gl A X h (λs sh h' _=>QU A X h' sh s.1 s.2) (pei gl P e σ M) (evi F e σh h)
 | .list a,A,X,h,M,σ,σh,R,rs=>by
  rw[pei,evi];dsimp only;refine Sim.bind (qX a A X h M σ σh R rs) ?_;intro x M1 v h1 f1 R1 q1;dsimp only;refine Sim.ofO λs es=>?_;obtain⟨p,sh,rfl,e1,e2⟩:=qBt R1 q1.1 es;exact⟨sh,h1,e1,Frm.refl A h1,R1,e2⟩
 | .rng1 a,A,X,h,M,σ,σh,R,rs=>by
  rw[pei,evi];dsimp only;refine Sim.bind (qX a A X h M σ σh R rs) ?_;intro x M1 v h1 f1 R1 q1;dsimp only;obtain⟨t,fr⟩:=x;dsimp only;split
  ·cases zK q1.1;dsimp only;split
   ·exact⟨_,h1,rfl,Frm.refl A h1,R1,.rng 0 _⟩
   ·exact Sim.stuck
  ·exact Sim.stuck
 | .zip a b,A,X,h,M,σ,σh,R,rs=>by
  rw[pei,evi];dsimp only;refine Sim.bind (qX a A X h M σ σh R rs) ?_;intro x M1 v h1 f1 R1 q1;dsimp only;refine Sim.bind (qX b A X h1 M1 σ σh R1 (R.keepS f1 rs)) ?_;intro y M2 w h2 f2 R2 q2;dsimp only;refine Sim.ofO λs es=>Sim.ofO λt et=>?_;obtain⟨p,vs,rfl,e1,e2⟩:=D7 R2 (R1.keep f2 q1.1) es;obtain⟨q,us,rfl,e3,e4⟩:=D7 R2 q2.1 et;dsimp only;rw[e1,e3];exact⟨_,h2,rfl,Frm.refl A h2,R2,.zip p q _ _ _ _ e2 e4⟩
 | .enum a,A,X,h,M,σ,σh,R,rs=>by
  rw[pei,evi];dsimp only;refine Sim.bind (qX a A X h M σ σh R rs) ?_;intro x M1 v h1 f1 R1 q1;dsimp only;refine Sim.ofO λs es=>?_;obtain⟨p,vs,rfl,e1,e2⟩:=D7 R1 q1.1 es;dsimp only;rw[e1];exact⟨_,h1,rfl,Frm.refl A h1,R1,.enum p _ _ e2⟩
end
end
mutual
theorem g6{X Af Xf:List Nat}{h:AH}(hX:∀a o,(∀vs,o≠O.lst false vs)->h[a]?=some o->a∉X->a∉Xf):∀(t:T) (n:Nat){w:V}{fp:List Nat},FP X h t w fp->(∀(k:Nat) a,fp[k]?=some a->Af[n+k]?=some a) ->
  (thaw n t).2.length=fp.length/\Rep Af Xf h (thaw n t).1 w/\∀(k:Nat) ts',(thaw n t).2[k]?=some ts'->∃a vs,fp[k]?=some a/\h[a]?=some (.lst false vs)/\qP Af Xf h ts' vs
 | .v x,n,w,fp,p,ha=>by unfold FP at p;obtain⟨p1,rfl⟩:=p;rw[show thaw n (.v x)=(.v x,[]) by simp[thaw]];exact⟨rfl,by unfold Rep;exact p1,λk ts' e=>by simp at e⟩
 | .cell _,n,w,fp,p,ha=>by unfold FP at p;exact p.elim
 | .ob o,n,w,fp,p,ha=>by unfold FP at p;obtain⟨⟨a,rfl,q1,q2⟩,rfl⟩:=p;rw[show thaw n (.ob o)=(.ob o,[]) by simp[thaw]];exact⟨rfl,by unfold Rep;exact⟨a,rfl,hX a _ (by intro _ z;cases z) q2 q1,q2⟩,λk ts' e=>by simp at e⟩
 | .fz _,n,w,fp,p,ha=>by unfold FP at p;exact p.elim
 | .lst ts,n,w,fp,p,ha=>by
  unfold FP at p;obtain⟨a,vs,f,rfl,q1,q2,q3,rfl⟩:=p;obtain⟨l,r,c⟩:=Zv hX ts n q3 (λk a e=>ha k a (by rw[List.getElem?_append_left (List.getElem?_eq_some_iff.mp e).1];exact e));rw[thaw];refine⟨by simp[l],?_,λk ts' e=>?_⟩
  ·show Rep Af Xf h (.cell _) _;unfold Rep;refine⟨a,ha _ a ?_,rfl⟩;rw[l,List.getElem?_append_right (Nat.le_refl _),Nat.sub_self];rfl
  ·dsimp only at e;by_cases hk:k<f.length
   ·rw[List.getElem?_append_left (by rw[l];exact hk)]at e;obtain⟨b,us,e1,e2,e3⟩:=c k ts' e;exact⟨b,us,by rw[List.getElem?_append_left hk];exact e1,e2,e3⟩
   ·rw[List.getElem?_append_right (by rw[l];omega),l]at e;have hk2:k-f.length=0:=by
     have:=(List.getElem?_eq_some_iff.mp e).1;simp at this;omega
    rw[hk2]at e;simp at e;subst e;exact⟨a,vs,by rw[List.getElem?_append_right (by omega),hk2];rfl,q2,r⟩
 | .tup ts,n,w,fp,p,ha=>by
  unfold FP at p;obtain⟨a,vs,rfl,q1,q2,q3⟩:=p;obtain⟨l,r,c⟩:=Zv hX ts n q3 ha;rw[thaw];refine⟨l,?_,c⟩;show Rep Af Xf h (.tup _) _;unfold Rep;exact⟨a,vs,rfl,hX a _ (by intro _ z;cases z) q2 q1,q2,r⟩
theorem Zv{X Af Xf:List Nat}{h:AH}(hX:∀a o,(∀vs,o≠O.lst false vs)->h[a]?=some o->a∉X->a∉Xf):∀(ts:List T) (n:Nat){ws:List V}{fp:List Nat},FPs X h ts ws fp->(∀(k:Nat) a,fp[k]?=some a->Af[n+k]?=some a) ->
  (zh n ts).2.length=fp.length/\qP Af Xf h (zh n ts).1 ws/\∀(k:Nat) ts',(zh n ts).2[k]?=some ts'->∃a vs,fp[k]?=some a/\h[a]?=some (.lst false vs)/\qP Af Xf h ts' vs
 | [],n,ws,fp,p,ha=>by unfold FPs at p;obtain⟨rfl,rfl⟩:=p;rw[zh];exact⟨rfl,by unfold qP;rfl,λk ts' e=>by simp at e⟩
 |t::ts,n,ws,fp,p,ha=>by
  unfold FPs at p;obtain⟨v,vs,f1,f2,rfl,q1,q2,rfl⟩:=p;obtain⟨l1,r1,c1⟩:=g6 hX t n q1 (λk a e=>ha k a (by rw[List.getElem?_append_left (List.getElem?_eq_some_iff.mp e).1];exact e));obtain⟨l2,r2,c2⟩:=Zv hX ts (n+(thaw n t).2.length) q2 (λk a e=>by
   have:=ha (f1.length+k) a (by rw[List.getElem?_append_right (by omega),wP];exact e);rw[l1,Nat.add_assoc];exact this)
  rw[zh];refine⟨by dsimp only;rw[List.length_append,List.length_append,l2,l1],?_,λk ts' e=>?_⟩
  ·show qP Af Xf h (_::_) _;unfold qP;exact⟨v,vs,rfl,r1,r2⟩
  ·dsimp only at e;by_cases hk:k<f1.length
   ·rw[List.getElem?_append_left (by rw[l1];exact hk)]at e;obtain⟨b,us,e1,e2,e3⟩:=c1 k ts' e;exact⟨b,us,by rw[List.getElem?_append_left hk];exact e1,e2,e3⟩
   ·rw[List.getElem?_append_right (by rw[l1];omega)]at e;obtain⟨b,us,e1,e2,e3⟩:=c2 _ ts' e;rw[l1]at e1;exact⟨b,us,by rw[List.getElem?_append_right (by omega)];exact e1,e2,e3⟩
end
theorem RelM.thaw{gl:List T}{A X fp:List Nat}{h:AH}{M:Mem}{t:T}{w:V}(R:RelM gl A (X++fp) h M)(hA:∀a∈A,a∈X)(p:FP X h t w fp)(nd:fp.Nodup):
  RelM gl (A++fp) (X++fp) h (M++(PI.thaw M.length t).2)/\Rep (A++fp) (X++fp) h (PI.thaw M.length t).1 w:=by
 have hX:∀a o,(∀vs,o≠O.lst false vs)->h[a]?=some o->a∉X->a∉X++fp:=λa o hno e x=>by
  rw[wE];rintro(z|z)
  ·exact x z
  ·obtain⟨_,us,e2⟩:=K1 t p a z;rw[e]at e2;cases e2;exact hno _ rfl
 obtain⟨l,r,c⟩:=g6 (Af:=A++fp) hX t M.length p (λk a e=>by rw[<-R.len,List.getElem?_append_right (by omega),wP];exact e);refine⟨⟨by simp[R.len,l],?_,?_,R.lt,λn a e=>?_,λg t e=>?_⟩,r⟩
 ·rw[wZ];exact⟨R.nd,nd,by rintro a ha b hb rfl;exact(K1 t p a hb).1 (hA a ha)⟩
 ·intro a ha;rcases wE.mp ha with z|z
  ·exact wH _ (hA a z)
  ·exact wI _ z
 ·by_cases hn:n<A.length
  ·rw[List.getElem?_append_left hn]at e;obtain⟨ts,vs,e1,e2,e3⟩:=R.at_ n a e;exact⟨ts,vs,by rw[List.getElem?_append_left (by rw[<-R.len];exact hn)];exact e1,e2,qQ (λk b eb=>by rw[List.getElem?_append_left (List.getElem?_eq_some_iff.mp eb).1];exact eb) (λa o x y=>⟨x,y⟩) ts e3⟩
  ·rw[List.getElem?_append_right (by omega)]at e;have hk:n-A.length<(PI.thaw M.length t).2.length:=by rw[l];exact(List.getElem?_eq_some_iff.mp e).1
   obtain⟨b,us,e1,e2,e3⟩:=c (n-A.length) _ (wA hk);rw[e]at e1;cases e1;have hnm:n-M.length=n-A.length:=by rw[R.len]
   exact⟨_,us,by rw[List.getElem?_append_right (by rw[<-R.len];omega),hnm];exact wA hk,e2,e3⟩
 ·exact zR (λk b eb=>by rw[List.getElem?_append_left (List.getElem?_eq_some_iff.mp eb).1];exact eb) (λa o x y=>⟨x,y⟩) t (R.glo g t e)
def RelO(gl:List T)(A X:List Nat)(n:Nat)(h:AH)(M:Mem):PO->Out->Prop
 | .nx σ,.nx σh=>jw A X h σ σh
 | .bk σ,.bk σh=>jw A X h σ σh
 | .ct σ,.ct σh=>jw A X h σ σh
 | .rt t,.rt w=>QE gl A X n t w h M
 |_,_=>False
theorem RelO.le{gl:List T}{A X:List Nat}{n m:Nat}{h:AH}{M:Mem}{o:PO}{oh:Out}(r:RelO gl A X n h M o oh)(l:m<=n):RelO gl A X m h M o oh:=by
 cases o<;>cases oh<;>first|exact r|exact QE.le r l
def SimS(gl:List T)(A X:List Nat)(h:AH):RSt->RS->Prop
 | .ok (o,M'),r=>∃oh h' B,r=.ok (oh,h')/\Frm A h h'/\(∀b∈B,h.length<=b)/\RelM gl (A++B) (X++B) h' M'/\RelO gl (A++B) (X++B) h.length h' M' o oh
 | .exc c M',r=>∃h' B,r=.exc c h'/\Frm A h h'/\(∀b∈B,h.length<=b)/\RelM gl (A++B) (X++B) h' M'
 | .stuck,_=>True
theorem SimS.stuck{gl:List T}{A X:List Nat}{h:AH}{r:RS}:SimS gl A X h .stuck r:=trivial
theorem SimS.mk{gl:List T}{A X:List Nat}{h:AH}{M:Mem}{o:PO}{oh:Out}(R:RelM gl A X h M)(ro:RelO gl A X h.length h M o oh):SimS gl A X h (.ok (o,M)) (.ok (oh,h)):=
 ⟨oh,h,[],rfl,Frm.refl A h,λb hb=>by simp at hb,by simpa using R,by simpa using ro⟩
theorem SimS.pre{gl:List T}{A X:List Nat}{h h1:AH}{r:RSt}{rh:RS}(s:SimS gl A X h1 r rh)(f:Frm A h h1):SimS gl A X h r rh:=by
 cases r with
 |ok p=>
  obtain⟨o,M'⟩:=p;obtain⟨oh,h',B,e,f1,hB,R,ro⟩:=s;exact⟨oh,h',B,e,f.trans f1,λb hb=>Nat.le_trans f.1 (hB b hb),R,ro.le f.1⟩
 |exc c M'=>
  obtain⟨h',B,e,f1,hB,R⟩:=s;exact⟨h',B,e,f.trans f1,λb hb=>Nat.le_trans f.1 (hB b hb),R⟩
 |stuck=>trivial
theorem Sim.bindS{α β:Type}{gl:List T}{A X:List Nat}{h:AH}{Q:α->β->AH->Mem->Prop}{r:PR (α×Mem)}{rh:Res (β×AH)}{f:α×Mem->RSt}{g:β×AH->RS}
  (s:Sim gl A X h Q r rh) (k:∀x M' y h',Frm A h h'->RelM gl A X h' M'->Q x y h' M'->SimS gl A X h' (f (x,M')) (g (y,h'))):SimS gl A X h (r.bind f) (rh.bind g):=by
 cases r with
 |ok p=>
  obtain⟨x,M'⟩:=p;obtain⟨y,h',rfl,f1,R1,q⟩:=s;exact(k x M' y h' f1 R1 q).pre f1
 |exc c M'=>
  obtain⟨h',rfl,f1,R1⟩:=s;exact⟨h',[],rfl,f1,λb hb=>by simp at hb,by simpa using R1⟩
 |stuck=>trivial
theorem SimS.bind{gl:List T}{A X:List Nat}{h:AH}{r:RSt}{rh:RS}{f:PO×Mem->RSt}{g:Out×AH->RS}
  (s:SimS gl A X h r rh) (k:∀o M' oh h' B,Frm A h h'->(∀b∈B,h.length<=b)->RelM gl (A++B) (X++B) h' M'->RelO gl (A++B) (X++B) h.length h' M' o oh->SimS gl (A++B) (X++B) h' (f (o,M')) (g (oh,h'))\/(f (o,M')=.ok (o,M')/\g (oh,h')=.ok (oh,h'))):SimS gl A X h (r.bind f) (rh.bind g):=by
 cases r with
 |ok p=>
  obtain⟨o,M'⟩:=p;obtain⟨oh,h',B,rfl,f1,hB,R,ro⟩:=s;rw[PR.bind_ok,Res.bind_ok];rcases k o M' oh h' B f1 hB R ro with s2|⟨e1,e2⟩
  ·revert s2;generalize f (o,M')=r2;generalize g (oh,h')=rh2;intro s2;cases r2 with
   |ok p2=>
    obtain⟨o2,M2⟩:=p2;obtain⟨oh2,h2,B2,rfl,f2,hB2,R2,ro2⟩:=s2;rw[wG,wG]at R2 ro2;exact⟨oh2,h2,B++B2,rfl,f1.trans2 hB f2,λb hb=>by
     rcases wE.mp hb with z|z
     ·exact hB b z
     ·exact Nat.le_trans f1.1 (hB2 b z),R2,ro2.le f1.1⟩
   |exc c M2=>
    obtain⟨h2,B2,rfl,f2,hB2,R2⟩:=s2;rw[wG,wG]at R2;exact⟨h2,B++B2,rfl,f1.trans2 hB f2,λb hb=>by
     rcases wE.mp hb with z|z
     ·exact hB b z
     ·exact Nat.le_trans f1.1 (hB2 b z),R2⟩
   |stuck=>trivial
  ·rw[e1,e2];exact⟨oh,h',B,rfl,f1,hB,R,ro⟩
 |exc c M'=>
  obtain⟨h',B,rfl,f1,hB,R⟩:=s;exact⟨h',B,rfl,f1,hB,R⟩
 |stuck=>trivial
theorem G6{A X B:List Nat}{h h':AH}(hs:∀a∈A,a∈X)(f:Frm A h h')(hB:∀b∈B,h.length<=b):∀a o,a∉X->h[a]?=some o->a∉X++B/\h'[a]?=some o:=λa o x y=>⟨by
 rw[wE];rintro(z|z)
 ·exact x z
 ·have:=hB a z;have:=qO y;omega,(f.2 a (qO y) λz=>x (hs _ z)).trans y⟩
theorem qZ{A B:List Nat}:∀(n:Nat) a,A[n]?=some a->(A++B)[n]?=some a:=λn a e=>by rw[List.getElem?_append_left (List.getElem?_eq_some_iff.mp e).1];exact e
theorem u8{gl:List T}{s:Src}{its:List T}{d:jf}{g:Tg}{b:TS->Mem->RSt}{b':List (Option V)->AH->RS}
  (hb:∀A X h M σ σh,RelM gl A X h M->jw A X h σ σh->SimS gl A X h (b σ M) (b' σh h)):∀(r:List T) (i:Nat) (σ:TS) (σh:List (Option V)) (M:Mem) (h:AH) (A X:List Nat),
   its.drop i=r->i<=its.length->RelM gl A X h M->QU A X h s its d->jw A X h σ σh->SimS gl A X h (qk d g b r σ M) (v4 s g b' r.length i σh h)
 | [],i,σ,σh,M,h,A,X,hr,hi,R,sr,rs=>by
  have hi':i=its.length:=by
   have:=List.drop_eq_nil_iff.mp hr;omega
  subst hi';show SimS gl A X h (.ok (.nx σ,M)) (if jU h its.length s then _ else _);rw[if_pos (Jy sr)];exact SimS.mk R rs
 |x::r,i,σ,σh,M,h,A,X,hr,hi,R,sr,rs=>by
  have ex:its[i]?=some x:=by
   have:(its.drop i)[0]?=some x:=by rw[hr];rfl
   rwa [vL,Nat.add_zero]at this
  have hi2:i+1<=its.length:=(List.getElem?_eq_some_iff.mp ex).1;have hr2:its.drop (i+1)=r:=by
   rw[<-List.drop_drop,hr];rfl
  obtain⟨w,ext,ey,rx⟩:=ZX R sr ex;have fy:Frm A h (h++ext):=Frm.app A h ext;rw[List.length_cons];unfold qk v4;rw[ey];dsimp only;cases es:qy g x σ with
  |none=>exact SimS.stuck
  |some σ1=>
   obtain⟨σh1,esh,rs1⟩:=jt es rx (R.keepS fy rs);rw[esh];dsimp only;refine SimS.bind ((hb A X _ M σ1 σh1 (R.up ext) rs1).pre fy) ?_;intro o M2 oh h2 B f2 hB R2 ro;have nxt:∀σ2 σh2,jw (A++B) (X++B) h2 σ2 σh2->SimS gl (A++B) (X++B) h2 (if qT d M2=true then qk d g b r σ2 M2 else .stuck) (v4 s g b' r.length (i+1) σh2 h2):=λσ2 σh2 rs2=>by
    split
    ·rename_i hd;exact u8 hb r (i+1) σ2 σh2 M2 h2 _ _ hr2 hi2 R2 (ZV sr (G6 R.sub f2 hB) R2 hd qZ) rs2
    ·exact SimS.stuck
   cases o with
   |nx σ2=>cases oh<;>first|exact .inl (nxt _ _ ro)|exact ro.elim
   |ct σ2=>cases oh<;>first|exact .inl (nxt _ _ ro)|exact ro.elim
   |bk σ2=>cases oh<;>first|exact .inl (SimS.mk R2 ro)|exact ro.elim
   |rt t=>cases oh<;>first|exact .inr ⟨rfl,rfl⟩|exact ro.elim
section
variable{gl:List T}{P:Nat->List T->Mem->PR (TB×Mem)}{F:Nat->List V->AH->RV}(C:List Nat)
variable (hF:∀f ts ws A X h M,RelM gl A X h M->qP A X h ts ws->Sim gl A X h (QE gl A X h.length) (P f ts M) (F f ws h))
include hF
omit hF in
omit hF in
def qIO(gl:List T)(A X:List Nat)(h:AH):PR (TB×Mem)->RV->Prop
 | .ok ((.lst ts,_),M1),r=>∃h1 vs,r=.ok (.ref h1.length,h1++[.lst false vs])/\Frm A h h1/\RelM gl A X h1 M1/\qP A X h1 ts vs
 |_,_=>True
omit hF in
theorem RelM.cellN{gl:List T}{A X:List Nat}{h:AH}{M:Mem}{ts:List T}{vs:List V}(R:RelM gl A X h M)(r:qP A X h ts vs):RelM gl (A++[h.length]) (X++[h.length]) (h++[.lst false vs]) (M++[ts]):=by
 have hn:∀a o,a∉X->h[a]?=some o->a∉X++[h.length]/\(h++[O.lst false vs])[a]?=some o:=G6 R.sub (Frm.app A h _) (λb hb=>by simp at hb;omega);refine⟨by simp[R.len],?_,λa ha=>?_,λa ha=>?_,λn a e=>?_,λg t e=>zR qZ hn t (R.glo g t e)⟩
 ·rw[wZ];refine⟨R.nd,by simp,λa ha b hb=>?_⟩;have:=R.lt a (R.sub a ha);simp at hb;omega
 ·rcases wE.mp ha with z|z
  ·exact wH _ (R.sub a z)
  ·exact wI _ z
 ·rcases wE.mp ha with z|z
  ·have:=R.lt a z;simp;omega
  ·simp at z;simp[z]
 ·by_cases hlt:n<A.length
  ·rw[List.getElem?_append_left hlt]at e;obtain⟨us,ws,e1,e2,e3⟩:=R.at_ n a e;exact⟨us,ws,by rw[List.getElem?_append_left (by rw[<-R.len];exact hlt)];exact e1,by rw[List.getElem?_append_left (qO e2)];exact e2,qQ qZ hn us e3⟩
  ·have hl:=(List.getElem?_eq_some_iff.mp e).1;have hnn:n=A.length:=by simp at hl;omega
   subst hnn;simp at e;subst e;exact⟨ts,vs,by rw[R.len];simp,by simp,qQ qZ hn ts r⟩
omit hF in
theorem T8{e:E}(h:qDb e=true):(∃as,e=.lst as)\/∃a b,e=.bin .add a b:=by
 unfold qDb at h;split at h
 ·exact .inr ⟨_,_,rfl⟩
 ·exact .inl ⟨_,rfl⟩
 ·cases h
theorem qBx(e:E)(he:qDb e=true)(A X:List Nat)(h:AH)(M:Mem)(σ:TS)(σh:List (Option V))(R:RelM gl A X h M)(rs:jw A X h σ σh):qIO gl A X h (pe gl P e σ M) (ev F e σh h):=by
 rcases T8 he with⟨as,rfl⟩|⟨a,b,rfl⟩
 ·rw[pe,ev];dsimp only;have s1:=jq hF as A X h M σ σh R rs;revert s1;generalize pes gl P as σ M=r;generalize evs F as σh h=rh;intro s1;cases r with
  |stuck=>trivial
  |exc c M'=>trivial
  |ok p=>
   obtain⟨x,M1⟩:=p;obtain⟨w,h1,rfl,f1,R1,q⟩:=s1;rw[PR.bind_ok,Res.bind_ok];dsimp only;rw[<-q.len];split
   ·exact⟨h1,w,rfl,f1,R1,q.1⟩
   ·trivial
 ·rw[pe,ev];dsimp only;have s1:=qX hF a A X h M σ σh R rs;revert s1;generalize pe gl P a σ M=r;generalize ev F a σh h=rh;intro s1;cases r with
  |stuck=>trivial
  |exc c M'=>trivial
  |ok p=>
   obtain⟨x,M1⟩:=p;obtain⟨v,h1,rfl,f1,R1,q1⟩:=s1;rw[PR.bind_ok,Res.bind_ok];dsimp only;have s2:=qX hF b A X h1 M1 σ σh R1 (R.keepS f1 rs);revert s2;generalize pe gl P b σ M1=r;generalize ev F b σh h1=rh;intro s2;cases r with
   |stuck=>trivial
   |exc c M'=>trivial
   |ok p=>
    obtain⟨y,M2⟩:=p;obtain⟨w,h2,rfl,f2,R2,q2⟩:=s2;rw[PR.bind_ok,Res.bind_ok];dsimp only;have rx:=R1.keep f2 q1.1;cases eb:qt M2 .add x.1 y.1 with
    |none=>trivial
    |some r=>
     rw[PR.ofO_some,PR.bind_ok];unfold qt at eb;split at eb
     ·cases eb;trivial
     ·cases eb
     ·rename_i e1 e2;dsimp only at eb;split at eb
      ·split at eb
       ·cases eb;trivial
       ·cases eb
      rename_i u0 u1 u2;clear u2;obtain⟨xs,m1,eb⟩:=Option.bind_eq_some_iff.mp eb;obtain⟨ys,m2,eb⟩:=Option.bind_eq_some_iff.mp eb;split at eb
      ·rename_i hl;cases eb;obtain⟨a1,vs,rfl,g1,k1⟩:=l7 R2 rx m1;obtain⟨a2,us,rfl,g2,k2⟩:=l7 R2 q2.1 m2;refine⟨h2,vs++us,?_,f1.trans f2,R2,reps_iff.mpr (zU (reps_iff.mp k1) (reps_iff.mp k2))⟩;show (match zB h2 a1,zB h2 a2 with|some xs,some ys=>if xs.length+ys.length<=lim then newL (xs++ys) h2 else .stuck|_,_=>_)=_;rw[g1,g2];dsimp only;rw[<-qC (reps_iff.mp k1),<-qC (reps_iff.mp k2),if_pos hl];rfl
      ·cases eb
     ·cases eb
omit hF in
omit hF in
omit hF in
omit hF in
omit hF in
omit hF in
omit hF in
omit hF in
def SimN(gl:List T)(A X:List Nat)(D n0:Nat)(h:AH):RSt->RS->Prop
 | .ok (o,M'),r=>∃oh h',r=.ok (oh,h')/\Frm (A++[D]) h h'/\RelM gl A X h' M'/\RelO gl A X n0 h' M' o oh
 | .exc _ _,_=>False
 | .stuck,_=>True
omit hF in
theorem SimN.pre{A X:List Nat}{D n0:Nat}{h h1:AH}{r:RSt}{rh:RS}(s:SimN gl A X D n0 h1 r rh)(f:Frm (A++[D]) h h1):SimN gl A X D n0 h r rh:=by
 match r,s with
 | .ok (o,M'),⟨oh,h',e,f1,R,ro⟩=>exact⟨oh,h',e,f.trans f1,R,ro⟩
 | .exc _ _,z=>exact z.elim
 | .stuck,_=>trivial
omit hF in
theorem Frm.more{A:List Nat}{D:Nat}{h h':AH}(f:Frm A h h'):Frm (A++[D]) h h':=⟨f.1,λj hj hA=>f.2 j hj λz=>hA (wH _ z)⟩
mutual
theorem qGU:∀(s:S) (A X:List Nat) (h:AH) (M:Mem) (σ:TS) (σh:List (Option V)),RelM gl A X h M->jw A X h σ σh->SimS gl A X h (px gl P C s σ M) (ex F s σh h)
 | .asg g e,A,X,h,M,σ,σh,R,rs=>by
  rw[px,ex];dsimp only;have se:=qX hF e A X h M σ σh R rs;have tp:=λhe=>qBx hF e he A X h M σ σh R rs;revert se tp;generalize pe gl P e σ M=r;generalize ev F e σh h=rh;intro se tp;cases r with
  |stuck=>trivial
  |exc c M'=>
   obtain⟨h',rfl,f1,R1⟩:=se;exact⟨h',[],rfl,f1,λb hb=>by simp at hb,by simpa using R1⟩
  |ok p=>
   obtain⟨x,M1⟩:=p;obtain⟨w,h1,rfl,f1,R1,q⟩:=se;rw[PR.bind_ok,Res.bind_ok];dsimp only;have gen:∀{g:Tg}{σ1:TS},qy g x.1 σ=some σ1->SimS gl A X h (.ok (.nx σ1,M1)) (match store g w σh h1 with|some σ1=>.ok (.nx σ1,h1)|none=>.stuck):=λe=>by
    obtain⟨σh1,e2,rs2⟩:=jt e q.1 (R.keepS f1 rs);rw[e2];exact(SimS.mk (o:=.nx _) (oh:=.nx _) R1 rs2).pre f1
   cases g with
   |name i=>
    dsimp only;split
    ·rename_i hc;rw[Bool.and_eq_true]at hc;obtain⟨fp,p,nd,l,R',_⟩:=q.2 hc.2;obtain⟨R2,r2⟩:=R'.thaw R.sub p nd;refine⟨.nx (σh.set i (some w)),h1,fp,rfl,f1,l,R2,?_⟩;exact jL i (jP qZ (G6 R.sub f1 l) rs) (show qDG _ _ h1 (some _) (some w) from r2)
    ·split
     ·rename_i hc;rw[Bool.and_eq_true]at hc;have tp:=tp hc.2;obtain⟨x1,x2⟩:=x;dsimp only;split
      ·rename_i ts;obtain⟨h0,vs,e0,f0,R0,r0⟩:=tp;cases e0;refine⟨.nx (σh.set i (some (.ref h0.length))),_,[h0.length],rfl,f0.trans (Frm.app A h0 _),λb hb=>by simp at hb;have:=f0.1;omega,R0.cellN r0,?_⟩;refine jL i (jP qZ (G6 R0.sub (Frm.app A h0 _) (λb hb=>by simp at hb;omega)) (R.keepS f0 rs)) (show qDG _ _ _ (some _) (some _) from ?_);have rc:Rep (A++[h0.length]) (X++[h0.length]) (h0++[O.lst false vs]) (.cell M1.length) (.ref h0.length):=by
        unfold Rep;exact⟨h0.length,by rw[<-R0.len];simp,rfl⟩
       exact rc
      ·exact SimS.stuck
     ·exact gen (g:=.name i) rfl
   |tup is=>
    dsimp only;split
    ·rename_i σ1 e;exact gen e
    ·exact SimS.stuck
 | .put o i v,A,X,h,M,σ,σh,R,rs=>by
  rw[px,ex];dsimp only;refine Sim.bindS (qX hF v A X h M σ σh R rs) ?_;intro x M1 vx h1 f1 R1 q1;dsimp only;refine Sim.bindS (qX hF o A X h1 M1 σ σh R1 (R.keepS f1 rs)) ?_;intro y M2 w h2 f2 R2 q2;dsimp only;refine Sim.bindS (qX hF i A X h2 M2 σ σh R2 (R1.keepS f2 (R.keepS f1 rs))) ?_;intro z M3 u h3 f3 R3 q3;dsimp only;obtain⟨ty,fy⟩:=y;obtain⟨tz,fz⟩:=z;dsimp only;split
  ·rename_i n k;cases zK q3.1;have q:=R2.keep f3 q2.1;unfold Rep at q;obtain⟨p,ep,rfl⟩:=q;obtain⟨ts2,vs2,g1,g2,g3⟩:=R3.at_ n p ep;rw[g1];dsimp only;rw[show zB h3 p=some vs2 by unfold zB;rw[g2]];dsimp only;rw[<-qC (reps_iff.mp g3)];split
   ·rename_i j ej
    try simp only[ej]
    obtain⟨R4,f4⟩:=R3.put ep (reps_iff.mpr (jL j (reps_iff.mp g3) (R2.keep f3 (R1.keep f2 q1.1))));exact(SimS.mk (o:=.nx σ) (oh:=.nx σh) R4 (R3.keepS f4 (R2.keepS f3 (R1.keepS f2 (R.keepS f1 rs))))).pre f4
   ·exact SimS.stuck
  ·exact SimS.stuck
 | .expr e,A,X,h,M,σ,σh,R,rs=>by
  rw[px,ex];dsimp only;refine Sim.bindS (qX hF e A X h M σ σh R rs) ?_;intro x M1 v h1 f1 R1 q1;dsimp only;exact SimS.mk (o:=.nx σ) (oh:=.nx σh) R1 (R.keepS f1 rs)
 | .ret e,A,X,h,M,σ,σh,R,rs=>by
  rw[px,ex];dsimp only;have se:=qX hF e A X h M σ σh R rs;revert se;generalize pe gl P e σ M=r;generalize ev F e σh h=rh;intro se;cases r with
  |stuck=>trivial
  |exc c M'=>
   obtain⟨h',rfl,f1,R1⟩:=se;exact⟨h',[],rfl,f1,λb hb=>by simp at hb,by simpa using R1⟩
  |ok p=>
   obtain⟨x,M1⟩:=p;obtain⟨w,h1,rfl,f1,R1,q⟩:=se;exact⟨.rt w,h1,[],rfl,f1,λb hb=>by simp at hb,by simpa using R1,by simpa using (show RelO gl A X h.length h1 M1 (.rt x) (.rt w) from q)⟩
 | .ifs c t u,A,X,h,M,σ,σh,R,rs=>by
  rw[px,ex];dsimp only;refine Sim.bindS (P3 (qX hF c A X h M σ σh R rs)) ?_;rintro x M1 v h1 f1 R1 rfl;dsimp only;cases x with
  |true=>simp only[if_true];exact JY t A X h1 M1 σ σh R1 (R.keepS f1 rs)
  |false=>simp only[Bool.false_eq_true,if_false];exact JY u A X h1 M1 σ σh R1 (R.keepS f1 rs)
 | .for_ g it b,A,X,h,M,σ,σh,R,rs=>by
  rw[px,ex];dsimp only;refine Sim.bindS (qBc hF it A X h M σ σh R rs) ?_;intro s M1 sh h1 f1 R1 q1;dsimp only;rw[K5 q1];exact u8 (λA X h M σ σh R rs=>JY b A X h M σ σh R rs) s.1 0 σ σh M1 h1 A X rfl (Nat.zero_le _) R1 q1 (R.keepS f1 rs)
 | .stop,A,X,h,M,σ,σh,R,rs=>by rw[px,ex];exact SimS.stuck
theorem JY:∀(s:Ss) (A X:List Nat) (h:AH) (M:Mem) (σ:TS) (σh:List (Option V)),RelM gl A X h M->jw A X h σ σh->SimS gl A X h (pxs gl P C s σ M) (exs F s σh h)
 | .nil,A,X,h,M,σ,σh,R,rs=>by rw[pxs,exs];exact SimS.mk (o:=.nx σ) (oh:=.nx σh) R rs
 | .cons s r,A,X,h,M,σ,σh,R,rs=>by
  rw[pxs,exs];dsimp only;refine SimS.bind (qGU s A X h M σ σh R rs) ?_;intro o M1 oh h1 B f1 hB R1 ro;cases o with
  |nx σ2=>cases oh<;>first|exact .inl (JY r _ _ h1 M1 _ _ R1 ro)|exact ro.elim
  |ct σ2=>cases oh<;>first|exact .inr ⟨rfl,rfl⟩|exact ro.elim
  |bk σ2=>cases oh<;>first|exact .inr ⟨rfl,rfl⟩|exact ro.elim
  |rt t=>cases oh<;>first|exact .inr ⟨rfl,rfl⟩|exact ro.elim
end
end
section
variable{gl:List T}{A X B:List Nat}{h h':AH}{M M1:Mem}
theorem mapM_cons{α β:Type}{f:α->Option β}{x:α}{xs:List α}{ys:List β}(e:(x::xs).mapM f=some ys):∃y ys',f x=some y/\xs.mapM f=some ys'/\ys=y::ys':=by
 rw[List.mapM_cons]at e;cases hf:f x with
 |none=>rw[hf]at e;cases e
 |some y=>
  rw[hf]at e;cases hg:xs.mapM f with
  |none=>rw[hg]at e;cases e
  |some ys'=>rw[hg]at e;cases e;exact⟨y,ys',rfl,rfl,rfl⟩
theorem mapM_nil{α β:Type}{f:α->Option β}{ys:List β}(e:([]:List α).mapM f=some ys):ys=[]:=by
 rw[List.mapM_nil]at e;cases e;rfl
theorem ju{A1 X1:List Nat}{f:T->Option T}(hf:∀t t' w,f t=some t'->Rep A1 X1 h t w->Rep A X h t' w):∀{ts ts':List T}{vs:List V},ts.mapM f=some ts'->qP A1 X1 h ts vs->qP A X h ts' vs
 | [],ts',vs,e,r=>by cases mapM_nil e;unfold qP at r ⊢;exact r
 |t::ts,ts',vs,e,r=>by
  obtain⟨y,ys,e1,e2,rfl⟩:=mapM_cons e;unfold qP at r ⊢;obtain⟨v,vs',rfl,a,b⟩:=r;exact⟨v,vs',rfl,hf _ _ _ e1 a,ju hf e2 b⟩
theorem Q6(R:RelM gl (A++B) (X++B) h M1)(hB:∀b∈B,b∉X):∀(d:Nat) (t t':T) (w:V),qE M1 A.length d t=some t'->Rep (A++B) (X++B) h t w->Rep A X h t' w:=by
 have hu:∀(t:T) (w:V),t.und A.length=true->Rep (A++B) (X++B) h t w->Rep A X h t w:=λt w u r=>W8 (λn hn=>List.getElem?_append_left hn) (λa ha=>wH _ ha) t r u;have hX:∀a,a∉X++B->a∉X:=λa x z=>x (wH _ z);intro d
 induction d with
 |zero=>
  intro t t' w e r;unfold qE at e;split at e
  ·rename_i u;cases e;exact hu _ w u r
  ·cases e
 |succ d ih=>
  intro t t' w e r;unfold qE at e;split at e
  ·rename_i u;cases e;exact hu _ w u r
  ·rename_i u;cases t with
   |v x=>cases e
   |ob o=>cases e
   |fz ts=>cases e
   |lst ts=>
    obtain⟨ts',e1,rfl⟩:=Option.map_eq_some_iff.mp e;unfold Rep at r ⊢;obtain⟨a,vs,rfl,q1,q2,q3⟩:=r;exact⟨a,vs,rfl,hX a q1,q2,ju ih e1 q3⟩
   |tup ts=>
    obtain⟨ts',e1,rfl⟩:=Option.map_eq_some_iff.mp e;unfold Rep at r ⊢;obtain⟨a,vs,rfl,q1,q2,q3⟩:=r;exact⟨a,vs,rfl,hX a q1,q2,ju ih e1 q3⟩
   |cell n=>
    obtain⟨ts,e0,e⟩:=Option.bind_eq_some_iff.mp (show (M1[n]?).bind _=_ from e);obtain⟨ts',e1,rfl⟩:=Option.map_eq_some_iff.mp e;have hn:A.length<=n:=by
     unfold T.und at u;simpa using u
    unfold Rep at r ⊢;obtain⟨a,ea,rfl⟩:=r;obtain⟨ts2,vs,g1,g2,g3⟩:=R.at_ n a ea;rw[e0]at g1;cases g1;rw[List.getElem?_append_right hn]at ea;exact⟨a,vs,rfl,hB a (List.mem_of_getElem? ea),g2,ju ih e1 g3⟩
mutual
theorem K0(n:Nat):∀(t:T),t.lf=true->t.und n=true
 | .v x,_=>rfl
 | .cell _,l=>by unfold T.lf at l;cases l
 | .ob _,_=>rfl
 | .fz _,l=>by unfold T.lf at l;cases l
 | .lst _,l=>by unfold T.lf at l;cases l
 | .tup ts,l=>by unfold T.lf at l;unfold T.und;exact Qt n ts l
theorem Qt(n:Nat):∀(ts:List T),T.lfs ts=true->T.unds n ts=true
 | [],_=>rfl
 |t::ts,l=>by unfold T.lfs at l;rw[Bool.and_eq_true]at l;unfold T.unds;rw[K0 n t l.1,Qt n ts l.2];rfl
end
theorem g7{n0:Nat}{f:T->Option (List Nat)}(hf:∀t l,f t=some l->t.und n0=true->t.lf=true):∀{ts:List T}{ls:List (List Nat)},ts.mapM f=some ls->T.unds n0 ts=true->T.lfs ts=true
 | [],ls,e,u=>rfl
 |t::ts,ls,e,u=>by
  obtain⟨y,ys,e1,e2,rfl⟩:=mapM_cons e;unfold T.unds at u;rw[Bool.and_eq_true]at u;unfold T.lfs;rw[hf t _ e1 u.1,g7 hf e2 u.2];rfl
theorem r9{n0:Nat}:∀(d:Nat) (t:T) (l:List Nat),qz M1 n0 d t=some l->t.und n0=true->t.lf=true:=by
 intro d
 induction d with
 |zero=>intro t l e u;unfold qz at e;split at e<;>first|assumption|cases e
 |succ d ih=>
  intro t l e u;unfold qz at e;split at e
  ·assumption
  ·cases t with
   |tup ts=>
    obtain⟨ls,e1,rfl⟩:=Option.map_eq_some_iff.mp e;unfold T.und at u;unfold T.lf;exact g7 ih e1 u
   |cell n=>
    dsimp only at e;split at e
    ·rename_i hn;unfold T.und at u;simp at u;omega
    ·cases e
   |v x=>cases e
   |ob o=>cases e
   |fz ts=>cases e
   |lst ts=>cases e
theorem Zo{A1 X1:List Nat}{n0:Nat}{f:T->Option (List Nat)}{g:T->Option T}(hf:∀t l t' w,f t=some l->g t=some t'->Rep A1 X1 h t w->∃fp,FP X h t' w fp/\fp.map some=l.map (A1[·]?)/\∀n∈l,n0<=n):
  ∀{ts ts':List T}{ls:List (List Nat)}{vs:List V},ts.mapM f=some ls->ts.mapM g=some ts'->qP A1 X1 h ts vs->∃fp,FPs X h ts' vs fp/\fp.map some=ls.flatten.map (A1[·]?)/\∀n∈ls.flatten,n0<=n
 | [],ts',ls,vs,e,e',r=>by
  cases mapM_nil e;cases mapM_nil e';unfold qP at r;exact⟨[],by unfold FPs;exact⟨r,rfl⟩,rfl,λn hn=>by simp at hn⟩
 |t::ts,ts',ls,vs,e,e',r=>by
  obtain⟨y,ys,e1,e2,rfl⟩:=mapM_cons e;obtain⟨z,zs,e3,e4,rfl⟩:=mapM_cons e';unfold qP at r;obtain⟨v,vs',rfl,a,b⟩:=r;obtain⟨f1,p1,q1,n1⟩:=hf _ _ _ _ e1 e3 a;obtain⟨f2,p2,q2,n2⟩:=Zo hf e2 e4 b;refine⟨f1++f2,by unfold FPs;exact⟨v,vs',f1,f2,rfl,p1,p2,rfl⟩,by simp[q1,q2],λn hn=>?_⟩;rw[List.flatten_cons]at hn;rcases wE.mp hn with z|z
  ·exact n1 n z
  ·exact n2 n z
theorem Qq{n0:Nat}{d:Nat}{t t':T}(u:t.und n0=true)(e:qE M1 n0 d t=some t'):t'=t:=by
 cases d<;>(unfold qE at e;rw[if_pos u]at e;cases e;rfl)
theorem w6(R:RelM gl (A++B) (X++B) h M1)(hB:∀b∈B,b∉X):∀(d:Nat) (t:T) (l:List Nat) (t':T) (w:V),qz M1 A.length d t=some l->qE M1 A.length d t=some t'->Rep (A++B) (X++B) h t w ->
  ∃fp,FP X h t' w fp/\fp.map some=l.map ((A++B)[·]?)/\∀n∈l,A.length<=n:=by
 have hX:∀a,a∉X++B->a∉X:=λa x z=>x (wH _ z);have lfc:∀{d:Nat}{t t':T}{w:V},t.lf=true->qE M1 A.length d t=some t'->Rep (A++B) (X++B) h t w->∃fp:List Nat,FP X h t' w fp/\fp.map some=([]:List Nat).map ((A++B)[·]?)/\∀n∈([]:List Nat),A.length<=n:=by
  intro d t t' w l e r;cases Qq (K0 _ t l) e;exact⟨[],Zj (λa o x y=>⟨hX a x,y⟩) _ (qCv _ r l),rfl,λn hn=>by simp at hn⟩
 intro d
 induction d with
 |zero=>
  intro t l t' w e e' r;unfold qz at e;split at e
  ·rename_i hl;cases e;exact lfc hl e' r
  ·cases e
 |succ d ih=>
  intro t l t' w e e' r;unfold qz at e;split at e
  ·rename_i hl;cases e;exact lfc hl e' r
  ·rename_i hl;have hu:t.und A.length≠true:=λu=>hl (r9 (M1:=M1) (d+1) t l (by unfold qz;rw[if_neg hl];exact e) u);unfold qE at e';rw[if_neg hu]at e';cases t with
   |tup ts=>
    obtain⟨ls,e1,rfl⟩:=Option.map_eq_some_iff.mp e;obtain⟨ts',e2,rfl⟩:=Option.map_eq_some_iff.mp e';unfold Rep at r;obtain⟨a,vs,rfl,q1,q2,q3⟩:=r;obtain⟨fp,p1,p2,p3⟩:=Zo ih e1 e2 q3;exact⟨fp,by unfold FP;exact⟨a,vs,rfl,hX a q1,q2,p1⟩,p2,p3⟩
   |cell n=>
    dsimp only at e e';split at e
    ·rename_i hn;obtain⟨ts,e0,e⟩:=Option.bind_eq_some_iff.mp e;obtain⟨ls,e1,rfl⟩:=Option.map_eq_some_iff.mp e;rw[e0]at e';dsimp only[Option.bind_some]at e';obtain⟨ts',e2,rfl⟩:=Option.map_eq_some_iff.mp e';unfold Rep at r;obtain⟨a,ea,rfl⟩:=r;obtain⟨ts2,vs,g1,g2,g3⟩:=R.at_ n a ea;rw[e0]at g1;cases g1;obtain⟨fp,p1,p2,p3⟩:=Zo ih e1 e2 g3;have ea2:=ea;rw[List.getElem?_append_right hn]at ea2;refine⟨fp++[a],by unfold FP;exact⟨a,vs,fp,rfl,hB a (List.mem_of_getElem? ea2),g2,p1,rfl⟩,?_,λm hm=>?_⟩
     ·rw[wR,wR,p2];simp[ea]
     ·rcases wE.mp hm with z|z
      ·exact p3 m z
      ·simp at z;omega
    ·cases e
   |v x=>cases e
   |ob o=>cases e
   |fz ts=>cases e
   |lst ts=>cases e
theorem JO{X' Y:List Nat}(R:RelM gl (A++B) Y h M1)(hX:∀a∈X',a∈Y)(hA:∀a∈A,a∈X')(hc:(M1.take A.length).all (T.unds A.length)=true)(hg:∀(g:Nat) t,gl[g]?=some t->Rep A X' h t (.ref g)):RelM gl A X' h (M1.take A.length):=by
 have l:=R.len;rw[List.length_append]at l;refine⟨by rw[wv];omega,(wZ.mp R.nd).1,hA,λa ha=>R.lt a (hX a ha),λn a e=>?_,hg⟩;have hn:=(List.getElem?_eq_some_iff.mp e).1;obtain⟨ts,vs,e1,e2,e3⟩:=R.at_ n a (qZ n a e);refine⟨ts,vs,by rw[wb hn];exact e1,e2,jr (λn hn=>List.getElem?_append_left hn) hX ts e3 ?_⟩;rw[List.all_eq_true]at hc;refine hc ts (List.mem_of_getElem? (i:=n) ?_);rw[wb hn];exact e1
theorem P0{M:Mem}{n0 d:Nat}{t:T}{o:Ob}(h:qE M n0 d t=some (.ob o)):t=.ob o:=by
 cases d with
 |zero=>
  unfold qE at h;split at h
  ·cases h;rfl
  ·cases h
 |succ d=>
  unfold qE at h;split at h
  ·cases h;rfl
  ·cases t with
   |lst ts=>cases hh:ts.mapM (qE M n0 d)<;>simp[hh]at h
   |tup ts=>cases hh:ts.mapM (qE M n0 d)<;>simp[hh]at h
   |cell n=>
    cases hm:M[n]? with
    |none=>simp[hm]at h
    |some ts=>cases hh:ts.mapM (qE M n0 d)<;>simp[hm,hh]at h
   |_=>cases h
theorem JX(R0:RelM gl A X h M)(f:Frm A h h')(hB:∀b∈B,h.length<=b)(R:RelM gl (A++B) (X++B) h' M1){x:TB}{w:V}(q:QE gl (A++B) (X++B) h.length x w h' M1):Sim gl A X h (QE gl A X h.length) (finish M.length x M1) (.ok (w,h')):=by
 have hBX:∀b∈B,b∉X:=λb z y=>by have:=hB b z;have:=R0.lt b y;omega
 have hX:∀a,a∉X++B->a∉X:=λa x z=>x (wH _ z);have hg:∀{Z:List Nat},(∀a∈Z,h.length<=a)->∀(g:Nat) t,gl[g]?=some t->Rep A (X++Z) h' t (.ref g):=λhZ g t e=>zR (λ_ _ e=>e) (λa o x y=>⟨by
   rw[wE];rintro(z|z)
   ·exact x z
   ·have:=hZ a z;have:=qO y;omega,(R0.keepN f a o x y).2⟩) t (R0.glo g t e)
 unfold finish;rw[<-R0.len];split
 ·rename_i hl;have hB0:B=[]:=by
   have:=R.len;rw[List.length_append,hl]at this;exact List.length_eq_zero_iff.mp (by omega)
  subst hB0;rw[List.append_nil,List.append_nil]at R q;exact⟨w,h',rfl,f,R,q⟩
 split
 ·rename_i hc;refine Sim.ofO λt' et=>?_;have R':RelM gl A X h' (M1.take A.length):=by
   have:=JO (X':=X++[]) R (λa ha=>by simp at ha;exact wH _ ha) (λa ha=>by simp;exact R0.sub a ha) hc (hg λa ha=>by simp at ha);simpa using this
  refine⟨w,h',rfl,f,R',Q6 R hBX 6 _ _ _ et q.1,λe=>?_⟩;rw[vX]at e;rcases e with e|e
  ·obtain⟨fp,p,nd,l,Rf,nw⟩:=q.2 e;cases Qq (qBC A.length _ p) et;have cr:∀{Z:List Nat},(∀a∈Z,h.length<=a)->RelM gl (A++B) (X++B++Z) h' M1->RelM gl A (X++Z) h' (M1.take A.length):=λ{Z} hZ q=>JO q (λa ha=>by
    rcases wE.mp ha with z|z
    ·exact wH _ (wH _ z)
    ·exact wI _ z) (λa ha=>wH _ (R0.sub a ha)) hc (hg hZ)
   exact⟨fp,Zj (λa o x y=>⟨hX a x,y⟩) _ p,nd,l,cr l Rf,λkvs e=>by
    obtain⟨a,q1,q2,q3⟩:=nw kvs e;exact⟨a,q1,q2,cr (λz hz=>by rw[wK.mp hz];exact q2) q3⟩⟩
  ·unfold frR at e;split at e
   ·rename_i l el;have ndl:l.Nodup:=by simpa using e
    obtain⟨fp,p,pm,pn⟩:=w6 R hBX 6 _ _ _ _ el et q.1;have fB:∀a∈fp,a∈B:=λa ha=>by
     have:some a∈fp.map some:=List.mem_map_of_mem ha;rw[pm]at this;obtain⟨n,hn,en⟩:=wp.mp this;rw[List.getElem?_append_right (pn n hn)]at en;exact List.mem_of_getElem? en
    have nd:fp.Nodup:=by
     have:(fp.map some).Nodup:=by
      rw[pm];refine List.pairwise_map.mpr (List.Pairwise.imp_of_mem ?_ ndl);intro n m hn hm hnm e;have:(A++B)[n]?∈fp.map some:=by rw[pm];exact List.mem_map_of_mem hn
      obtain⟨a,_,ea⟩:=wp.mp this;exact hnm ((List.getElem?_inj (List.getElem?_eq_some_iff.mp ea.symm).1 R.nd).mp e)
     exact(List.pairwise_map.mp this).imp λ{a b} z e=>z (by rw[e])
    refine⟨fp,p,nd,λa ha=>hB a (fB a ha),JO R (λa ha=>?_) (λa ha=>wH _ (R0.sub a ha)) hc (hg λa ha=>hB a (fB a ha)),λkvs e=>by have e:t'=.ob (.dct kvs):=e;subst e;rw[P0 et]at el;simp[qz,T.lf]at el⟩;rcases wE.mp ha with z|z
    ·exact wH _ z
    ·exact wI _ (fB a z)
   ·cases e
 ·exact Sim.stuck
end
theorem JU{A X:List Nat}{h:AH}(n:Nat):∀{ts:List T}{ws:List V},qP A X h ts ws->jw A X h (ts.map some++List.replicate n none) (ws.map some++List.replicate n none)
 | [],ws,r=>by
  unfold qP at r;subst r;show jw A X h (List.replicate n none) (List.replicate n none)
  induction n with
  |zero=>rfl
  |succ n ih=>exact⟨none,_,rfl,trivial,ih⟩
 |t::ts,ws,r=>by
  unfold qP at r;obtain⟨v,vs,rfl,a,b⟩:=r;exact⟨some v,_,rfl,a,JU n b⟩
theorem qED(gl:List T)(tb:List Fn)(Cs:List (List Nat)):∀(k f:Nat) (ts:List T) (ws:List V) (A X:List Nat) (h:AH) (M:Mem),RelM gl A X h M->qP A X h ts ws->Sim gl A X h (QE gl A X h.length) (Pk gl tb Cs k f ts M) (Fk tb k f ws h)
 | 0,f,ts,ws,A,X,h,M,R,rs=>Sim.stuck
 |k+1,f,ts,ws,A,X,h,M,R,rs=>by
  unfold Pk Fk;cases ed:tb[f]? with
  |none=>exact Sim.stuck
  |some d=>
   dsimp only;rw[<-qC (reps_iff.mp rs)];split
   ·have s:=JY (Cs.getD f []) (qED gl tb Cs k) d.body A X h M _ _ R (JU (d.nslot-d.npar) rs);revert s;generalize pxs gl (Pk gl tb Cs k) (Cs.getD f []) d.body (ts.map some++List.replicate (d.nslot-d.npar) none) M=r;generalize exs (Fk tb k) d.body (ws.map some++List.replicate (d.nslot-d.npar) none) h=rh;intro s;cases r with
    |stuck=>exact Sim.stuck
    |exc c M1=>
     obtain⟨h',B,rfl,f1,hB,R1⟩:=s;show Sim gl A X h _ (if _ then _ else if _ then _ else _) _;split
     ·rename_i hl;have hB0:B=[]:=by
       have:=R1.len;rw[List.length_append,hl,R.len]at this;exact List.length_eq_zero_iff.mp (by omega)
      subst hB0;rw[List.append_nil,List.append_nil]at R1;exact⟨h',rfl,f1,R1⟩
     split
     ·rename_i hc;refine⟨h',rfl,f1,?_⟩;rw[<-R.len]at hc ⊢;exact JO R1 (λa ha=>wH _ ha) R.sub hc λg t e=>R.keep f1 (R.glo g t e)
     ·exact Sim.stuck
    |ok p=>
     obtain⟨o,M1⟩:=p;obtain⟨oh,h',B,rfl,f1,hB,R1,ro⟩:=s;rw[Res.bind_ok];cases o with
     |nx σ=>
      cases oh<;>first|exact ro.elim|skip
      have r:Rep (A++B) (X++B) h' (.v .non) .non:=by unfold Rep;exact⟨rfl,rfl⟩
      exact JX R f1 hB R1 (show QE gl (A++B) (X++B) h.length (.v .non,true) .non h' M1 from⟨r,λ_=>Frs.of_lf R1 r rfl⟩)
     |rt t=>
      cases oh<;>first|exact ro.elim|skip
      exact JX R f1 hB R1 ro
     |bk σ=>exact Sim.stuck
     |ct σ=>exact Sim.stuck
   ·exact Sim.stuck
noncomputable def glT(gs:List O):List T:=gs.map λo=>match o with | .tup xs=>.tup (xs.map .v) | .lst _ xs=>.fz (xs.map .v) | .ob _=>.v .non
noncomputable def qD2(gs:List O):Bool:=gs.all λo=>match o with | .tup xs=>xs.all flat|_=>false
theorem qE3{gs:List O}{tb:List Fn}{Cs:List (List Nat)}{k i:Nat}{ns:List Int}{b:Bool}{M':Mem}(hg:qD2 gs=true)(e:Pk (glT gs) tb Cs k i [.fz (ns.map λn=>.v (.int n))] []=.ok ((.v (.bl true),b),M')):
  ∃h',Fk tb k i [.ref gs.length] (gs++[.lst true (ns.map V.int)])=.ok (.bl true,h'):=by
 have R:RelM (glT gs) [] [] (gs++[.lst true (ns.map V.int)]) []:=by
  refine⟨rfl,vE,λa ha=>by simp at ha,λa ha=>by simp at ha,λn a e=>by simp at e,λg t eg=>?_⟩;unfold glT at eg;rw[wN]at eg;obtain⟨o,eo,rfl⟩:=Option.map_eq_some_iff.mp eg;unfold qD2 at hg;rw[List.all_eq_true]at hg;have ho:=hg o (List.mem_of_getElem? eo);cases o with
  |lst _ _=>cases ho
  |ob _=>cases ho
  |tup xs=>
   dsimp only;unfold Rep;exact⟨g,xs,rfl,by simp,by rw[List.getElem?_append_left (List.getElem?_eq_some_iff.mp eo).1];exact eo,jh ho⟩
 have rs:qP [] [] (gs++[O.lst true (ns.map V.int)]) [.fz (ns.map λn=>.v (.int n))] [.ref gs.length]:=by
  unfold qP;refine⟨_,[],rfl,?_,by unfold qP;rfl⟩;unfold Rep;refine⟨gs.length,ns.map V.int,rfl,by simp,by simp,?_⟩;have:ns.map (λn=>T.v (.int n))=(ns.map V.int).map .v:=by rw[wc];rfl
  rw[this];exact jh (by simp[flat])
 have s:=qED (glT gs) tb Cs k i _ _ [] [] _ [] R rs;rw[e]at s;obtain⟨w,h',e1,_,_,q⟩:=s;cases zK q.1;exact⟨h',e1⟩
noncomputable def qFB(t:T):Option TB:=match t with | .v (.int i)=>some (iT (-i))|_=>none
noncomputable def qCn(M:Mem)(p k x:T):Option Mem:=match p,k with
 | .cell n,.v (.int j)=>(M[n]?).bind λxs=>(L2.ixN xs.length j).map λj=>M.set n (xs.set j x)
 |_,_=>none
noncomputable def A6(M:Mem)(n:Nat)(x:T):Option Mem:=(M[n]?).bind λxs=>if xs.length<lim then some (M.set n (xs++[x])) else none
noncomputable def qB7(t:T):Option (List T):=match t with | .v (.int j)=>if -1000000<=j/\j<=100000 then some (qx 0 j.toNat) else none|_=>none
noncomputable def qDB(t:T):Option (List T):=match t with | .v (.int j)=>if -1000000<=j/\j<=1000000 then some (qx 0 j.toNat) else none|_=>none
section
variable{gl:List T}{P:Nat->List T->Mem->PR (TB×Mem)}{C:List Nat}{σ:TS}{M:Mem}{a b c e:E}{as lo hi:Es}
@[simp] theorem pe_var(i:Nat):pe gl P (.var i) σ M=match σ[i]? with|some (some t)=>.ok ((t,t.lf),M)|_=>.stuck:=Eq.trans rfl rfl
@[simp] theorem pe_int(i:Int):pe gl P (.cst (.int i)) σ M=.ok (iT i,M):=Eq.trans rfl rfl
@[simp] theorem pe_bl(i:Bool):pe gl P (.cst (.bl i)) σ M=.ok (bT i,M):=Eq.trans rfl rfl
@[simp] theorem pe_non:pe gl P (.cst .non) σ M=.ok ((.v .non,true),M):=Eq.trans rfl rfl
@[simp] theorem pe_str(s:PySem.Str):pe gl P (.cst (.str s)) σ M=.ok ((.v (.str s),true),M):=Eq.trans rfl rfl
@[simp] theorem pe_glob(g:Nat):pe gl P (.glob g) σ M=match gl[g]? with|some t=>.ok ((t,t.lf),M)|none=>.stuck:=Eq.trans rfl rfl
@[simp] theorem qEz(op:BOp):pe gl P (.bin op a b) σ M=(pe gl P a σ M).bind λp=>(pe gl P b σ p.2).bind λq=>(PR.ofO (qt q.2 op p.1.1 q.1.1)).bind λr=>.ok (r,q.2):=Eq.trans rfl rfl
@[simp] theorem qHE:pe gl P (.neg a) σ M=(pe gl P a σ M).bind λp=>(PR.ofO (qFB p.1.1)).bind λr=>.ok (r,p.2):=by
 show PR.bind _ _=_;dsimp only;congr 1;funext p;obtain⟨⟨p1,p3⟩,p2⟩:=p;dsimp only;unfold qFB;cases p1<;>first|rfl|skip
 rename_i x;cases x<;>rfl
@[simp] theorem X7(op:COp):pe gl P (.cmp op a b) σ M=(pe gl P a σ M).bind λp=>(pe gl P b σ p.2).bind λq=>(PR.ofO (qg q.2 op p.1.1 q.1.1)).bind λr=>.ok (bT r,q.2):=Eq.trans rfl rfl
@[simp] theorem qGE(o1 o2:COp):pe gl P (.cmp2 o1 o2 a b c) σ M=(pe gl P a σ M).bind λp=>(pe gl P b σ p.2).bind λq=>(PR.ofO (qg q.2 o1 p.1.1 q.1.1)).bind λr=>
  if r=true then (pe gl P c σ q.2).bind λz=>(PR.ofO (qg z.2 o2 q.1.1 z.1.1)).bind λr=>.ok (bT r,z.2) else .ok (bT false,q.2):=Eq.trans rfl rfl
@[simp] theorem pe_and:pe gl P (.and a b) σ M=(pB (pe gl P a σ M)).bind λp=>if p.1=true then pe gl P b σ p.2 else .ok (bT false,p.2):=Eq.trans rfl rfl
@[simp] theorem pe_or:pe gl P (.or a b) σ M=(pB (pe gl P a σ M)).bind λp=>if p.1=true then .ok (bT true,p.2) else pe gl P b σ p.2:=Eq.trans rfl rfl
@[simp] theorem pe_not:pe gl P (.not a) σ M=(pB (pe gl P a σ M)).bind λp=>.ok (bT (!p.1),p.2):=Eq.trans rfl rfl
@[simp] theorem qG2:pe gl P (.ite c a b) σ M=(pB (pe gl P c σ M)).bind λp=>if p.1=true then pe gl P a σ p.2 else pe gl P b σ p.2:=Eq.trans rfl rfl
@[simp] theorem pe_call(f:Nat):pe gl P (.call f as) σ M=(pes gl P as σ M).bind λp=>(P f (p.1.map (·.1)) p.2).nx:=Eq.trans rfl rfl
@[simp] theorem qEX(f:BF):pe gl P (.blt f as) σ M=(pes gl P as σ M).bind λp=>(PR.ofO (zr p.2 f (p.1.map (·.1)))).bind λr=>.ok (r,p.2):=Eq.trans rfl rfl
@[simp] theorem qG9(ts:List String):pe gl P (.isi a ts) σ M=(pe gl P a σ M).bind λp=>(PR.ofO (za p.2 p.1.1)).bind λt=>.ok (bT (ts.any (zk t)),p.2):=Eq.trans rfl rfl
@[simp] theorem qD1:pe gl P (.idx a b) σ M=(pe gl P a σ M).bind λp=>(pe gl P b σ p.2).bind λq=>(PR.ofO (zS q.2 p.1.1 q.1.1)).bind λr=>.ok (r,q.2):=Eq.trans rfl rfl
@[simp] theorem qIk:pe gl P (.sl a lo hi) σ M=(pe gl P a σ M).bind λp=>(pes gl P lo σ p.2).bind λl=>(pes gl P hi σ l.2).bind λu=>
  (PR.ofO (p.1.1.its u.2)).bind λxs=>(PR.ofO (zC (l.1.map (·.1)))).bind λi=>(PR.ofO (zC (u.1.map (·.1)))).bind λj=>(PR.ofO (qBF p.1.1 xs i.head? j.head?)).bind λr=>.ok (r,u.2):=Eq.trans rfl rfl
@[simp] theorem pe_lst:pe gl P (.lst as) σ M=(pes gl P as σ M).bind λp=>if p.1.length<=lim then .ok ((.lst (p.1.map (·.1)),p.1.all (·.2)),p.2) else .stuck:=Eq.trans rfl rfl
@[simp] theorem pe_tup:pe gl P (.tup as) σ M=(pes gl P as σ M).bind λp=>if p.1.length<=lim then .ok ((.tup (p.1.map (·.1)),p.1.all (·.2)),p.2) else .stuck:=Eq.trans rfl rfl
@[simp] theorem pe_comp(it:Itr)(src:List (Option Nat))(g:Tg)(c:Es):pe gl P (.comp it src g c e) σ M=(pei gl P it σ M).bind λp=>qK p.1.2 g (pec gl P c) (pe gl P e) p.1.1 [] true (zd src σ) p.2:=Eq.trans rfl rfl
@[simp] theorem qEw:pe gl P (.app a b) σ M=(pe gl P a σ M).bind λp=>match p.1.1 with
  | .cell n=>(pe gl P b σ p.2).bind λq=>(PR.ofO (A6 q.2 n q.1.1)).bind λM'=>.ok ((.v .non,true),M')
  |_=>.stuck:=by
 show PR.bind _ _=_;dsimp only;congr 1;funext p;obtain⟨⟨p1,p3⟩,p2⟩:=p;dsimp only;cases p1<;>dsimp only;congr 1;funext q;obtain⟨⟨q1,q3⟩,q2⟩:=q;dsimp only;unfold A6;rename_i n;cases h:q2[n]? with
 |none=>rfl
 |some xs=>
  dsimp only[Option.bind_some];split<;>rfl
@[simp] theorem qHa:pe gl P (.dix a b) σ M=(pe gl P a σ M).bind λp=>(pe gl P b σ p.2).bind λq=>(PR.ofO (qE7 p.1.1 q.1.1)).bind λr=>.ok (r,q.2):=Eq.trans rfl rfl
@[simp] theorem qF7:pe gl P (.dzip a b) σ M=(pe gl P a σ M).bind λp=>(pe gl P b σ p.2).bind λq=>(PR.ofO (p.1.1.lis q.2)).bind λxs=>(PR.ofO (q.1.1.lis q.2)).bind λys=>(PR.ofO (zC xs)).bind λis=>(PR.ofO (zp ys)).bind λvs=>
  if is.length<=lim/\vs.all flat=true then .ok ((.ob (.dct (zZ [] (is.zip vs))),true),q.2) else .stuck:=Eq.trans rfl rfl
@[simp] theorem qGV:pe gl P (.lrng a) σ M=(pe gl P a σ M).bind λp=>(PR.ofO (qB7 p.1.1)).bind λxs=>.ok ((.lst xs,true),p.2):=by
 show PR.bind _ _=_;dsimp only;congr 1;funext p;obtain⟨⟨p1,p3⟩,p2⟩:=p;dsimp only;unfold qB7;cases p1<;>first|rfl|skip
 rename_i x;cases x<;>first|rfl|skip
 dsimp only;split<;>rfl
@[simp] theorem qGK(m:Mt):pe gl P (.meth m a as) σ M=(pe gl P a σ M).bind λp=>match p.1.1 with
  | .cell n=>(pes gl P as σ p.2).bind λq=>PR.ofO (O3 m n (q.1.map (·.1)) q.2)
  |_=>.stuck:=Eq.trans rfl rfl
@[simp] theorem qFf:pe gl P .dnew σ M=.ok ((.ob (.dct []),true),M):=Eq.trans rfl rfl
@[simp] theorem j8:pes gl P .nil σ M=.ok ([],M):=Eq.trans rfl rfl
@[simp] theorem jm:pes gl P (.cons a as) σ M=(pe gl P a σ M).bind λp=>(pes gl P as σ p.2).bind λq=>.ok (p.1::q.1,q.2):=Eq.trans rfl rfl
@[simp] theorem qp:pec gl P .nil σ M=.ok (true,M):=Eq.trans rfl rfl
@[simp] theorem zF:pec gl P (.cons a as) σ M=pB (pe gl P a σ M):=Eq.trans rfl rfl
@[simp] theorem qFF:pei gl P (.list a) σ M=(pe gl P a σ M).bind λp=>(PR.ofO (A5 p.2 p.1.1)).bind λs=>.ok (s,p.2):=Eq.trans rfl rfl
@[simp] theorem qAf:pei gl P (.rng1 a) σ M=(pe gl P a σ M).bind λp=>(PR.ofO (qDB p.1.1)).bind λxs=>.ok ((xs,[]),p.2):=by
 show PR.bind _ _=_;dsimp only;congr 1;funext p;obtain⟨⟨p1,p3⟩,p2⟩:=p;dsimp only;unfold qDB;cases p1<;>first|rfl|skip
 rename_i x;cases x<;>first|rfl|skip
 dsimp only;split<;>rfl
@[simp] theorem qFS:pei gl P (.zip a b) σ M=(pe gl P a σ M).bind λp=>(pe gl P b σ p.2).bind λq=>(PR.ofO (Zk q.2 p.1.1)).bind λs=>(PR.ofO (Zk q.2 q.1.1)).bind λt=>
  .ok ((List.zipWith (λa b=>T.tup [a,b]) s.1 t.1,s.2++t.2),q.2):=Eq.trans rfl rfl
@[simp] theorem qFL:pei gl P (.enum a) σ M=(pe gl P a σ M).bind λp=>(PR.ofO (Zk p.2 p.1.1)).bind λs=>.ok ((jz 0 s.1,s.2),p.2):=Eq.trans rfl rfl
variable{s:S}{r t u:Ss}
@[simp] theorem k9(i:Nat):px gl P C (.asg (.name i) e) σ M=(pe gl P e σ M).bind λp=>if (C.contains i&&p.1.2)=true then .ok (.nx (σ.set i (some (thaw p.2.length p.1.1).1)),p.2++(thaw p.2.length p.1.1).2) else if (C.contains (i+1000)&&qDb e)=true then (match p.1.1 with | .lst ts=>.ok (.nx (σ.set i (some (.cell p.2.length))),p.2++[ts])|_=>.stuck) else .ok (.nx (σ.set i (some p.1.1)),p.2):=Eq.trans rfl rfl
@[simp] theorem qHk(is:List Nat):px gl P C (.asg (.tup is) e) σ M=(pe gl P e σ M).bind λp=>match qy (.tup is) p.1.1 σ with|some σ1=>.ok (.nx σ1,p.2)|none=>.stuck:=Eq.trans rfl rfl
@[simp] theorem qHK{o i v:E}:px gl P C (.put o i v) σ M=(pe gl P v σ M).bind λx=>(pe gl P o σ x.2).bind λp=>(pe gl P i σ p.2).bind λk=>(PR.ofO (qCn k.2 p.1.1 k.1.1 x.1.1)).bind λM'=>.ok (.nx σ,M'):=by
 show PR.bind _ _=_;dsimp only;congr 1;funext x;congr 1;funext p;congr 1;funext k;obtain⟨⟨k1,k3⟩,k2⟩:=k;obtain⟨⟨p1,p3⟩,p2⟩:=p;dsimp only;unfold qCn;cases p1<;>first|rfl|skip
 rename_i n;cases k1<;>first|rfl|skip
 rename_i y;cases y<;>first|rfl|skip
 rename_i j;dsimp only;cases h:k2[n]? with
 |none=>rfl
 |some xs=>
  dsimp only[Option.bind_some];have hj:PI.ixN xs.length j=L2.ixN xs.length j:=rfl;rw[hj];cases L2.ixN xs.length j with
  |none=>rfl
  |some j=>rfl
@[simp] theorem qCi:px gl P C (.expr e) σ M=(pe gl P e σ M).bind λp=>.ok (.nx σ,p.2):=Eq.trans rfl rfl
@[simp] theorem qBf:px gl P C (.ret e) σ M=(pe gl P e σ M).bind λp=>.ok (.rt p.1,p.2):=Eq.trans rfl rfl
@[simp] theorem i8:px gl P C (.ifs c t u) σ M=(pB (pe gl P c σ M)).bind λp=>if p.1=true then pxs gl P C t σ p.2 else pxs gl P C u σ p.2:=Eq.trans rfl rfl
@[simp] theorem qDK(g:Tg)(it:Itr):px gl P C (.for_ g it t) σ M=(pei gl P it σ M).bind λp=>qk p.1.2 g (pxs gl P C t) p.1.1 σ p.2:=Eq.trans rfl rfl
@[simp] theorem qFN:px gl P C .stop σ M=.stuck:=Eq.trans rfl rfl
@[simp] theorem zq:pxs gl P C .nil σ M=.ok (.nx σ,M):=Eq.trans rfl rfl
@[simp] theorem QW:pxs gl P C (.cons s r) σ M=(px gl P C s σ M).bind λp=>match p.1 with
  | .nx σ1=>pxs gl P C r σ1 p.2
  |o=>.ok (o,p.2):=Eq.trans rfl rfl
@[simp] theorem qFi(x:Bool):pB (.ok (bT x,M))=.ok (x,M):=Eq.trans rfl rfl
@[simp] theorem qI9(x f:Bool):pB (.ok ((T.v (.bl x),f),M))=.ok (x,M):=Eq.trans rfl rfl
@[simp] theorem qE9:pB .stuck=.stuck:=Eq.trans rfl rfl
@[simp] theorem qFE{α β:Type}(c:Nat)(M:Mem)(f:α->PR β):(PR.exc c M:PR α).bind f=.exc c M:=Eq.trans rfl rfl
end
@[simp] theorem qJA(x:V):T.lf (.v x)=true:=by rw[T.lf]
@[simp] theorem F4(n:Nat):T.lf (.cell n)=false:=by rw[T.lf]<;>simp
@[simp] theorem qGt(xs:List T):T.lf (.lst xs)=false:=by rw[T.lf]<;>simp
@[simp] theorem qHA(xs:List T):T.lf (.tup xs)=T.lfs xs:=by rw[T.lf]
@[simp] theorem qFs:T.lfs []=true:=by rw[T.lfs]
@[simp] theorem Qf(x:T)(xs:List T):T.lfs (x::xs)=(x.lf&&T.lfs xs):=by rw[T.lfs]
@[simp] theorem iT1(i:Int):(iT i).1=.v (.int i):=rfl
@[simp] theorem iT2(i:Int):(iT i).2=true:=rfl
@[simp] theorem bT1(i:Bool):(bT i).1=.v (.bl i):=rfl
@[simp] theorem bT2(i:Bool):(bT i).2=true:=rfl
@[simp] theorem lT1(xs:List T):(lT xs).1=.lst xs:=rfl
@[simp] theorem lT2(xs:List T):(lT xs).2=T.lfs xs:=rfl
@[simp] theorem qIK(x:V):T.isV (.v x)=some x:=rfl
@[simp] theorem qGb(x:List T):T.isV (.lst x)=none:=rfl
@[simp] theorem qF4(x:List T):T.isV (.tup x)=none:=rfl
@[simp] theorem qFG(x:Nat):T.isV (.cell x)=none:=rfl
section
variable{M:Mem}(i j:Int) (xs ys:List T)
@[simp] theorem qHX:qt M .add (.v (.int i)) (.v (.int j))=some (iT (i+j)):=rfl
@[simp] theorem qD4:qt M .sub (.v (.int i)) (.v (.int j))=some (iT (i-j)):=rfl
@[simp] theorem qCU:qt M .band (.v (.int i)) (.v (.int j))=some (iT (PySem.Builtin.bitAnd i j)):=rfl
theorem qDW{i j:Int}(h:(-18446744073709551616<i/\i<18446744073709551616)\/(-18446744073709551616<j/\j<18446744073709551616)):qt M .mul (.v (.int i)) (.v (.int j))=some (iT (i*j)):=by
 show (if (QV i||QV j||(mid i&&mid j))=true then _ else _)=_;rw[if_pos];rcases h with h|h
 ·have:QV i=true:=by unfold QV two64;exact vd h
  rw[this];rfl
 ·have:QV j=true:=by unfold QV two64;exact vd h
  rw[this,Bool.or_true];rfl
theorem qCy{i j:Int}(h:0<j/\j<1073741824):qt M .fdiv (.v (.int i)) (.v (.int j))=some (iT (i / j)):=by
 show (if 0<j/\(j<1073741824\/mid j=true) then _ else _)=_;rw[if_pos ⟨h.1,.inl h.2⟩]
theorem qDj{i j:Int}(h:0<j):qt M .mod (.v (.int i)) (.v (.int j))=some (iT (i % j)):=by
 show (if 0<j then _ else _)=_;rw[if_pos h]
theorem qE0{i j:Int}(h:0<=j/\j<=1000/\i.natAbs<18446744073709551616):qt M .pow (.v (.int i)) (.v (.int j))=some (iT (i ^ j.toNat)):=by
 show (if 0<=j/\j<=1000/\i.natAbs<18446744073709551616 then _ else _)=_;rw[if_pos h]
theorem qAz{xs ys:List T}(h:xs.length+ys.length<=lim):qt M .add (.lst xs) (.lst ys)=some (lT (xs++ys)):=by
 show (if xs.length+ys.length<=lim then _ else _)=_;rw[if_pos h]
@[simp] theorem qGG:qg M .lt (.v (.int i)) (.v (.int j))=some (decide (i<j)):=rfl
@[simp] theorem qF5:qg M .le (.v (.int i)) (.v (.int j))=some (decide (i<=j)):=rfl
@[simp] theorem qFy:qg M .gt (.v (.int i)) (.v (.int j))=some (decide (j<i)):=rfl
@[simp] theorem qFb:qg M .ge (.v (.int i)) (.v (.int j))=some (decide (j<=i)):=rfl
@[simp] theorem qGc:qg M .eq (.v (.int i)) (.v (.int j))=some (decide (i=j)):=by
 show some (i==j)=_;congr 1
@[simp] theorem qHU:zr M .list [.lst xs]=some (lT xs):=rfl
@[simp] theorem qHS:zr M .list [.tup xs]=some (lT xs):=rfl
@[simp] theorem qAv:zr M .max [.v (.int i),.v (.int j)]=some (iT (if j>i then j else i)):=rfl
@[simp] theorem qDz:zr M .min [.v (.int i),.v (.int j)]=some (iT (if j<i then j else i)):=rfl
@[simp] theorem qIm:zr M .int [.v (.int i)]=some (iT i):=rfl
@[simp] theorem qJG:za M (.v (.int i))=some "int":=rfl
@[simp] theorem qJF(b:Bool):za M (.v (.bl b))=some "bool":=rfl
@[simp] theorem qI0:za M (.lst xs)=some "list":=rfl
@[simp] theorem qI2:za M (.tup xs)=some "tuple":=rfl
@[simp] theorem qJD(kvs:List (Int×V)):za M (.ob (.dct kvs))=some "dict":=rfl
@[simp] theorem qJC:za M (.v .non)=some "NoneType":=rfl
@[simp] theorem qGg:A5 M (.lst xs)=some (xs,[]):=rfl
@[simp] theorem qHg:A5 M (.tup xs)=some (xs,[]):=rfl
@[simp] theorem qHj:A5 M (.fz xs)=some (xs,[]):=rfl
@[simp] theorem qHW:Zk M (.lst xs)=some (xs,[]):=rfl
end
@[simp] theorem lk0{α:Type}(x0:α)(l:List α):(x0::l)[0]?=some x0:=rfl
@[simp] theorem st0{α:Type}(x0 y:α)(l:List α):(x0::l).set 0 y=y::l:=rfl
@[simp] theorem lk1{α:Type}(x0 x1:α)(l:List α):(x0::x1::l)[1]?=some x1:=rfl
@[simp] theorem st1{α:Type}(x0 x1 y:α)(l:List α):(x0::x1::l).set 1 y=x0::y::l:=rfl
@[simp] theorem lk2{α:Type}(x0 x1 x2:α)(l:List α):(x0::x1::x2::l)[2]?=some x2:=rfl
@[simp] theorem st2{α:Type}(x0 x1 x2 y:α)(l:List α):(x0::x1::x2::l).set 2 y=x0::x1::y::l:=rfl
@[simp] theorem lk3{α:Type}(x0 x1 x2 x3:α)(l:List α):(x0::x1::x2::x3::l)[3]?=some x3:=rfl
@[simp] theorem st3{α:Type}(x0 x1 x2 x3 y:α)(l:List α):(x0::x1::x2::x3::l).set 3 y=x0::x1::x2::y::l:=rfl
@[simp] theorem lk4{α:Type}(x0 x1 x2 x3 x4:α)(l:List α):(x0::x1::x2::x3::x4::l)[4]?=some x4:=rfl
@[simp] theorem st4{α:Type}(x0 x1 x2 x3 x4 y:α)(l:List α):(x0::x1::x2::x3::x4::l).set 4 y=x0::x1::x2::x3::y::l:=rfl
@[simp] theorem lk5{α:Type}(x0 x1 x2 x3 x4 x5:α)(l:List α):(x0::x1::x2::x3::x4::x5::l)[5]?=some x5:=rfl
@[simp] theorem st5{α:Type}(x0 x1 x2 x3 x4 x5 y:α)(l:List α):(x0::x1::x2::x3::x4::x5::l).set 5 y=x0::x1::x2::x3::x4::y::l:=rfl
@[simp] theorem lk6{α:Type}(x0 x1 x2 x3 x4 x5 x6:α)(l:List α):(x0::x1::x2::x3::x4::x5::x6::l)[6]?=some x6:=rfl
@[simp] theorem st6{α:Type}(x0 x1 x2 x3 x4 x5 x6 y:α)(l:List α):(x0::x1::x2::x3::x4::x5::x6::l).set 6 y=x0::x1::x2::x3::x4::x5::y::l:=rfl
@[simp] theorem lk7{α:Type}(x0 x1 x2 x3 x4 x5 x6 x7:α)(l:List α):(x0::x1::x2::x3::x4::x5::x6::x7::l)[7]?=some x7:=rfl
@[simp] theorem st7{α:Type}(x0 x1 x2 x3 x4 x5 x6 x7 y:α)(l:List α):(x0::x1::x2::x3::x4::x5::x6::x7::l).set 7 y=x0::x1::x2::x3::x4::x5::x6::y::l:=rfl
@[simp] theorem lk8{α:Type}(x0 x1 x2 x3 x4 x5 x6 x7 x8:α)(l:List α):(x0::x1::x2::x3::x4::x5::x6::x7::x8::l)[8]?=some x8:=rfl
@[simp] theorem st8{α:Type}(x0 x1 x2 x3 x4 x5 x6 x7 x8 y:α)(l:List α):(x0::x1::x2::x3::x4::x5::x6::x7::x8::l).set 8 y=x0::x1::x2::x3::x4::x5::x6::x7::y::l:=rfl
@[simp] theorem lk9{α:Type}(x0 x1 x2 x3 x4 x5 x6 x7 x8 x9:α)(l:List α):(x0::x1::x2::x3::x4::x5::x6::x7::x8::x9::l)[9]?=some x9:=rfl
@[simp] theorem st9{α:Type}(x0 x1 x2 x3 x4 x5 x6 x7 x8 x9 y:α)(l:List α):(x0::x1::x2::x3::x4::x5::x6::x7::x8::x9::l).set 9 y=x0::x1::x2::x3::x4::x5::x6::x7::x8::y::l:=rfl
@[simp] theorem qI3{α:Type}(x0 x1 x2 x3 x4 x5 x6 x7 x8 x9 x10:α)(l:List α):(x0::x1::x2::x3::x4::x5::x6::x7::x8::x9::x10::l)[10]?=some x10:=rfl
@[simp] theorem qI7{α:Type}(x0 x1 x2 x3 x4 x5 x6 x7 x8 x9 x10 y:α)(l:List α):(x0::x1::x2::x3::x4::x5::x6::x7::x8::x9::x10::l).set 10 y=x0::x1::x2::x3::x4::x5::x6::x7::x8::x9::y::l:=rfl
@[simp] theorem qJE{α:Type}(x0 x1 x2 x3 x4 x5 x6 x7 x8 x9 x10 x11:α)(l:List α):(x0::x1::x2::x3::x4::x5::x6::x7::x8::x9::x10::x11::l)[11]?=some x11:=rfl
@[simp] theorem qI8{α:Type}(x0 x1 x2 x3 x4 x5 x6 x7 x8 x9 x10 x11 y:α)(l:List α):(x0::x1::x2::x3::x4::x5::x6::x7::x8::x9::x10::x11::l).set 11 y=x0::x1::x2::x3::x4::x5::x6::x7::x8::x9::x10::y::l:=rfl
@[simp] theorem qIv{α:Type}(x0 x1 x2 x3 x4 x5 x6 x7 x8 x9 x10 x11 x12:α)(l:List α):(x0::x1::x2::x3::x4::x5::x6::x7::x8::x9::x10::x11::x12::l)[12]?=some x12:=rfl
@[simp] theorem qI1{α:Type}(x0 x1 x2 x3 x4 x5 x6 x7 x8 x9 x10 x11 x12 y:α)(l:List α):(x0::x1::x2::x3::x4::x5::x6::x7::x8::x9::x10::x11::x12::l).set 12 y=x0::x1::x2::x3::x4::x5::x6::x7::x8::x9::x10::x11::y::l:=rfl
@[simp] theorem qI5{α:Type}(x0 x1 x2 x3 x4 x5 x6 x7 x8 x9 x10 x11 x12 x13:α)(l:List α):(x0::x1::x2::x3::x4::x5::x6::x7::x8::x9::x10::x11::x12::x13::l)[13]?=some x13:=rfl
@[simp] theorem qIx{α:Type}(x0 x1 x2 x3 x4 x5 x6 x7 x8 x9 x10 x11 x12 x13 y:α)(l:List α):(x0::x1::x2::x3::x4::x5::x6::x7::x8::x9::x10::x11::x12::x13::l).set 13 y=x0::x1::x2::x3::x4::x5::x6::x7::x8::x9::x10::x11::x12::y::l:=rfl
@[simp] theorem qIy{α:Type}(x0 x1 x2 x3 x4 x5 x6 x7 x8 x9 x10 x11 x12 x13 x14:α)(l:List α):(x0::x1::x2::x3::x4::x5::x6::x7::x8::x9::x10::x11::x12::x13::x14::l)[14]?=some x14:=rfl
@[simp] theorem qJB{α:Type}(x0 x1 x2 x3 x4 x5 x6 x7 x8 x9 x10 x11 x12 x13 x14 y:α)(l:List α):(x0::x1::x2::x3::x4::x5::x6::x7::x8::x9::x10::x11::x12::x13::x14::l).set 14 y=x0::x1::x2::x3::x4::x5::x6::x7::x8::x9::x10::x11::x12::x13::y::l:=rfl
@[simp] theorem qI4{α:Type}(x0 x1 x2 x3 x4 x5 x6 x7 x8 x9 x10 x11 x12 x13 x14 x15:α)(l:List α):(x0::x1::x2::x3::x4::x5::x6::x7::x8::x9::x10::x11::x12::x13::x14::x15::l)[15]?=some x15:=rfl
@[simp] theorem qIu{α:Type}(x0 x1 x2 x3 x4 x5 x6 x7 x8 x9 x10 x11 x12 x13 x14 x15 y:α)(l:List α):(x0::x1::x2::x3::x4::x5::x6::x7::x8::x9::x10::x11::x12::x13::x14::x15::l).set 15 y=x0::x1::x2::x3::x4::x5::x6::x7::x8::x9::x10::x11::x12::x13::x14::y::l:=rfl
theorem qL{gl:List T}{tb:List Fn}{Cs:List (List Nat)}{k f:Nat}{vs:List T}{M:Mem}{np ns:Nat}{b:Ss}(ht:tb[f]?=some ⟨np,ns,b⟩)(hl:vs.length=np/\np<=ns)(hk:1<=k):
  Pk gl tb Cs k f vs M=zY M.length (pxs gl (Pk gl tb Cs (k-1)) (Cs.getD f []) b (vs.map some++List.replicate (ns-np) none) M):=by
 obtain⟨k,rfl⟩:∃j,k=j+1:=⟨k-1,by omega⟩
 rw[Pk,ht];dsimp only;rw[if_pos hl];rfl
theorem qA{M M1:Mem}{t:TB}(h:M1.length=M.length):zY M.length (.ok (.rt t,M1))=.ok (t,M1):=by
 show finish M.length t M1=_;unfold finish;rw[if_pos h]
theorem jp{M M1:Mem}{σ:TS}(h:M1.length=M.length):zY M.length (.ok (.nx σ,M1))=.ok ((.v .non,true),M1):=by
 show finish M.length _ M1=_;unfold finish;rw[if_pos h]
noncomputable def N(n:Nat):T:=.v (.int (n:Int))
noncomputable def NL(L:List Nat):T:=.lst (L.map N)
theorem m9(n:Nat):qx 0 n=(List.range n).map N:=by
 unfold qx N;simp
theorem Q8(L:List Nat):T.lfs (L.map N)=true:=by
 induction L with
 |nil=>rfl
 |cons x L ih=>rw[List.map_cons,Qf,ih];rfl
theorem qHF(n:Nat):(N n).lf=true:=by unfold N;rfl
theorem Qu:∀L:List Nat,zp (L.map N)=some (L.map λ(n:Nat)=>V.int (n:Int))
 | []=>rfl
 |x::L=>by
  show (zp (L.map N)).map _=_;rw[Qu L];rfl
theorem qDE{M:Mem}(n:Nat)(L:List Nat):qg M .inn (N n) (NL L)=some (decide (n∈L)):=by
 show ((zp (L.map N)).map λxs=>xs.any λz=>L2.eqV z (.int (n:Int)))=_;rw[Qu,Option.map_some,List.any_map];congr 1;rw[wX];simp only[List.any_eq_true,Function.comp,ve];constructor
 ·rintro⟨x,hx,e⟩;have:x=n:=by
   have e':((x:Int)==(n:Int))=true:=e;rw[beq_iff_eq]at e';omega
  rwa [<-this]
 ·intro h;refine⟨n,h,?_⟩;show ((n:Int)==(n:Int))=true;rw[vh]
theorem S6{M:Mem}(n:Nat)(L:List Nat):qg M .notin (N n) (NL L)=some (!decide (n∈L)):=by
 have:=qDE (M:=M) n L;show (inT M (N n) (NL L)).map (!·)=_;rw[show inT M (N n) (NL L)=some (decide (n∈L)) from this];rfl
theorem K6{M:Mem}{d:Nat}:∀(L K:List Nat),L.length=K.length->zM (eqT M d) (L.map N) (K.map N)=some (List.zipWith (λ(a b:Nat)=>decide (a=b)) L K)
 | [],[],_=>rfl
 | [],_::_,h=>by simp at h
 |_::_,[],h=>by simp at h
 |a::L,b::K,h=>by
  have e:eqT M d (N a) (N b)=some (decide (a=b)):=by
   have:eqF (.int (a:Int)) (.int (b:Int))=some (decide (a=b)):=by
    show some ((a:Int)==(b:Int))=_;congr 1;rw[wX,beq_iff_eq,ve];omega
   cases d<;>(unfold eqT;exact this)
  rw[List.map_cons,List.map_cons,zM,e,K6 L K (by simpa using h)];rfl
theorem V9:∀(L K:List Nat),L.length=K.length->((List.zipWith (λ(a b:Nat)=>decide (a=b)) L K).all id=decide (L=K))
 | [],[],_=>rfl
 | [],_::_,h=>by simp at h
 |_::_,[],h=>by simp at h
 |a::L,b::K,h=>by
  rw[List.zipWith_cons_cons,List.all_cons,V9 L K (by simpa using h)];by_cases h1:a=b<;>by_cases h2:L=K<;>simp[h1,h2]
theorem T4{M:Mem}{d:Nat}(L K:List Nat):eqT M (d+1) (NL L) (NL K)=some (decide (L=K)):=by
 unfold eqT;show (if (L.map N).length=(K.map N).length then (zM (eqT M d) (L.map N) (K.map N)).map (λbs=>bs.all id) else some false)=_;rw[wO,wO];by_cases h:L.length=K.length
 ·rw[if_pos h,K6 L K h,Option.map_some,V9 L K h]
 ·rw[if_neg h];congr 1;symm;exact vc (λe=>h (by rw[e]))
theorem qEL{M:Mem}(L:List Nat):zr M .list [NL L]=some (NL L,true):=by
 show some (T.lst (L.map N),T.lfs (L.map N))=_;rw[Q8];rfl
theorem P7{M:Mem}{L K:List Nat}(h:L.length+K.length<=lim):qt M .add (NL L) (NL K)=some (NL (L++K),true):=by
 unfold NL;rw[qAz (by simpa using h)];show some (T.lst (L.map N++K.map N),T.lfs (L.map N++K.map N))=_;rw[<-wR,Q8]
@[simp] theorem qEH{d:jf}{g:Tg}{b:TS->Mem->RSt}{σ:TS}{M:Mem}:qk d g b [] σ M=.ok (.nx σ,M):=rfl
@[simp] theorem qj{i:Nat}{b:TS->Mem->RSt}{x:T}{r:List T}{σ:TS}{M:Mem}:qk [] (.name i) b (x::r) σ M=(b (σ.set i (some x)) M).bind λp=>match p.1 with
   | .nx σ2=>qk [] (.name i) b r σ2 p.2
   | .ct σ2=>qk [] (.name i) b r σ2 p.2
   | .bk σ2=>.ok (.nx σ2,p.2)
   | .rt t=>.ok (.rt t,p.2):=rfl
theorem S9{c:TS->Mem->PR (Bool×Mem)}{e:TS->Mem->PR (TB×Mem)}{M:Mem}{σ:TS}(p:Nat->Bool)(f:Nat->T)(fr:Nat->Bool):∀(its:List Nat) (ys:List T) (b:Bool) (o:Option T),ys.length+its.length<=lim ->
  (∀x∈its,c (some (N x)::σ) M=.ok (p x,M))->(∀x∈its,p x=true->e (some (N x)::σ) M=.ok ((f x,fr x),M)) ->
  qK [] (.name 0) c e (its.map N) ys b (o::σ) M=.ok ((.lst (ys++(its.filter p).map f),b&&(its.filter p).all fr),M)
 | [],ys,b,o,hl,hc,he=>by simp[qK]
 |x::r,ys,b,o,hl,hc,he=>by
  rw[List.map_cons];unfold qK;rw[show qy (.name 0) (N x) (o::σ)=some (some (N x)::σ) from rfl];dsimp only;rw[hc x (List.mem_cons_self ..)];rw[PR.bind_ok];dsimp only;cases hp:p x with
  |true=>
   rw[if_pos rfl,he x (List.mem_cons_self ..) hp,PR.bind_ok];dsimp only;rw[if_pos ⟨by simp at hl;omega,rfl⟩];rw[S9 p f fr r (ys++[f x]) (b&&fr x) (some (N x)) (by simp at hl ⊢;omega) (λy hy=>hc y (List.mem_cons_of_mem _ hy)) (λy hy=>he y (List.mem_cons_of_mem _ hy))];rw[List.filter_cons_of_pos hp];simp[Bool.and_assoc]
  |false=>
   rw[if_neg (by decide),if_pos (show qT [] M=true from rfl)];rw[S9 p f fr r ys b (some (N x)) (by simp at hl ⊢;omega) (λy hy=>hc y (List.mem_cons_of_mem _ hy)) (λy hy=>he y (List.mem_cons_of_mem _ hy))];rw[wY (by rw[hp];decide)]
theorem zX{c:TS->Mem->PR (Bool×Mem)}{e:TS->Mem->PR (TB×Mem)}{M:Mem}{σ:TS}{o:Option T}{its:List Nat}(p:Nat->Bool)(g:Nat->Nat)(hl:its.length<=lim)
  (hc:∀x∈its,c (some (N x)::σ) M=.ok (p x,M)) (he:∀x∈its,p x=true->e (some (N x)::σ) M=.ok ((N (g x),true),M)):
  qK [] (.name 0) c e (its.map N) [] true (o::σ) M=.ok ((NL ((its.filter p).map g),true),M):=by
 rw[S9 p (λx=>N (g x)) (λ_=>true) its [] true o (by simpa using hl) hc he];unfold NL;simp
 all_goals rfl
@[simp] theorem qAy{M:Mem}(a b:Nat):qt M .add (N a) (N b)=some (N (a+b),true):=by unfold N;simp[iT]
theorem qBp(L:List Nat):T.lf (NL L)=false:=by unfold NL;simp
noncomputable def nE(n:Nat):E:=.cst (.int (n:Int))
@[simp] theorem qH4{gl:List T}{P:Nat->List T->Mem->PR (TB×Mem)}{σ:TS}{M:Mem}(n:Nat):pe gl P (nE n) σ M=.ok ((N n,true),M):=by unfold nE;rw[pe_int];rfl
section
variable{M:Mem}(a b:Nat) (xs:List T)
@[simp] theorem lfN:(N a).lf=true:=qHF a
@[simp] theorem qH8:(N a).isV=some (.int (a:Int)):=rfl
@[simp] theorem qIw:za M (N a)=some "int":=rfl
@[simp] theorem qIi(L:List Nat):za M (NL L)=some "list":=rfl
theorem Zi{a b:Nat}(h:b<=a):qt M .sub (N a) (N b)=some (N (a-b),true):=by
 unfold N;rw[qD4];unfold iT;rw[Int.ofNat_sub h]
theorem Qw{a b:Nat}(h:a<18446744073709551616\/b<18446744073709551616):qt M .mul (N a) (N b)=some (N (a*b),true):=by
 unfold N;rw[qDW (by omega)];unfold iT;simp
theorem Qp{a b:Nat}(h:0<b/\b<1073741824):qt M .fdiv (N a) (N b)=some (N (a / b),true):=by
 unfold N;rw[qCy (by omega)];unfold iT;simp
theorem QR{a b:Nat}(h:0<b):qt M .mod (N a) (N b)=some (N (a % b),true):=by
 unfold N;rw[qDj (by omega)];unfold iT;simp
theorem qBU{a b:Nat}(h:b<=1000/\a<1000000):qt M .pow (N a) (N b)=some (N (a ^ b),true):=by
 unfold N;rw[qE0 (by omega)];unfold iT;simp
@[simp] theorem B7:qg M .lt (N a) (N b)=some (decide (a<b)):=by unfold N;rw[qGG];simp
@[simp] theorem qIZ:qg M .le (N a) (N b)=some (decide (a<=b)):=by unfold N;rw[qF5];simp
@[simp] theorem qFT:qg M .gt (N a) (N b)=some (decide (b<a)):=by unfold N;rw[qFy];simp
@[simp] theorem qIh:qg M .ge (N a) (N b)=some (decide (b<=a)):=by unfold N;rw[qFb];simp
@[simp] theorem qEM:qg M .eq (N a) (N b)=some (decide (a=b)):=by unfold N;rw[qGc];congr 1;rw[wX,ve,ve];omega
@[simp] theorem j9:qg M .ne (N a) (N b)=some (!decide (a=b)):=by
 show ((eqT M 4 (N a) (N b)).map (!·))=_;rw[show eqT M 4 (N a) (N b)=some (decide (a=b)) from qEM (M:=M) a b];rfl
@[simp] theorem ZP:zS M (.lst xs) (N a)=(xs[a]?).map λt=>(t,t.lf):=by
 show ((L2.ixN xs.length (a:Int)).bind λj=>(xs[j]?).map λt=>(t,t.lf))=_;unfold L2.ixN;rw[if_pos (by omega)];split
 ·simp
 ·rw[wU (by omega)];rfl
@[simp] theorem qd:zS M (.tup xs) (N a)=(xs[a]?).map λt=>(t,t.lf):=by
 show ((L2.ixN xs.length (a:Int)).bind λj=>(xs[j]?).map λt=>(t,t.lf))=_;unfold L2.ixN;rw[if_pos (by omega)];split
 ·simp
 ·rw[wU (by omega)];rfl
@[simp] theorem qBM:zr M .len [.lst xs]=some (N xs.length,true):=rfl
@[simp] theorem qE4:zr M .len [.tup xs]=some (N xs.length,true):=rfl
@[simp] theorem qGl:zr M .len [.fz xs]=some (N xs.length,true):=rfl
@[simp] theorem qEs(L:List Nat):zr M .len [NL L]=some (N L.length,true):=by unfold NL;rw[qBM,wO]
@[simp] theorem qGm:zr M .max [N a,N b]=some (N (max a b),true):=by
 unfold N;rw[qAv];unfold iT;congr 4;split<;>omega
@[simp] theorem qHI:zr M .min [N a,N b]=some (N (min a b),true):=by
 unfold N;rw[qDz];unfold iT;congr 4;split<;>omega
@[simp] theorem qIf:zr M .int [N a]=some (N a,true):=rfl
@[simp] theorem qHL(t:Bool):zr M .int [.v (.bl t)]=some (N t.toNat,true):=by cases t<;>rfl
@[simp] theorem qGk:zr M .bits [N a]=some (N (PySem.Builtin.Int.intBits (a:Int)),true):=rfl
theorem V5:qt M .band (N a) (N b)=some (N (a&&& b),true):=by
 unfold N;rw[qCU];unfold iT;rfl
end
theorem zI{n:Nat}(hn:n<=1000000):qDB (N n)=some ((List.range n).map N):=by
 show (if -1000000<=(n:Int)/\(n:Int)<=1000000 then some (qx 0 (n:Int).toNat) else none)=_;rw[if_pos (by omega),Int.toNat_natCast,m9]
theorem qC6{n:Nat}(hn:n<=100000):qB7 (N n)=some ((List.range n).map N):=by
 show (if -1000000<=(n:Int)/\(n:Int)<=100000 then some (qx 0 (n:Int).toNat) else none)=_;rw[if_pos (by omega),Int.toNat_natCast,m9]
theorem T7{M:Mem}{n j:Nat}{xs:List T}{x:T}(h:M[n]?=some xs)(hj:j<xs.length):qCn M (.cell n) (N j) x=some (M.set n (xs.set j x)):=by
 show ((M[n]?).bind λxs=>(L2.ixN xs.length (j:Int)).map λj=>M.set n (xs.set j x))=_;rw[h];show (L2.ixN xs.length (j:Int)).map _=_;unfold L2.ixN;rw[if_pos (by omega),if_pos (by omega)];simp
theorem JA{M:Mem}{n:Nat}{xs:List T}{x:T}(h:M[n]?=some xs)(hl:xs.length<lim):A6 M n x=some (M.set n (xs++[x])):=by
 unfold A6;rw[h];show (if xs.length<lim then _ else _)=_;rw[if_pos hl]
@[simp] theorem qDa(n a:Nat):thaw n (N a)=(N a,[]):=by unfold N;simp[thaw]
@[simp] theorem qHM{M:Mem}(L:List Nat):A5 M (NL L)=some (L.map N,[]):=rfl
@[simp] theorem qHC{M:Mem}(x f:Bool):pB (PR.ok ((T.v (V.bl x),f),M))=.ok (x,M):=Eq.trans rfl rfl
theorem qq{α:Type}:∀l:List α,l.filter (λ_=>true)=l
 | []=>rfl
 |x::l=>by rw[List.filter_cons_of_pos rfl,qq l]
theorem Qx{gl:List T}{P:Nat->List T->Mem->PR (TB×Mem)}{e:TS->Mem->PR (TB×Mem)}{M:Mem}{σ:TS}{o:Option T}{its:List Nat}(g:Nat->Nat)(hl:its.length<=lim)
  (he:∀x∈its,e (some (N x)::σ) M=.ok ((N (g x),true),M)):qK [] (.name 0) (pec gl P .nil) e (its.map N) [] true (o::σ) M=.ok ((NL (its.map g),true),M):=
 (zX (λ_=>true) g hl (λx _=>by simp) (λx hx _=>he x hx)).trans (by rw[qq])
@[simp] theorem qCL{M:Mem}{n j:Nat}{x:T}:qCn M (.cell n) (N j) x=(M[n]?).bind λxs=>if j<xs.length then some (M.set n (xs.set j x)) else none:=by
 show ((M[n]?).bind λxs=>(L2.ixN xs.length (j:Int)).map λj=>M.set n (xs.set j x))=_;congr 1
 funext xs
 unfold L2.ixN;rw[if_pos (by omega)];by_cases h:j<xs.length
 ·rw[if_pos (by omega),if_pos h];simp
 ·rw[if_neg (by omega),if_neg h];rfl
@[simp] theorem qHu{M:Mem}{n a:Nat}:zS M (.cell n) (N a)=(M[n]?).bind λxs=>(xs[a]?).map λt=>(t,t.lf):=by
 show ((M[n]?).bind λxs=>(L2.ixN xs.length (a:Int)).bind λj=>(xs[j]?).map λt=>(t,t.lf))=_;congr 1
 funext xs
 exact ZP (M:=M) a xs
@[simp] theorem qGd(a:Nat):qFB (N a)=some (iT (-(a:Int))):=rfl
@[simp] theorem qHB(a:Int):qFB (.v (.int a))=some (iT (-a)):=rfl
@[simp] theorem qHw(a:Nat):zC [N a]=some [(a:Int)]:=rfl
@[simp] theorem qIc:zC []=some []:=rfl
@[simp] theorem qIq{M:Mem}(xs:List T):T.its M (.lst xs)=some xs:=rfl
@[simp] theorem qIE{M:Mem}(xs:List T):T.its M (.fz xs)=some xs:=rfl
@[simp] theorem qH3{M:Mem}(xs:List T):T.its M (.tup xs)=some xs:=rfl
@[simp] theorem qID{M:Mem}(L:List Nat):T.its M (NL L)=some (L.map N):=rfl
@[simp] theorem qGn(ys xs:List T)(lo hi:Option Int):qBF (.lst ys) xs lo hi=some (lT (JN xs lo hi)):=rfl
@[simp] theorem qG8(ys xs:List T)(lo hi:Option Int):qBF (.fz ys) xs lo hi=some (lT (JN xs lo hi)):=rfl
@[simp] theorem qGq(L:List Nat)(xs:List T)(lo hi:Option Int):qBF (NL L) xs lo hi=some (lT (JN xs lo hi)):=rfl
@[simp] theorem qGi(n:Nat)(xs:List T)(lo hi:Option Int):qBF (.cell n) xs lo hi=some (lT (JN xs lo hi)):=rfl
@[simp] theorem qIj{M:Mem}(xs:List T):T.lis M (.lst xs)=some xs:=rfl
@[simp] theorem qH0{M:Mem}(xs:List T):T.lis M (.fz xs)=some xs:=rfl
@[simp] theorem qIN{M:Mem}(L:List Nat):T.lis M (NL L)=some (L.map N):=rfl
theorem qCX(xs:List T)(k:Nat):JN xs (some (k:Int)) (some ((k+1:Nat):Int))=(xs.drop k).take 1:=by
 unfold JN;rw[HT.sIx_nat,HT.sIx_nat];by_cases h:k<xs.length
 ·rw[vB (by omega),vB (by omega),show k+1-k=1 by omega]
 ·rw[Nat.min_eq_right (by omega),Nat.min_eq_right (by omega),List.drop_eq_nil_of_le (Nat.le_refl _),List.drop_eq_nil_of_le (by omega)];simp
theorem Zw{c:TS->Mem->PR (Bool×Mem)}{e:TS->Mem->PR (TB×Mem)}{σ:TS}{I:Mem->Prop}{R:Nat->Bool->Prop}:∀(its ys:List Nat) (b:Bool) (o:Option T) (M:Mem),its.Nodup->ys.length+its.length<=lim->I M ->
  (∀x∈its,∀M,I M->∃t M',c (some (N x)::σ) M=.ok (t,M')/\I M'/\R x t)->(∀x∈its,∀M,I M->e (some (N x)::σ) M=.ok ((N x,true),M)) ->
  ∃q M',qK [] (.name 0) c e (its.map N) (ys.map N) b (o::σ) M=.ok ((NL (ys++its.filter q),b),M')/\I M'/\∀x∈its,R x (q x)
 | [],ys,b,o,M,nd,hl,hI,hc,he=>⟨λ_=>true,M,by simp[qK,NL],hI,λx hx=>by simp at hx⟩
 |x::r,ys,b,o,M,nd,hl,hI,hc,he=>by
  have ndr:=(List.nodup_cons.mp nd).2;have hx:=(List.nodup_cons.mp nd).1;obtain⟨t,M1,e1,i1,r1⟩:=hc x (List.mem_cons_self ..) M hI;rw[List.map_cons];unfold qK;rw[show qy (.name 0) (N x) (o::σ)=some (some (N x)::σ) from rfl];dsimp only;rw[e1,PR.bind_ok];dsimp only;have key:∀(q:Nat->Bool),(∀y∈r,R y (q y))->(r.filter (λy=>if y=x then t else q y)=r.filter q)/\∀y∈x::r,R y (if y=x then t else q y):=λq hq=>by
   constructor
   ·apply List.filter_congr;intro y hy;rw[if_neg (by rintro rfl;exact hx hy)]
   ·intro y hy;rcases List.mem_cons.mp hy with h1|h1
    ·rw[if_pos h1,h1];exact r1
    ·rw[if_neg (by rintro rfl;exact hx h1)];exact hq y h1
  cases t with
  |true=>
   rw[if_pos rfl,he x (List.mem_cons_self ..) M1 i1,PR.bind_ok];dsimp only;rw[if_pos ⟨by simp at hl ⊢;omega,rfl⟩];obtain⟨q,M2,e2,i2,r2⟩:=Zw (I:=I) (R:=R) r (ys++[x]) b (some (N x)) M1 ndr (by simp at hl ⊢;omega) i1 (λy hy=>hc y (List.mem_cons_of_mem _ hy)) (λy hy=>he y (List.mem_cons_of_mem _ hy));obtain⟨k1,k2⟩:=key q r2;refine⟨λy=>if y=x then true else q y,M2,?_,i2,k2⟩;rw[show ys.map N++[N x]=(ys++[x]).map N by simp,Bool.and_true,e2,List.filter_cons_of_pos (by simp),k1];simp
  |false=>
   rw[if_neg (by decide),if_pos (show qT [] M1=true from rfl)];obtain⟨q,M2,e2,i2,r2⟩:=Zw (I:=I) (R:=R) r ys b (some (N x)) M1 ndr (by simp at hl ⊢;omega) i1 (λy hy=>hc y (List.mem_cons_of_mem _ hy)) (λy hy=>he y (List.mem_cons_of_mem _ hy));obtain⟨k1,k2⟩:=key q r2;refine⟨λy=>if y=x then false else q y,M2,?_,i2,k2⟩;rw[e2,wY (by simp),k1]
@[simp] theorem qFD(i j:Nat)(a b:T)(σ:TS):qy (.tup [i,j]) (.tup [a,b]) σ=some ((σ.set i (some a)).set j (some b)):=rfl
@[simp] theorem qDH(σ:TS):zd [] σ=[]:=rfl
@[simp] theorem qC2(r:List (Option Nat))(σ:TS):zd (none::r) σ=none::zd r σ:=rfl
@[simp] theorem qCk(j:Nat)(r:List (Option Nat))(σ:TS):zd (some j::r) σ=(σ[j]?).join::zd r σ:=rfl
theorem m7(x:V)(f:Bool)(M1:Mem):∃b M2,zY ([]:Mem).length (.ok (.rt (.v x,f),M1))=.ok ((.v x,b),M2):=by
 show ∃b M2,finish 0 (.v x,f) M1=_;unfold finish;by_cases h:M1.length=0
 ·rw[if_pos h];exact⟨f,M1,rfl⟩
 ·rw[if_neg h,if_pos (by simp)];rw[show qE M1 0 6 (T.v x)=some (.v x) by unfold qE;rw[if_pos (by unfold T.und;rfl)]];exact⟨_,_,rfl⟩
mutual
theorem qAg:∀t:T,T.beq t t=true
 | .v x=>by unfold T.beq;simp
 | .cell x=>by unfold T.beq;simp
 | .ob x=>by unfold T.beq;simp
 | .fz xs=>by unfold T.beq;exact jF xs
 | .lst xs=>by unfold T.beq;exact jF xs
 | .tup xs=>by unfold T.beq;exact jF xs
theorem jF:∀ts:List T,T.beqs ts ts=true
 | []=>rfl
 |t::ts=>by unfold T.beqs;rw[qAg t,jF ts];rfl
end
mutual
theorem G9{a b:Nat}(h:a<=b):∀t:T,t.und a=true->t.und b=true
 | .v x,_=>rfl
 | .cell k,e=>by unfold T.und at e ⊢;simp at e ⊢;omega
 | .ob x,_=>rfl
 | .fz xs,e=>by unfold T.und at e ⊢;exact zH h xs e
 | .lst xs,e=>by unfold T.und at e ⊢;exact zH h xs e
 | .tup xs,e=>by unfold T.und at e ⊢;exact zH h xs e
theorem zH{a b:Nat}(h:a<=b):∀ts:List T,T.unds a ts=true->T.unds b ts=true
 | [],_=>rfl
 |t::ts,e=>by unfold T.unds at e ⊢;rw[Bool.and_eq_true]at e;rw[G9 h t e.1,zH h ts e.2];rfl
end
def FlatM(M:Mem):Prop:=∀c∈M,T.unds 0 c=true
theorem FlatM.all{M:Mem}(h:FlatM M)(n:Nat):M.all (T.unds n)=true:=by
 rw[List.all_eq_true];exact λc hc=>zH (Nat.zero_le _) c (h c hc)
theorem FlatM.app{A B:Mem}(h:FlatM A)(k:FlatM B):FlatM (A++B):=λc hc=>by
 rcases wE.mp hc with z|z
 ·exact h c z
 ·exact k c z
theorem W9(n a:Nat):(N a).und n=true:=by unfold N T.und;rfl
theorem jS(n:Nat):∀L:List Nat,T.unds n (L.map N)=true
 | []=>rfl
 |x::L=>by rw[List.map_cons];unfold T.unds;rw[W9,jS n L];rfl
theorem ZO{M:Mem}{n0 d:Nat}:∀L:List Nat,(L.map N).mapM (qE M n0 d)=some (L.map N)
 | []=>rfl
 |x::L=>by
  rw[List.map_cons,List.mapM_cons,ZO L];have:qE M n0 d (N x)=some (N x):=by cases d<;>(unfold qE;rw[if_pos (W9 _ _)])
  rw[this];rfl
theorem j5{M:Mem}{n0 d:Nat}:∀L:List Nat,(L.map N).mapM (qz M n0 d)=some (L.map λ_=>[])
 | []=>rfl
 |x::L=>by
  rw[List.map_cons,List.mapM_cons,j5 L];have:qz M n0 d (N x)=some []:=by cases d<;>(unfold qz;rw[if_pos (qHF _)])
  rw[this];rfl
theorem U3(L:List Nat):(L.map λ_=>([]:List Nat)).flatten=[]:=by
 induction L with
 |nil=>rfl
 |cons x L ih=>rw[List.map_cons,List.flatten_cons,ih];rfl
theorem JG{d:jf}{c:TS->Mem->PR (Bool×Mem)}{e:TS->Mem->PR (TB×Mem)}{M:Mem}{σ:TS}(p:Nat->Bool)(f:Nat->T)(fr:Nat->Bool):∀(its:List Nat) (ys:List T) (b:Bool) (o:Option T),qT d M=true->ys.length+its.length<=lim ->
  (∀x∈its,c (some (N x)::σ) M=.ok (p x,M))->(∀x∈its,p x=true->e (some (N x)::σ) M=.ok ((f x,fr x),M)) ->
  qK d (.name 0) c e (its.map N) ys b (o::σ) M=.ok ((.lst (ys++(its.filter p).map f),b&&(its.filter p).all fr),M)
 | [],ys,b,o,hd,hl,hc,he=>by simp[qK]
 |x::r,ys,b,o,hd,hl,hc,he=>by
  rw[List.map_cons];unfold qK;rw[show qy (.name 0) (N x) (o::σ)=some (some (N x)::σ) from rfl];dsimp only;rw[hc x (List.mem_cons_self ..)];rw[PR.bind_ok];dsimp only;cases hp:p x with
  |true=>
   rw[if_pos rfl,he x (List.mem_cons_self ..) hp,PR.bind_ok];dsimp only;rw[if_pos ⟨by simp at hl;omega,hd⟩];rw[JG p f fr r (ys++[f x]) (b&&fr x) (some (N x)) hd (by simp at hl ⊢;omega) (λy hy=>hc y (List.mem_cons_of_mem _ hy)) (λy hy=>he y (List.mem_cons_of_mem _ hy))];rw[List.filter_cons_of_pos hp];simp[Bool.and_assoc]
  |false=>
   rw[if_neg (by decide),if_pos hd];rw[JG p f fr r ys b (some (N x)) hd (by simp at hl ⊢;omega) (λy hy=>hc y (List.mem_cons_of_mem _ hy)) (λy hy=>he y (List.mem_cons_of_mem _ hy))];rw[wY (by rw[hp];decide)]
theorem JH{d:jf}{c:TS->Mem->PR (Bool×Mem)}{e:TS->Mem->PR (TB×Mem)}{M:Mem}{σ:TS}{o:Option T}{its:List Nat}(p:Nat->Bool)(g:Nat->Nat)(hd:qT d M=true)(hl:its.length<=lim)
  (hc:∀x∈its,c (some (N x)::σ) M=.ok (p x,M)) (he:∀x∈its,p x=true->e (some (N x)::σ) M=.ok ((N (g x),true),M)):
  qK d (.name 0) c e (its.map N) [] true (o::σ) M=.ok ((NL ((its.filter p).map g),true),M):=by
 rw[JG p (λx=>N (g x)) (λ_=>true) its [] true o hd (by simpa using hl) hc he];unfold NL;simp
 all_goals rfl
theorem W7(n:Nat):∀L:List Nat,zh n (L.map N)=(L.map N,[])
 | []=>by simp[zh]
 |x::L=>by
  rw[List.map_cons,zh,qDa];dsimp only;rw[List.length_nil,Nat.add_zero,W7 n L];rfl
@[simp] theorem qh(n:Nat)(L:List Nat):thaw n (NL L)=(.cell n,[L.map N]):=by
 unfold NL;rw[thaw,W7];rfl
theorem qE2{M:Mem}{n d:Nat}{L:List Nat}(h:M[n]?=some (L.map N))(K:List Nat):eqT M (d+1) (.cell n) (NL K)=some (decide (L=K)):=by
 have:=T4 (M:=M) (d:=d) L K;unfold eqT at this ⊢;rw[show T.lis M (.cell n)=some (L.map N) from h];exact this
theorem JJ{M:Mem}{d:Nat}{a b c e:T}{x y:Bool}(h1:eqT M d a c=some x)(h2:eqT M d b e=some y):eqT M (d+1) (.tup [a,b]) (.tup [c,e])=some (x&&y):=by
 unfold eqT;show (if ([a,b]:List T).length=[c,e].length then (zM (eqT M d) [a,b] [c,e]).map (λ(bs:List Bool)=>bs.all id) else _)=_;rw[if_pos (by simp)];unfold zM;rw[h1];unfold zM;rw[h2];simp[zM]
theorem F7{M:Mem}{n:Nat}{ts:List T}(h:M[n]?=some ts):qT [(n,ts)] M=true:=by
 unfold qT;simp[h,jF]
theorem jk{M:Mem}{n:Nat}{ts:List T}(h:M[n]?=some ts):A5 M (.cell n)=some (ts,[(n,ts)]):=by
 unfold A5;dsimp only;rw[h];rfl
theorem qG3{M:Mem}{n:Nat}{ts:List T}(h:M[n]?=some ts):za M (.cell n)=some "list":=by
 unfold za;dsimp only;rw[h];rfl
structure IsL(M:Mem)(t:T)(L:List Nat):Prop where
 its:t.its M=some (L.map N)
 lis:t.lis M=some (L.map N)
 ty:za M t=some "list"
 src:∃d,A5 M t=some (L.map N,d)/\Zk M t=some (L.map N,d)/\qT d M=true
 nv:t.isV=none
theorem IsL.nl(M:Mem)(L:List Nat):IsL M (NL L) L:=⟨rfl,rfl,rfl,⟨[],rfl,rfl,rfl⟩,rfl⟩
theorem IsL.cell{M:Mem}{n:Nat}{L:List Nat}(h:M[n]?=some (L.map N)):IsL M (.cell n) L:=⟨h,h,qG3 h,⟨_,jk h,jk h,F7 h⟩,rfl⟩
section
variable{M:Mem}{t u:T}{L K:List Nat}
theorem IsL.len(h:IsL M t L):zr M .len [t]=some (N L.length,true):=by
 show (t.its M).map _=_;rw[h.its,Option.map_some,wO];rfl
theorem IsL.list(h:IsL M t L):zr M .list [t]=some (NL L,true):=by
 show (t.its M).map lT=_;rw[h.its,Option.map_some];show some (T.lst (L.map N),T.lfs (L.map N))=_;rw[Q8];rfl
theorem qBQ:∀L:List Nat,zC (L.map N)=some (L.map λ(n:Nat)=>(n:Int))
 | []=>rfl
 |x::L=>by
  show (zC (L.map N)).map _=_;rw[qBQ L];rfl
theorem qBN:∀L:List Nat,jZ (L.map N)=some (L.map λ(n:Nat)=>(n:Int))
 | []=>rfl
 |x::L=>by
  show (jZ (L.map N)).map _=_;rw[qBN L];rfl
theorem L6:∀L:List Nat,(L.map λ(n:Nat)=>(n:Int)).sum=((L.sum:Nat):Int)
 | []=>rfl
 |x::L=>by rw[List.map_cons,List.sum_cons,L6 L,List.sum_cons];simp
theorem IsL.sum(h:IsL M t L):zr M .sum [t]=some (N L.sum,true):=by
 show (t.lis M).bind _=_;rw[h.lis,Option.bind_some,qBN,Option.map_some,L6];rfl
theorem IsL.idx(h:IsL M t L){i:Nat}{x:Nat}(e:L[i]?=some x):zS M t (N i)=some (N x,true):=by
 show ((t.its M).bind λxs=>(L2.ixN xs.length (i:Int)).bind λj=>(xs[j]?).map λt=>(t,t.lf))=_;rw[h.its,Option.bind_some];have:=ZP (M:=M) i (L.map N);rw[show zS M (.lst (L.map N)) (N i)=((L2.ixN (L.map N).length (i:Int)).bind λj=>((L.map N)[j]?).map λt=>(t,t.lf)) from rfl]at this;rw[this,wN,e];simp
theorem IsL.eq(h:IsL M t L)(k:IsL M u K):eqT M 4 t u=some (decide (L=K)):=by
 have:=T4 (M:=M) (d:=3) L K;unfold eqT at this ⊢;rw[h.nv,k.nv,h.lis,k.lis];exact this
theorem IsL.ceq(h:IsL M t L)(k:IsL M u K):qg M .eq t u=some (decide (L=K)):=h.eq k
theorem IsL.cne(h:IsL M t L)(k:IsL M u K):qg M .ne t u=some (!decide (L=K)):=by
 show (eqT M 4 t u).map (!·)=_;rw[h.eq k];rfl
end
theorem d7{xs:List T}{m:Nat}(h:m<=xs.length):JN xs none (some (m:Int))=xs.take m:=by
 unfold JN;rw[HT.sIx_none,HT.sIx_nat,vB h,List.drop_zero,Nat.sub_zero]
theorem m6{xs:List T}{m:Nat}(h:m<=xs.length):JN xs (some (m:Int)) none=xs.drop m:=by
 unfold JN;rw[HT.sIx_none,HT.sIx_nat,vB h];exact List.take_of_length_le (by simp)
theorem L3{gl:List T}{P:Nat->List T->Mem->PR (TB×Mem)}{e:TS->Mem->PR (TB×Mem)}{σ:TS}{I:Mem->Prop}{R:Nat->Prop}:∀(its ys:List Nat) (b:Bool) (o:Option T) (M:Mem),ys.length+its.length<=lim->I M ->
  (∀x∈its,∀M,I M->∃y M',e (some (N x)::σ) M=.ok ((N y,true),M')/\I M'/\R y) ->
  ∃K M',qK [] (.name 0) (pec gl P .nil) e (its.map N) (ys.map N) b (o::σ) M=.ok ((NL (ys++K),b),M')/\I M'/\K.length=its.length/\∀y∈K,R y
 | [],ys,b,o,M,hl,hI,he=>⟨[],M,by simp[qK,NL],hI,rfl,λy hy=>by simp at hy⟩
 |x::r,ys,b,o,M,hl,hI,he=>by
  obtain⟨y,M1,e1,i1,r1⟩:=he x (List.mem_cons_self ..) M hI;rw[List.map_cons];unfold qK;rw[show qy (.name 0) (N x) (o::σ)=some (some (N x)::σ) from rfl];dsimp only;rw[qp,PR.bind_ok];dsimp only;rw[if_pos rfl,e1,PR.bind_ok];dsimp only;rw[if_pos ⟨by simp at hl ⊢;omega,rfl⟩];obtain⟨K,M2,e2,i2,l2,r2⟩:=L3 (gl:=gl) (P:=P) (I:=I) (R:=R) r (ys++[y]) b (some (N x)) M1 (by simp at hl ⊢;omega) i1 (λy hy=>he y (List.mem_cons_of_mem _ hy));refine⟨y::K,M2,?_,i2,by simp[l2],λz hz=>?_⟩
  ·rw[show ys.map N++[N y]=(ys++[y]).map N by simp,Bool.and_true,e2];simp
  ·rcases List.mem_cons.mp hz with h1|h1
   ·rw[h1];exact r1
   ·exact r2 z h1
theorem J0{gl:List T}{P:Nat->List T->Mem->PR (TB×Mem)}{d:jf}{e:TS->Mem->PR (TB×Mem)}{M:Mem}(f:Nat->Nat->Nat)(hd:qT d M=true):∀(A B ys:List Nat) (b:Bool) (o1 o2:Option T),ys.length+A.length<=lim ->
  (∀x y,x∈A->y∈B->e [some (N x),some (N y)] M=.ok ((N (f x y),true),M)) ->
  qK d (.tup [0,1]) (pec gl P .nil) e (List.zipWith (λa b=>T.tup [a,b]) (A.map N) (B.map N)) (ys.map N) b [o1,o2] M=.ok ((NL (ys++List.zipWith f A B),b),M)
 | [],B,ys,b,o1,o2,hl,he=>by simp[qK,NL]
 |x::A,[],ys,b,o1,o2,hl,he=>by simp[qK,NL]
 |x::A,y::B,ys,b,o1,o2,hl,he=>by
  rw[List.map_cons,List.map_cons,List.zipWith_cons_cons];unfold qK;rw[show qy (.tup [0,1]) (.tup [N x,N y]) [o1,o2]=some [some (N x),some (N y)] from rfl];dsimp only;rw[qp,PR.bind_ok];dsimp only;rw[if_pos rfl,he x y (List.mem_cons_self ..) (List.mem_cons_self ..),PR.bind_ok];dsimp only;rw[if_pos ⟨by simp at hl ⊢;omega,hd⟩];rw[show ys.map N++[N (f x y)]=(ys++[f x y]).map N by simp,Bool.and_true];rw[J0 f hd A B (ys++[f x y]) b _ _ (by simp at hl ⊢;omega) (λu v hu hv=>he u v (List.mem_cons_of_mem _ hu) (List.mem_cons_of_mem _ hv))];simp
theorem W1{M:Mem}(h:FlatM M)(A:List Nat)(f:Bool):zY M.length (.ok (.rt (.cell M.length,f),M++[A.map N]))=.ok ((NL A,true),M):=by
 show finish M.length _ _=_;unfold finish;rw[if_neg (by simp),if_pos (by rw[List.take_left'];exact h.all _;rfl)];have g0:(M++[A.map N])[M.length]?=some (A.map N):=by simp
 have r:qE (M++[A.map N]) M.length 6 (.cell M.length)=some (NL A):=by
  unfold qE;rw[if_neg (by unfold T.und;simp)];dsimp only;rw[g0,Option.bind_some,ZO];rfl
 have i:frR (M++[A.map N]) M.length (.cell M.length)=true:=by
  unfold frR;rw[show qz (M++[A.map N]) M.length 6 (.cell M.length)=some [M.length] by
   unfold qz;rw[if_neg (by rw[F4];decide)];dsimp only;rw[if_pos (Nat.le_refl _),g0,Option.bind_some,j5,Option.map_some,U3];rfl]
  simp
 rw[r,PR.ofO_some,PR.bind_ok,i,Bool.or_true];rw[show (M++[A.map N]).take M.length=M from by rw[List.take_left'];rfl]
theorem l8{α:Type}(p:α->Bool):∀L:List α,zi (L.map λx=>T.v (.bl (p x)))=some (L.map p)
 | []=>rfl
 |x::L=>by
  show (zi (L.map λx=>T.v (.bl (p x)))).map _=_;rw[l8 p L];rfl
theorem qDf{M:Mem}{α:Type}(p:α->Bool)(L:List α):zr M .all [.lst (L.map λx=>T.v (.bl (p x)))]=some (bT (L.all p)):=by
 show (zi _).map _=_;rw[l8,Option.map_some,List.all_map];rfl
theorem Jg{M:Mem}:qg M .is (.v .non) (.v .non)=some true:=rfl
theorem qEu{M:Mem}(n:Nat):qg M .is (N n) (.v .non)=some false:=rfl
theorem getD_some{L:List Nat}{i:Nat}(h:i<L.length):L[i]?=some (L.getD i 0):=by
 rw[wB,wA h];rfl
def IsS(M:Mem)(t:T)(ts:List T):Prop:=t=.lst ts\/∃m,t=.cell m/\M[m]?=some ts
section
variable{M C:Mem}{t:T}{ts:List T}
theorem IsS.app(h:IsS M t ts):IsS (M++C) t ts:=by
 rcases h with h|⟨m,h,e⟩
 ·exact .inl h
 ·exact .inr ⟨m,h,by rw[List.getElem?_append_left (List.getElem?_eq_some_iff.mp e).1];exact e⟩
theorem IsS.its(h:IsS M t ts):t.its M=some ts:=by rcases h with rfl|⟨m,rfl,e⟩;rfl;exact e
theorem IsS.lis(h:IsS M t ts):t.lis M=some ts:=by rcases h with rfl|⟨m,rfl,e⟩;rfl;exact e
theorem IsS.ty(h:IsS M t ts):za M t=some "list":=by rcases h with rfl|⟨m,rfl,e⟩;rfl;exact qG3 e
theorem IsS.nv(h:IsS M t ts):t.isV=none:=by rcases h with rfl|⟨m,rfl,e⟩<;>rfl
theorem IsS.lf(h:IsS M t ts):t.lf=false:=by rcases h with rfl|⟨m,rfl,e⟩<;>simp
theorem IsS.src(h:IsS M t ts):∃d,A5 M t=some (ts,d)/\Zk M t=some (ts,d)/\∀C,qT d (M++C)=true:=by
 rcases h with rfl|⟨m,rfl,e⟩
 ·exact⟨[],rfl,rfl,λ_=>rfl⟩
 ·exact⟨_,jk e,jk e,λC=>F7 (by rw[List.getElem?_append_left (List.getElem?_eq_some_iff.mp e).1];exact e)⟩
theorem IsS.len(h:IsS M t ts):zr M .len [t]=some (N ts.length,true):=by
 show (t.its M).map _=_;rw[h.its,Option.map_some];rfl
theorem IsS.idx(h:IsS M t ts)(i:Nat):zS M t (N i)=(ts[i]?).map λt=>(t,t.lf):=by
 have a:zS M t (N i)=zS M (.lst ts) (N i):=by
  show (t.its M).bind _=_;rw[h.its];rfl
 rw[a,ZP]
theorem IsS.list(h:IsS M t ts):zr M .list [t]=some (lT ts):=by
 show (t.its M).map lT=_;rw[h.its];rfl
theorem IsS.eqT{u:T}{us:List T}{d:Nat}{bs:List Bool}(h:IsS M t ts)(k:IsS M u us)(hl:ts.length=us.length)(e:zM (eqT M d) ts us=some bs):PI.eqT M (d+1) t u=some (bs.all id):=by
 unfold PI.eqT;rw[h.nv,k.nv,h.lis,k.lis];dsimp only;rw[if_pos hl,e];rfl
end
def WfM(M:Mem):Prop:=M.all (T.unds M.length)=true
theorem WfM.app{M C:Mem}(h:WfM M)(hC:∀c∈C,T.unds (M++C).length c=true):WfM (M++C):=by
 unfold WfM at *;rw[List.all_eq_true]at h ⊢;intro c hc;rcases wE.mp hc with z|z
 ·exact zH (by simp) c (h c z)
 ·exact hC c z
theorem FlatM.wf{M:Mem}(h:FlatM M):WfM M:=h.all _
theorem WfM.one{M:Mem}(h:WfM M){ts:List T}(l:T.lfs ts=true):WfM (M++[ts]):=h.app λc hc=>by rw[wK.mp hc];exact Qt _ _ l
theorem jX{M:Mem}{n0 d:Nat}:∀ts:List T,T.lfs ts=true->ts.mapM (qE M n0 d)=some ts
 | [],_=>rfl
 |t::ts,h=>by
  rw[Qf,Bool.and_eq_true]at h;have e:qE M n0 d t=some t:=by cases d<;>(unfold qE;rw[if_pos (K0 n0 t h.1)])
  rw[List.mapM_cons,e,jX ts h.2];rfl
theorem Zp{M:Mem}{n0 d:Nat}:∀ts:List T,T.lfs ts=true->ts.mapM (qz M n0 d)=some (ts.map λ_=>[])
 | [],_=>rfl
 |t::ts,h=>by
  rw[Qf,Bool.and_eq_true]at h;have e:qz M n0 d t=some []:=by cases d<;>(unfold qz;rw[if_pos h.1])
  rw[List.mapM_cons,e,Zp ts h.2];rfl
theorem ZU(L:List T):(L.map λ_=>([]:List Nat)).flatten=[]:=by
 induction L with
 |nil=>rfl
 |cons x L ih=>rw[List.map_cons,List.flatten_cons,ih];rfl
theorem Za{M A C:Mem}{c:Nat}{ts:List T}(hA:A.length=M.length)(hW:WfM A)(hc:(A++C)[c]?=some ts)(hn:A.length<=c)(hl:T.lfs ts=true)(f:Bool):zY M.length (.ok (.rt (.cell c,f),A++C))=.ok ((.lst ts,true),A):=by
 show finish M.length _ _=_;unfold finish;have hlt:=(List.getElem?_eq_some_iff.mp hc).1;rw[List.length_append]at hlt;rw[<-hA,if_neg (by rw[List.length_append];omega),List.take_left' rfl,if_pos (show A.all (T.unds A.length)=true from hW)];have r:qE (A++C) A.length 6 (.cell c)=some (.lst ts):=by
  unfold qE;rw[if_neg (by unfold T.und;simp;omega)];dsimp only;rw[hc,Option.bind_some,jX _ hl];rfl
 have i:frR (A++C) A.length (.cell c)=true:=by
  unfold frR;rw[show qz (A++C) A.length 6 (.cell c)=some [c] by
   unfold qz;rw[if_neg (by rw[F4];decide)];dsimp only;rw[if_pos hn,hc,Option.bind_some,Zp _ hl,Option.map_some,ZU];rfl]
  simp
 dsimp only;rw[r,PR.ofO_some,PR.bind_ok,i,Bool.or_true]
theorem qC8{M A C:Mem}{b:Bool}(hA:A.length=M.length)(hW:WfM A):zY M.length (.ok (.rt (bT b),A++C))=.ok (bT b,A):=by
 show finish M.length _ _=_;unfold finish;rw[<-hA];by_cases hb:(A++C).length=A.length
 ·have:C=[]:=List.length_eq_zero_iff.mp (by simp at hb;simp[hb]);subst this;rw[if_pos hb,List.append_nil]
 ·rw[if_neg hb,List.take_left' rfl,if_pos (show A.all (T.unds A.length)=true from hW)];rw[show qE (A++C) A.length 6 (bT b).1=some (bT b).1 by unfold qE;rw[if_pos (K0 _ _ rfl)]];rfl
theorem qBD{d:jf}{gl:List T}{P:Nat->List T->Mem->PR (TB×Mem)}{e:TS->Mem->PR (TB×Mem)}{σ:TS}{J:Mem->Prop}{Pr:T->T->Prop}:∀(its ys:List T) (b:Bool) (o:Option T) (M:Mem),ys.length+its.length<=lim->J M->(∀M',J M'->qT d M'=true) ->
  (∀x∈its,∀M',J M'->∃z M'',e (some x::σ) M'=.ok ((z,true),M'')/\J M''/\Pr x z) ->
  ∃zs M',qK d (.name 0) (pec gl P .nil) e its ys b (o::σ) M=.ok ((.lst (ys++zs),b),M')/\J M'/\All2 Pr its zs
 | [],ys,b,o,M,_,hJ,_,_=>⟨[],M,by simp[qK],hJ,rfl⟩
 |x::r,ys,b,o,M,hl,hJ,hd,he=>by
  obtain⟨z,M1,e1,j1,p1⟩:=he x (by simp) M hJ;obtain⟨zs,M2,e2,j2,p2⟩:=qBD (d:=d) (gl:=gl) (P:=P) (σ:=σ) r (ys++[z]) b (some x) M1 (by simp at hl ⊢;omega) j1 hd λy hy=>he y (by simp[hy]);refine⟨z::zs,M2,?_,j2,⟨z,zs,rfl,p1,p2⟩⟩;rw[qK,show qy (.name 0) x (o::σ)=some (some x::σ) from rfl];dsimp only;rw[qp,PR.bind_ok];dsimp only;rw[if_pos rfl,e1,PR.bind_ok];dsimp only;rw[if_pos ⟨by simp at hl;omega,hd M1 j1⟩,Bool.and_true,e2];simp
end PI
namespace Cd
open L2 (V)
open PI (D3 qAb zZ S5)
theorem qAK{kvs:List (Int×V)}{k:Int}{v:V}(h:k∉kvs.map (·.1)):qAb kvs k v=kvs++[(k,v)]:=by
 unfold qAb;rw[if_neg];unfold S5;rw[List.any_eq_true];rintro⟨p,hp,e⟩;exact h (wp.mpr ⟨p,hp,vf e⟩)
theorem merge_new:∀(more kvs:List (Int×V)),((kvs++more).map (·.1)).Nodup->zZ kvs more=kvs++more
 | [],kvs,_=>by show kvs=_;simp
 |p::r,kvs,h=>by
  show zZ (qAb kvs p.1 p.2) r=_;have h':=h;rw[wR,List.map_cons,wZ]at h';rw[qAK (λz=>h'.2.2 _ z _ (List.mem_cons_self ..) rfl),merge_new r _ (by simpa using h)];simp
theorem J1:∀(ks:List Nat) (vs:List V),ks.length<=vs.length->((ks.map λ(n:Nat)=>(n:Int)).zip vs).map (·.1)=ks.map λ(n:Nat)=>(n:Int)
 | [],_,_=>by simp
 |k::ks,[],h=>by simp at h
 |k::ks,v::vs,h=>by
  rw[List.map_cons,List.zip_cons_cons,List.map_cons,J1 ks vs (by simpa using h)]
theorem nodup_int{ks:List Nat}(h:ks.Nodup):(ks.map λ(n:Nat)=>(n:Int)).Nodup:=List.pairwise_map.mpr (h.imp λz e=>z (by exact_mod_cast e))
noncomputable def prs(ks vs:List Nat):List (Int×V):=(ks.map λ(n:Nat)=>(n:Int)).zip (vs.map λ(n:Nat)=>V.int (n:Int))
theorem prs_keys{ks vs:List Nat}(h:ks.length=vs.length):(prs ks vs).map (·.1)=ks.map λ(n:Nat)=>(n:Int):=J1 ks _ (by simp[h])
theorem get_none{ks vs:List Nat}{p:Nat}(h:ks.length=vs.length)(hp:p∉ks):D3 (prs ks vs) p=none:=by
 unfold D3;rw[Option.map_eq_none_iff,List.find?_eq_none];rintro q hq e;have:q.1∈(prs ks vs).map (·.1):=wp.mpr ⟨q,hq,rfl⟩;rw[prs_keys h]at this;obtain⟨n,hn,en⟩:=wp.mp this;have e:=vf e;rw[e]at en;have:n=p:=by exact_mod_cast en
 exact hp (this ▸ hn)
theorem get_some:∀{ks vs:List Nat}{p:Nat},ks.length=vs.length->p∈ks->D3 (prs ks vs) p=some (.int ((vs.getD (ks.idxOf p) 0:Nat):Int))
 | [],_,_,_,h=>by cases h
 |k::ks,[],_,h,_=>by simp at h
 |k::ks,v::vs,p,h,hp=>by
  unfold prs D3;rw[List.map_cons,List.map_cons,List.zip_cons_cons,List.find?_cons];by_cases e:k=p
  ·subst e;simp[List.idxOf_cons]
  ·have hp':p∈ks:=by
    rcases List.mem_cons.mp hp with z|z
    ·exact absurd z.symm e
    ·exact z
   rw[vc (λz=>e (by have z:(k:Int)=p:=z;exact_mod_cast z))];have:=get_some (ks:=ks) (vs:=vs) (p:=p) (by simpa using h) hp';unfold prs D3 at this;rw[List.idxOf_cons,show (k==p)=false from by simpa using e];simpa using this
noncomputable def oth(n:Nat)(F:List Nat):List Nat:=(List.range n).filter λp=>!decide (p∈F)
theorem mem_oth{n p:Nat}{F:List Nat}:p∈oth n F↔p<n/\p∉F:=by unfold oth;simp
theorem oth_succ(n:Nat)(F:List Nat):oth (n+1) F=oth n F++if n∈F then [] else [n]:=by
 unfold oth;rw[vK,List.filter_append];congr 1;by_cases h:n∈F<;>simp[h]
theorem oth_nodup(n:Nat)(F:List Nat):(oth n F).Nodup:=vR.filter _
theorem oth_idx{F:List Nat}:∀{n p:Nat},p<n->p∉F->(oth n F).idxOf p=(oth p F).length
 |n+1,p,h,hp=>by
  rw[oth_succ];by_cases e:p=n
  ·subst e;rw[if_neg hp,List.idxOf_append,if_neg (λz=>by have:=(mem_oth.mp z).1;omega)];simp
  ·have lt:p<n:=by omega
   rw[List.idxOf_append,if_pos (mem_oth.mpr ⟨lt,hp⟩)];exact oth_idx lt hp
noncomputable def cf(F X D:List Nat)(p:Nat):Nat:=if p∈F then D.getD (F.idxOf p) 0 else X.getD (oth p F).length 0
theorem oth_len:∀{n:Nat}{F:List Nat},F.Nodup->(∀x∈F,x<n)->(oth n F).length+F.length=n:=by
 intro n F nd h;have p:(oth n F++F).Perm (List.range n):=by
  refine(List.perm_ext_iff_of_nodup ?_ vR).mpr λx=>?_
  ·exact wZ.mpr ⟨oth_nodup n F,nd,λa ha b hb e=>(mem_oth.mp ha).2 (e ▸ hb)⟩
  ·rw[wE,mem_oth,wS];by_cases hx:x∈F
   ·simp[hx,h x hx]
   ·simp[hx]
 have:=p.length_eq;rw[List.length_append,List.length_range]at this;exact this
theorem cf_two{F X D:List Nat}(hX:∀x∈X,x<2)(hD:∀x∈D,x<2)(p:Nat):cf F X D p<2:=by
 have g:∀(L:List Nat) (i:Nat),(∀x∈L,x<2)->L.getD i 0<2:=λL i h=>by
  rw[wB];cases e:L[i]? with
  |none=>simp
  |some y=>exact h y (List.mem_of_getElem? e)
 unfold cf;split
 ·exact g D _ hD
 ·exact g X _ hX
end Cd
namespace GF
inductive Sp(L:List Nat):Nat->Prop
 |zero:Sp L 0
 |add{x y:Nat}:x∈L->Sp L y->Sp L (x ^^^ y)
theorem Sp.xor{L:List Nat}{a b:Nat}(h:Sp L a)(k:Sp L b):Sp L (a ^^^ b):=by
 induction h with
 |zero=>rw[Nat.zero_xor];exact k
 |add m _ ih=>rw[Nat.xor_assoc];exact .add m ih
theorem Sp.sub{L K:List Nat}(h:∀x∈L,Sp K x){y:Nat}(k:Sp L y):Sp K y:=by
 induction k with
 |zero=>exact .zero
 |add m _ ih=>exact(h _ m).xor ih
theorem Sp.lt{L:List Nat}{b:Nat}(h:∀x∈L,x<2 ^ b){y:Nat}(k:Sp L y):y<2 ^ b:=by
 induction k with
 |zero=>exact vT (by decide)
 |add m _ ih=>exact Nat.xor_lt_two_pow (h _ m) ih
noncomputable def rch(q t:Nat):Bool:=decide (q&&& t=t)
theorem rch_iff{q t:Nat}:rch q t=true↔∀i,t.testBit i=true->q.testBit i=true:=by
 unfold rch;rw[ve];constructor
 ·intro h i hi;have:=congrArg (·.testBit i) h;simp only[Nat.testBit_and,hi,Bool.and_true]at this;exact this
 ·intro h;refine Nat.eq_of_testBit_eq λi=>?_;rw[Nat.testBit_and];cases e:t.testBit i with
  |true=>rw[h i e];rfl
  |false=>rw[wq]
theorem Qg{s x:Nat}(hx:x<2 ^ s)(i:Nat):(2 ^ s+x).testBit i=(decide (i=s)||x.testBit i):=by
 rcases vN i s with h|h|h
 ·rw[Nat.testBit_two_pow_add_gt h,vc (by omega),Bool.false_or]
 ·subst h;rw[Nat.testBit_two_pow_add_eq,wg hx];simp
 ·rw[wg (wC (show 2 ^ s+x<2 ^ (s+1) by rw[wu];omega) (vU (by decide) h)),wg (wC hx (vU (by decide) (wt h))),vc (by omega)];rfl
theorem Jr{s q t:Nat}(hq:q<2 ^ s)(ht:t<2 ^ s):rch (2 ^ s+q) t=rch q t:=by
 rw[wX,rch_iff,rch_iff];refine⟨λh i hi=>?_,λh i hi=>?_⟩
 ·have:=h i hi;rw[Qg hq]at this;by_cases e:i=s
  ·subst e;rw[wg ht]at hi;cases hi
  ·simpa [e] using this
 ·rw[Qg hq,h i hi,Bool.or_true]
theorem JV{s q t:Nat}(hq:q<2 ^ s)(ht:t<2 ^ s):rch (2 ^ s+q) (2 ^ s+t)=rch q t:=by
 rw[wX,rch_iff,rch_iff];refine⟨λh i hi=>?_,λh i hi=>?_⟩
 ·have:=h i (by rw[Qg ht,hi,Bool.or_true]);rw[Qg hq]at this;by_cases e:i=s
  ·subst e;rw[wg ht]at hi;cases hi
  ·simpa [e] using this
 ·rw[Qg ht]at hi;rw[Qg hq];by_cases e:i=s
  ·simp[e]
  ·rw[h i (by simpa [e] using hi),Bool.or_true]
theorem F6{s q t:Nat}(hq:q<2 ^ s)(ht:t<2 ^ s):rch q (2 ^ s+t)=false:=by
 cases e:rch q (2 ^ s+t) with
 |false=>rfl
 |true=>
  have:=rch_iff.mp e s (by rw[Qg ht];simp);rw[wg hq]at this;cases this
noncomputable def lp:Nat->(Nat->Bool)->Nat->Bool
 | 0,S,p=>S p
 |s+1,S,p=>if p<2 ^ s then lp s (λt=>S t||S (t+2 ^ s)) p else lp s (λt=>S t&&S (t+2 ^ s)) (p-2 ^ s)
inductive Cb(s:Nat)(S:Nat->Bool):(Nat->Bool)->Prop
 |zero:Cb s S λ_=>false
 |add{t:Nat}{g:Nat->Bool}:t<2 ^ s->S t=false->Cb s S g->Cb s S λq=>(rch q t ^^ g q)
theorem pw(s:Nat):2 ^ (s+1)=2 ^ s+2 ^ s:=by rw[wu];omega
theorem Cb.both{s:Nat}{S:Nat->Bool}{g:Nat->Bool}(h:Cb s (λt=>S t||S (t+2 ^ s)) g):∃g',Cb (s+1) S g'/\(∀q,q<2 ^ s->g' q=g q)/\∀q,q<2 ^ s->g' (2 ^ s+q)=false:=by
 have:=pw s
 induction h with
 |zero=>exact⟨_,.zero,λ_ _=>rfl,λ_ _=>rfl⟩
 | @add t g ht hS _ ih=>
  obtain⟨g',k,a,b⟩:=ih;simp only[vF]at hS;refine⟨_,.add (t:=t) (by omega) hS.1 (.add (t:=2 ^ s+t) (by omega) (by rw[vA];exact hS.2) k),λq hq=>?_,λq hq=>?_⟩
  ·rw[F6 hq ht,a q hq,wy]
  ·rw[Jr hq ht,JV hq ht,b q hq,wj,vC]
theorem Cb.one{s:Nat}{S:Nat->Bool}{g:Nat->Bool}(h:Cb s (λt=>S t&&S (t+2 ^ s)) g):∃g',Cb (s+1) S g'/\∀q,q<2 ^ s->g' (2 ^ s+q)=g q:=by
 have:=pw s
 induction h with
 |zero=>exact⟨_,.zero,λ_ _=>rfl⟩
 | @add t g ht hS _ ih=>
  obtain⟨g',k,b⟩:=ih;cases e:S t with
  |false=>
   refine⟨_,.add (t:=t) (by omega) e k,λq hq=>?_⟩;rw[Jr hq ht,b q hq]
  |true=>
   have e2:S (t+2 ^ s)=false:=by
    have:(S t&&S (t+2 ^ s))=false:=hS;rw[e,Bool.true_and]at this;exact this
   refine⟨_,.add (t:=2 ^ s+t) (by omega) (by rw[vA];exact e2) k,λq hq=>?_⟩;rw[JV hq ht,b q hq]
theorem told:∀(s:Nat) (S:Nat->Bool) (p:Nat),p<2 ^ s->lp s S p=false->∃g,Cb s S g/\∀q,p<=q->q<2 ^ s->g q=decide (q=p)
 | 0,S,p,hp,h=>by
  have e:p=0:=by omega
  subst e;refine⟨_,.add (t:=0) (by decide) h .zero,λq _ hq=>?_⟩;rw[show q=0 by omega];rfl
 |s+1,S,p,hp,h=>by
  have:=pw s;unfold lp at h;split at h
  ·rename_i c;obtain⟨g,k,e⟩:=told s _ p c h;obtain⟨g',k',a,b⟩:=k.both;refine⟨g',k',λq h1 h2=>?_⟩;by_cases hq:q<2 ^ s
   ·rw[a q hq,e q h1 hq]
   ·have:=b (q-2 ^ s) (by omega);rw[show 2 ^ s+(q-2 ^ s)=q by omega]at this;rw[this,vc (by omega)]
  ·rename_i c;obtain⟨g,k,e⟩:=told s _ (p-2 ^ s) (by omega) h;obtain⟨g',k',b⟩:=k.one;refine⟨g',k',λq h1 h2=>?_⟩;have:=b (q-2 ^ s) (by omega);rw[show 2 ^ s+(q-2 ^ s)=q by omega,e (q-2 ^ s) (by omega) (by omega)]at this;rw[this];congr 1;rw[eq_iff_iff];omega
noncomputable def par:Nat->(Nat->Bool)->Bool
 | 0,_=>false
 |n+1,f=>(par n f ^^ f n)
theorem k7(m:Nat)(f:Nat->Bool):∀n,par (m+n) f=(par m f ^^ par n λt=>f (m+t))
 | 0=>by show par m f=(par m f ^^ false);rw[wj]
 |n+1=>by
  show (par (m+n) f ^^ f (m+n))=(par m f ^^ (par n (λt=>f (m+t)) ^^ f (m+n)));rw[k7 m f n,vZ]
theorem qW:∀(n:Nat) (f g:Nat->Bool),(∀t,t<n->f t=g t)->par n f=par n g
 | 0,_,_,_=>rfl
 |n+1,f,g,h=>by unfold par;rw[qW n f g λt ht=>h t (by omega),h n (by omega)]
theorem zb:∀(n:Nat),par n (λ_=>false)=false
 | 0=>rfl
 |n+1=>by unfold par;rw[zb n];rfl
theorem ZB:∀(n:Nat) (f g:Nat->Bool),par n (λt=>f t ^^ g t)=(par n f ^^ par n g)
 | 0,_,_=>rfl
 |n+1,f,g=>by
  show (par n (λt=>f t ^^ g t) ^^ (f n ^^ g n))=((par n f ^^ f n) ^^ (par n g ^^ g n));rw[ZB n f g];cases par n f<;>cases par n g<;>cases f n<;>cases g n<;>rfl
noncomputable def wd:Nat->(Nat->Bool)->Nat->Bool
 | 0,c,t=>c t
 |s+1,c,t=>if t<2 ^ s then (wd s c t ^^ wd s (λq=>c (2 ^ s+q)) t) else wd s (λq=>c (2 ^ s+q)) (t-2 ^ s)
theorem qf:∀(s:Nat) (a b:Nat->Bool) (t:Nat),(∀q,q<2 ^ s->a q=b q)->t<2 ^ s->wd s a t=wd s b t
 | 0,a,b,t,h,ht=>h t ht
 |s+1,a,b,t,h,ht=>by
  have:=pw s;unfold wd;split
  ·rw[qf s a b t (λq hq=>h q (by omega)) (by omega),qf s _ (λq=>b (2 ^ s+q)) t (λq hq=>h _ (by omega)) (by omega)]
  ·exact qf s _ _ _ (λq hq=>h _ (by omega)) (by omega)
theorem ZS:∀(s:Nat) (a b:Nat->Bool) (t:Nat),wd s (λq=>a q ^^ b q) t=(wd s a t ^^ wd s b t)
 | 0,_,_,_=>rfl
 |s+1,a,b,t=>by
  unfold wd;split
  ·rw[ZS s a b,ZS s (λq=>a (2 ^ s+q)) λq=>b (2 ^ s+q)];generalize wd s a t=x;generalize wd s b t=y;generalize wd s (λq=>a (2 ^ s+q)) t=z;generalize wd s (λq=>b (2 ^ s+q)) t=u;cases x<;>cases y<;>cases z<;>cases u<;>rfl
  ·exact ZS s _ _ _
theorem D4:∀(s:Nat) (c:Nat->Bool) (t:Nat),t<2 ^ s->wd s (wd s c) t=c t
 | 0,c,t,_=>rfl
 |s+1,c,t,ht=>by
  have:=pw s;have e2:∀t,t<2 ^ s->wd s (λq=>wd (s+1) c (2 ^ s+q)) t=c (2 ^ s+t):=λt ht=>by
   rw[qf s _ (wd s λq=>c (2 ^ s+q)) t (λq hq=>by rw[wd,if_neg (by omega),wP]) ht];exact D4 s _ t ht
  have e1:∀t,t<2 ^ s->wd s (wd (s+1) c) t=(c t ^^ c (2 ^ s+t)):=λt ht=>by
   rw[qf s _ (λq=>wd s c q ^^ wd s (λq=>c (2 ^ s+q)) q) t (λq hq=>by rw[wd,if_pos hq]) ht,ZS,D4 s c t ht,D4 s _ t ht]
  rw[wd];split
  ·rename_i h;rw[e1 t h,e2 t h,vZ,vC,wj]
  ·rename_i h;rw[e2 (t-2 ^ s) (by omega),show 2 ^ s+(t-2 ^ s)=t by omega]
theorem ZD:∀(s:Nat) (c:Nat->Bool) (t:Nat),t<2 ^ s->wd s c t=par (2 ^ s) λq=>c q&&rch q t
 | 0,c,t,ht=>by
  rw[show t=0 by omega];show c 0=(false ^^ (c 0&&true));rw[Bool.and_true,wy]
 |s+1,c,t,ht=>by
  have:=pw s;rw[this,k7,wd];split
  ·rename_i h;rw[ZD s c t h,ZD s _ t h];congr 1;exact qW _ _ _ λq hq=>by rw[Jr hq h]
  ·rename_i h;obtain⟨u,rfl⟩:∃u,t=2 ^ s+u:=⟨t-2 ^ s,by omega⟩
   have hu:u<2 ^ s:=by omega
   rw[wP,ZD s _ u hu,qW (2 ^ s) (λq=>c q&&rch q (2 ^ s+u)) (λ_=>false) (λq hq=>by rw[F6 hq hu,wq]),zb,wy];exact qW _ _ _ λq hq=>by rw[JV hq hu]
theorem qAO:∀(s:Nat) (S:Nat->Bool) (p:Nat),p<2 ^ s->lp s S p=true->∃c:Nat->Bool,(∀q,q<p->c q=false)/\c p=true/\∀t,t<2 ^ s->S t=false->wd s c t=false
 | 0,S,p,hp,h=>by
  have e:p=0:=by omega
  subst e;refine⟨λ_=>true,λq hq=>by omega,rfl,λt ht hS=>?_⟩;rw[show t=0 by omega]at hS;rw[show lp 0 S 0=S 0 from rfl]at h;rw[h]at hS;cases hS
 |s+1,S,p,hp,h=>by
  have:=pw s;unfold lp at h;split at h
  ·rename_i hq;obtain⟨c,c1,c2,c3⟩:=qAO s _ p hq h;refine⟨λq=>if q<2 ^ s then c q else wd s (λt=>S (t+2 ^ s)&&wd s c t) (q-2 ^ s),λq h'=>?_,?_,λt ht hS=>?_⟩
   ·dsimp only;rw[if_pos (by omega)];exact c1 q h'
   ·dsimp only;rw[if_pos hq];exact c2
   ·have w1:∀t,t<2 ^ s->wd s (λq=>if q<2 ^ s then c q else wd s (λt=>S (t+2 ^ s)&&wd s c t) (q-2 ^ s)) t=wd s c t:=λt ht=>qf s _ _ t (λq hq=>by rw[if_pos hq]) ht;have w2:∀t,t<2 ^ s->wd s (λq=>if 2 ^ s+q<2 ^ s then c (2 ^ s+q) else wd s (λt=>S (t+2 ^ s)&&wd s c t) (2 ^ s+q-2 ^ s)) t=(S (t+2 ^ s)&&wd s c t):=λt ht=>by
     rw[qf s _ (wd s λt=>S (t+2 ^ s)&&wd s c t) t (λq hq=>by rw[if_neg (by omega),wP]) ht];exact D4 s _ t ht
    rw[wd];split
    ·rename_i ht';rw[w1 t ht',w2 t ht'];cases e:S (t+2 ^ s) with
     |true=>rw[Bool.true_and,vC]
     |false=>
      rw[vY,wj];exact c3 t ht' (by rw[hS,e];rfl)
    ·rename_i ht';rw[w2 (t-2 ^ s) (by omega),show t-2 ^ s+2 ^ s=t by omega,hS,vY]
  ·rename_i hq;obtain⟨c,c1,c2,c3⟩:=qAO s _ (p-2 ^ s) (by omega) h;refine⟨λq=>if q<2 ^ s then false else c (q-2 ^ s),λq h'=>?_,?_,λt ht hS=>?_⟩
   ·dsimp only;split
    ·rfl
    ·exact c1 _ (by omega)
   ·dsimp only;rw[if_neg hq];exact c2
   ·have w1:∀t,t<2 ^ s->wd s (λq=>if q<2 ^ s then false else c (q-2 ^ s)) t=false:=λt ht=>by
     rw[qf s _ (λ_=>false) t (λq hq=>by rw[if_pos hq]) ht,ZD s _ t ht,qW _ _ (λ_=>false) (λq _=>by rw[vY]),zb]
    have w2:∀t,t<2 ^ s->wd s (λq=>if 2 ^ s+q<2 ^ s then false else c (2 ^ s+q-2 ^ s)) t=wd s c t:=λt ht=>qf s _ _ t (λq hq=>by rw[if_neg (by omega),wP]) ht;rw[wd];split
    ·rename_i ht';rw[w1 t ht',w2 t ht',wy];exact c3 t ht' (by rw[hS];rfl)
    ·rename_i ht';rw[w2 (t-2 ^ s) (by omega)];exact c3 _ (by omega) (by rw[show t-2 ^ s+2 ^ s=t by omega,hS,wq])
noncomputable def qc(l:List Nat)(f:Nat->Bool):Bool:=l.foldr (λx b=>(f x ^^ b)) false
theorem lpar_cons(x:Nat)(l:List Nat)(f:Nat->Bool):qc (x::l) f=(f x ^^ qc l f):=rfl
theorem QZ(f:Nat->Bool):∀a b:List Nat,qc (a++b) f=(qc a f ^^ qc b f)
 | [],b=>by show qc b f=(false ^^ qc b f);rw[wy]
 |x::a,b=>by rw[List.cons_append,lpar_cons,lpar_cons,QZ f a b,vZ]
theorem lpar_congr{f g:Nat->Bool}:∀l:List Nat,(∀x∈l,f x=g x)->qc l f=qc l g
 | [],_=>rfl
 |x::l,h=>by rw[lpar_cons,lpar_cons,h x (by simp),lpar_congr l λy hy=>h y (by simp[hy])]
theorem jW{f:Nat->Bool}:∀l:List Nat,(∀x∈l,f x=false)->qc l f=false
 | [],_=>rfl
 |x::l,h=>by rw[lpar_cons,h x (by simp),jW l λy hy=>h y (by simp[hy])];rfl
theorem Qb(g:Nat->Nat)(f:Nat->Bool):∀l:List Nat,qc (l.map g) f=qc l λx=>f (g x)
 | []=>rfl
 |x::l=>by rw[List.map_cons,lpar_cons,lpar_cons,Qb g f l]
theorem Zb(f p:Nat->Bool):∀l:List Nat,qc l f=(qc (l.filter p) f ^^ qc (l.filter λx=>!p x) f)
 | []=>rfl
 |x::l=>by
  have ih:=Zb f p l;cases q:p x with
  |true=>
   rw[List.filter_cons_of_pos q,wY (by simp[q]),lpar_cons,lpar_cons,ih,vZ]
  |false=>
   rw[wY (by simp[q]),List.filter_cons_of_pos (by simp[q]),lpar_cons,lpar_cons,ih];cases f x<;>cases qc (l.filter p) f<;>cases qc (l.filter λx=>!p x) f<;>rfl
theorem lpar_len(f:Nat->Bool):∀l:List Nat,(l.filter f).length % 2=(qc l f).toNat
 | []=>rfl
 |x::l=>by
  have ih:=lpar_len f l;rw[lpar_cons];cases q:f x with
  |true=>
   rw[List.filter_cons_of_pos q,List.length_cons];cases e:qc l f<;>rw[e]at ih<;>simp at ih ⊢<;>omega
  |false=>rw[wY (by simp[q]),ih];simp
theorem qDL(n:Nat)(c:Nat->Bool)(r:Nat->Nat->Bool):∀l:List Nat,par n (λq=>c q&&qc l (r q))=qc l λt=>par n λq=>c q&&r q t
 | []=>by
  show par n (λq=>c q&&false)=false;rw[qW _ _ (λ_=>false) λq _=>by rw[wq],zb]
 |t::l=>by
  rw[lpar_cons,<-qDL n c r l,<-ZB];exact qW _ _ _ λq _=>by rw[lpar_cons];cases c q<;>rfl
theorem QK:∀(n P:Nat) (c:Nat->Bool),P<n->par n (λq=>c q&&decide (q=P))=c P
 | 0,P,c,h=>by omega
 |n+1,P,c,h=>by
  show (par n (λq=>c q&&decide (q=P)) ^^ (c n&&decide (n=P)))=c P;by_cases e:n=P
  ·subst e;rw[qW _ _ (λ_=>false) (λq hq=>by rw[vc (by omega),wq]),zb,vd rfl,Bool.and_true,wy]
  ·rw[QK n P c (by omega),vc e,wq,wj]
def Ris(lo hi:Nat):List Nat->Prop
 | []=>True
 |x::L=>lo<=x/\x<hi/\Ris (x+1) hi L
theorem Ris.mem{hi:Nat}:∀{L:List Nat}{lo:Nat},Ris lo hi L->∀x∈L,lo<=x/\x<hi
 |y::L,lo,⟨a,b,c⟩,x,hx=>by
  rcases List.mem_cons.mp hx with rfl|hx
  ·exact⟨a,b⟩
  ·have:=c.mem x hx;omega
theorem Ris.wide{hi lo' hi':Nat}:∀{L:List Nat}{lo:Nat},Ris lo hi L->lo'<=lo->hi<=hi'->Ris lo' hi' L
 | [],_,_,_,_=>trivial
 |y::L,lo,⟨a,b,c⟩,h1,h2=>⟨by omega,by omega,c.wide (Nat.le_refl _) h2⟩
theorem Ris.up{lo hi:Nat}:∀{L:List Nat},lo<=hi->Ris lo hi L->Ris lo hi L
 |_,_,h=>h
theorem Ris.app{mid hi:Nat}{B:List Nat}(hB:Ris mid hi B)(hm:mid<=hi):∀{A:List Nat}{lo:Nat},lo<=mid->Ris lo mid A->Ris lo hi (A++B)
 | [],lo,hl,_=>hB.wide hl (Nat.le_refl _)
 |y::A,lo,hl,⟨a,b,c⟩=>⟨a,by omega,Ris.app hB hm (by omega) c⟩
theorem Ris.add{hi:Nat}(d:Nat):∀{L:List Nat}{lo:Nat},Ris lo hi L->Ris (d+lo) (d+hi) (L.map (d + ·))
 | [],_,_=>trivial
 |y::L,lo,⟨a,b,c⟩=>⟨show d+lo<=d+y by omega,show d+y<d+hi by omega,(c.add d).wide (show d+y+1<=d+(y+1) by omega) (Nat.le_refl _)⟩
theorem Ris.filter{hi:Nat}(p:Nat->Bool):∀{L:List Nat}{lo:Nat},Ris lo hi L->Ris lo hi (L.filter p)
 | [],_,_=>trivial
 |y::L,lo,⟨a,b,c⟩=>by
  cases q:p y with
  |true=>rw[List.filter_cons_of_pos q];exact⟨a,b,c.filter p⟩
  |false=>rw[wY (by simp[q])];exact(c.filter p).wide (by omega) (Nat.le_refl _)
theorem ZN:∀(n lo:Nat),Ris lo (lo+n) (List.range' lo n)
 | 0,_=>trivial
 |n+1,lo=>⟨Nat.le_refl _,by omega,by have:=ZN n (lo+1);rw[show lo+1+n=lo+(n+1) by omega]at this;exact this⟩
theorem ris_range(n:Nat)(q:Nat->Bool):Ris 0 n ((List.range n).filter q):=by
 have:=ZN n 0;rw[vM,<-wT]at this;exact this.filter q
theorem Ris.once{hi p:Nat}:∀{L:List Nat}{lo:Nat},Ris lo hi L->qc L (λq=>decide (q=p))=decide (p∈L)
 | [],_,_=>by simp[qc]
 |y::L,lo,⟨a,b,c⟩=>by
  rw[lpar_cons,c.once];by_cases e:y=p
  ·subst e;have:¬ y∈L:=λh=>by have:=(c.mem y h).1;omega
   simp[this]
  ·have e':¬ p=y:=λz=>e z.symm;simp[e,e']
structure Told(s:Nat)(S:Nat->Bool)(P:Nat)(sp pl:List Nat):Prop where
 r1:Ris 0 (2 ^ s) sp
 r2:Ris 0 P pl
 off:∀t∈sp,S t=false
 sum:∀p,p<2 ^ s->(qc sp (λt=>rch p t) ^^ qc pl λq=>decide (q=p))=decide (p=P)
structure Open(s:Nat)(S:Nat->Bool)(P:Nat)(c:Nat->Bool):Prop where
 c1:∀q,q<P->c q=false
 c2:c P=true
 c3:∀t,t<2 ^ s->S t=false->wd s c t=false
theorem never{s P:Nat}{S S':Nat->Bool}{sp pl:List Nat}{c:Nat->Bool}(hP:P<2 ^ s)(t:Told s S P sp pl)(hS:∀t∈sp,S' t=false)(o:Open s S' P c):False:=by
 have e:=QK (2 ^ s) P c hP;rw[o.c2]at e;have e2:par (2 ^ s) (λq=>c q&&decide (q=P))=par (2 ^ s) λq=>(c q&&qc sp (λt=>rch q t)) ^^ (c q&&qc pl λz=>decide (z=q)):=qW _ _ _ λq hq=>by
  rw[<-t.sum q hq];cases c q<;>rfl
 rw[e2,ZB,qDL,qDL]at e;have a1:qc sp (λt=>par (2 ^ s) λq=>c q&&rch q t)=false:=jW _ λx hx=>by
  have:=(t.r1.mem x hx).2;rw[<-ZD s c x this];exact o.c3 x this (hS x hx)
 have a2:qc pl (λz=>par (2 ^ s) λq=>c q&&decide (z=q))=false:=jW _ λz hz=>by
  have:=(t.r2.mem z hz).2;rw[qW _ _ (λq=>c q&&decide (q=z)) λq _=>by rw[show (decide (z=q))=decide (q=z) by simp[eq_comm]],QK _ z c (by omega)];exact o.c1 z this
 rw[a1,a2]at e;cases e
theorem Open.lost{s P:Nat}{S:Nat->Bool}{c:Nat->Bool}(hP:P<2 ^ s)(o:Open s S P c):lp s S P=true:=by
 cases e:lp s S P with
 |true=>rfl
 |false=>
  exfalso;obtain⟨g,k,hg⟩:=told s S P hP e;have z:par (2 ^ s) (λq=>c q&&g q)=false:=by
   clear hg e
   induction k with
   |zero=>rw[qW _ _ (λ_=>false) λq _=>by rw[wq],zb]
   | @add t g ht hS _ ih=>
    rw[qW _ _ (λq=>(c q&&rch q t) ^^ (c q&&g q)) λq _=>by cases c q<;>rfl,ZB,ih,<-ZD s c t ht,o.c3 t ht hS];rfl
  rw[qW _ _ (λq=>c q&&decide (q=P)) (λq hq=>by
   by_cases h:P<=q
   ·rw[hg q h hq]
   ·rw[o.c1 q (by omega)];rfl),QK _ P c hP,o.c2]at z
  cases z
theorem Told.kept{s P:Nat}{S S':Nat->Bool}{sp pl:List Nat}(hP:P<2 ^ s)(t:Told s S P sp pl)(hS:∀t∈sp,S' t=false):lp s S' P=false:=by
 cases e:lp s S' P with
 |false=>rfl
 |true=>
  exfalso;obtain⟨c,c1,c2,c3⟩:=qAO s S' P hP e;exact never hP t hS ⟨c1,c2,c3⟩
theorem told_one{S:Nat->Bool}(h:S 0=false):Told 0 S 0 [0] []:=
 ⟨⟨Nat.le_refl _,by decide,trivial⟩,trivial,λt ht=>by simp at ht;rw[ht];exact h,λp hp=>by
  have:p=0:=by omega
  subst this;rfl⟩
theorem told_first{s P:Nat}{S:Nat->Bool}{sp pl:List Nat}(hP:P<2 ^ s)(t:Told s (λt=>S t||S (t+2 ^ s)) P sp pl):Told (s+1) S P (sp++sp.map (2 ^ s + ·)) pl:=by
 have p2:=pw s;refine⟨?_,t.r2,λx hx=>?_,λp hp=>?_⟩
 ·rw[p2];have:=t.r1.add (2 ^ s);rw[Nat.add_zero]at this;exact Ris.app this (by omega) (by omega) t.r1
 ·rcases wE.mp hx with h|h
  ·have:(S x||S (x+2 ^ s))=false:=t.off x h;rw[vF]at this;exact this.1
  ·obtain⟨y,hy,rfl⟩:=wp.mp h;have:(S y||S (y+2 ^ s))=false:=t.off y hy;rw[vF]at this;rw[vA];exact this.2
 ·rw[QZ,Qb];have mem:=λx hx=>(t.r1.mem x hx).2;by_cases h:p<2 ^ s
  ·rw[jW (f:=λx=>rch p (2 ^ s+x)) sp λx hx=>F6 h (mem x hx),wj];exact t.sum p h
  ·obtain⟨q,rfl⟩:∃q,p=2 ^ s+q:=⟨p-2 ^ s,by omega⟩
   have hq:q<2 ^ s:=by omega
   rw[lpar_congr (f:=λx=>rch (2 ^ s+q) x) (g:=rch q) sp λx hx=>Jr hq (mem x hx),lpar_congr (f:=λx=>rch (2 ^ s+q) (2 ^ s+x)) (g:=rch q) sp λx hx=>JV hq (mem x hx),vC,wy];rw[jW _ λx hx=>vc (by have:=(t.r2.mem x hx).2;omega),vc (by omega)]
theorem told_second{s P:Nat}{S:Nat->Bool}{sp pl:List Nat}(hP:P<2 ^ s)(t:Told s (λt=>S t&&S (t+2 ^ s)) P sp pl):
  Told (s+1) S (2 ^ s+P) (sp.filter (λx=>S (2 ^ s+x))++(sp.filter λx=>!S (2 ^ s+x)).map (2 ^ s + ·)) (((List.range (2 ^ s)).filter λp=>qc (sp.filter λx=>S (2 ^ s+x)) (rch p))++pl.map (2 ^ s + ·)):=by
 have p2:=pw s;have mem:=λx hx=>(t.r1.mem x hx).2;have meml:∀x∈sp.filter (λx=>S (2 ^ s+x)),x<2 ^ s:=λx hx=>mem x (List.mem_filter.mp hx).1;have memu:∀x∈sp.filter (λx=>!S (2 ^ s+x)),x<2 ^ s:=λx hx=>mem x (List.mem_filter.mp hx).1;refine⟨?_,?_,λx hx=>?_,λp hp=>?_⟩
 ·rw[p2];have:=(t.r1.filter λx=>!S (2 ^ s+x)).add (2 ^ s);rw[Nat.add_zero]at this;exact Ris.app this (by omega) (by omega) (t.r1.filter _)
 ·have:=t.r2.add (2 ^ s);rw[Nat.add_zero]at this;exact Ris.app this (by omega) (by omega) (ris_range _ _)
 ·rcases wE.mp hx with h|h
  ·obtain⟨h1,h2⟩:=List.mem_filter.mp h;have:(S x&&S (x+2 ^ s))=false:=t.off x h1;rw[vA x,h2,Bool.and_true]at this;exact this
  ·obtain⟨y,hy,rfl⟩:=wp.mp h;simpa using (List.mem_filter.mp hy).2
 ·rw[QZ,QZ,Qb,Qb];have on:=(ris_range (2 ^ s) λp=>qc (sp.filter λx=>S (2 ^ s+x)) (rch p)).once (p:=p);rw[on];by_cases h:p<2 ^ s
  ·rw[jW (f:=λx=>rch p (2 ^ s+x)) _ λx hx=>F6 h (memu x hx),wj];rw[jW (f:=λx=>decide (2 ^ s+x=p)) _ λx hx=>vc (by omega),wj,vc (show ¬ p=2 ^ s+P by omega)];have:decide (p∈(List.range (2 ^ s)).filter λp=>qc (sp.filter λx=>S (2 ^ s+x)) (rch p))=qc (sp.filter λx=>S (2 ^ s+x)) (rch p):=by
    rw[wX,ve,List.mem_filter,wS];exact⟨λz=>z.2,λz=>⟨h,z⟩⟩
   rw[this];exact vC _
  ·obtain⟨q,rfl⟩:∃q,p=2 ^ s+q:=⟨p-2 ^ s,by omega⟩
   have hq:q<2 ^ s:=by omega
   rw[lpar_congr (f:=λx=>rch (2 ^ s+q) x) (g:=rch q) _ λx hx=>Jr hq (meml x hx),lpar_congr (f:=λx=>rch (2 ^ s+q) (2 ^ s+x)) (g:=rch q) _ λx hx=>JV hq (memu x hx)];rw[<-Zb (rch q) (λx=>S (2 ^ s+x)) sp];rw[vc (show ¬ (2 ^ s+q)∈(List.range (2 ^ s)).filter _ by intro z;have:=wS.mp (List.mem_filter.mp z).1;omega),wy];rw[lpar_congr (f:=λx=>decide (2 ^ s+x=2 ^ s+q)) (g:=λx=>decide (x=q)) pl λx _=>by simp,t.sum q hq];simp
theorem Told.val{s P:Nat}{S:Nat->Bool}{sp pl:List Nat}(hP:P<2 ^ s)(t:Told s S P sp pl)(c:Nat->Bool):(qc sp (wd s c) ^^ qc pl c)=c P:=by
 have e:=QK (2 ^ s) P c hP;have e2:par (2 ^ s) (λq=>c q&&decide (q=P))=par (2 ^ s) λq=>(c q&&qc sp (λt=>rch q t)) ^^ (c q&&qc pl λz=>decide (z=q)):=qW _ _ _ λq hq=>by
  rw[<-t.sum q hq];cases c q<;>rfl
 rw[e2,ZB,qDL,qDL]at e;rw[<-e];congr 1
 ·exact lpar_congr _ λx hx=>ZD s c x (t.r1.mem x hx).2
 ·exact lpar_congr _ λz hz=>by
   have:=(t.r2.mem z hz).2;rw[qW _ _ (λq=>c q&&decide (q=z)) λq _=>by rw[show (decide (z=q))=decide (q=z) by simp[eq_comm]],QK _ z c (by omega)]
theorem K9{s:Nat}{S:Nat->Bool}(c f:Nat->Bool):∀n,n<=2 ^ s->∃c':Nat->Bool,(∀P,P<n->lp s S P=true->c' P=f P)/\∀t,t<2 ^ s->S t=false->wd s c' t=wd s c t
 | 0,_=>⟨c,λP h=>by omega,λ_ _ _=>rfl⟩
 |n+1,hn=>by
  obtain⟨c',h1,h2⟩:=K9 (s:=s) (S:=S) c f n (by omega);by_cases q:lp s S n=true/\c' n≠f n
  ·obtain⟨o,o1,o2,o3⟩:=qAO s S n (by omega) q.1;refine⟨λp=>(c' p ^^ o p),λP hP hl=>?_,λt ht hS=>?_⟩
   ·by_cases e:P=n
    ·subst e;show (c' P ^^ o P)=f P;rw[o2];have:=q.2;cases e1:c' P<;>cases e2:f P<;>rw[e1,e2]at this<;>first|rfl|exact absurd rfl this
    ·show (c' P ^^ o P)=f P;rw[o1 P (by omega),wj];exact h1 P (by omega) hl
   ·rw[ZS,o3 t ht hS,wj,h2 t ht hS]
  ·refine⟨c',λP hP hl=>?_,h2⟩;by_cases e:P=n
   ·subst e;by_cases z:c' P=f P
    ·exact z
    ·exact absurd ⟨hl,z⟩ q
   ·exact h1 P (by omega) hl
def Rd(s:Nat)(S cm fr fx C:Nat->Bool)(n:Nat):Prop:=∀P,P<n->(lp s S P=true/\fr P=false/\C P=fx P)\/(lp s S P=false/\(∃sp pl,Told s S P sp pl/\C P=(qc sp cm ^^ qc pl C))/\(fr P=false->C P=fx P))
theorem Rd.zero(s:Nat)(S cm fr fx C:Nat->Bool):Rd s S cm fr fx C 0:=λP h=>by omega
theorem Rd.congr{s n:Nat}{S cm fr fx C C':Nat->Bool}(h:Rd s S cm fr fx C n)(e:∀q,q<n->C' q=C q):Rd s S cm fr fx C' n:=λP hP=>by
 rcases h P hP with⟨a,b,d⟩|⟨a,⟨sp,pl,t,d⟩,f⟩
 ·exact .inl ⟨a,b,by rw[e P hP];exact d⟩
 ·exact .inr ⟨a,⟨sp,pl,t,by
   rw[e P hP,d];congr 1;exact lpar_congr _ λz hz=>(e z (by have:=(t.r2.mem z hz).2;omega)).symm⟩,λg=>by rw[e P hP];exact f g⟩
theorem Rd.lost{s n:Nat}{S cm fr fx C:Nat->Bool}(h:Rd s S cm fr fx C n)(hl:lp s S n=true)(hf:fr n=false)(e:C n=fx n):Rd s S cm fr fx C (n+1):=λP hP=>by
 by_cases q:P=n
 ·subst q;exact .inl ⟨hl,hf,e⟩
 ·exact h P (by omega)
theorem Rd.told{s n:Nat}{S cm fr fx C:Nat->Bool}(h:Rd s S cm fr fx C n)(hl:lp s S n=false){sp pl:List Nat}(t:Told s S n sp pl)(d:C n=(qc sp cm ^^ qc pl C))(e:fr n=false->C n=fx n):Rd s S cm fr fx C (n+1):=λP hP=>by
 by_cases q:P=n
 ·subst q;exact .inr ⟨hl,⟨sp,pl,t,d⟩,e⟩
 ·exact h P (by omega)
theorem Told.same{s P:Nat}{S:Nat->Bool}{sp pl:List Nat}(t:Told s S P sp pl){cm c:Nat->Bool}(h:∀t,t<2 ^ s->S t=false->wd s c t=cm t):qc sp cm=qc sp (wd s c):=lpar_congr _ λx hx=>(h x (t.r1.mem x hx).2 (t.off x hx)).symm
theorem Rd.agree{s n:Nat}{S cm fr fx C:Nat->Bool}(h:Rd s S cm fr fx C n)(hn:n<=2 ^ s){c:Nat->Bool}(h1:∀t,t<2 ^ s->S t=false->wd s c t=cm t)(h2:∀Q,Q<n->lp s S Q=true->c Q=C Q):∀m,m<=n->∀Q,Q<m->c Q=C Q
 | 0,_,Q,hQ=>by omega
 |m+1,hm,Q,hQ=>by
  by_cases e:Q=m
  ·subst e;rcases h Q (by omega) with⟨a,b,d⟩|⟨a,⟨sp,pl,t,d⟩,f⟩
   ·exact h2 Q (by omega) a
   ·rw[d,t.same h1,<-t.val (by omega) c];congr 1;exact lpar_congr _ λz hz=>Rd.agree h hn h1 h2 Q (by omega) z (t.r2.mem z hz).2
  ·exact Rd.agree h hn h1 h2 m (by omega) Q (by omega)
def Fit(s:Nat)(S cm fr fx:Nat->Bool)(n:Nat)(c:Nat->Bool):Prop:=(∀t,t<2 ^ s->S t=false->wd s c t=cm t)/\∀Q,Q<n->fr Q=false->c Q=fx Q
theorem Fit.le{s n m:Nat}{S cm fr fx c:Nat->Bool}(h:Fit s S cm fr fx n c)(hm:m<=n):Fit s S cm fr fx m c:=⟨h.1,λQ hQ=>h.2 Q (by omega)⟩
theorem Rd.fx{s n:Nat}{S cm fr fx C:Nat->Bool}(h:Rd s S cm fr fx C n){Q:Nat}(hQ:Q<n)(hf:fr Q=false):C Q=fx Q:=by
 rcases h Q hQ with⟨_,_,d⟩|⟨_,_,f⟩
 ·exact d
 ·exact f hf
theorem Rd.free{s n:Nat}{S cm fr fx C:Nat->Bool}(h:Rd s S cm fr fx C n){Q:Nat}(hQ:Q<n)(hf:fr Q=true):lp s S Q=false:=by
 rcases h Q hQ with⟨_,d,_⟩|⟨d,_⟩
 ·rw[hf]at d;cases d
 ·exact d
theorem Rd.core{s n:Nat}{S cm fr fx C:Nat->Bool}(h:Rd s S cm fr fx C n)(hn:n<=2 ^ s):∃c,Fit s S cm fr fx n c/\∀Q,Q<n->c Q=C Q:=by
 obtain⟨c,h1,h2⟩:=K9 (s:=s) (S:=S) (wd s cm) C (2 ^ s) (Nat.le_refl _);have k1:∀t,t<2 ^ s->S t=false->wd s c t=cm t:=λt ht hS=>by rw[h2 t ht hS,D4 s cm t ht]
 have k2:=h.agree hn k1 (λQ hQ hl=>h1 Q (by omega) hl) n (Nat.le_refl _);exact⟨c,⟨k1,λQ hQ hf=>by rw[k2 Q hQ];exact h.fx hQ hf⟩,k2⟩
theorem Rd.fit{s n m:Nat}{S cm fr fx C c:Nat->Bool}(h:Rd s S cm fr fx C n)(hn:n<=2 ^ s)(f:Fit s S cm fr fx m c)(hm:n<=m):∀Q,Q<n->c Q=C Q:=
 h.agree hn f.1 (λQ hQ hl=>by
  rcases h Q hQ with⟨_,b,d⟩|⟨d,_⟩
  ·rw[d];exact f.2 Q (by omega) b
  ·rw[hl]at d;cases d) n (Nat.le_refl _)
def LostAt(s:Nat)(S cm fr fx:Nat->Bool)(P:Nat):Prop:=P<2 ^ s/\fr P=true/\lp s S P=true/\(∀Q,Q<P->fr Q=true->lp s S Q=false)/\∃c,Fit s S cm fr fx P c
def SlipAt(s:Nat)(S cm fr fx:Nat->Bool)(P:Nat):Prop:=P<2 ^ s/\fr P=false/\(∀Q,Q<P->fr Q=true->lp s S Q=false)/\(∃c,Fit s S cm fr fx P c)/\¬ ∃c,Fit s S cm fr fx (P+1) c
def ReadAs(s:Nat)(S cm fr fx c:Nat->Bool):Prop:=(∀Q,Q<2 ^ s->fr Q=true->lp s S Q=false)/\Fit s S cm fr fx (2 ^ s) c
theorem Rd.lostAt{s n:Nat}{S cm fr fx C:Nat->Bool}(h:Rd s S cm fr fx C n)(hn:n<2 ^ s)(hf:fr n=true)(hl:lp s S n=true):LostAt s S cm fr fx n:=by
 obtain⟨c,f,_⟩:=h.core (by omega);exact⟨hn,hf,hl,λQ hQ hf=>h.free hQ hf,c,f⟩
theorem Rd.slipAt{s n:Nat}{S cm fr fx C:Nat->Bool}(h:Rd s S cm fr fx C n)(hn:n<2 ^ s)(hf:fr n=false){sp pl:List Nat}(t:Told s S n sp pl)(d:(qc sp cm ^^ qc pl C)≠fx n):SlipAt s S cm fr fx n:=by
 obtain⟨c,f,_⟩:=h.core (by omega);refine⟨hn,hf,λQ hQ hf=>h.free hQ hf,⟨c,f⟩,?_⟩;rintro⟨c',f'⟩;apply d;have:=h.fit (by omega) f' (by omega);rw[t.same f'.1,<-f'.2 n (by omega) hf,<-t.val hn c'];congr 1;exact lpar_congr _ λz hz=>(this z (t.r2.mem z hz).2).symm
theorem Rd.readAs{s:Nat}{S cm fr fx C:Nat->Bool}(h:Rd s S cm fr fx C (2 ^ s)):ReadAs s S cm fr fx C:=by
 obtain⟨c,f,e⟩:=h.core (Nat.le_refl _);refine⟨λQ hQ hf=>h.free hQ hf,λt ht hS=>?_,λQ hQ hf=>h.fx hQ hf⟩;rw[<-f.1 t ht hS];exact qf s _ _ t (λq hq=>(e q hq).symm) ht
theorem LostAt.uniq{s P P':Nat}{S cm fr fx:Nat->Bool}(a:LostAt s S cm fr fx P)(b:LostAt s S cm fr fx P'):P=P':=by
 obtain⟨a1,a2,a3,a4,a5⟩:=a;obtain⟨b1,b2,b3,b4,b5⟩:=b;rcases vN P P' with h|h|h
 ·rw[b4 P h a2]at a3;cases a3
 ·exact h
 ·rw[a4 P' h b2]at b3;cases b3
theorem LostAt.slip{s P P':Nat}{S cm fr fx:Nat->Bool}(a:LostAt s S cm fr fx P)(b:SlipAt s S cm fr fx P'):False:=by
 obtain⟨a1,a2,a3,a4,c,f⟩:=a;obtain⟨b1,b2,b3,b4,b5⟩:=b;rcases vN P P' with h|h|h
 ·rw[b3 P h a2]at a3;cases a3
 ·subst h;rw[a2]at b2;cases b2
 ·exact b5 ⟨c,f.le (by omega)⟩
theorem LostAt.read{s P:Nat}{S cm fr fx c:Nat->Bool}(a:LostAt s S cm fr fx P)(b:ReadAs s S cm fr fx c):False:=by
 obtain⟨a1,a2,a3,_⟩:=a;rw[b.1 P a1 a2]at a3;cases a3
theorem SlipAt.uniq{s P P':Nat}{S cm fr fx:Nat->Bool}(a:SlipAt s S cm fr fx P)(b:SlipAt s S cm fr fx P'):P=P':=by
 obtain⟨a1,a2,a3,⟨c,f⟩,a5⟩:=a;obtain⟨b1,b2,b3,⟨d,g⟩,b5⟩:=b;rcases vN P P' with h|h|h
 ·exact absurd ⟨d,g.le (by omega)⟩ a5
 ·exact h
 ·exact absurd ⟨c,f.le (by omega)⟩ b5
theorem SlipAt.read{s P m:Nat}{S cm fr fx c:Nat->Bool}(a:SlipAt s S cm fr fx P)(b:Fit s S cm fr fx m c)(hm:2 ^ s<=m):False:=by
 obtain⟨a1,a2,a3,a4,a5⟩:=a;exact a5 ⟨c,b.le (by omega)⟩
theorem ReadAs.uniq{s:Nat}{S cm fr fx c d:Nat->Bool}(a:ReadAs s S cm fr fx c)(b:Fit s S cm fr fx (2 ^ s) d):∀Q,Q<2 ^ s->c Q=d Q:=by
 have key:∀m,m<=2 ^ s->∀Q,Q<m->c Q=d Q:=by
  intro m
  induction m with
  |zero=>intro _ Q hQ;omega
  |succ m ih=>
   intro hm Q hQ;by_cases e:Q=m
   ·subst e;cases hf:fr Q with
    |false=>rw[a.2.2 Q (by omega) hf,b.2 Q (by omega) hf]
    |true=>
     by_cases z:c Q=d Q
     ·exact z
     ·exfalso;have o:Open s S Q λq=>(c q ^^ d q):=⟨λq hq=>by rw[ih (by omega) q hq,vC],by cases h1:c Q<;>cases h2:d Q<;>simp_all,λt ht hS=>by rw[ZS,a.2.1 t ht hS,b.1 t ht hS,vC]⟩
      have:=o.lost (by omega);rw[a.1 Q (by omega) hf]at this;cases this
   ·exact ih (by omega) Q (by omega)
 exact key _ (Nat.le_refl _)
theorem lp_lo{s P:Nat}{S:Nat->Bool}(h:P<2 ^ s):lp (s+1) S P=lp s (λt=>S t||S (t+2 ^ s)) P:=by
 show (if P<2 ^ s then _ else _)=_;rw[if_pos h]
theorem lp_hi{s P:Nat}{S:Nat->Bool}:lp (s+1) S (2 ^ s+P)=lp s (λt=>S t&&S (t+2 ^ s)) P:=by
 show (if 2 ^ s+P<2 ^ s then _ else _)=_;rw[if_neg (by omega),wP]
noncomputable def jn(h:Nat)(a b:Nat->Bool)(q:Nat):Bool:=if q<h then a q else b (q-h)
theorem jn_lo{h q:Nat}{a b:Nat->Bool}(k:q<h):jn h a b q=a q:=if_pos k
theorem jn_hi{h q:Nat}{a b:Nat->Bool}:jn h a b (h+q)=b q:=by unfold jn;rw[if_neg (by omega),wP]
theorem qAp{s t:Nat}{c:Nat->Bool}(h:t<2 ^ s):wd (s+1) c t=(wd s c t ^^ wd s (λq=>c (2 ^ s+q)) t):=by
 show (if t<2 ^ s then _ else _)=_;rw[if_pos h]
theorem y3{s t:Nat}{c:Nat->Bool}:wd (s+1) c (t+2 ^ s)=wd s (λq=>c (2 ^ s+q)) t:=by
 show (if t+2 ^ s<2 ^ s then _ else _)=_;rw[if_neg (by omega),Nat.add_sub_cancel]
theorem wd_jl{s t:Nat}{a b:Nat->Bool}(h:t<2 ^ s):wd (s+1) (jn (2 ^ s) a b) t=(wd s a t ^^ wd s b t):=by
 rw[qAp h,qf s (jn (2 ^ s) a b) a t (λq hq=>jn_lo hq) h,qf s (λq=>jn (2 ^ s) a b (2 ^ s+q)) b t (λq hq=>jn_hi) h]
theorem wd_jh{s t:Nat}{a b:Nat->Bool}(h:t<2 ^ s):wd (s+1) (jn (2 ^ s) a b) (t+2 ^ s)=wd s b t:=by
 rw[y3,qf s (λq=>jn (2 ^ s) a b (2 ^ s+q)) b t (λq hq=>jn_hi) h]
theorem u4{s n:Nat}{S cm fr fx:Nat->Bool}(hn:n<=2 ^ s):(∃c,Fit (s+1) S cm fr fx n c)↔∃c,Fit s (λt=>S t||S (t+2 ^ s)) (λt=>cm t ^^ cm (t+2 ^ s)) fr fx n c:=by
 have:=pw s;constructor
 ·rintro⟨c,h1,h2⟩;refine⟨c,λt ht hS=>?_,h2⟩;have hS':S t=false/\S (t+2 ^ s)=false:=by simpa using hS
  have a:=h1 t (by omega) hS'.1;have b:=h1 (t+2 ^ s) (by omega) hS'.2;show wd s c t=(cm t ^^ cm (t+2 ^ s));rw[<-a,<-b,qAp ht,y3];cases wd s c t<;>cases wd s (λq=>c (2 ^ s+q)) t<;>rfl
 ·rintro⟨c,h1,h2⟩;refine⟨jn (2 ^ s) c (wd s λt=>if S (t+2 ^ s) then cm t ^^ wd s c t else cm (t+2 ^ s)),λt ht hS=>?_,λQ hQ hf=>by rw[jn_lo (by omega)];exact h2 Q hQ hf⟩;by_cases q:t<2 ^ s
  ·rw[wd_jl q,D4 s _ t q];cases e:S (t+2 ^ s) with
   |true=>
    rw[if_pos rfl];cases wd s c t<;>cases cm t<;>rfl
   |false=>
    have:wd s c t=(cm t ^^ cm (t+2 ^ s)):=h1 t q (by show (S t||S (t+2 ^ s))=false;rw[hS,e];rfl);rw[this,if_neg (by decide)];cases cm t<;>cases cm (t+2 ^ s)<;>rfl
  ·obtain⟨u,rfl⟩:∃u,t=u+2 ^ s:=⟨t-2 ^ s,by omega⟩
   rw[wd_jh (by omega),D4 s _ u (by omega),hS,if_neg (by decide)]
theorem K4{s n:Nat}{S cm fr fx c1:Nat->Bool}(hn:n<=2 ^ s)(r:ReadAs s (λt=>S t||S (t+2 ^ s)) (λt=>cm t ^^ cm (t+2 ^ s)) fr fx c1)(c:Nat->Bool):
  (Fit (s+1) S cm fr fx (2 ^ s+n) c->Fit s (λt=>S t&&S (t+2 ^ s)) (λt=>if S t then cm (t+2 ^ s) else cm t ^^ wd s c1 t) (λq=>fr (2 ^ s+q)) (λq=>fx (2 ^ s+q)) n λq=>c (2 ^ s+q))/\
  (Fit s (λt=>S t&&S (t+2 ^ s)) (λt=>if S t then cm (t+2 ^ s) else cm t ^^ wd s c1 t) (λq=>fr (2 ^ s+q)) (λq=>fx (2 ^ s+q)) n c->Fit (s+1) S cm fr fx (2 ^ s+n) (jn (2 ^ s) c1 c)):=by
 have:=pw s;constructor
 ·rintro⟨h1,h2⟩;have lo:Fit s (λt=>S t||S (t+2 ^ s)) (λt=>cm t ^^ cm (t+2 ^ s)) fr fx (2 ^ s) c:=by
   refine⟨λt ht hS=>?_,λQ hQ=>h2 Q (by omega)⟩;have hS':S t=false/\S (t+2 ^ s)=false:=by simpa using hS
   have a:=h1 t (by omega) hS'.1;have b:=h1 (t+2 ^ s) (by omega) hS'.2;show wd s c t=(cm t ^^ cm (t+2 ^ s));rw[<-a,<-b,qAp ht,y3];cases wd s c t<;>cases wd s (λq=>c (2 ^ s+q)) t<;>rfl
  have e:=r.uniq lo;refine⟨λt ht hS=>?_,λQ hQ hf=>h2 _ (by omega) hf⟩;show _=if S t then cm (t+2 ^ s) else cm t ^^ wd s c1 t
  cases q:S t with
  |true=>
   have hS':S (t+2 ^ s)=false:=by
    have:(S t&&S (t+2 ^ s))=false:=hS;rw[q]at this;exact this
   rw[if_pos rfl,<-h1 (t+2 ^ s) (by omega) hS',y3]
  |false=>
   rw[if_neg (by decide),<-h1 t (by omega) q,qAp ht,qf s c1 c t (λq hq=>e q hq) ht];cases wd s c t<;>cases wd s (λq=>c (2 ^ s+q)) t<;>rfl
 ·rintro⟨h1,h2⟩;refine⟨λt ht hS=>?_,λQ hQ hf=>?_⟩
  ·by_cases q:t<2 ^ s
   ·have:wd s c t=if S t then cm (t+2 ^ s) else cm t ^^ wd s c1 t:=h1 t q (by show (S t&&S (t+2 ^ s))=false;rw[hS];rfl)
    rw[wd_jl q,this,hS,if_neg (by decide)];cases wd s c1 t<;>cases cm t<;>rfl
   ·obtain⟨u,rfl⟩:∃u,t=u+2 ^ s:=⟨t-2 ^ s,by omega⟩
    have:wd s c u=if S u then cm (u+2 ^ s) else cm u ^^ wd s c1 u:=h1 u (by omega) (by show (S u&&S (u+2 ^ s))=false;rw[hS,wq])
    rw[wd_jh (by omega),this];cases q:S u with
    |true=>rw[if_pos rfl]
    |false=>
     have r1:wd s c1 u=(cm u ^^ cm (u+2 ^ s)):=r.2.1 u (by omega) (by show (S u||S (u+2 ^ s))=false;rw[q,hS];rfl);rw[if_neg (by decide),r1];cases cm u<;>cases cm (u+2 ^ s)<;>rfl
  ·by_cases q:Q<2 ^ s
   ·rw[jn_lo q];exact r.2.2 Q q hf
   ·obtain⟨u,rfl⟩:∃u,Q=2 ^ s+u:=⟨Q-2 ^ s,by omega⟩
    rw[jn_hi];exact h2 u (by omega) hf
noncomputable def wk:Nat->(Nat->Bool)->(Nat->Bool)->(Nat->Bool)->(Nat->Bool)->(Nat->Bool)×List (Bool×Nat)
 | 0,S,cm,fr,fx=>(λ_=>if fr 0 then (!S 0&&cm 0) else fx 0,(if S 0&&fr 0 then [(true,0)] else [])++if !S 0&&(!fr 0&&(cm 0 ^^ fx 0)) then [(false,0)] else [])
 |s+1,S,cm,fr,fx=>
  let a:=wk s (λt=>S t||S (t+2 ^ s)) (λt=>cm t ^^ cm (t+2 ^ s)) fr fx
  let b:=wk s (λt=>S t&&S (t+2 ^ s)) (λt=>if S t then cm (t+2 ^ s) else cm t ^^ wd s a.1 t) (λq=>fr (2 ^ s+q)) (λq=>fx (2 ^ s+q))
  (jn (2 ^ s) a.1 b.1,a.2++b.2.map λx=>(x.1,2 ^ s+x.2))
def qCD(s:Nat)(S cm fr fx:Nat->Bool):Bool×Nat->Prop
 | (true,P)=>LostAt s S cm fr fx P
 | (false,P)=>SlipAt s S cm fr fx P
def End(s:Nat)(S cm fr fx:Nat->Bool)(r:(Nat->Bool)×List (Bool×Nat)):Prop:=match r.2 with
 | []=>ReadAs s S cm fr fx r.1
 |x::_=>qCD s S cm fr fx x
theorem wk_end:∀(s:Nat) (S cm fr fx:Nat->Bool),End s S cm fr fx (wk s S cm fr fx)
 | 0,S,cm,fr,fx=>by
  have f0:∀c:Nat->Bool,Fit 0 S cm fr fx 0 c↔(S 0=false->c 0=cm 0):=λc=>⟨λh hS=>h.1 0 (by decide) hS,λh=>⟨λt ht hS=>by
   have:t=0:=by omega
   subst this;exact h hS,λQ hQ=>by omega⟩⟩
  have f1:∀c:Nat->Bool,Fit 0 S cm fr fx 1 c↔(S 0=false->c 0=cm 0)/\(fr 0=false->c 0=fx 0):=λc=>⟨λh=>⟨λhS=>h.1 0 (by decide) hS,h.2 0 (by decide)⟩,λh=>⟨λt ht hS=>by
   have:t=0:=by omega
   subst this;exact h.1 hS,λQ hQ=>by
   have:Q=0:=by omega
   subst this;exact h.2⟩⟩
  have lp0:∀Q,lp 0 S Q=S Q:=λQ=>rfl;cases a:S 0<;>cases b:fr 0
  ·by_cases c:cm 0=fx 0
   ·have:End 0 S cm fr fx (λ_=>fx 0,[]):=⟨λQ hQ hf=>absurd ((show Q=0 by omega) ▸ hf:fr 0=true) (by rw[b];decide),(f1 _).mpr ⟨λ_=>c.symm,λ_=>rfl⟩⟩
    simpa [wk,a,b,c] using this
   ·have:End 0 S cm fr fx (λ_=>fx 0,[(false,0)]):=⟨by decide,b,λQ hQ=>by omega,⟨cm,(f0 _).mpr λ_=>rfl⟩,λ⟨d,hd⟩=>c (by have:=(f1 d).mp hd;rw[<-this.1 a,<-this.2 b])⟩
    have e:(cm 0 ^^ fx 0)=true:=by cases h1:cm 0<;>cases h2:fx 0<;>simp_all
    simpa [wk,a,b,e] using this
  ·have:End 0 S cm fr fx (λ_=>cm 0,[]):=⟨λQ hQ hf=>(by rw[show Q=0 by omega];exact a),(f1 _).mpr ⟨λ_=>rfl,λh=>absurd h (by rw[b];decide)⟩⟩
   simpa [wk,a,b] using this
  ·have:End 0 S cm fr fx (λ_=>fx 0,[]):=⟨λQ hQ hf=>absurd ((show Q=0 by omega) ▸ hf:fr 0=true) (by rw[b];decide),(f1 _).mpr ⟨λh=>absurd h (by rw[a];decide),λh=>rfl⟩⟩
   simpa [wk,a,b] using this
  ·have:End 0 S cm fr fx (λ_=>false,[(true,0)]):=⟨by decide,b,a,λQ hQ=>by omega,⟨cm,(f0 _).mpr λ_=>rfl⟩⟩
   simpa [wk,a,b] using this
 |s+1,S,cm,fr,fx=>by
  have:=pw s;have i1:=wk_end s (λt=>S t||S (t+2 ^ s)) (λt=>cm t ^^ cm (t+2 ^ s)) fr fx;have i2:=wk_end s (λt=>S t&&S (t+2 ^ s)) (λt=>if S t then cm (t+2 ^ s) else cm t ^^ wd s (wk s (λt=>S t||S (t+2 ^ s)) (λt=>cm t ^^ cm (t+2 ^ s)) fr fx).1 t) (λq=>fr (2 ^ s+q)) (λq=>fx (2 ^ s+q));show End (s+1) S cm fr fx (jn (2 ^ s) _ _,_++_);generalize wk s (λt=>S t||S (t+2 ^ s)) (λt=>cm t ^^ cm (t+2 ^ s)) fr fx=a at i1 i2 ⊢;obtain⟨c1,l1⟩:=a;cases l1 with
  |cons x l=>
   obtain⟨k,P⟩:=x;show qCD _ _ _ _ _ (k,P);cases k with
   |true=>
    obtain⟨a1,a2,a3,a4,a5⟩:=(i1:LostAt _ _ _ _ _ P)
    exact⟨by omega,a2,by rw[lp_lo a1];exact a3,λQ hQ hf=>by rw[lp_lo (by omega)];exact a4 Q hQ hf,(u4 (by omega)).mpr a5⟩
   |false=>
    obtain⟨a1,a2,a4,a5,a6⟩:=(i1:SlipAt _ _ _ _ _ P)
    exact⟨by omega,a2,λQ hQ hf=>by rw[lp_lo (by omega)];exact a4 Q hQ hf,(u4 (by omega)).mpr a5,λz=>a6 ((u4 (by omega)).mp z)⟩
  |nil=>
   have r:ReadAs _ _ _ _ _ c1:=i1
   change End s (λt=>S t&&S (t+2 ^ s)) (λt=>if S t then cm (t+2 ^ s) else cm t ^^ wd s c1 t) _ _ _ at i2
   show End (s+1) S cm fr fx (jn (2 ^ s) c1 (wk s (λt=>S t&&S (t+2 ^ s)) (λt=>if S t then cm (t+2 ^ s) else cm t ^^ wd s c1 t) (λq=>fr (2 ^ s+q)) (λq=>fx (2 ^ s+q))).1,(wk s (λt=>S t&&S (t+2 ^ s)) (λt=>if S t then cm (t+2 ^ s) else cm t ^^ wd s c1 t) (λq=>fr (2 ^ s+q)) (λq=>fx (2 ^ s+q))).2.map λx=>(x.1,2 ^ s+x.2));generalize wk s (λt=>S t&&S (t+2 ^ s)) (λt=>if S t then cm (t+2 ^ s) else cm t ^^ wd s c1 t) (λq=>fr (2 ^ s+q)) (λq=>fx (2 ^ s+q))=b at i2 ⊢;obtain⟨c2,l2⟩:=b;have fr':∀P,P<=2 ^ s->(∀Q,Q<P->fr (2 ^ s+Q)=true->lp s (λt=>S t&&S (t+2 ^ s)) Q=false)->∀Q,Q<2 ^ s+P->fr Q=true->lp (s+1) S Q=false:=λP hP h Q hQ hf=>by
    by_cases q:Q<2 ^ s
    ·rw[lp_lo q];exact r.1 Q q hf
    ·obtain⟨u,rfl⟩:∃u,Q=2 ^ s+u:=⟨Q-2 ^ s,by omega⟩
     rw[lp_hi];exact h u (by omega) hf
   cases l2 with
   |nil=>
    have r2:ReadAs _ _ _ _ _ c2:=i2;have z:=(K4 (Nat.le_refl _) r c2).2 r2.2;rw[<-pw]at z;refine(⟨?_,z⟩:ReadAs (s+1) S cm fr fx (jn (2 ^ s) c1 c2));have:=fr' (2 ^ s) (Nat.le_refl _) r2.1;rw[<-pw]at this;exact this
   |cons x l=>
    obtain⟨k,P⟩:=x;show qCD _ _ _ _ _ (k,2 ^ s+P);cases k with
    |true=>
     obtain⟨a1,a2,a3,a4,c,a5⟩:=(show LostAt s (λt=>S t&&S (t+2 ^ s)) (λt=>if S t then cm (t+2 ^ s) else cm t ^^ wd s c1 t) (λq=>fr (2 ^ s+q)) (λq=>fx (2 ^ s+q)) P from i2)
     exact⟨by omega,a2,by rw[lp_hi];exact a3,fr' P (by omega) a4,_,(K4 (by omega) r c).2 a5⟩
    |false=>
     obtain⟨a1,a2,a4,⟨c,a5⟩,a6⟩:=(show SlipAt s (λt=>S t&&S (t+2 ^ s)) (λt=>if S t then cm (t+2 ^ s) else cm t ^^ wd s c1 t) (λq=>fr (2 ^ s+q)) (λq=>fx (2 ^ s+q)) P from i2)
     exact⟨by omega,a2,fr' P (by omega) a4,⟨_,(K4 (by omega) r c).2 a5⟩,λ⟨d,z⟩=>a6 ⟨_,(K4 (n:=P+1) (by omega) r d).1 z⟩⟩
end GF
namespace PI
section
variable{gl:List T}{P:Nat->List T->Mem->PR (TB×Mem)}{M:Mem}{t:T}{l:TS}
@[simp high] theorem qIn:pe gl P (.var 0) (some t::l) M=.ok ((t,t.lf),M):=Eq.trans rfl rfl
@[simp high] theorem qIg{x0:Option T}:pe gl P (.var 1) (x0::some t::l) M=.ok ((t,t.lf),M):=Eq.trans rfl rfl
@[simp high] theorem qIV{x0 x1:Option T}:pe gl P (.var 2) (x0::x1::some t::l) M=.ok ((t,t.lf),M):=Eq.trans rfl rfl
@[simp high] theorem qIA{x0 x1 x2:Option T}:pe gl P (.var 3) (x0::x1::x2::some t::l) M=.ok ((t,t.lf),M):=Eq.trans rfl rfl
@[simp high] theorem qIo{x0 x1 x2 x3:Option T}:pe gl P (.var 4) (x0::x1::x2::x3::some t::l) M=.ok ((t,t.lf),M):=Eq.trans rfl rfl
@[simp high] theorem qIH{x0 x1 x2 x3 x4:Option T}:pe gl P (.var 5) (x0::x1::x2::x3::x4::some t::l) M=.ok ((t,t.lf),M):=Eq.trans rfl rfl
@[simp high] theorem qIF{x0 x1 x2 x3 x4 x5:Option T}:pe gl P (.var 6) (x0::x1::x2::x3::x4::x5::some t::l) M=.ok ((t,t.lf),M):=Eq.trans rfl rfl
@[simp high] theorem qIX{x0 x1 x2 x3 x4 x5 x6:Option T}:pe gl P (.var 7) (x0::x1::x2::x3::x4::x5::x6::some t::l) M=.ok ((t,t.lf),M):=Eq.trans rfl rfl
@[simp high] theorem qIJ{x0 x1 x2 x3 x4 x5 x6 x7:Option T}:pe gl P (.var 8) (x0::x1::x2::x3::x4::x5::x6::x7::some t::l) M=.ok ((t,t.lf),M):=Eq.trans rfl rfl
@[simp high] theorem qHs{x0 x1 x2 x3 x4 x5 x6 x7 x8:Option T}:pe gl P (.var 9) (x0::x1::x2::x3::x4::x5::x6::x7::x8::some t::l) M=.ok ((t,t.lf),M):=Eq.trans rfl rfl
@[simp high] theorem qHm{x0 x1 x2 x3 x4 x5 x6 x7 x8 x9:Option T}:pe gl P (.var 10) (x0::x1::x2::x3::x4::x5::x6::x7::x8::x9::some t::l) M=.ok ((t,t.lf),M):=Eq.trans rfl rfl
@[simp high] theorem qGy{x0 x1 x2 x3 x4 x5 x6 x7 x8 x9 x10:Option T}:pe gl P (.var 11) (x0::x1::x2::x3::x4::x5::x6::x7::x8::x9::x10::some t::l) M=.ok ((t,t.lf),M):=Eq.trans rfl rfl
@[simp high] theorem qGj{x0 x1 x2 x3 x4 x5 x6 x7 x8 x9 x10 x11:Option T}:pe gl P (.var 12) (x0::x1::x2::x3::x4::x5::x6::x7::x8::x9::x10::x11::some t::l) M=.ok ((t,t.lf),M):=Eq.trans rfl rfl
@[simp high] theorem qHP{x0 x1 x2 x3 x4 x5 x6 x7 x8 x9 x10 x11 x12:Option T}:pe gl P (.var 13) (x0::x1::x2::x3::x4::x5::x6::x7::x8::x9::x10::x11::x12::some t::l) M=.ok ((t,t.lf),M):=Eq.trans rfl rfl
@[simp high] theorem qHY{y z:Option T}:(y::l:TS).set 0 z=z::l:=Eq.trans rfl rfl
@[simp high] theorem qHR{x0 y z:Option T}:(x0::y::l:TS).set 1 z=x0::z::l:=Eq.trans rfl rfl
@[simp high] theorem qG6{x0 x1 y z:Option T}:(x0::x1::y::l:TS).set 2 z=x0::x1::z::l:=Eq.trans rfl rfl
@[simp high] theorem qGr{x0 x1 x2 y z:Option T}:(x0::x1::x2::y::l:TS).set 3 z=x0::x1::x2::z::l:=Eq.trans rfl rfl
@[simp high] theorem qG0{x0 x1 x2 x3 y z:Option T}:(x0::x1::x2::x3::y::l:TS).set 4 z=x0::x1::x2::x3::z::l:=Eq.trans rfl rfl
@[simp high] theorem qHq{x0 x1 x2 x3 x4 y z:Option T}:(x0::x1::x2::x3::x4::y::l:TS).set 5 z=x0::x1::x2::x3::x4::z::l:=Eq.trans rfl rfl
@[simp high] theorem qGh{x0 x1 x2 x3 x4 x5 y z:Option T}:(x0::x1::x2::x3::x4::x5::y::l:TS).set 6 z=x0::x1::x2::x3::x4::x5::z::l:=Eq.trans rfl rfl
@[simp high] theorem qHp{x0 x1 x2 x3 x4 x5 x6 y z:Option T}:(x0::x1::x2::x3::x4::x5::x6::y::l:TS).set 7 z=x0::x1::x2::x3::x4::x5::x6::z::l:=Eq.trans rfl rfl
@[simp high] theorem qHl{x0 x1 x2 x3 x4 x5 x6 x7 y z:Option T}:(x0::x1::x2::x3::x4::x5::x6::x7::y::l:TS).set 8 z=x0::x1::x2::x3::x4::x5::x6::x7::z::l:=Eq.trans rfl rfl
@[simp high] theorem qHZ{x0 x1 x2 x3 x4 x5 x6 x7 x8 y z:Option T}:(x0::x1::x2::x3::x4::x5::x6::x7::x8::y::l:TS).set 9 z=x0::x1::x2::x3::x4::x5::x6::x7::x8::z::l:=Eq.trans rfl rfl
@[simp high] theorem qF3{x0 x1 x2 x3 x4 x5 x6 x7 x8 x9 y z:Option T}:(x0::x1::x2::x3::x4::x5::x6::x7::x8::x9::y::l:TS).set 10 z=x0::x1::x2::x3::x4::x5::x6::x7::x8::x9::z::l:=Eq.trans rfl rfl
@[simp high] theorem qFe{x0 x1 x2 x3 x4 x5 x6 x7 x8 x9 x10 y z:Option T}:(x0::x1::x2::x3::x4::x5::x6::x7::x8::x9::x10::y::l:TS).set 11 z=x0::x1::x2::x3::x4::x5::x6::x7::x8::x9::x10::z::l:=Eq.trans rfl rfl
@[simp high] theorem qGA{x0 x1 x2 x3 x4 x5 x6 x7 x8 x9 x10 x11 y z:Option T}:(x0::x1::x2::x3::x4::x5::x6::x7::x8::x9::x10::x11::y::l:TS).set 12 z=x0::x1::x2::x3::x4::x5::x6::x7::x8::x9::x10::x11::z::l:=Eq.trans rfl rfl
@[simp high] theorem qFZ{x0 x1 x2 x3 x4 x5 x6 x7 x8 x9 x10 x11 x12 y z:Option T}:(x0::x1::x2::x3::x4::x5::x6::x7::x8::x9::x10::x11::x12::y::l:TS).set 13 z=x0::x1::x2::x3::x4::x5::x6::x7::x8::x9::x10::x11::x12::z::l:=Eq.trans rfl rfl
variable{σ:TS}{C:List Nat}{e:E}{i:Nat}
theorem jv(h:(C.contains i||C.contains (i+1000))=false):px gl P C (.asg (.name i) e) σ M=(pe gl P e σ M).bind λp=>.ok (.nx (σ.set i (some p.1.1)),p.2):=by
 rw[vF]at h;rw[k9,h.1,h.2];rfl
@[simp high] theorem qHh:px gl P [] (.asg (.name i) e) σ M=(pe gl P e σ M).bind λp=>.ok (.nx (σ.set i (some p.1.1)),p.2):=jv rfl
variable{s:S}{r t0 u0:Ss}{σ':TS}{M':Mem}{c:E}{b:Bool}
theorem zm(e:px gl P C s σ M=.ok (.nx σ',M')):pxs gl P C (.cons s r) σ M=pxs gl P C r σ' M':=by rw[QW,e];rfl
theorem qBj:pxs gl P C (.cons s .nil) σ M=px gl P C s σ M:=by
 rw[QW];cases px gl P C s σ M with
 |ok p=>obtain⟨o,M'⟩:=p;cases o<;>rfl
 |_=>rfl
theorem qGT(h:pB (pe gl P c σ M)=.ok (b,M)):px gl P C (.ifs c t0 u0) σ M=if b=true then pxs gl P C t0 σ M else pxs gl P C u0 σ M:=by rw[i8,h];rfl
section
variable{i f:Nat}{a b d z:E}{u v w:T}{fa fb fc fd:Bool}{M1 M2 M3 M4:Mem}{r:TB}
theorem qi(h:σ[i]?=some (some t)):pe gl P (.var i) σ M=.ok ((t,t.lf),M):=by rw[pe_var,h]
theorem D8(ha:pe gl P a σ M=.ok ((t,fa),M1))(hb:pe gl P b σ M1=.ok ((u,fb),M2))(h:zS M2 t u=some r):pe gl P (.idx a b) σ M=.ok (r,M2):=by
 rw[qD1,ha,PR.bind_ok,hb,PR.bind_ok,h];rfl
theorem qFY{op:BOp}(ha:pe gl P a σ M=.ok ((t,fa),M1))(hb:pe gl P b σ M1=.ok ((u,fb),M2))(h:qt M2 op t u=some r):pe gl P (.bin op a b) σ M=.ok (r,M2):=by
 rw[qEz,ha,PR.bind_ok,hb,PR.bind_ok,h];rfl
theorem Qs{op:COp}{x:Bool}(ha:pe gl P a σ M=.ok ((t,fa),M1))(hb:pe gl P b σ M1=.ok ((u,fb),M2))(h:qg M2 op t u=some x):pe gl P (.cmp op a b) σ M=.ok (bT x,M2):=by
 rw[X7,ha,PR.bind_ok,hb,PR.bind_ok,h];rfl
theorem qC1{g:BF}(ha:pe gl P a σ M=.ok ((t,fa),M1))(h:zr M1 g [t]=some r):pe gl P (.blt g (.cons a .nil)) σ M=.ok (r,M1):=by
 rw[qEX,jm,ha,PR.bind_ok,j8,PR.bind_ok,PR.bind_ok];show (PR.ofO (zr M1 g [t])).bind _=_;rw[h];rfl
theorem U5(ha:pe gl P a σ M=.ok ((t,fa),M1))(hb:pe gl P b σ M1=.ok ((u,fb),M2))(hd:pe gl P d σ M2=.ok ((v,fc),M3))(hz:pe gl P z σ M3=.ok ((w,fd),M4))(h:P f [t,u,v,w] M4=.ok (r,M')):pe gl P (.call f (.cons a (.cons b (.cons d (.cons z .nil))))) σ M=.ok (r,M'):=by
 rw[pe_call,jm,ha,PR.bind_ok,jm,hb,PR.bind_ok,jm,hd,PR.bind_ok,jm,hz,PR.bind_ok,j8];show (P f [t,u,v,w] M4).nx=_;rw[h];rfl
theorem qFn{x y:Bool}(ha:pe gl P a σ M=.ok (bT x,M1))(hb:pe gl P b σ M1=.ok (bT y,M1)):pe gl P (.and a b) σ M=.ok (bT (x&&y),M1):=by
 rw[pe_and,ha,qFi,PR.bind_ok];cases x
 ·rfl
 ·exact hb
theorem qBT(ha:pe gl P a σ M=.ok (bT false,M1)):pe gl P (.and a b) σ M=.ok (bT false,M1):=by rw[pe_and,ha];rfl
theorem r6{q:PR (TB×Mem)}(ha:pe gl P a σ M=.ok (bT true,M1))(hb:pe gl P b σ M1=q):pe gl P (.and a b) σ M=q:=by rw[pe_and,ha];exact hb
theorem qFK{x:Bool}{t0 u0:Ss}{q:PR (PO×Mem)}(h:pe gl P a σ M=.ok (bT x,M1))(hq:(if x=true then pxs gl P C t0 σ M1 else pxs gl P C u0 σ M1)=q):px gl P C (.ifs a t0 u0) σ M=q:=by rw[i8,h];exact hq
theorem E5(h:pe gl P a σ M=.ok ((t,fa),M1))(hC:(C.contains i||C.contains (i+1000))=false):px gl P C (.asg (.name i) a) σ M=.ok (.nx (σ.set i (some t)),M1):=by
 rw[jv hC,h];rfl
theorem qCQ{n:Nat}(ha:pe gl P a σ M=.ok ((.cell n,fa),M1))(hb:pe gl P b σ M1=.ok ((u,fb),M2))(h:A6 M2 n u=some M3):px gl P C (.expr (.app a b)) σ M=.ok (.nx σ,M3):=by
 rw[qCi,qEw,ha,PR.bind_ok];show ((pe gl P b σ M1).bind _).bind _=_;rw[hb,PR.bind_ok];show ((PR.ofO (A6 M2 n u)).bind _).bind _=_;rw[h];rfl
theorem qEJ{g:Tg}{bd:Ss}{xs:List T}(ha:pe gl P a σ M=.ok ((t,fa),M1))(h:qDB t=some xs):px gl P C (.for_ g (.rng1 a) bd) σ M=qk [] g (pxs gl P C bd) xs σ M1:=by
 rw[qDK,qAf,ha,PR.bind_ok];show ((PR.ofO (qDB t)).bind _).bind _=_;rw[h];rfl
end
end
end PI
namespace My
open PySem PySem.Spec PyProof.Rows L2 PI
noncomputable def top(i:Nat):Stmt:=PySem.Challenge.pw_healhalves_k47_read_one_by_one.main.body.getD i (.Pass ⟨0,0,0,0⟩)
noncomputable def Tb:Tbl:=⟨[⟨"is_whole",top 10,["thing"],["thing"]⟩,
 ⟨"is_number_below",top 11,["thing","end"],["thing","end"]⟩,
 ⟨"is_rising",top 12,["thing","end"],["thing","end","least","number"]⟩,
 ⟨"length_of",top 13,["size"],["size"]⟩,
 ⟨"is_size",top 14,["thing"],["thing"]⟩,
 ⟨"check_size",top 15,["size"],["size"]⟩,
 ⟨"check_place",top 16,["size","number"],["size","number"]⟩,
 ⟨"is_sign",top 18,["thing"],["thing"]⟩,
 ⟨"is_row",top 19,["thing","length"],["thing","length"]⟩,
 ⟨"sum_of",top 20,["signs"],["signs"]⟩,
 ⟨"added",top 21,["one","other"],["one","other"]⟩,
 ⟨"halved_word",top 23,["row"],["row","half","first","second"]⟩,
 ⟨"is_reached",top 24,["place","spot"],["place","spot"]⟩,
 ⟨"is_code",top 26,["thing"],["thing","length"]⟩,
 ⟨"check_code",top 27,["code"],["code"]⟩,
 ⟨"fixed_signs",top 28,["code"],["code","others"]⟩,
 ⟨"check_loss",top 30,["size","loss"],["size","loss"]⟩,
 ⟨"halves_below",top 31,["half","loss"],["half","loss","either","both"]⟩,
 ⟨"places_lost",top 32,["size","loss"],["size","loss"]⟩,
 ⟨"lost_below",top 33,["length","loss"],["length","loss","half","halves"]⟩,
 ⟨"paper_on",top 35,["size","loss","place"],["size","loss","place"]⟩,
 ⟨"paper_below",top 36,["length","loss","place"],["length","loss","place","half","halves"]⟩,
 ⟨"first_paper",top 37,["half","loss","paper"],["half","loss","paper"]⟩,
 ⟨"second_paper",top 38,["half","loss","paper"],["half","loss","paper"]⟩,
 ⟨"first_told",top 39,["half","spots","places"],["half","spots","places"]⟩,
 ⟨"first_unsure",top 40,["half","loss","core"],["half","loss","core","word","hiding"]⟩,
 ⟨"second_told",top 41,["half","loss","spots","places"],["half","loss","spots","places","upper","lower","ahead"]⟩,
 ⟨"is_came",top 43,["thing","length"],["thing","length"]⟩,
 ⟨"check_came",top 44,["size","came"],["size","came"]⟩,
 ⟨"loss_of",top 45,["came"],["came"]⟩,
 ⟨"read_one_by_one",top 46,["code","came"],["code","came","loss","lost","fixed","core","place","sign"]⟩,
 ⟨"told_sign",top 47,["paper","came","core"],["paper","came","core"]⟩,
 ⟨"_law_begun",top 49,["_law_script","_law_k"],["_law_script","_law_k","_law_cell","_law_number","_law_mixed"]⟩,
 ⟨"_law_take",top 50,["_law_state","_law_many"],["_law_state","_law_many","_law_digit","_law_made","_law_turn"]⟩,
 ⟨"_law_loss",top 51,["_law_state","_law_many"],["_law_state","_law_many","_law_way","_law_bound"]⟩,
 ⟨"_law_word",top 52,["_law_core"],["_law_core","_law_found","_law_spot"]⟩,
 ⟨"_law_code",top 53,["_law_state","_law_size"],["_law_state","_law_size","_law_many","_law_way","_law_free","_law_fixed"]⟩,
 ⟨"_law_signs_fixed",top 54,["_law_code_here"],["_law_code_here","_law_found","_law_left","_law_place"]⟩,
 ⟨"_law_core_for",top 55,["_law_code_here","_law_data"],["_law_code_here","_law_data","_law_core","_law_place","_law_sign"]⟩,
 ⟨"_law_walk",top 56,["_law_came_here","_law_fixed","_law_core","_law_stops"],["_law_came_here","_law_fixed","_law_core","_law_stops","_law_place","_law_sign","_law_half","_law_worse","_law_one","_law_other","_law_ahead","_law_better","_law_k","_law_behind"]⟩,
 ⟨"_law_came",top 57,["_law_state","_law_code_here","_law_many"],["_law_state","_law_code_here","_law_many","_law_word_here","_law_loss_here","_law_turn","_law_at"]⟩,
 ⟨"_law_turned_right",top 58,["_law_code_here","_law_came_here"],["_law_code_here","_law_came_here","_law_number","_law_core","_law_stops","_law_found"]⟩,
 ⟨"law",top 59,["_law_script"],["_law_script","_law_k","_law_state","_law_code_here","_law_many","_law_came_here","_law_core","_law_stops","_law_due","_law_kept","_law_found"]⟩],
 [("LENGTHS",E.glob 0),("GREATEST_SIZE",E.cst (.int 5))],
 ["len","sum","all","max","min","list","int","tuple","range","zip","isinstance","bool","dict","enumerate","repr","ValueError"],[],[]⟩
noncomputable def gs:List O:=[O.tup [V.int 1,V.int 2,V.int 4,V.int 8,V.int 16,V.int 32]]
end My
namespace My
open PySem PySem.Spec PI
open L2 (V)
open GF (Ris lp rch qc Told Open wd par)
noncomputable def b0:Ss:=(.cons (.ret (.and (.isi (.var 0) ["int"]) (.not (.isi (.var 0) ["bool"])))) .nil)
noncomputable def b1:Ss:=(.cons (.ret (.and (.call 0 (.cons (.var 0) .nil)) (.cmp2 .le .lt (nE 0) (.var 0) (.var 1)))) .nil)
noncomputable def qDF:Ss:=(.cons (.ifs (.or (.not (.call 1 (.cons (.var 3) (.cons (.var 1) .nil)))) (.cmp .lt (.var 3) (.var 2))) (.cons (.ret (.cst (V.bl false))) .nil) .nil) (.cons (.asg (.name 2) (.bin .add (.var 3) (nE 1))) .nil))
noncomputable def b2:Ss:=(.cons (.ifs (.not (.isi (.var 0) ["list"])) (.cons (.ret (.cst (V.bl false))) .nil) .nil) (.cons (.asg (.name 2) (nE 0)) (.cons (.for_ (.name 3) (.list (.var 0)) qDF) (.cons (.ret (.cst (V.bl true))) .nil))))
noncomputable def b3:Ss:=(.cons (.ret (.idx (.glob 0) (.var 0))) .nil)
noncomputable def b4:Ss:=(.cons (.ret (.and (.call 0 (.cons (.var 0) .nil)) (.cmp2 .le .le (nE 1) (.var 0) (nE 5)))) .nil)
noncomputable def b5:Ss:=(.cons (.ifs (.not (.call 4 (.cons (.var 0) .nil))) (.cons .stop .nil) .nil) .nil)
noncomputable def b6:Ss:=(.cons (.ifs (.not (.call 1 (.cons (.var 1) (.cons (.call 3 (.cons (.var 0) .nil)) .nil)))) (.cons .stop .nil) .nil) .nil)
noncomputable def b7:Ss:=(.cons (.ret (.call 1 (.cons (.var 0) (.cons (nE 2) .nil)))) .nil)
noncomputable def b8:Ss:=(.cons (.ret (.and (.isi (.var 0) ["list"]) (.and (.cmp .eq (.blt .len (.cons (.var 0) .nil)) (.var 1)) (.blt .all (.cons (.comp (.list (.var 0)) [none] (.name 0) .nil (.call 7 (.cons (.var 0) .nil))) .nil))))) .nil)
noncomputable def b9:Ss:=(.cons (.ret (.bin .mod (.blt .sum (.cons (.var 0) .nil)) (nE 2))) .nil)
noncomputable def b12:Ss:=(.cons (.ret (.cmp .eq (.bin .band (.var 0) (.var 1)) (.var 1))) .nil)
noncomputable def b13:Ss:=(.cons (.ifs (.or (.not (.isi (.var 0) ["tuple"])) (.or (.cmp .ne (.blt .len (.cons (.var 0) .nil)) (nE 3)) (.not (.call 4 (.cons (.idx (.var 0) (nE 0)) .nil))))) (.cons (.ret (.cst (V.bl false))) .nil) .nil) (.cons (.asg (.name 1) (.call 3 (.cons (.idx (.var 0) (nE 0)) .nil))) (.cons (.ifs (.or (.not (.call 2 (.cons (.idx (.var 0) (nE 1)) (.cons (.var 1) .nil)))) (.cmp .eq (.idx (.var 0) (nE 1)) (.lst .nil))) (.cons (.ret (.cst (V.bl false))) .nil) .nil) (.cons (.ret (.call 8 (.cons (.idx (.var 0) (nE 2)) (.cons (.bin .sub (.var 1) (.blt .len (.cons (.idx (.var 0) (nE 1)) .nil))) .nil)))) .nil))))
noncomputable def b14:Ss:=(.cons (.ifs (.not (.call 13 (.cons (.var 0) .nil))) (.cons .stop .nil) .nil) .nil)
noncomputable def b15:Ss:=(.cons (.asg (.name 1) (.comp (.rng1 (.call 3 (.cons (.idx (.var 0) (nE 0)) .nil))) [none,some 0] (.name 0) (.cons (.cmp .notin (.var 0) (.idx (.var 1) (nE 1))) .nil) (.var 0))) (.cons (.ret (.dzip (.var 1) (.idx (.var 0) (nE 2)))) .nil))
noncomputable def b16:Ss:=(.cons (.ifs (.not (.call 2 (.cons (.var 1) (.cons (.call 3 (.cons (.var 0) .nil)) .nil)))) (.cons .stop .nil) .nil) .nil)
noncomputable def b17:Ss:=(.cons (.asg (.name 2) (.comp (.rng1 (.var 0)) [none,some 0,some 1] (.name 0) (.cons (.or (.cmp .inn (.var 0) (.var 2)) (.cmp .inn (.bin .add (.var 0) (.var 1)) (.var 2))) .nil) (.var 0))) (.cons (.asg (.name 3) (.comp (.rng1 (.var 0)) [none,some 0,some 1] (.name 0) (.cons (.and (.cmp .inn (.var 0) (.var 2)) (.cmp .inn (.bin .add (.var 0) (.var 1)) (.var 2))) .nil) (.var 0))) (.cons (.ret (.tup (.cons (.var 2) (.cons (.var 3) .nil)))) .nil)))
noncomputable def b18:Ss:=(.cons (.expr (.call 5 (.cons (.var 0) .nil))) (.cons (.expr (.call 16 (.cons (.var 0) (.cons (.var 1) .nil)))) (.cons (.ret (.call 19 (.cons (.call 3 (.cons (.var 0) .nil)) (.cons (.var 1) .nil)))) .nil)))
noncomputable def b19:Ss:=(.cons (.ifs (.cmp .eq (.var 0) (nE 1)) (.cons (.ret (.blt .list (.cons (.var 1) .nil))) .nil) .nil) (.cons (.asg (.name 2) (.bin .fdiv (.var 0) (nE 2))) (.cons (.asg (.name 3) (.call 17 (.cons (.var 2) (.cons (.var 1) .nil)))) (.cons (.ret (.bin .add (.call 19 (.cons (.var 2) (.cons (.idx (.var 3) (nE 0)) .nil))) (.comp (.list (.call 19 (.cons (.var 2) (.cons (.idx (.var 3) (nE 1)) .nil)))) [none,some 2] (.name 0) .nil (.bin .add (.var 1) (.var 0))))) .nil))))
noncomputable def b20:Ss:=(.cons (.expr (.call 5 (.cons (.var 0) .nil))) (.cons (.expr (.call 16 (.cons (.var 0) (.cons (.var 1) .nil)))) (.cons (.expr (.call 6 (.cons (.var 0) (.cons (.var 2) .nil)))) (.cons (.ret (.call 21 (.cons (.call 3 (.cons (.var 0) .nil)) (.cons (.var 1) (.cons (.var 2) .nil))))) .nil))))
noncomputable def b21:Ss:=(.cons (.ifs (.cmp .eq (.var 0) (nE 1)) (.cons (.ret (.ite (.cmp .eq (.var 1) (.lst .nil)) (.tup (.cons (.cst (V.str "told")) (.cons (.lst (.cons (nE 0) .nil)) (.cons (.lst .nil) .nil)))) (.tup (.cons (.cst (V.str "open")) (.cons (.lst (.cons (nE 1) .nil)) .nil))))) .nil) .nil) (.cons (.asg (.name 3) (.bin .fdiv (.var 0) (nE 2))) (.cons (.asg (.name 4) (.call 17 (.cons (.var 3) (.cons (.var 1) .nil)))) (.cons (.ifs (.cmp .lt (.var 2) (.var 3)) (.cons (.ret (.call 22 (.cons (.var 3) (.cons (.var 1) (.cons (.call 21 (.cons (.var 3) (.cons (.idx (.var 4) (nE 0)) (.cons (.var 2) .nil)))) .nil))))) .nil) .nil) (.cons (.ret (.call 23 (.cons (.var 3) (.cons (.var 1) (.cons (.call 21 (.cons (.var 3) (.cons (.idx (.var 4) (nE 1)) (.cons (.bin .sub (.var 2) (.var 3)) .nil)))) .nil))))) .nil)))))
noncomputable def b22:Ss:=(.cons (.ifs (.cmp .eq (.idx (.var 2) (nE 0)) (.cst (V.str "told"))) (.cons (.ret (.call 24 (.cons (.var 0) (.cons (.idx (.var 2) (nE 1)) (.cons (.idx (.var 2) (nE 2)) .nil))))) .nil) .nil) (.cons (.ret (.call 25 (.cons (.var 0) (.cons (.var 1) (.cons (.idx (.var 2) (nE 1)) .nil))))) .nil))
noncomputable def b23:Ss:=(.cons (.ifs (.cmp .eq (.idx (.var 2) (nE 0)) (.cst (V.str "told"))) (.cons (.ret (.call 26 (.cons (.var 0) (.cons (.var 1) (.cons (.idx (.var 2) (nE 1)) (.cons (.idx (.var 2) (nE 2)) .nil)))))) .nil) .nil) (.cons (.ret (.tup (.cons (.cst (V.str "open")) (.cons (.bin .add (.bin .mul (.lst (.cons (nE 0) .nil)) (.var 0)) (.idx (.var 2) (nE 1))) .nil)))) .nil))
noncomputable def b24:Ss:=(.cons (.ret (.tup (.cons (.cst (V.str "told")) (.cons (.bin .add (.var 1) (.comp (.list (.var 1)) [none,some 0] (.name 0) .nil (.bin .add (.var 1) (.var 0)))) (.cons (.var 2) .nil))))) .nil)
noncomputable def b26:Ss:=(.cons (.asg (.name 4) (.comp (.list (.var 2)) [none,some 0,some 1] (.name 0) (.cons (.cmp .notin (.bin .add (.var 1) (.var 0)) (.var 2)) .nil) (.bin .add (.var 1) (.var 0)))) (.cons (.asg (.name 5) (.comp (.list (.var 2)) [none,some 0,some 1] (.name 0) (.cons (.cmp .inn (.bin .add (.var 1) (.var 0)) (.var 2)) .nil) (.var 0))) (.cons (.asg (.name 6) (.comp (.rng1 (.var 0)) [none,some 5] (.name 0) (.cons (.cmp .eq (.call 9 (.cons (.comp (.list (.var 1)) [none,some 0] (.name 0) (.cons (.call 12 (.cons (.var 1) (.cons (.var 0) .nil))) .nil) (nE 1)) .nil)) (nE 1)) .nil) (.var 0))) (.cons (.ret (.tup (.cons (.cst (V.str "told")) (.cons (.bin .add (.var 5) (.var 4)) (.cons (.bin .add (.var 6) (.comp (.list (.var 3)) [none,some 0] (.name 0) .nil (.bin .add (.var 1) (.var 0)))) .nil))))) .nil))))
noncomputable def b27:Ss:=(.cons (.ifs (.or (.not (.isi (.var 0) ["list"])) (.cmp .ne (.blt .len (.cons (.var 0) .nil)) (.var 1))) (.cons (.ret (.cst (V.bl false))) .nil) .nil) (.cons (.ret (.blt .all (.cons (.comp (.list (.var 0)) [none] (.name 0) .nil (.or (.cmp .is (.var 0) (.cst V.non)) (.call 7 (.cons (.var 0) .nil)))) .nil))) .nil))
noncomputable def b28:Ss:=(.cons (.ifs (.not (.call 27 (.cons (.var 1) (.cons (.call 3 (.cons (.var 0) .nil)) .nil)))) (.cons .stop .nil) .nil) .nil)
noncomputable def b29:Ss:=(.cons (.ret (.comp (.enum (.var 0)) [none,none] (.tup [0,1]) (.cons (.cmp .is (.var 1) (.cst V.non)) .nil) (.var 0))) .nil)
noncomputable def d6:Ss:=(.cons (.ifs (.cmp .inn (.var 6) (.var 3)) (.cons (.ifs (.cmp .notin (.var 6) (.var 4)) (.cons (.ret (.tup (.cons (.cst (V.str "lost")) (.cons (.var 6) .nil)))) .nil) .nil) (.cons (.expr (.app (.var 5) (.dix (.var 4) (.var 6)))) .nil)) (.cons (.asg (.name 7) (.call 31 (.cons (.call 20 (.cons (.idx (.var 0) (nE 0)) (.cons (.var 2) (.cons (.var 6) .nil)))) (.cons (.var 1) (.cons (.var 5) .nil))))) (.cons (.ifs (.and (.cmp .inn (.var 6) (.var 4)) (.cmp .ne (.var 7) (.dix (.var 4) (.var 6)))) (.cons (.ret (.tup (.cons (.cst (V.str "slip")) (.cons (.var 6) .nil)))) .nil) .nil) (.cons (.expr (.app (.var 5) (.var 7))) .nil)))) .nil)
noncomputable def b30:Ss:=(.cons (.expr (.call 14 (.cons (.var 0) .nil))) (.cons (.expr (.call 28 (.cons (.idx (.var 0) (nE 0)) (.cons (.var 1) .nil)))) (.cons (.asg (.name 2) (.call 29 (.cons (.var 1) .nil))) (.cons (.asg (.name 3) (.call 18 (.cons (.idx (.var 0) (nE 0)) (.cons (.var 2) .nil)))) (.cons (.asg (.name 4) (.call 15 (.cons (.var 0) .nil))) (.cons (.asg (.name 5) (.lst .nil)) (.cons (.for_ (.name 6) (.rng1 (.call 3 (.cons (.idx (.var 0) (nE 0)) .nil))) d6) (.cons (.ret (.tup (.cons (.cst (V.str "read")) (.cons (.comp (.list (.idx (.var 0) (nE 1))) [none,some 5] (.name 0) .nil (.idx (.var 1) (.var 0))) .nil)))) .nil))))))))
noncomputable def b31:Ss:=(.cons (.ret (.call 9 (.cons (.bin .add (.comp (.list (.idx (.var 0) (nE 1))) [none,some 1] (.name 0) .nil (.idx (.var 1) (.var 0))) (.comp (.list (.idx (.var 0) (nE 2))) [none,some 2] (.name 0) .nil (.idx (.var 1) (.var 0)))) .nil))) .nil)
noncomputable def b32:Ss:=(.cons (.asg (.name 2) (.idx (.bin .add (.sl (.var 0) (.cons (.var 1) .nil) (.cons (.bin .add (.var 1) (nE 1)) .nil)) (.lst (.cons (nE 0) .nil))) (nE 0))) (.cons (.asg (.name 3) (.blt .max (.cons (.var 2) (.cons (.bin .sub (.neg (nE 1)) (.var 2)) .nil)))) (.cons (.asg (.name 4) (.bin .mod (.bin .add (.bin .add (.bin .add (.bin .mod (.var 3) (nE 2147483629)) (.bin .mul (nE 7919) (.var 1))) (.bin .mul (.bin .mul (nE 104729) (.var 1)) (.var 1))) (nE 11)) (nE 2147483629))) (.cons (.ret (.lst (.cons (.var 3) (.cons (.var 4) (.cons (.cmp .ge (.var 3) (.bin .pow (nE 10) (nE 18))) .nil))))) .nil))))
noncomputable def qEI:Ss:=(.cons (.put (.var 0) (nE 1) (.bin .mod (.bin .add (.bin .mul (.idx (.var 0) (nE 1)) (nE 48271)) (nE 11)) (nE 2147483647))) (.cons (.asg (.name 3) (.bin .add (.bin .mul (.var 3) (nE 2147483587)) (.bin .mod (.bin .mul (.idx (.var 0) (nE 1)) (.idx (.var 0) (nE 1))) (nE 2147483587)))) .nil))
noncomputable def b33:Ss:=(.cons (.ifs (.idx (.var 0) (nE 2)) (.cons (.asg (.name 2) (.bin .mod (.idx (.var 0) (nE 0)) (.var 1))) (.cons (.put (.var 0) (nE 0) (.bin .fdiv (.idx (.var 0) (nE 0)) (.var 1))) (.cons (.put (.var 0) (nE 2) (.cmp .gt (.idx (.var 0) (nE 0)) (nE 0))) (.cons (.ret (.var 2)) .nil)))) .nil) (.cons (.asg (.name 3) (nE 0)) (.cons (.for_ (.name 4) (.rng1 (.bin .add (nE 1) (.blt .int (.cons (.cmp .gt (.var 1) (.bin .pow (nE 10) (nE 6))) .nil)))) qEI) (.cons (.ret (.bin .mod (.bin .fdiv (.var 3) (nE 64)) (.var 1))) .nil))))
noncomputable def b34:Ss:=(.cons (.asg (.name 2) (.call 33 (.cons (.var 0) (.cons (nE 6) .nil)))) (.cons (.ifs (.cmp .eq (.var 2) (nE 0)) (.cons (.ret (.lst .nil)) .nil) .nil) (.cons (.ifs (.cmp .eq (.var 2) (nE 1)) (.cons (.ret (.lrng (.var 1))) .nil) .nil) (.cons (.asg (.name 3) (.idx (.lst (.cons (nE 2) (.cons (nE 3) (.cons (nE 4) (.cons (nE 8) .nil))))) (.bin .sub (.var 2) (nE 2)))) (.cons (.ret (.comp (.rng1 (.var 1)) [none,some 3,some 0] (.name 0) (.cons (.cmp .eq (.call 33 (.cons (.var 2) (.cons (.var 1) .nil))) (nE 0)) .nil) (.var 0))) .nil)))))
noncomputable def qAX:Ss:=(.cons (.expr (.app (.var 1) (.bin .mod (.blt .sum (.cons (.comp (.rng1 (.blt .len (.cons (.var 0) .nil))) [none,some 0,some 2] (.name 0) (.cons (.cmp .eq (.bin .band (.var 0) (.var 2)) (.var 2)) .nil) (.idx (.var 1) (.var 0))) .nil)) (nE 2)))) .nil)
noncomputable def b35:Ss:=(.cons (.asg (.name 1) (.lst .nil)) (.cons (.for_ (.name 2) (.rng1 (.blt .len (.cons (.var 0) .nil))) qAX) (.cons (.ret (.var 1)) .nil)))
noncomputable def b36:Ss:=(.cons (.asg (.name 2) (.idx (.lst (.cons (nE 1) (.cons (nE 2) (.cons (nE 4) (.cons (nE 8) (.cons (nE 16) (.cons (nE 32) .nil))))))) (.var 1))) (.cons (.asg (.name 3) (.call 33 (.cons (.var 0) (.cons (nE 4) .nil)))) (.cons (.asg (.name 4) (.comp (.rng1 (.var 2)) [none,some 0,some 3] (.name 0) (.cons (.cmp .eq (.call 33 (.cons (.var 1) (.cons (.idx (.lst (.cons (nE 2) (.cons (nE 2) (.cons (nE 3) (.cons (nE 8) .nil))))) (.var 2)) .nil))) (nE 0)) .nil) (.var 0))) (.cons (.ifs (.cmp .eq (.var 3) (nE 1)) (.cons (.asg (.name 4) (.comp (.rng1 (.var 2)) [none,some 4] (.name 0) (.cons (.cmp .notin (.var 0) (.var 1)) .nil) (.var 0))) .nil) .nil) (.cons (.ifs (.cmp .eq (.var 4) (.lst .nil)) (.cons (.asg (.name 4) (.lst (.cons (.call 33 (.cons (.var 0) (.cons (.var 2) .nil))) .nil))) .nil) .nil) (.cons (.asg (.name 5) (.comp (.rng1 (.bin .sub (.var 2) (.blt .len (.cons (.var 4) .nil)))) [none,some 0,some 3] (.name 0) .nil (.bin .mul (.call 33 (.cons (.var 1) (.cons (nE 2) .nil))) (.blt .int (.cons (.cmp .lt (.var 2) (nE 2)) .nil))))) (.cons (.ret (.tup (.cons (.var 1) (.cons (.var 4) (.cons (.var 5) .nil))))) .nil)))))))
noncomputable def P8:Ss:=(.cons (.ifs (.cmp .inn (.var 3) (.idx (.var 0) (nE 1))) (.cons (.expr (.app (.var 1) (.cst V.non))) .nil) (.cons (.expr (.app (.var 1) (.meth .popAt (.var 2) (.cons (nE 0) .nil)))) .nil)) .nil)
noncomputable def b37:Ss:=(.cons (.asg (.name 1) (.lst .nil)) (.cons (.asg (.name 2) (.blt .list (.cons (.idx (.var 0) (nE 2)) .nil))) (.cons (.for_ (.name 3) (.rng1 (.bin .add (.blt .len (.cons (.idx (.var 0) (nE 1)) .nil)) (.blt .len (.cons (.idx (.var 0) (nE 2)) .nil)))) P8) (.cons (.ret (.var 1)) .nil))))
noncomputable def y4:Ss:=(.cons (.put (.var 2) (.var 3) (.var 4)) .nil)
noncomputable def b38:Ss:=(.cons (.asg (.name 2) (.call 37 (.cons (.var 0) .nil))) (.cons (.for_ (.tup [3,4]) (.zip (.idx (.var 0) (nE 1)) (.var 1)) y4) (.cons (.ret (.var 2)) .nil)))
noncomputable def o0:Ss:=(.cons (.ifs (.cmp .is (.idx (.var 0) (.var 12)) (.cst V.non)) (.cons (.expr (.app (.var 11) (.idx (.var 0) (.bin .add (.var 6) (.var 12))))) .nil) (.cons (.expr (.app (.var 11) (.bin .mod (.bin .add (.idx (.var 0) (.var 12)) (.idx (.var 10) (.var 12))) (nE 2)))) .nil)) .nil)
noncomputable def l6:Ss:=(.cons (.ifs (.or (.cmp .is (.var 8) (.cst V.non)) (.cmp .is (.var 9) (.cst V.non))) (.cons (.expr (.app (.var 7) (.cst V.non))) .nil) (.cons (.expr (.app (.var 7) (.bin .mod (.bin .add (.var 8) (.var 9)) (nE 2)))) .nil)) .nil)
noncomputable def b39:Ss:=(.cons (.ifs (.cmp .eq (.blt .len (.cons (.var 0) .nil)) (nE 1)) (.cons (.asg (.name 4) (.blt .len (.cons (.var 2) .nil))) (.cons (.asg (.name 5) (.idx (.var 0) (nE 0))) (.cons (.ifs (.and (.cmp .is (.var 5) (.cst V.non)) (.cmp .is (.idx (.var 1) (.var 4)) (.cst V.non))) (.cons (.expr (.app (.var 3) (.tup (.cons (.cst (V.str "lost")) (.cons (.var 4) .nil))))) .nil) .nil) (.cons (.ifs (.and (.cmp .isnot (.var 5) (.cst V.non)) (.and (.cmp .isnot (.idx (.var 1) (.var 4)) (.cst V.non)) (.cmp .ne (.var 5) (.idx (.var 1) (.var 4))))) (.cons (.expr (.app (.var 3) (.tup (.cons (.cst (V.str "slip")) (.cons (.var 4) .nil))))) .nil) .nil) (.cons (.ifs (.cmp .is (.var 5) (.cst V.non)) (.cons (.asg (.name 5) (nE 0)) .nil) .nil) (.cons (.ifs (.cmp .isnot (.idx (.var 1) (.var 4)) (.cst V.non)) (.cons (.asg (.name 5) (.idx (.var 1) (.var 4))) .nil) .nil) (.cons (.expr (.app (.var 2) (.var 5))) (.cons (.ret (.lst (.cons (.var 5) .nil))) .nil)))))))) .nil) (.cons (.asg (.name 6) (.bin .fdiv (.blt .len (.cons (.var 0) .nil)) (nE 2))) (.cons (.asg (.name 7) (.lst .nil)) (.cons (.for_ (.tup [8,9]) (.zip (.sl (.var 0) .nil (.cons (.var 6) .nil)) (.sl (.var 0) (.cons (.var 6) .nil) .nil)) l6) (.cons (.asg (.name 10) (.call 39 (.cons (.var 7) (.cons (.var 1) (.cons (.var 2) (.cons (.var 3) .nil)))))) (.cons (.asg (.name 11) (.lst .nil)) (.cons (.for_ (.name 12) (.rng1 (.var 6)) o0) (.cons (.asg (.name 13) (.call 39 (.cons (.var 11) (.cons (.var 1) (.cons (.var 2) (.cons (.var 3) .nil)))))) (.cons (.ret (.bin .add (.comp (.zip (.var 10) (.var 13)) [none,none] (.tup [0,1]) .nil (.bin .mod (.bin .add (.var 0) (.var 1)) (nE 2))) (.var 13))) .nil)))))))))
noncomputable def Z7:Ss:=(.cons (.asg (.name 6) (.call 33 (.cons (.var 0) (.cons (.var 2) .nil)))) (.cons (.put (.var 3) (.var 6) (.bin .sub (nE 1) (.idx (.var 3) (.var 6)))) .nil))
noncomputable def b40:Ss:=(.cons (.ifs (.cmp .eq (.call 33 (.cons (.var 0) (.cons (nE 8) .nil))) (nE 0)) (.cons (.ret (.comp (.rng1 (.var 2)) [none,some 0] (.name 0) .nil (.idx (.lst (.cons (nE 0) (.cons (nE 1) (.cons (.cst V.non) .nil)))) (.call 33 (.cons (.var 1) (.cons (nE 3) .nil)))))) .nil) .nil) (.cons (.asg (.name 3) (.call 35 (.cons (.call 38 (.cons (.var 1) (.cons (.comp (.list (.idx (.var 1) (nE 1))) [none,some 0] (.name 0) .nil (.call 33 (.cons (.var 1) (.cons (nE 2) .nil)))) .nil))) .nil))) (.cons (.asg (.name 4) (.call 34 (.cons (.var 0) (.cons (.var 2) .nil)))) (.cons (.for_ (.name 5) (.rng1 (.idx (.lst (.cons (nE 0) (.cons (nE 0) (.cons (nE 1) (.cons (nE 3) .nil))))) (.call 33 (.cons (.var 0) (.cons (nE 4) .nil))))) Z7) (.cons (.ret (.comp (.enum (.var 3)) [none,none,some 4] (.tup [0,1]) .nil (.idx (.lst (.cons (.var 1) (.cons (.cst V.non) .nil))) (.blt .int (.cons (.cmp .inn (.var 0) (.var 2)) .nil))))) .nil)))))
noncomputable def qCM:Ss:=(.cons (.put (.idx (.var 0) (nE 2)) (.var 2) (.bin .sub (nE 1) (.idx (.idx (.var 0) (nE 2)) (.var 2)))) .nil)
noncomputable def qC3:Ss:=(.cons (.put (.idx (.var 0) (nE 2)) (.var 2) (.bin .sub (nE 1) (.idx (.idx (.var 0) (nE 2)) (.var 2)))) .nil)
noncomputable def b41:Ss:=(.cons (.for_ (.name 2) (.rng1 (.blt .len (.cons (.idx (.var 0) (nE 2)) .nil))) qC3) (.cons (.asg (.name 3) (.lst .nil)) (.cons (.asg (.name 4) (.lst .nil)) (.cons (.expr (.call 39 (.cons (.var 1) (.cons (.call 37 (.cons (.var 0) .nil)) (.cons (.var 3) (.cons (.var 4) .nil)))))) (.cons (.asg (.name 5) (.call 30 (.cons (.var 0) (.cons (.var 1) .nil)))) (.cons (.for_ (.name 2) (.rng1 (.blt .len (.cons (.idx (.var 0) (nE 2)) .nil))) qCM) (.cons (.ret (.cmp .eq (.var 5) (.idx (.bin .add (.var 4) (.lst (.cons (.tup (.cons (.cst (V.str "read")) (.cons (.comp (.list (.idx (.var 0) (nE 1))) [none,some 3] (.name 0) .nil (.idx (.var 1) (.var 0))) .nil))) .nil))) (nE 0)))) .nil)))))))
noncomputable def qAk:Ss:=(.cons (.asg (.name 2) (.call 32 (.cons (.var 0) (.cons (.var 1) .nil)))) (.cons (.asg (.name 3) (.call 36 (.cons (.var 2) (.cons (.bin .add (nE 1) (.call 33 (.cons (.var 2) (.cons (nE 5) .nil)))) .nil)))) (.cons (.asg (.name 4) (.bin .add (.blt .len (.cons (.idx (.var 3) (nE 1)) .nil)) (.blt .len (.cons (.idx (.var 3) (nE 2)) .nil)))) (.cons (.asg (.name 5) (.call 40 (.cons (.var 2) (.cons (.var 3) (.cons (.var 4) .nil))))) (.cons (.asg (.name 6) (.lst .nil)) (.cons (.asg (.name 7) (.lst .nil)) (.cons (.expr (.call 39 (.cons (.var 5) (.cons (.call 37 (.cons (.var 3) .nil)) (.cons (.var 6) (.cons (.var 7) .nil)))))) (.cons (.asg (.name 8) (.idx (.bin .add (.var 7) (.lst (.cons (.tup (.cons (.cst (V.str "read")) (.cons (.comp (.list (.idx (.var 3) (nE 1))) [none,some 6] (.name 0) .nil (.idx (.var 1) (.var 0))) .nil))) .nil))) (nE 0))) (.cons (.asg (.name 9) (.blt .repr (.cons (.lst (.cons (.var 3) (.cons (.var 5) .nil))) .nil))) (.cons (.asg (.name 10) (.call 30 (.cons (.var 3) (.cons (.var 5) .nil)))) (.cons (.ifs (.or (.not (.isi (.var 10) ["tuple"])) (.or (.cmp .ne (.var 10) (.var 8)) (.isi (.idx (.var 10) (nE 1)) ["bool"]))) (.cons (.ret (.cst (V.bl false))) .nil) .nil) (.cons (.ifs (.cmp .eq (.idx (.var 10) (nE 0)) (.cst (V.str "read"))) (.cons (.ifs (.or (.not (.isi (.idx (.var 10) (nE 1)) ["list"])) (.cmp .ne (.comp (.list (.idx (.var 10) (nE 1))) [none] (.name 0) (.cons (.isi (.var 0) ["bool"]) .nil) (.var 0)) (.lst .nil))) (.cons (.ret (.cst (V.bl false))) .nil) .nil) (.cons (.expr (.app (.idx (.var 10) (nE 1)) (nE 0))) .nil)) .nil) (.cons (.ifs (.or (.cmp .ne (.call 30 (.cons (.var 3) (.cons (.var 5) .nil))) (.var 8)) (.cmp .ne (.blt .repr (.cons (.lst (.cons (.var 3) (.cons (.var 5) .nil))) .nil)) (.var 9))) (.cons (.ret (.cst (V.bl false))) .nil) .nil) (.cons (.ifs (.or (.not (.call 41 (.cons (.var 3) (.cons (.var 5) .nil)))) (.cmp .ne (.call 30 (.cons (.var 3) (.cons (.var 5) .nil))) (.var 8))) (.cons (.ret (.cst (V.bl false))) .nil) .nil) .nil))))))))))))))
noncomputable def b42:Ss:=(.cons (.for_ (.name 1) (.rng1 (.blt .max (.cons (nE 1) (.cons (.blt .min (.cons (nE 63) (.cons (.blt .len (.cons (.var 0) .nil)) .nil))) .nil)))) qAk) (.cons (.ret (.cst (V.bl true))) .nil))
noncomputable def Fs:List Fn:=Tb.fns
theorem t0:Fs[0]?=some ⟨1,1,b0⟩:=by kernel_rfl
theorem t1:Fs[1]?=some ⟨2,2,b1⟩:=by kernel_rfl
theorem t2:Fs[2]?=some ⟨2,4,b2⟩:=by kernel_rfl
theorem t3:Fs[3]?=some ⟨1,1,b3⟩:=by kernel_rfl
theorem t4:Fs[4]?=some ⟨1,1,b4⟩:=by kernel_rfl
theorem t5:Fs[5]?=some ⟨1,1,b5⟩:=by kernel_rfl
theorem t6:Fs[6]?=some ⟨2,2,b6⟩:=by kernel_rfl
theorem t7:Fs[7]?=some ⟨1,1,b7⟩:=by kernel_rfl
theorem t8:Fs[8]?=some ⟨2,2,b8⟩:=by kernel_rfl
theorem t9:Fs[9]?=some ⟨1,1,b9⟩:=by kernel_rfl
theorem t12:Fs[12]?=some ⟨2,2,b12⟩:=by kernel_rfl
theorem t13:Fs[13]?=some ⟨1,2,b13⟩:=by kernel_rfl
theorem t14:Fs[14]?=some ⟨1,1,b14⟩:=by kernel_rfl
theorem t15:Fs[15]?=some ⟨1,2,b15⟩:=by kernel_rfl
theorem t16:Fs[16]?=some ⟨2,2,b16⟩:=by kernel_rfl
theorem t17:Fs[17]?=some ⟨2,4,b17⟩:=by kernel_rfl
theorem t18:Fs[18]?=some ⟨2,2,b18⟩:=by kernel_rfl
theorem t19:Fs[19]?=some ⟨2,4,b19⟩:=by kernel_rfl
theorem t20:Fs[20]?=some ⟨3,3,b20⟩:=by kernel_rfl
theorem t21:Fs[21]?=some ⟨3,5,b21⟩:=by kernel_rfl
theorem t22:Fs[22]?=some ⟨3,3,b22⟩:=by kernel_rfl
theorem t23:Fs[23]?=some ⟨3,3,b23⟩:=by kernel_rfl
theorem t24:Fs[24]?=some ⟨3,3,b24⟩:=by kernel_rfl
theorem t26:Fs[26]?=some ⟨4,7,b26⟩:=by kernel_rfl
theorem t27:Fs[27]?=some ⟨2,2,b27⟩:=by kernel_rfl
theorem t28:Fs[28]?=some ⟨2,2,b28⟩:=by kernel_rfl
theorem t29:Fs[29]?=some ⟨1,1,b29⟩:=by kernel_rfl
theorem t30:Fs[30]?=some ⟨2,8,b30⟩:=by kernel_rfl
theorem t31:Fs[31]?=some ⟨3,3,b31⟩:=by kernel_rfl
theorem t32:Fs[32]?=some ⟨2,5,b32⟩:=by kernel_rfl
theorem t33:Fs[33]?=some ⟨2,5,b33⟩:=by kernel_rfl
theorem t34:Fs[34]?=some ⟨2,4,b34⟩:=by kernel_rfl
theorem t35:Fs[35]?=some ⟨1,3,b35⟩:=by kernel_rfl
theorem t36:Fs[36]?=some ⟨2,6,b36⟩:=by kernel_rfl
theorem t37:Fs[37]?=some ⟨1,4,b37⟩:=by kernel_rfl
theorem t38:Fs[38]?=some ⟨2,5,b38⟩:=by kernel_rfl
theorem t39:Fs[39]?=some ⟨4,14,b39⟩:=by kernel_rfl
theorem t40:Fs[40]?=some ⟨3,7,b40⟩:=by kernel_rfl
theorem t41:Fs[41]?=some ⟨2,6,b41⟩:=by kernel_rfl
theorem t42:Fs[42]?=some ⟨1,11,b42⟩:=by kernel_rfl
theorem qIT(k f:Nat)(vs:List V)(h:AH):Fk Tb.fns k f vs h=Fk Fs k f vs h:=rfl
noncomputable def Cs:List (List Nat):=[[],[],[],[],[],[],[],[],[],[],[],[],[],[],[],[],[],[],[],[],[],[],[],[],[],[],[],[],[],[],[5],[],[],[],[],[1],[4,5],[1,2],[2],[7,11],[3],[3,4],[2,3,6,7,10]]
@[simp high] theorem qHi{gl:List T}{P:Nat->List T->Mem->PR (TB×Mem)}{M:Mem}{σ:TS}{e:E}:px gl P [5] (.asg (.name 2) e) σ M=(pe gl P e σ M).bind λp=>.ok (.nx (σ.set 2 (some p.1.1)),p.2):=jv rfl
@[simp high] theorem qG7{gl:List T}{P:Nat->List T->Mem->PR (TB×Mem)}{M:Mem}{σ:TS}{e:E}:px gl P [5] (.asg (.name 3) e) σ M=(pe gl P e σ M).bind λp=>.ok (.nx (σ.set 3 (some p.1.1)),p.2):=jv rfl
@[simp high] theorem qHD{gl:List T}{P:Nat->List T->Mem->PR (TB×Mem)}{M:Mem}{σ:TS}{e:E}:px gl P [5] (.asg (.name 4) e) σ M=(pe gl P e σ M).bind λp=>.ok (.nx (σ.set 4 (some p.1.1)),p.2):=jv rfl
@[simp high] theorem qHn{gl:List T}{P:Nat->List T->Mem->PR (TB×Mem)}{M:Mem}{σ:TS}{e:E}:px gl P [5] (.asg (.name 7) e) σ M=(pe gl P e σ M).bind λp=>.ok (.nx (σ.set 7 (some p.1.1)),p.2):=jv rfl
@[simp high] theorem qHc{gl:List T}{P:Nat->List T->Mem->PR (TB×Mem)}{M:Mem}{σ:TS}{e:E}:px gl P [4,5] (.asg (.name 2) e) σ M=(pe gl P e σ M).bind λp=>.ok (.nx (σ.set 2 (some p.1.1)),p.2):=jv rfl
@[simp high] theorem qGf{gl:List T}{P:Nat->List T->Mem->PR (TB×Mem)}{M:Mem}{σ:TS}{e:E}:px gl P [4,5] (.asg (.name 3) e) σ M=(pe gl P e σ M).bind λp=>.ok (.nx (σ.set 3 (some p.1.1)),p.2):=jv rfl
@[simp high] theorem qG1{gl:List T}{P:Nat->List T->Mem->PR (TB×Mem)}{M:Mem}{σ:TS}{e:E}:px gl P [3] (.asg (.name 4) e) σ M=(pe gl P e σ M).bind λp=>.ok (.nx (σ.set 4 (some p.1.1)),p.2):=jv rfl
@[simp high] theorem qGo{gl:List T}{P:Nat->List T->Mem->PR (TB×Mem)}{M:Mem}{σ:TS}{e:E}:px gl P [3] (.asg (.name 6) e) σ M=(pe gl P e σ M).bind λp=>.ok (.nx (σ.set 6 (some p.1.1)),p.2):=jv rfl
@[simp high] theorem qGs{gl:List T}{P:Nat->List T->Mem->PR (TB×Mem)}{M:Mem}{σ:TS}{e:E}:px gl P [3,4] (.asg (.name 5) e) σ M=(pe gl P e σ M).bind λp=>.ok (.nx (σ.set 5 (some p.1.1)),p.2):=jv rfl
@[simp high] theorem qHb{gl:List T}{P:Nat->List T->Mem->PR (TB×Mem)}{M:Mem}{σ:TS}{e:E}:px gl P [2,3,6,7,10] (.asg (.name 4) e) σ M=(pe gl P e σ M).bind λp=>.ok (.nx (σ.set 4 (some p.1.1)),p.2):=jv rfl
@[simp high] theorem qHe{gl:List T}{P:Nat->List T->Mem->PR (TB×Mem)}{M:Mem}{σ:TS}{e:E}:px gl P [2,3,6,7,10] (.asg (.name 5) e) σ M=(pe gl P e σ M).bind λp=>.ok (.nx (σ.set 5 (some p.1.1)),p.2):=jv rfl
@[simp high] theorem qHf{gl:List T}{P:Nat->List T->Mem->PR (TB×Mem)}{M:Mem}{σ:TS}{e:E}:px gl P [2,3,6,7,10] (.asg (.name 9) e) σ M=(pe gl P e σ M).bind λp=>.ok (.nx (σ.set 9 (some p.1.1)),p.2):=jv rfl
theorem gl0:(glT gs)[0]?=some (.tup [N 1,N 2,N 4,N 8,N 16,N 32]):=rfl
section
variable{k:Nat}
theorem f0(hk:1<=k)(i:Nat)(M:Mem):Pk (glT gs) Fs Cs k 0 [N i] M=.ok (bT true,M):=by
 rw[qL t0 ⟨rfl,by decide⟩ hk];simp[b0,zk,qA]
theorem f1(hk:2<=k)(i e:Nat)(M:Mem):Pk (glT gs) Fs Cs k 1 [N i,N e] M=.ok (bT (decide (i<e)),M):=by
 rw[qL t1 ⟨rfl,by decide⟩ (by omega)];simp(disch:=omega) [b1,f0,qA]
theorem f3(hk:1<=k){s:Nat}(hs:s<=5)(M:Mem):Pk (glT gs) Fs Cs k 3 [N s] M=.ok ((N (2 ^ s),true),M):=by
 rw[qL t3 ⟨rfl,by decide⟩ hk];have:s=0\/s=1\/s=2\/s=3\/s=4\/s=5:=by omega
 rcases this with rfl|rfl|rfl|rfl|rfl|rfl<;>simp[b3,gl0,qA]
theorem f4(hk:2<=k){s:Nat}(h1:1<=s)(hs:s<=5)(M:Mem):Pk (glT gs) Fs Cs k 4 [N s] M=.ok (bT true,M):=by
 rw[qL t4 ⟨rfl,by decide⟩ (by omega)];simp(disch:=omega) [b4,f0,h1,hs,qA]
theorem f5(hk:3<=k){s:Nat}(h1:1<=s)(hs:s<=5)(M:Mem):Pk (glT gs) Fs Cs k 5 [N s] M=.ok ((.v .non,true),M):=by
 rw[qL t5 ⟨rfl,by decide⟩ (by omega)];simp(disch:=omega) [b5,f4,jp,h1,hs]
theorem f2L(hk:2<=k){M:Mem}{t:T}:∀(L:List Nat) (lo n:Nat) (o:Option T),Ris lo n L->∃σ',qk [] (.name 3) (pxs (glT gs) (Pk (glT gs) Fs Cs k) [] qDF) (L.map N) [some t,some (N n),some (N lo),o] M=.ok (.nx σ',M)
 | [],lo,n,o,_=>⟨_,rfl⟩
 |x::L,lo,n,o,⟨h1,h2,h3⟩=>by
  obtain⟨σ',e⟩:=f2L hk (M:=M) (t:=t) L (x+1) n (some (N x)) h3;refine⟨σ',?_⟩;have a2:¬ (x<lo):=by omega
  rw[<-e,List.map_cons,qj,qDF];simp(disch:=omega) [f1,h2,a2]
theorem f2(hk:3<=k){L:List Nat}{n:Nat}(h:Ris 0 n L)(M:Mem):Pk (glT gs) Fs Cs k 2 [NL L,N n] M=.ok (bT true,M):=by
 rw[qL t2 ⟨rfl,by decide⟩ (by omega)];obtain⟨σ',e⟩:=f2L (k:=k-1) (by omega) (M:=M) (t:=NL L) L 0 n none h;rw[show Cs.getD 2 []=[] from rfl];simp[b2,zk,e,qA]
theorem f16(hk:4<=k){L:List Nat}{s:Nat}(hs:s<=5)(h:Ris 0 (2 ^ s) L)(M:Mem):Pk (glT gs) Fs Cs k 16 [N s,NL L] M=.ok ((.v .non,true),M):=by
 rw[qL t16 ⟨rfl,by decide⟩ (by omega)];simp(disch:=omega) [b16,f3,hs,f2,h,jp]
noncomputable def hE(half:Nat)(L:List Nat):List Nat:=(List.range half).filter λt=>decide (t∈L)||decide (t+half∈L)
noncomputable def hB(half:Nat)(L:List Nat):List Nat:=(List.range half).filter λt=>decide (t∈L)&&decide (t+half∈L)
theorem p5{s:Nat}(h:s<=5):2 ^ s<=32:=Nat.le_trans (vU (by decide) h) (by decide)
theorem f17(hk:1<=k){L:List Nat}{half:Nat}(hh:half<=1000)(M:Mem):Pk (glT gs) Fs Cs k 17 [N half,NL L] M=.ok ((.tup [NL (hE half L),NL (hB half L)],false),M):=by
 rw[qL t17 ⟨rfl,by decide⟩ hk];have e1:∀{P:Nat->List T->Mem->PR (TB×Mem)}{σ:TS},pei (glT gs) P (.rng1 (.var 0)) (some (N half)::σ) M=.ok (((List.range half).map N,[]),M):=λ{P σ}=>by simp(disch:=omega) [zI]
 have hl:(List.range half).length<=lim:=by simp[lim];omega
 have c1:∀{P:Nat->List T->Mem->PR (TB×Mem)}{o2 o3:Option T},pe (glT gs) P (.comp (.rng1 (.var 0)) [none,some 0,some 1] (.name 0) (.cons (.or (.cmp .inn (.var 0) (.var 2)) (.cmp .inn (.bin .add (.var 0) (.var 1)) (.var 2))) .nil) (.var 0)) [some (N half),some (NL L),o2,o3] M=.ok ((NL (hE half L),true),M):=by
  intro P o2 o3;rw[pe_comp,e1,PR.bind_ok];dsimp only[zd];refine(zX (λt=>decide (t∈L)||decide (t+half∈L)) id hl (λx _=>?_) (λx _ _=>by simp)).trans (by rw[List.map_id];rfl);by_cases h:x∈L<;>simp[qDE,h]
 have c2:∀{P:Nat->List T->Mem->PR (TB×Mem)}{o2 o3:Option T},pe (glT gs) P (.comp (.rng1 (.var 0)) [none,some 0,some 1] (.name 0) (.cons (.and (.cmp .inn (.var 0) (.var 2)) (.cmp .inn (.bin .add (.var 0) (.var 1)) (.var 2))) .nil) (.var 0)) [some (N half),some (NL L),o2,o3] M=.ok ((NL (hB half L),true),M):=by
  intro P o2 o3;rw[pe_comp,e1,PR.bind_ok];dsimp only[zd];refine(zX (λt=>decide (t∈L)&&decide (t+half∈L)) id hl (λx _=>?_) (λx _ _=>by simp)).trans (by rw[List.map_id];rfl);by_cases h:x∈L<;>simp[qDE,h]
 rw[show Cs.getD 17 []=[] from rfl,b17];simp[-pe_comp,c1,c2,qBp,qA,lim]
end
noncomputable def stT(a b:Nat)(c:Bool):List T:=[N a,N b,.v (.bl c)]
def Good(M:Mem)(n:Nat):Prop:=∃a b c,M[n]?=some (stT a b c)/\b<2147483647
theorem qGY{k:Nat}(hk:1<=k){M:Mem}{n m a b:Nat}(hm:0<m/\m<=1000000)(e:M[n]?=some [N a,N b,.v (.bl true)])(e':∀y,(M.set n y)[n]?=some y):
  Pk (glT gs) Fs Cs k 33 [.cell n,N m] M=.ok ((N (a % m),true),M.set n [N (a / m),N b,.v (.bl (decide (0<a / m)))]):=by
 rw[qL t33 ⟨rfl,by decide⟩ hk,b33,show Cs.getD 33 []=[] from rfl];simp(disch:=omega) [QR,Qp,e,e'];rw[qA (by simp)]
theorem pw6{M:Mem}:qt M .pow (N 10) (N 6)=some (N 1000000,true):=by rw[qBU (by decide)]
theorem ml1{M:Mem}(x:Nat):qt M .mul (N x) (N 48271)=some (N (x*48271),true):=Qw (.inr (by decide))
theorem ml2{M:Mem}(x:Nat):qt M .mul (N x) (N 2147483587)=some (N (x*2147483587),true):=Qw (.inr (by decide))
theorem qFx{k:Nat}(hk:1<=k){M:Mem}{n m a b:Nat}(hm:0<m/\m<=1000000)(e:M[n]?=some [N a,N b,.v (.bl false)])(e':∀y,(M.set n y)[n]?=some y)(hb:b<2147483647){b':Nat}(hb':(b*48271+11) % 2147483647=b')(hq:b'<2147483647):
  Pk (glT gs) Fs Cs k 33 [.cell n,N m] M=.ok ((N ((0*2147483587+b' * b' % 2147483587) / 64 % m),true),M.set n [N a,N b',.v (.bl false)]):=by
 rw[qL t33 ⟨rfl,by decide⟩ hk,b33,show Cs.getD 33 []=[] from rfl];have hm3:¬ (1000000<m):=Nat.not_lt.mpr hm.2;have hm2:∀{M:Mem},qg M .gt (N m) (N 1000000)=some false:=λ{M}=>(qFT m 1000000).trans (by rw[vc hm3]);have ml3:∀{M:Mem},qt M .mul (N b') (N b')=some (N (b' * b'),true):=λ{M}=>Qw (.inl (wo hq (by decide)));have md1:∀{M:Mem}(x:Nat),qt M .mod (N x) (N 2147483647)=some (N (x % 2147483647),true):=λ{M} x=>QR (by decide);have md2:∀{M:Mem}(x:Nat),qt M .mod (N x) (N 2147483587)=some (N (x % 2147483587),true):=λ{M} x=>QR (by decide);have md3:∀{M:Mem}(x:Nat),qt M .mod (N x) (N m)=some (N (x % m),true):=λ{M} x=>QR hm.1;have fd:∀{M:Mem}(x:Nat),qt M .fdiv (N x) (N 64)=some (N (x / 64),true):=λ{M} x=>Qp (by decide);have rg:qDB (N 1)=some [N 0]:=zI (by decide);simp[hb',ml1,ml2,ml3,md1,md2,md3,fd,pw6,rg,hm2,qEI,e,e'];rw[qA (by simp)]
theorem take{k:Nat}(hk:1<=k){M:Mem}{n m:Nat}(g:Good M n)(hm:0<m/\m<=1000000):∃d M',Pk (glT gs) Fs Cs k 33 [.cell n,N m] M=.ok ((N d,true),M')/\d<m/\Good M' n/\M'.length=M.length/\∀j,j≠n->M'[j]?=M[j]?:=by
 obtain⟨a,b,c,e,hb⟩:=g;have hn:n<M.length:=(List.getElem?_eq_some_iff.mp e).1;have e':∀y,(M.set n y)[n]?=some y:=λy=>wL hn;cases c with
 |true=>exact⟨_,_,qGY hk hm e e',Nat.mod_lt _ hm.1,⟨a / m,b,decide (0<a / m),e' _,hb⟩,by simp,λj hj=>by rw[wJ (Ne.symm hj)]⟩
 |false=>
  have hq:(b*48271+11) % 2147483647<2147483647:=Nat.mod_lt _ (by decide);exact⟨_,_,qFx hk hm e e' hb rfl hq,Nat.mod_lt _ hm.1,⟨a,_,false,e' _,hq⟩,by simp,λj hj=>by rw[wJ (Ne.symm hj)]⟩
theorem qFg{k:Nat}(hk:1<=k)(ns:List Int){kk:Nat}(hkk:kk<=63)(M:Mem):∃a b c,Pk (glT gs) Fs Cs k 32 [.fz (ns.map λn=>.v (.int n)),N kk] M=.ok ((.lst (stT a b c),true),M)/\b<2147483647:=by
 generalize hS:ns.map (λn=>T.v (V.int n))=S;obtain⟨cl,hcl⟩:∃cl:Int,((S.drop kk).take 1++[N 0])[0]?=some (.v (.int cl)):=by
  rw[<-hS];cases h:ns.drop kk with
  |nil=>exact⟨0,by rw[<-List.map_drop,h];rfl⟩
  |cons x r=>exact⟨x,by rw[<-List.map_drop,h];rfl⟩
 obtain⟨num,hnum⟩:∃num:Nat,(if -1-cl>cl then -1-cl else cl)=(num:Int):=⟨(if -1-cl>cl then -1-cl else cl).toNat,by split<;>omega⟩
 have hl:((S.drop kk).take 1).length+[N 0].length<=lim:=by
  have:((S.drop kk).take 1).length<=1:=List.length_take_le _ _;simp[lim];omega
 have c1:∀{M:Mem},qt M .add (.lst (JN S (some (kk:Int)) (some ((kk:Int)+1)))) (.lst [N 0])=some (.lst ((S.drop kk).take 1++[N 0]),T.lfs ((S.drop kk).take 1++[N 0])):=λ{M}=>by
  rw[show ((kk:Int)+1)=((kk+1:Nat):Int) by omega,qCX,qAz hl];rfl
 generalize (S.drop kk).take 1++[N 0]=W at hcl c1;have mx:∀{M:Mem},zr M .max [.v (.int cl),.v (.int (-1-cl))]=some (N num,true):=λ{M}=>by rw[qAv];unfold iT;rw[hnum];rfl
 have md:∀{M:Mem}(x:Nat),qt M .mod (N x) (N 2147483629)=some (N (x % 2147483629),true):=λ{M} x=>QR (by decide);have m1:∀{M:Mem}(x:Nat),qt M .mul (N 7919) (N x)=some (N (7919*x),true):=λ{M} x=>Qw (.inl (by decide));have m2:∀{M:Mem}(x:Nat),qt M .mul (N 104729) (N x)=some (N (104729*x),true):=λ{M} x=>Qw (.inl (by decide));have m3:∀{M:Mem}(x:Nat),qt M .mul (N x) (N kk)=some (N (x*kk),true):=λ{M} x=>Qw (.inr (Nat.lt_of_le_of_lt hkk (by decide)));have pw:∀{M:Mem},qt M .pow (N 10) (N 18)=some (N 1000000000000000000,true):=λ{M}=>by rw[qBU (by decide)]
 refine⟨num,(num % 2147483629+7919*kk+104729*kk*kk+11) % 2147483629,decide (1000000000000000000<=num),?_,wo (Nat.mod_lt _ (by decide)) (by decide)⟩;rw[qL t32 ⟨rfl,by decide⟩ hk,b32,show Cs.getD 32 []=[] from rfl];simp[c1,hcl,mx,md,m1,m2,m3,pw,stT,lim];rw[qA rfl]
noncomputable abbrev rf(m:Nat)(q:Nat->Bool):List Nat:=(List.range m).filter q
structure Kept(n:Nat)(M M':Mem):Prop where
 good:Good M' n
 len:M'.length=M.length
 oth:∀j,j≠n->M'[j]?=M[j]?
theorem Kept.trans{n:Nat}{A B C:Mem}(x:Kept n A B)(y:Kept n B C):Kept n A C:=⟨y.good,y.len.trans x.len,λj hj=>(y.oth j hj).trans (x.oth j hj)⟩
theorem JB{k:Nat}(hk:1<=k){M:Mem}{n m:Nat}(g:Good M n)(hm:0<m/\m<=1000000):∃d M',Pk (glT gs) Fs Cs k 33 [.cell n,N m] M=.ok ((N d,true),M')/\d<m/\Kept n M M':=by
 obtain⟨d,M',e,h1,h2,h3,h4⟩:=take hk g hm;exact⟨d,M',e,h1,h2,h3,h4⟩
theorem ZC(n:Nat):List.range (n+n)=List.range n++(List.range n).map (n + ·):=by
 rw[List.range_add]
theorem O4(n:Nat)(q:Nat->Bool):(List.range (n+n)).filter q=rf n q++(rf n λt=>q (n+t)).map (n + ·):=by
 rw[ZC,List.filter_append,List.filter_map];rfl
theorem L4(m:Nat)(q:Nat->Bool):Ris 0 m (rf m q):=GF.ris_range m q
theorem Qd{n:Nat}{p q:Nat->Bool}(h:∀t,t<n->p t=q t):rf n p=rf n q:=List.filter_congr λt ht=>h t (wS.mp ht)
theorem Jh{n:Nat}{q:Nat->Bool}{t:Nat}:t∈rf n q↔t<n/\q t=true:=by
 unfold rf;rw[List.mem_filter,wS]
theorem qD3(n:Nat)(S:Nat->Bool):hE n (rf (n+n) S)=rf n λt=>S t||S (t+n):=by
 unfold hE;refine Qd λt ht=>?_;have h1:decide (t∈rf (n+n) S)=S t:=by
  rw[wX,ve,Jh];exact⟨λz=>z.2,λz=>⟨by omega,z⟩⟩
 have h2:decide (t+n∈rf (n+n) S)=S (t+n):=by
  rw[wX,ve,Jh];exact⟨λz=>z.2,λz=>⟨by omega,z⟩⟩
 rw[h1,h2]
theorem qDZ(n:Nat)(S:Nat->Bool):hB n (rf (n+n) S)=rf n λt=>S t&&S (t+n):=by
 unfold hB;refine Qd λt ht=>?_;have h1:decide (t∈rf (n+n) S)=S t:=by
  rw[wX,ve,Jh];exact⟨λz=>z.2,λz=>⟨by omega,z⟩⟩
 have h2:decide (t+n∈rf (n+n) S)=S (t+n):=by
  rw[wX,ve,Jh];exact⟨λz=>z.2,λz=>⟨by omega,z⟩⟩
 rw[h1,h2]
theorem p2(s:Nat):2 ^ (s+1)=2 ^ s+2 ^ s:=by rw[wu];omega
theorem S7(a b:Nat)(c:Bool):T.unds 0 (stT a b c)=true:=by
 unfold stT T.unds T.unds T.unds T.unds;rw[W9,W9];rfl
theorem zf{n:Nat}{M M':Mem}(h:FlatM M)(k:Kept n M M'):FlatM M':=λc hc=>by
 obtain⟨j,hj⟩:=List.mem_iff_getElem?.mp hc;by_cases e:j=n
 ·subst e;obtain⟨a,b,t,e2,_⟩:=k.good;rw[hj]at e2;cases e2;exact S7 a b t
 ·rw[k.oth j e]at hj;exact h c (List.mem_of_getElem? hj)
section
variable{k:Nat}
theorem f7(hk:3<=k)(i:Nat)(M:Mem):Pk (glT gs) Fs Cs k 7 [N i] M=.ok (bT (decide (i<2)),M):=by
 rw[qL t7 ⟨rfl,by decide⟩ (by omega)];simp(disch:=omega) [b7,f1,qA]
theorem f8(hk:4<=k){M:Mem}{t:T}{L:List Nat}(h:IsL M t L)(hl:L.length<=1000)(m:Nat):Pk (glT gs) Fs Cs k 8 [t,N m] M=.ok (bT (decide (L.length=m)&&L.all λx=>decide (x<2)),M):=by
 rw[qL t8 ⟨rfl,by decide⟩ (by omega),b8];obtain⟨d,s1,_,s2⟩:=h.src;have c:=JG (d:=d) (c:=pec (glT gs) (Pk (glT gs) Fs Cs (k-1)) .nil) (e:=pe (glT gs) (Pk (glT gs) Fs Cs (k-1)) (.call 7 (.cons (.var 0) .nil))) (M:=M) (σ:=[]) (λ_=>true) (λx=>.v (.bl (decide (x<2)))) (λ_=>true) L [] true none s2 (by simp[lim];omega) (λx _=>by simp) (λx _ _=>by simp(disch:=omega) [f7,bT]);rw[qq,List.nil_append]at c;by_cases hm:L.length=m
 ·simp[h.ty,zk,h.len,hm,s1,c,qDf,qA]
 ·simp[h.ty,zk,h.len,hm,qA]
noncomputable def xr(x y:Nat):Nat:=(x+y) % 2
noncomputable def wrd:Nat->List Nat->List Nat
 | 0,L=>L
 |s+1,L=>List.zipWith xr (wrd s (L.take (2 ^ s))) (wrd s (L.drop (2 ^ s)))++wrd s (L.drop (2 ^ s))
theorem D5:∀(s:Nat) (L:List Nat),L.length=2 ^ s->(wrd s L).length=2 ^ s
 | 0,L,h=>h
 |s+1,L,h=>by
  have h':L.length=2 ^ s+2 ^ s:=by rw[h,wu];omega
  have l1:=D5 s (L.take (2 ^ s)) (by rw[wv];omega);have l2:=D5 s (L.drop (2 ^ s)) (by rw[vG];omega);show (List.zipWith xr _ _++wrd s _).length=_;rw[List.length_append,vI,l1,l2,wu];omega
noncomputable def Ts(s:Str):T:=.v (.str s)
theorem G2:∀(L:List Nat),(L.map λ_=>1).sum=L.length
 | []=>rfl
 |x::L=>by rw[List.map_cons,List.sum_cons,G2 L,List.length_cons];omega
theorem B6{n x:Nat}{S:Nat->Bool}(h:x<n):decide (x∈rf n S)=S x:=by
 rw[wX,ve,Jh];exact⟨λz=>z.2,λz=>⟨h,z⟩⟩
theorem qEP(hk:1<=k)(L:List Nat)(M:Mem):Pk (glT gs) Fs Cs k 9 [NL L] M=.ok ((N (L.sum % 2),true),M):=by
 rw[qL t9 ⟨rfl,by decide⟩ hk,b9,show Cs.getD 9 []=[] from rfl];have sm:=(IsL.nl M L).sum;simp(disch:=omega) [sm,QR,qA]
theorem qFq(hk:1<=k)(p t:Nat)(M:Mem):Pk (glT gs) Fs Cs k 12 [N p,N t] M=.ok (bT (rch p t),M):=by
 rw[qL t12 ⟨rfl,by decide⟩ hk,b12,show Cs.getD 12 []=[] from rfl];simp[V5,qA,rch]
theorem qF8(hk:1<=k){sp:List Nat}(hl:sp.length<=1000)(p:Nat)(M:Mem){o:Option T}:qK [] (.name 0) (pec (glT gs) (Pk (glT gs) Fs Cs k) (.cons (.call 12 (.cons (.var 1) (.cons (.var 0) .nil))) .nil)) (pe (glT gs) (Pk (glT gs) Fs Cs k) (nE 1)) (sp.map N) [] true [o,some (N p)] M=.ok ((NL ((sp.filter (rch p)).map λ_=>1),true),M):=
 zX (rch p) (λ_=>1) (by simp[lim];omega) (λx _=>by simp[qFq hk]) (λx _ _=>by simp)
theorem je{hi:Nat}:∀{L:List Nat}{lo:Nat},Ris lo hi L->L.length<=hi-lo
 | [],_,_=>Nat.zero_le _
 |y::L,lo,⟨a,b,c⟩=>by have:=je c;rw[List.length_cons];omega
noncomputable def cB(L:List Nat)(q:Nat):Bool:=decide (L.getD q 0=1)
end
theorem q8:∀{s:Nat}{L:List Nat},L.length=2 ^ s->(∀x∈L,x<2)->∀x∈wrd s L,x<2
 | 0,L,_,hb,x,hx=>hb x hx
 |s+1,L,hl,hb,x,hx=>by
  have p2:=GF.pw s;have hx:x∈List.zipWith xr (wrd s (L.take (2 ^ s))) (wrd s (L.drop (2 ^ s)))++wrd s (L.drop (2 ^ s)):=hx;rcases wE.mp hx with h|h
  ·obtain⟨i,hi,e⟩:=vS.mp h;rw[List.getElem_zipWith]at e;rw[<-e];exact Nat.mod_lt _ (by decide)
  ·exact q8 (s:=s) (by rw[vG];omega) (λy hy=>hb y (List.mem_of_mem_drop hy)) x h
section
variable{k:Nat}
theorem G0{M:Mem}(a b:Str):qg M .eq (Ts a) (Ts b)=some (decide (a=b)):=by
 show (some (a==b):Option Bool)=_;congr 1
noncomputable def zT(sp pl:List Nat):T:=.tup [Ts "told",NL sp,NL pl]
theorem B5(hk:3<=k){s P:Nat}(hs:s<=5)(hP:P<2 ^ s)(M:Mem):Pk (glT gs) Fs Cs k 6 [N s,N P] M=.ok ((.v .non,true),M):=by
 rw[qL t6 ⟨rfl,by decide⟩ (by omega),b6,show Cs.getD 6 []=[] from rfl];simp(disch:=omega) [f3,hs,f1,hP,jp]
end
section
variable{k:Nat}
noncomputable def lost:Nat->List Nat->List Nat
 | 0,L=>L
 |s+1,L=>lost s (hE (2 ^ s) L)++(lost s (hB (2 ^ s) L)).map (2 ^ s + ·)
theorem Qe:∀(s:Nat) (L:List Nat),(s=0->L.length<=1)->(lost s L).length<=2 ^ s
 | 0,L,h=>h rfl
 | 1,L,_=>by
  have h1:(hE 1 L).length<=1:=Nat.le_trans (wa _ _) (by simp);have h2:(hB 1 L).length<=1:=Nat.le_trans (wa _ _) (by simp);show (lost 0 (hE 1 L)++(lost 0 (hB 1 L)).map _).length<=_;rw[List.length_append,wO];show (hE 1 L).length+(hB 1 L).length<=2;omega
 |s+2,L,_=>by
  have h1:=Qe (s+1) (hE (2 ^ (s+1)) L) (λz=>by omega);have h2:=Qe (s+1) (hB (2 ^ (s+1)) L) (λz=>by omega);show (lost (s+1) _++(lost (s+1) _).map _).length<=_;rw[List.length_append,wO,wu 2 (s+1)];omega
theorem f19:∀(s:Nat){k:Nat}(hk:s+2<=k) (hs:s<=5) (L:List Nat) (hL:s=0->L.length<=1) (M:Mem),Pk (glT gs) Fs Cs k 19 [N (2 ^ s),NL L] M=.ok ((NL (lost s L),true),M)
 | 0,k,hk,hs,L,hL,M=>by
  rw[qL t19 ⟨rfl,by decide⟩ (by omega),b19];simp[qEL,qA,lost]
 |s+1,k,hk,hs,L,hL,M=>by
  have h5:=p5 (show s<=5 by omega);have hp:0<2 ^ s:=vT (by decide);have hE1:s=0->(hE (2 ^ s) L).length<=1:=λz=>by subst z;exact Nat.le_trans (wa _ _) (by simp)
  have hB1:s=0->(hB (2 ^ s) L).length<=1:=λz=>by subst z;exact Nat.le_trans (wa _ _) (by simp)
  have i1:=f19 s (k:=k-1) (by omega) (by omega) (hE (2 ^ s) L) hE1;have i2:=f19 s (k:=k-1) (by omega) (by omega) (hB (2 ^ s) L) hB1;have l1:=Qe s _ hE1;have l2:=Qe s _ hB1;rw[qL t19 ⟨rfl,by decide⟩ (by omega),b19];have n1:¬ (2 ^ (s+1)=1):=by rw[wu];omega
  have d1:2 ^ (s+1) / 2=2 ^ s:=by rw[wu];omega
  have c1:∀{o:Option T},qK [] (.name 0) (pec (glT gs) (Pk (glT gs) Fs Cs (k-1)) .nil) (pe (glT gs) (Pk (glT gs) Fs Cs (k-1)) (.bin .add (.var 1) (.var 0))) ((lost s (hB (2 ^ s) L)).map N) [] true [o,some (N (2 ^ s))] M=.ok ((NL ((lost s (hB (2 ^ s) L)).map (2 ^ s + ·)),true),M):=λ{o}=>
   Qx (2 ^ s + ·) (by simp[lim];omega) (λx _=>by simp)
  rw[show Cs.getD 19 []=[] from rfl];simp(disch:=omega) [Qp,n1,d1,f17,i1,i2,qBp,zd,c1];rw[P7 (by simp[lim];omega)];simp[qA,lost]
theorem f18(hk:8<=k){L:List Nat}{s:Nat}(h1:1<=s)(hs:s<=5)(h:Ris 0 (2 ^ s) L)(M:Mem):Pk (glT gs) Fs Cs k 18 [N s,NL L] M=.ok ((NL (lost s L),true),M):=by
 rw[qL t18 ⟨rfl,by decide⟩ (by omega),b18];have:=f19 s (k:=k-1) (by omega) hs L (λz=>by omega) M;simp(disch:=omega) [f5,f16,f3,h1,hs,h,this,qA]
theorem C9:∀(s:Nat) (S:Nat->Bool),lost s (rf (2 ^ s) S)=rf (2 ^ s) (lp s S)
 | 0,S=>rfl
 |s+1,S=>by
  show lost s (hE (2 ^ s) (rf (2 ^ (s+1)) S))++(lost s (hB (2 ^ s) (rf (2 ^ (s+1)) S))).map (2 ^ s + ·)=_;rw[p2,qD3,qDZ,C9 s,C9 s];show _=(List.range (2 ^ s+2 ^ s)).filter _;rw[O4];congr 1
  ·refine Qd λt ht=>?_;show _=if t<2 ^ s then _ else _
   rw[if_pos ht]
  ·congr 1;refine Qd λt ht=>?_;show _=if 2 ^ s+t<2 ^ s then _ else _
   rw[if_neg (by omega),wP]
end
theorem qIY{k:Nat}(hk:2<=k){M:Mem}{n m:Nat}(g:Good M n)(hm:m<=1000):∃q fr M',Pk (glT gs) Fs Cs k 34 [.cell n,N m] M=.ok ((NL (rf m q),fr),M')/\Kept n M M':=by
 obtain⟨w,M1,e1,hw,k1⟩:=JB (k:=k-1) (by omega) g (m:=6) (by decide);rw[qL t34 ⟨rfl,by decide⟩ (by omega),b34,show Cs.getD 34 []=[] from rfl];have hs:w=0\/w=1\/(2<=w/\w<=5):=by omega
 rcases hs with rfl|rfl|⟨h2,h5⟩
 ·refine⟨λ_=>false,true,M1,?_,k1⟩;simp[e1,lim,NL];rw[qA k1.len,show rf m (λ_=>false)=[] by simp[rf]];rfl
 ·refine⟨λ_=>true,true,M1,?_,k1⟩;simp(disch:=omega) [e1,qC6];rw[qA k1.len,rf,qq];rfl
 ·have n0:¬ (w=0):=by omega
  have n1:¬ (w=1):=by omega
  obtain⟨bd,hb,hb0⟩:∃bd:Nat,[N 2,N 3,N 4,N 8][w-2]?=some (N bd)/\(0<bd/\bd<=1000000):=by
   have:w=2\/w=3\/w=4\/w=5:=by omega
   rcases this with rfl|rfl|rfl|rfl
   ·exact⟨2,rfl,by decide⟩
   ·exact⟨3,rfl,by decide⟩
   ·exact⟨4,rfl,by decide⟩
   ·exact⟨8,rfl,by decide⟩
  have sb:∀{M:Mem},qt M .sub (N w) (N 2)=some (N (w-2),true):=λ{M}=>Zi h2;obtain⟨q,M2,e2,i2,_⟩:=Zw (I:=Kept n M1) (R:=λ_ _=>True) (σ:=[some (N bd),some (.cell n)])
   (c:=pec (glT gs) (Pk (glT gs) Fs Cs (k-1)) (.cons (.cmp .eq (.call 33 (.cons (.var 2) (.cons (.var 1) .nil))) (nE 0)) .nil)) (e:=pe (glT gs) (Pk (glT gs) Fs Cs (k-1)) (.var 0))
   (List.range m) [] true none M1 vR (by simp[lim];omega) ⟨k1.good,rfl,λ_ _=>rfl⟩ (λx _ M' hI=>by
    obtain⟨d,M3,e3,h3,k3⟩:=JB (k:=k-1) (by omega) hI.good hb0;exact⟨decide (d=0),M3,by simp[e3],hI.trans k3,trivial⟩) (λx _ M' _=>by simp)
  refine⟨q,true,M2,?_,k1.trans i2⟩;simp at e2;simp(disch:=omega) [e1,n0,n1,sb,hb,lim,zd,zI,-zF,e2];rw[qA (k1.trans i2).len]
end My
namespace My
open PySem PySem.Spec PI
open L2 (V)
open GF (Ris lp rch qc Told Open wd par)
section
variable{k:Nat}
theorem qDQ{A B:List Nat}{n:Nat}(hl:A.length=n)(q:Nat):cB (A++B) q=if q<n then cB A q else cB B (q-n):=by
 unfold cB;rw[wB,wB,wB];by_cases h:q<n
 ·rw[if_pos h,List.getElem?_append_left (by omega)]
 ·rw[if_neg h,List.getElem?_append_right (by omega),hl]
def Pap(s:Nat)(S:Nat->Bool)(P:Nat)(t:T):Prop:=∃sp pl,t=zT sp pl/\Told s S P sp pl
theorem qGv{M:Mem}(ts:List T)(x:Str):zS M (.tup (Ts x::ts)) (N 0)=some (Ts x,true):=by rw[qd];rfl
theorem P1(hk:1<=k){half:Nat}{sp pl:List Nat}(hl:sp.length<=100)(M:Mem):∃fr,Pk (glT gs) Fs Cs k 24 [N half,NL sp,NL pl] M=.ok ((zT (sp++sp.map (half + ·)) pl,fr),M):=by
 rw[qL t24 ⟨rfl,by decide⟩ (by omega),b24,show Cs.getD 24 []=[] from rfl];have c:=Qx (gl:=glT gs) (P:=Pk (glT gs) Fs Cs (k-1)) (e:=pe (glT gs) (Pk (glT gs) Fs Cs (k-1)) (.bin .add (.var 1) (.var 0))) (M:=M) (σ:=[some (N half)]) (o:=none) (its:=sp) (half + ·) (by simp[lim];omega) (λx _=>by simp);have ad:∀{M:Mem},qt M .add (NL sp) (NL (sp.map (half + ·)))=some (NL (sp++sp.map (half + ·)),true):=λ{M}=>P7 (by simp[lim];omega);refine⟨false,?_⟩;simp[c,-qp,ad,lim,qA,zT,Ts,qBp]
theorem A7(hk:2<=k){s:Nat}(hs:s<=4){sp pl:List Nat}(r1:Ris 0 (2 ^ s) sp)(hpl:pl.length<=100)(S:Nat->Bool)(M:Mem):
  ∃fr,Pk (glT gs) Fs Cs k 26 [N (2 ^ s),NL (rf (2 ^ (s+1)) S),NL sp,NL pl] M=.ok ((zT (sp.filter (λx=>S (2 ^ s+x))++(sp.filter λx=>!S (2 ^ s+x)).map (2 ^ s + ·)) (((List.range (2 ^ s)).filter λp=>qc (sp.filter λx=>S (2 ^ s+x)) (rch p))++pl.map (2 ^ s + ·)),fr),M):=by
 have n5:=p5 (show s<=5 by omega);have p2:=GF.pw s;have ll:=je r1;have mem:∀x∈sp,decide (2 ^ s+x∈rf (2 ^ (s+1)) S)=S (2 ^ s+x):=λx hx=>B6 (by have:=(GF.Ris.mem r1 x hx).2;omega);rw[qL t26 ⟨rfl,by decide⟩ (by omega),b26,show Cs.getD 26 []=[] from rfl];have c1:=zX (M:=M) (o:=none) (σ:=[some (N (2 ^ s)),some (NL (rf (2 ^ (s+1)) S))]) (its:=sp) (c:=pec (glT gs) (Pk (glT gs) Fs Cs (k-1)) (.cons (.cmp .notin (.bin .add (.var 1) (.var 0)) (.var 2)) .nil)) (e:=pe (glT gs) (Pk (glT gs) Fs Cs (k-1)) (.bin .add (.var 1) (.var 0))) (λx=>!S (2 ^ s+x)) (2 ^ s + ·) (by simp[lim];omega) (λx hx=>by simp[S6,-List.mem_filter,mem x hx]) (λx _ _=>by simp);have c2:=zX (M:=M) (o:=none) (σ:=[some (N (2 ^ s)),some (NL (rf (2 ^ (s+1)) S))]) (its:=sp) (c:=pec (glT gs) (Pk (glT gs) Fs Cs (k-1)) (.cons (.cmp .inn (.bin .add (.var 1) (.var 0)) (.var 2)) .nil)) (e:=pe (glT gs) (Pk (glT gs) Fs Cs (k-1)) (.var 0)) (λx=>S (2 ^ s+x)) (λx=>x) (by simp[lim];omega) (λx hx=>by simp[qDE,-List.mem_filter,mem x hx]) (λx _ _=>by simp);rw[List.map_id']at c2;have lA:(sp.filter λx=>S (2 ^ s+x)).length<=sp.length:=wa _ _;have lB:(sp.filter λx=>!S (2 ^ s+x)).length<=sp.length:=wa _ _;generalize hA:sp.filter (λx=>S (2 ^ s+x))=A at *;generalize hB:sp.filter (λx=>!S (2 ^ s+x))=B at *;have c3:=zX (M:=M) (o:=none) (σ:=[some (NL A)]) (its:=List.range (2 ^ s)) (c:=pec (glT gs) (Pk (glT gs) Fs Cs (k-1)) (.cons (.cmp .eq (.call 9 (.cons (.comp (.list (.var 1)) [none,some 0] (.name 0) (.cons (.call 12 (.cons (.var 1) (.cons (.var 0) .nil))) .nil) (nE 1)) .nil)) (nE 1)) .nil)) (e:=pe (glT gs) (Pk (glT gs) Fs Cs (k-1)) (.var 0)) (λp=>qc A (rch p)) (λx=>x) (by simp[lim];omega) (λx hx=>by
  have cR:=qF8 (k:=k-1) (by omega) (sp:=A) (by omega) x M (o:=none);have sm:=qEP (k:=k-1) (by omega) ((A.filter (rch x)).map λ_=>1) M;rw[G2,GF.lpar_len]at sm;rw[zF];generalize (A.filter (rch x)).map (λ_=>1)=B2 at *;generalize qc A (rch x)=bb at *;cases bb<;>simp[-zF,cR,sm]) (λx _ _=>by simp)
 rw[List.map_id']at c3;have c4:=Qx (gl:=glT gs) (P:=Pk (glT gs) Fs Cs (k-1)) (e:=pe (glT gs) (Pk (glT gs) Fs Cs (k-1)) (.bin .add (.var 1) (.var 0))) (M:=M) (σ:=[some (N (2 ^ s))]) (o:=none) (its:=pl) (2 ^ s + ·) (by simp[lim];omega) (λx _=>by simp);have lC:((List.range (2 ^ s)).filter λp=>qc A (rch p)).length<=2 ^ s:=Nat.le_trans (wa _ _) (by simp);generalize ((List.range (2 ^ s)).filter λp=>qc A (rch p))=D at *;have ad1:∀{M:Mem},qt M .add (NL A) (NL (B.map (2 ^ s + ·)))=some (NL (A++B.map (2 ^ s + ·)),true):=λ{M}=>P7 (by simp[lim];omega);have ad2:∀{M:Mem},qt M .add (NL D) (NL (pl.map (2 ^ s + ·)))=some (NL (D++pl.map (2 ^ s + ·)),true):=λ{M}=>P7 (by simp[lim];omega);have rg:=zI (n:=2 ^ s) (by omega);generalize rf (2 ^ (s+1)) S=lo at *;refine⟨true,?_⟩;simp[c1,c2,rg,c3,c4,-qp,-zF,ad1,ad2,lim,qA,zT,Ts]
theorem D6(hk:10<=k){s P:Nat}(hs:s<=4)(hP:P<2 ^ s){S:Nat->Bool}{t:T}(h:Pap s (λt=>S t||S (t+2 ^ s)) P t)(M:Mem):
  ∃u fr,Pk (glT gs) Fs Cs k 22 [N (2 ^ s),NL (rf (2 ^ (s+1)) S),t] M=.ok ((u,fr),M)/\Pap (s+1) S P u:=by
 have n5:=p5 (show s<=5 by omega);rw[qL t22 ⟨rfl,by decide⟩ (by omega),b22,show Cs.getD 22 []=[] from rfl];have st:∀{M:Mem}{σ:TS}(x:Str),pe (glT gs) (Pk (glT gs) Fs Cs (k-1)) (.cst (V.str x)) σ M=.ok ((Ts x,true),M):=λ{M σ} x=>rfl;have lfT:∀x,T.lf (Ts x)=true:=λx=>rfl;obtain⟨sp,pl,rfl,td⟩:=h
 ·obtain⟨fr,e⟩:=P1 (k:=k-1) (by omega) (half:=2 ^ s) (sp:=sp) (pl:=pl) (by have:=je td.r1;omega) M;have ts:∀{M:Mem},qg M .eq (Ts "told") (Ts "told")=some true:=λ{M}=>by rw[G0,vd rfl]
  refine⟨zT (sp++sp.map (2 ^ s + ·)) pl,fr,?_,⟨_,_,rfl,GF.told_first hP td⟩⟩;generalize zT (sp++sp.map (2 ^ s + ·)) pl=u at *;simp[zT,st,-pe_str,lfT,ts,e,qA]
theorem Jl(hk:10<=k){s P:Nat}(hs:s<=4)(hP:P<2 ^ s){S:Nat->Bool}{t:T}(h:Pap s (λt=>S t&&S (t+2 ^ s)) P t)(M:Mem):
  ∃u fr,Pk (glT gs) Fs Cs k 23 [N (2 ^ s),NL (rf (2 ^ (s+1)) S),t] M=.ok ((u,fr),M)/\Pap (s+1) S (2 ^ s+P) u:=by
 have n5:=p5 (show s<=5 by omega);rw[qL t23 ⟨rfl,by decide⟩ (by omega),b23,show Cs.getD 23 []=[] from rfl];have st:∀{M:Mem}{σ:TS}(x:Str),pe (glT gs) (Pk (glT gs) Fs Cs (k-1)) (.cst (V.str x)) σ M=.ok ((Ts x,true),M):=λ{M σ} x=>rfl;have lfT:∀x,T.lf (Ts x)=true:=λx=>rfl;obtain⟨sp,pl,rfl,td⟩:=h
 ·obtain⟨fr,e⟩:=A7 (k:=k-1) (by omega) (s:=s) hs (sp:=sp) (pl:=pl) td.r1 (by have:=je td.r2;omega) S M;have ts:∀{M:Mem},qg M .eq (Ts "told") (Ts "told")=some true:=λ{M}=>by rw[G0,vd rfl]
  refine⟨_,fr,?_,⟨_,_,rfl,GF.told_second hP td⟩⟩;generalize zT (sp.filter (λx=>S (2 ^ s+x))++(sp.filter λx=>!S (2 ^ s+x)).map (2 ^ s + ·)) (((List.range (2 ^ s)).filter λp=>qc (sp.filter λx=>S (2 ^ s+x)) (rch p))++pl.map (2 ^ s + ·))=u at *;simp[zT,st,-pe_str,lfT,ts,e,qA]
noncomputable def qHT:PI.S:=(.ifs (.cmp .eq (.var 0) (nE 1)) (.cons (.ret (.ite (.cmp .eq (.var 1) (.lst .nil)) (.tup (.cons (.cst (V.str "told")) (.cons (.lst (.cons (nE 0) .nil)) (.cons (.lst .nil) .nil)))) (.tup (.cons (.cst (V.str "open")) (.cons (.lst (.cons (nE 1) .nil)) .nil))))) .nil) .nil)
noncomputable def qHo:PI.S:=(.asg (.name 3) (.bin .fdiv (.var 0) (nE 2)))
noncomputable def qGu:PI.S:=(.asg (.name 4) (.call 17 (.cons (.var 3) (.cons (.var 1) .nil))))
noncomputable def qFQ:Ss:=(.cons (.ifs (.cmp .lt (.var 2) (.var 3)) (.cons (.ret (.call 22 (.cons (.var 3) (.cons (.var 1) (.cons (.call 21 (.cons (.var 3) (.cons (.idx (.var 4) (nE 0)) (.cons (.var 2) .nil)))) .nil))))) .nil) .nil) (.cons (.ret (.call 23 (.cons (.var 3) (.cons (.var 1) (.cons (.call 21 (.cons (.var 3) (.cons (.idx (.var 4) (nE 1)) (.cons (.bin .sub (.var 2) (.var 3)) .nil)))) .nil))))) .nil))
theorem qGS:b21=.cons qHT (.cons qHo (.cons qGu qFQ)):=rfl
theorem jc:∀(s:Nat){k:Nat}(hk:s+11<=k) (hs:s<=5) (S:Nat->Bool){P:Nat}(hP:P<2 ^ s) (hl:lp s S P=false) (M:Mem),∃t fr,Pk (glT gs) Fs Cs k 21 [N (2 ^ s),NL (rf (2 ^ s) S),N P] M=.ok ((t,fr),M)/\Pap s S P t
 | 0,k,hk,hs,S,P,hP,hl,M=>by
  have:P=0:=by omega
  subst this;rw[qL t21 ⟨rfl,by decide⟩ (by omega),b21,show Cs.getD 21 []=[] from rfl];have st:∀{M:Mem}{σ:TS}(x:Str),pe (glT gs) (Pk (glT gs) Fs Cs (k-1)) (.cst (V.str x)) σ M=.ok ((Ts x,true),M):=λ{M σ} x=>rfl;have rf1:rf (2 ^ 0) S=if S 0 then [0] else []:=by
   show (List.range 1).filter S=_;rw[show List.range 1=[0] from rfl];cases q:S 0<;>simp[q]
  have nl:∀(M:Mem),qg M .eq (.lst []) (.lst [])=some true:=λM=>rfl;have nl2:∀(M:Mem),qg M .eq (.lst [N 0]) (.lst [])=some false:=λM=>rfl;rw[rf1];have q:S 0=false:=hl;rw[q];refine⟨zT [0] [],true,?_,_,_,rfl,GF.told_one q⟩;simp[nl,nl2,st,-pe_str,lim,qA,zT,NL]
 |s+1,k,hk,hs,S,P,hP,hl,M=>by
  have p2:=GF.pw s;have n5:=p5 (show s<=5 by omega);have hp0:0<2 ^ s:=vT (by decide);have n1:¬ 2 ^ (s+1)=1:=by omega
  have fd:∀{M:Mem},qt M .fdiv (N (2 ^ (s+1))) (N 2)=some (N (2 ^ s),true):=λ{M}=>by rw[Qp (by decide),p2,show (2 ^ s+2 ^ s) / 2=2 ^ s by omega]
  have eh:=f17 (k:=k-1) (by omega) (L:=rf (2 ^ (s+1)) S) (half:=2 ^ s) (by omega) M;rw[show hE (2 ^ s) (rf (2 ^ (s+1)) S)=rf (2 ^ s) λt=>S t||S (t+2 ^ s) by rw[p2];exact qD3 _ _,show hB (2 ^ s) (rf (2 ^ (s+1)) S)=rf (2 ^ s) λt=>S t&&S (t+2 ^ s) by rw[p2];exact qDZ _ _]at eh;have go:Pk (glT gs) Fs Cs k 21 [N (2 ^ (s+1)),NL (rf (2 ^ (s+1)) S),N P] M=zY M.length (pxs (glT gs) (Pk (glT gs) Fs Cs (k-1)) [] qFQ [some (N (2 ^ (s+1))),some (NL (rf (2 ^ (s+1)) S)),some (N P),some (N (2 ^ s)),some (.tup [NL (rf (2 ^ s) λt=>S t||S (t+2 ^ s)),NL (rf (2 ^ s) λt=>S t&&S (t+2 ^ s))])] M):=by
   generalize NL (rf (2 ^ (s+1)) S)=lo at *;generalize (rf (2 ^ s) (λt=>S t||S (t+2 ^ s)))=l1 at *;generalize (rf (2 ^ s) (λt=>S t&&S (t+2 ^ s)))=l2 at *;rw[qL t21 ⟨rfl,by decide⟩ (by omega),qGS,show Cs.getD 21 []=[] from rfl];show zY M.length (pxs _ _ _ _ [some (N (2 ^ (s+1))),some lo,some (N P),none,none] M)=_;rw[zm (σ':=[some (N (2 ^ (s+1))),some lo,some (N P),none,none]) (M':=M) (by rw[qHT];simp[n1]),zm (σ':=[some (N (2 ^ (s+1))),some lo,some (N P),some (N (2 ^ s)),none]) (M':=M) (by rw[qHo];simp[fd]),zm (M':=M) (by rw[qGu];simp[eh];rfl)]
  rw[go,qFQ];clear go;by_cases h:P<2 ^ s
  ·obtain⟨t,fr,e,pp⟩:=jc s (k:=k-1) (by omega) (by omega) (λt=>S t||S (t+2 ^ s)) h (by rw[GF.lp_lo h]at hl;exact hl) M;obtain⟨u,fr2,e2,pu⟩:=D6 (k:=k-1) (by omega) (by omega) h pp M;refine⟨u,fr2,?_,pu⟩;have c:∀{M:Mem},qg M .lt (N P) (N (2 ^ s))=some true:=λ{M}=>by rw[B7,vd h]
   clear h pp pu hl;generalize rf (2 ^ (s+1)) S=lo at *;generalize rf (2 ^ s) (λt=>S t||S (t+2 ^ s))=l1 at *;generalize rf (2 ^ s) (λt=>S t&&S (t+2 ^ s))=l2 at *;simp[c,-B7,e,e2,qA]
  ·obtain⟨Q,rfl⟩:∃Q,P=2 ^ s+Q:=⟨P-2 ^ s,by omega⟩
   have hQ:Q<2 ^ s:=by omega
   obtain⟨t,fr,e,pp⟩:=jc s (k:=k-1) (by omega) (by omega) (λt=>S t&&S (t+2 ^ s)) hQ (by rw[GF.lp_hi]at hl;exact hl) M;obtain⟨u,fr2,e2,pu⟩:=Jl (k:=k-1) (by omega) (by omega) hQ pp M;refine⟨u,fr2,?_,pu⟩;have c:∀{M:Mem},qg M .lt (N (2 ^ s+Q)) (N (2 ^ s))=some false:=λ{M}=>by rw[B7,vc h]
   have sb:∀{M:Mem},qt M .sub (N (2 ^ s+Q)) (N (2 ^ s))=some (N Q,true):=λ{M}=>by rw[Zi (by omega),wP]
   clear h pp pu hl;generalize rf (2 ^ (s+1)) S=lo at *;generalize rf (2 ^ s) (λt=>S t||S (t+2 ^ s))=l1 at *;generalize rf (2 ^ s) (λt=>S t&&S (t+2 ^ s))=l2 at *;simp[c,-B7,sb,e,e2,qA]
theorem qAH(hk:17<=k){s P:Nat}(h1:1<=s)(hs:s<=5)(hP:P<2 ^ s)(S:Nat->Bool)(hl:lp s S P=false)(M:Mem):∃t fr,Pk (glT gs) Fs Cs k 20 [N s,NL (rf (2 ^ s) S),N P] M=.ok ((t,fr),M)/\Pap s S P t:=by
 obtain⟨t,fr,e,pp⟩:=jc s (k:=k-1) (by omega) hs S hP hl M;refine⟨t,fr,?_,pp⟩;have q1:=f5 (k:=k-1) (by omega) h1 hs M;have q2:=f16 (k:=k-1) (by omega) hs (L4 (2 ^ s) S) M;have q3:=B5 (k:=k-1) (by omega) hs hP M;have q4:=f3 (k:=k-1) (by omega) hs M;rw[qL t20 ⟨rfl,by decide⟩ (by omega),b20,show Cs.getD 20 []=[] from rfl];generalize rf (2 ^ s) S=lo at *;simp[q1,q2,q3,q4,e,qA]
end
def Il(M:Mem)(t:T)(L:List Nat):Prop:=t=NL L\/∃n,t=.cell n/\M[n]?=some (L.map N)
theorem Il.nl(M:Mem)(L:List Nat):Il M (NL L) L:=.inl rfl
theorem Il.isl{M:Mem}{t:T}{L:List Nat}(h:Il M t L):IsL M t L:=by
 rcases h with rfl|⟨n,rfl,e⟩
 ·exact IsL.nl M L
 ·exact IsL.cell e
theorem Il.app{M C:Mem}{t:T}{L:List Nat}(h:Il M t L):Il (M++C) t L:=by
 rcases h with rfl|⟨n,rfl,e⟩
 ·exact .inl rfl
 ·exact .inr ⟨n,rfl,by rw[List.getElem?_append_left (List.getElem?_eq_some_iff.mp e).1];exact e⟩
theorem Il.lf{M:Mem}{t:T}{L:List Nat}(h:Il M t L):t.lf=false:=by
 rcases h with rfl|⟨n,rfl,e⟩
 ·unfold NL;simp
 ·simp
theorem qCZ{d:jf}{i:Nat}{f:TS->Mem->RSt}{x:T}{r:List T}{σ σ2:TS}{M:Mem}(hd:qT d M=true)(h:f (σ.set i (some x)) M=.ok (.nx σ2,M)):qk d (.name i) f (x::r) σ M=qk d (.name i) f r σ2 M:=by
 show PR.bind (f (σ.set i (some x)) M) _=_;rw[h,PR.bind_ok];dsimp only;rw[if_pos hd]
theorem Qi{M:Mem}{t:T}{L:List Nat}(h:IsL M t L)(n:Nat):qg M .notin (N n) t=some (!decide (n∈L)):=by
 have a:qg M .notin (N n) t=qg M .notin (N n) (NL L):=by
  have d1:t.dct=none:=by
   cases t with
   |ob o=>have:=h.its;cases this
   |_=>rfl
  show (inT M (N n) t).map _=(inT M (N n) (NL L)).map _;unfold inT;rw[d1,show (NL L).dct=none from rfl,h.its];rfl
 rw[a,S6]
theorem qEG{M:Mem}{t:T}{L:List Nat}(h:IsL M t L)(n:Nat):qg M .inn (N n) t=some (decide (n∈L)):=by
 have:=Qi h n;have e:qg M .notin (N n) t=(qg M .inn (N n) t).map (!·):=rfl;rw[e]at this;cases hh:qg M .inn (N n) t with
 |none=>rw[hh]at this;cases this
 |some b=>
  rw[hh]at this;simp at this;rw[this]
theorem qBS:∀{L:List Nat}{lo n:Nat},L.Pairwise (·<·)->(∀x∈L,lo<=x/\x<n)->Ris lo n L
 | [],_,_,_,_=>trivial
 |x::L,lo,n,h,hb=>by
  obtain⟨a,b⟩:=List.pairwise_cons.mp h;have hx:=hb x (List.mem_cons_self ..);exact⟨hx.1,hx.2,qBS b λy hy=>⟨a y hy,(hb y (List.mem_cons_of_mem _ hy)).2⟩⟩
structure Cde(s:Nat)(F X:List Nat):Prop where
 s1:1<=s
 s5:s<=5
 ne:F≠[]
 lt:∀x∈F,x<2 ^ s
 up:F.Pairwise (·<·)
 len:F.length+X.length=2 ^ s
 sg:∀x∈X,x<2
theorem Cde.nd{s:Nat}{F X:List Nat}(h:Cde s F X):F.Nodup:=h.up.imp λz e=>by omega
theorem Cde.oth{s:Nat}{F X:List Nat}(h:Cde s F X):(Cd.oth (2 ^ s) F).length=X.length:=by have:=Cd.oth_len h.nd h.lt;have:=h.len;omega
theorem Cde.n5{s:Nat}{F X:List Nat}(h:Cde s F X):2 ^ s<=32:=p5 h.s5
noncomputable abbrev cdt(s:Nat)(t1 t2:T):T:=.tup [N s,t1,t2]
noncomputable def crd(s:Nat)(F X D:List Nat):List Nat:=(List.range (2 ^ s)).map (Cd.cf F X D)
theorem qCJ(s:Nat)(F X D:List Nat):(crd s F X D).length=2 ^ s:=by simp[crd]
theorem qBs{s:Nat}{F X D:List Nat}(hX:∀x∈X,x<2)(hD:∀x∈D,x<2):∀x∈crd s F X D,x<2:=λx hx=>by
 obtain⟨p,_,rfl⟩:=wp.mp hx;exact Cd.cf_two hX hD p
section
variable{k:Nat}
theorem f2d(hk:2<=k){M:Mem}{t:T}{d:jf}(hd:qT d M=true):∀(L:List Nat) (lo n:Nat) (o:Option T),Ris lo n L->∃σ',qk d (.name 3) (pxs (glT gs) (Pk (glT gs) Fs Cs k) [] qDF) (L.map N) [some t,some (N n),some (N lo),o] M=.ok (.nx σ',M)
 | [],lo,n,o,_=>⟨_,rfl⟩
 |x::L,lo,n,o,h=>by
  obtain⟨σ',e⟩:=f2d hk hd (t:=t) L (x+1) n (some (N x)) h.2.2;refine⟨σ',?_⟩;have e1:=f1 (k:=k) hk x n M;rw[vd h.2.1]at e1;have lt:qg M .lt (N x) (N lo)=some false:=by rw[B7,vc (by have:=h.1;omega)]
  have body:pxs (glT gs) (Pk (glT gs) Fs Cs k) [] qDF [some t,some (N n),some (N lo),some (N x)] M=.ok (.nx [some t,some (N n),some (N (x+1)),some (N x)],M):=by
   rw[qDF];simp[e1,lt,-B7,bT]
  rw[List.map_cons,qCZ hd (σ2:=[some t,some (N n),some (N (x+1)),some (N x)]) body];exact e
theorem qDO(hk:3<=k){M:Mem}{t:T}{L:List Nat}(h:IsL M t L){n:Nat}(hr:Ris 0 n L):Pk (glT gs) Fs Cs k 2 [t,N n] M=.ok (bT true,M):=by
 rw[qL t2 ⟨rfl,by decide⟩ (by omega),b2,show Cs.getD 2 []=[] from rfl];obtain⟨d,s1,s2,hd⟩:=h.src;obtain⟨σ',e⟩:=f2d (k:=k-1) (by omega) hd (t:=t) L 0 n none hr;have ty:=h.ty;simp[zk,ty,s1,e,qA]
theorem qCj(hk:5<=k){M:Mem}{s:Nat}{t1 t2:T}{F X:List Nat}(c:Cde s F X)(h1:Il M t1 F)(h2:Il M t2 X):Pk (glT gs) Fs Cs k 13 [cdt s t1 t2] M=.ok (bT true,M):=by
 have n5:=c.n5;rw[qL t13 ⟨rfl,by decide⟩ (by omega),b13,show Cs.getD 13 []=[] from rfl];have l:=c.len;have e4:=f4 (k:=k-1) (by omega) c.s1 c.s5 M;have e3:=f3 (k:=k-1) (by omega) c.s5 M;have e2:=qDO (k:=k-1) (by omega) h1.isl (qBS c.up λx hx=>⟨Nat.zero_le _,c.lt x hx⟩);have e8:=f8 (k:=k-1) (by omega) h2.isl (by omega) X.length;have al:(X.all λx=>decide (x<2))=true:=List.all_eq_true.mpr λx hx=>vd (c.sg x hx);rw[vd rfl,al]at e8;have eq:qg M .eq t1 (.lst [])=some false:=by
  have:=h1.isl.ceq (IsL.nl M []);rw[vc c.ne]at this;exact this
 have sb:qt M .sub (N (2 ^ s)) (N F.length)=some (N X.length,true):=by rw[Zi (by omega)];congr 3;omega
 have ln:zr M .len [t1]=some (N F.length,true):=h1.isl.len;have l3:zr M .len [cdt s t1 t2]=some (N 3,true):=by rw[qE4];rfl
 have j0:zS M (cdt s t1 t2) (N 0)=some (N s,true):=by rw[qd];simp
 have j1:zS M (cdt s t1 t2) (N 1)=some (t1,false):=by rw[qd];simp[h1.lf]
 have j2:zS M (cdt s t1 t2) (N 2)=some (t2,false):=by rw[qd];simp[h2.lf]
 have ty:za M (cdt s t1 t2)=some "tuple":=rfl;clear h1 h2;generalize cdt s t1 t2=CC at *;simp[zk,ty,l3,j0,j1,j2,e4,e3,e2,eq,ln,-qEs,sb,e8,qA]
theorem Q7(hk:6<=k){M:Mem}{s:Nat}{t1 t2:T}{F X:List Nat}(c:Cde s F X)(h1:Il M t1 F)(h2:Il M t2 X):Pk (glT gs) Fs Cs k 14 [cdt s t1 t2] M=.ok ((.v .non,true),M):=by
 rw[qL t14 ⟨rfl,by decide⟩ (by omega),b14,show Cs.getD 14 []=[] from rfl];have:=qCj (k:=k-1) (by omega) c h1 h2;generalize cdt s t1 t2=CC at *;simp[this,jp]
theorem qGO(hk:2<=k){M:Mem}{s:Nat}{t1 t2:T}{F X:List Nat}(c:Cde s F X)(h1:Il M t1 F)(h2:Il M t2 X):Pk (glT gs) Fs Cs k 15 [cdt s t1 t2] M=.ok ((.ob (.dct (zZ [] (Cd.prs (Cd.oth (2 ^ s) F) X))),true),M):=by
 have n5:=c.n5;have l:=c.len;rw[qL t15 ⟨rfl,by decide⟩ (by omega),b15,show Cs.getD 15 []=[] from rfl];have e3:=f3 (k:=k-1) (by omega) c.s5 M;have j0:zS M (cdt s t1 t2) (N 0)=some (N s,true):=by rw[qd];simp
 have j1:zS M (cdt s t1 t2) (N 1)=some (t1,false):=by rw[qd];simp[h1.lf]
 have j2:zS M (cdt s t1 t2) (N 2)=some (t2,false):=by rw[qd];simp[h2.lf]
 have cc:=zX (c:=pec (glT gs) (Pk (glT gs) Fs Cs (k-1)) (.cons (.cmp .notin (.var 0) (.idx (.var 1) (nE 1))) .nil)) (e:=pe (glT gs) (Pk (glT gs) Fs Cs (k-1)) (.var 0)) (σ:=[some (cdt s t1 t2)]) (M:=M) (o:=none) (its:=List.range (2 ^ s)) (λt=>!decide (t∈F)) (λt=>t) (by simp[lim];omega) (λx _=>by
  have z:=Qi h1.isl x;generalize (!decide (x∈F))=bb at *;generalize cdt s t1 t2=CC at *;simp[j1,z]) (λx _ _=>by simp)
 rw[List.map_id']at cc;have cc:qK [] (.name 0) (pec (glT gs) (Pk (glT gs) Fs Cs (k-1)) (.cons (.cmp .notin (.var 0) (.idx (.var 1) (nE 1))) .nil)) (pe (glT gs) (Pk (glT gs) Fs Cs (k-1)) (.var 0)) ((List.range (2 ^ s)).map N) [] true [none,some (cdt s t1 t2)] M=.ok ((NL (Cd.oth (2 ^ s) F),true),M):=cc;have rg:=zI (n:=2 ^ s) (by omega);have ls:=h2.isl.lis;have lo:(NL (Cd.oth (2 ^ s) F)).lis M=some ((Cd.oth (2 ^ s) F).map N):=rfl;have i1:=qBQ (Cd.oth (2 ^ s) F);have i2:=Qu X;have fl:(X.map λ(n:Nat)=>V.int (n:Int)).all flat=true:=by simp[flat]
 have lz:((Cd.oth (2 ^ s) F).map λ(n:Nat)=>(n:Int)).length<=lim:=by have:=c.oth;simp[lim];omega
 unfold Cd.prs;clear h1 h2;generalize ((Cd.oth (2 ^ s) F).map λ(n:Nat)=>(n:Int))=Z1 at *;generalize (X.map λ(n:Nat)=>V.int (n:Int))=Z2 at *;generalize (Cd.oth (2 ^ s) F).map N=Z3 at *;generalize NL (Cd.oth (2 ^ s) F)=Z4 at *;generalize cdt s t1 t2=CC at *;simp[j0,e3,rg,cc,j2,ls,lo,i1,i2,fl,lz,qA,-zF,-List.all_eq_true]
end
theorem qA1{hi:Nat}:∀{L:List Nat}{lo:Nat},Ris lo hi L->L.Pairwise (·<·)
 | [],_,_=>.nil
 |x::L,lo,h=>.cons (λy hy=>by have:=(GF.Ris.mem h.2.2 y hy).1;omega) (qA1 h.2.2)
noncomputable def qCp:S:=(.asg (.name 2) (.idx (.lst (.cons (nE 1) (.cons (nE 2) (.cons (nE 4) (.cons (nE 8) (.cons (nE 16) (.cons (nE 32) .nil))))))) (.var 1)))
noncomputable def qCc:S:=(.asg (.name 3) (.call 33 (.cons (.var 0) (.cons (nE 4) .nil))))
noncomputable def qCa:S:=(.asg (.name 4) (.comp (.rng1 (.var 2)) [none,some 0,some 3] (.name 0) (.cons (.cmp .eq (.call 33 (.cons (.var 1) (.cons (.idx (.lst (.cons (nE 2) (.cons (nE 2) (.cons (nE 3) (.cons (nE 8) .nil))))) (.var 2)) .nil))) (nE 0)) .nil) (.var 0)))
noncomputable def qAB:S:=(.ifs (.cmp .eq (.var 3) (nE 1)) (.cons (.asg (.name 4) (.comp (.rng1 (.var 2)) [none,some 4] (.name 0) (.cons (.cmp .notin (.var 0) (.var 1)) .nil) (.var 0))) .nil) .nil)
noncomputable def qAU:S:=(.ifs (.cmp .eq (.var 4) (.lst .nil)) (.cons (.asg (.name 4) (.lst (.cons (.call 33 (.cons (.var 0) (.cons (.var 2) .nil))) .nil))) .nil) .nil)
noncomputable def qCP:S:=(.asg (.name 5) (.comp (.rng1 (.bin .sub (.var 2) (.blt .len (.cons (.var 4) .nil)))) [none,some 0,some 3] (.name 0) .nil (.bin .mul (.call 33 (.cons (.var 1) (.cons (nE 2) .nil))) (.blt .int (.cons (.cmp .lt (.var 2) (nE 2)) .nil)))))
noncomputable def qBq:S:=(.ret (.tup (.cons (.var 1) (.cons (.var 4) (.cons (.var 5) .nil)))))
theorem qDi:b36=(.cons qCp (.cons qCc (.cons qCa (.cons qAB (.cons qAU (.cons qCP (.cons qBq .nil))))))):=rfl
section
variable{k:Nat}
theorem qD{gl:List T}{P:Nat->List T->Mem->PR (TB×Mem)}{C:List Nat}{s:S}{r:Ss}{σ σ':TS}{M M':Mem}(e:px gl P C s σ M=.ok (.nx σ',M')):pxs gl P C (.cons s r) σ M=pxs gl P C r σ' M':=by
 rw[QW,e];rfl
theorem jT{gl:List T}{P:Nat->List T->Mem->PR (TB×Mem)}{C:List Nat}{s:S}{r:Ss}{σ:TS}{t:TB}{M M':Mem}(e:px gl P C s σ M=.ok (.rt t,M')):pxs gl P C (.cons s r) σ M=.ok (.rt t,M'):=by
 rw[QW,e];rfl
theorem p3:∀s,s<=5->[N 1,N 2,N 4,N 8,N 16,N 32][s]?=some (N (2 ^ s))
 | 0,_=>rfl|1,_=>rfl|2,_=>rfl|3,_=>rfl|4,_=>rfl|5,_=>rfl
 |n+6,h=>by omega
end
end My
namespace My
open PySem PySem.Spec PI
open L2 (V)
open GF (Ris lp rch qc Told Open wd par Rd LostAt SlipAt ReadAs Fit)
noncomputable def cmE(S cm:Nat->Bool)(t:Nat):T:=if S t then .v .non else N (cm t).toNat
noncomputable def cmT(n:Nat)(S cm:Nat->Bool):T:=.lst ((List.range n).map (cmE S cm))
theorem ZA(S cm:Nat->Bool)(t:Nat):(cmE S cm t).lf=true:=by unfold cmE;split<;>simp
theorem ZM{S cm:Nat->Bool}{t:Nat}(h:S t=false):cmE S cm t=N (cm t).toNat:=by unfold cmE;rw[h];rfl
theorem qDk{M:Mem}(n:Nat)(S cm:Nat->Bool):zr M .len [cmT n S cm]=some (N n,true):=by
 unfold cmT;rw[qBM];simp
theorem qDT{M:Mem}{n:Nat}{S cm:Nat->Bool}{t:Nat}(h:t<n):zS M (cmT n S cm) (N t)=some (cmE S cm t,true):=by
 unfold cmT;rw[ZP,wN,wl h];simp[ZA]
theorem Y6{α:Type}{c:TS->Mem->PR (Bool×Mem)}{e:TS->Mem->PR (TB×Mem)}{M:Mem}{σ:TS}(g h:α->T)(p fr:α->Bool):∀(its:List α) (ys:List T) (b:Bool) (o:Option T),ys.length+its.length<=lim ->
  (∀x∈its,c (some (g x)::σ) M=.ok (p x,M))->(∀x∈its,p x=true->e (some (g x)::σ) M=.ok ((h x,fr x),M)) ->
  qK [] (.name 0) c e (its.map g) ys b (o::σ) M=.ok ((.lst (ys++(its.filter p).map h),b&&(its.filter p).all fr),M)
 | [],ys,b,o,hl,hc,he=>by simp[qK]
 |x::r,ys,b,o,hl,hc,he=>by
  simp only[List.length_cons]at hl;rw[List.map_cons,qK,show qy (.name 0) (g x) (o::σ)=some (some (g x)::σ) from rfl];dsimp only;rw[hc x (by simp),PR.bind_ok];cases hp:p x with
  |false=>
   have:=Y6 g h p fr r ys b (some (g x)) (by omega) (λy hy=>hc y (by simp[hy])) (λy hy=>he y (by simp[hy]));rw[List.filter_cons,hp];simpa [qT] using this
  |true=>
   have:=Y6 g h p fr r (ys++[h x]) (b&&fr x) (some (g x)) (by simp;omega) (λy hy=>hc y (by simp[hy])) (λy hy=>he y (by simp[hy]));rw[if_pos rfl,he x (by simp) hp,PR.bind_ok];dsimp only;rw[if_pos ⟨by omega,rfl⟩,this,List.filter_cons,hp];simp[Bool.and_assoc]
theorem B0{α:Type}{c:TS->Mem->PR (Bool×Mem)}{e:TS->Mem->PR (TB×Mem)}{M:Mem}{σ:TS}(g g' h:α->T)(p fr:α->Bool):∀(its:List α) (ys:List T) (b:Bool) (o o':Option T),ys.length+its.length<=lim ->
  (∀x∈its,c (some (g x)::some (g' x)::σ) M=.ok (p x,M))->(∀x∈its,p x=true->e (some (g x)::some (g' x)::σ) M=.ok ((h x,fr x),M)) ->
  qK [] (.tup [0,1]) c e (its.map λx=>.tup [g x,g' x]) ys b (o::o'::σ) M=.ok ((.lst (ys++(its.filter p).map h),b&&(its.filter p).all fr),M)
 | [],ys,b,o,o',hl,hc,he=>by simp[qK]
 |x::r,ys,b,o,o',hl,hc,he=>by
  simp only[List.length_cons]at hl;rw[List.map_cons,qK,show qy (.tup [0,1]) (.tup [g x,g' x]) (o::o'::σ)=some (some (g x)::some (g' x)::σ) from rfl];dsimp only;rw[hc x (by simp),PR.bind_ok];cases hp:p x with
  |false=>
   have:=B0 g g' h p fr r ys b (some (g x)) (some (g' x)) (by omega) (λy hy=>hc y (by simp[hy])) (λy hy=>he y (by simp[hy]));rw[List.filter_cons,hp];simpa [qT] using this
  |true=>
   have:=B0 g g' h p fr r (ys++[h x]) (b&&fr x) (some (g x)) (some (g' x)) (by simp;omega) (λy hy=>hc y (by simp[hy])) (λy hy=>he y (by simp[hy]));rw[if_pos rfl,he x (by simp) hp,PR.bind_ok];dsimp only;rw[if_pos ⟨by omega,rfl⟩,this,List.filter_cons,hp];simp[Bool.and_assoc]
theorem qEC(f:Nat->T):∀(n i:Nat),jz i ((List.range' i n).map f)=(List.range' i n).map λj=>T.tup [N j,f j]
 | 0,i=>rfl
 |n+1,i=>by rw[we,List.map_cons,jz,qEC f n (i+1),List.map_cons];rfl
theorem qEl(f:Nat->T)(n:Nat):jz 0 ((List.range n).map f)=(List.range n).map λj=>T.tup [N j,f j]:=by
 rw[wT];exact qEC f n 0
theorem X9(b:Bool):b.toNat<2:=by cases b<;>decide
theorem jo{M B:Mem}(h:WfM M){t:T}(ht:t.und 0=true):zY M.length (.ok (.rt (t,true),M++B))=.ok ((t,true),M):=by
 show PI.finish M.length _ _=_;unfold PI.finish;by_cases hb:(M++B).length=M.length
 ·have:B=[]:=List.length_eq_zero_iff.mp (by simp at hb;simp[hb]);subst this;rw[if_pos hb,List.append_nil]
 ·rw[if_neg hb,List.take_left' rfl,if_pos (show M.all (T.unds M.length)=true from h)];dsimp only;rw[show qE (M++B) M.length 6 t=some t by
   unfold qE;rw[if_pos (G9 (Nat.zero_le _) t ht)]]
  rfl
theorem A8(f:Nat->Bool):∀L:List Nat,(L.map λx=>(f x).toNat).sum % 2=(qc L f).toNat
 | []=>rfl
 |x::L=>by
  rw[List.map_cons,List.sum_cons,Nat.add_mod,A8 f L,GF.lpar_cons];cases f x<;>cases qc L f<;>rfl
theorem qCV(f g:Nat->Bool)(A B:List Nat):((A.map λx=>(f x).toNat)++(B.map λx=>(g x).toNat)).sum % 2=(qc A f ^^ qc B g).toNat:=by
 rw[List.sum_append,Nat.add_mod,A8,A8];cases qc A f<;>cases qc B g<;>rfl
theorem qF1{C:List Nat}(h:∀x∈C,x<2)(q:Nat):C.getD q 0=(cB C q).toNat:=by
 unfold cB;have:C.getD q 0<2:=by
  rw[wB];cases e:C[q]? with
  |none=>decide
  |some x=>exact h x (List.mem_of_getElem? e)
 generalize C.getD q 0=x at *;rcases(by omega:x=0\/x=1) with rfl|rfl<;>rfl
theorem F2{C:List Nat}{v q:Nat}:cB (C++[v]) q=if q<C.length then cB C q else decide (q=C.length/\v=1):=by
 rw[qDQ (A:=C) (B:=[v]) rfl];split
 ·rfl
 ·unfold cB;rcases Nat.lt_or_eq_of_le (Nat.le_of_not_lt ‹_›) with h|h
  ·have:[v].getD (q-C.length) 0=0:=by
    rw[wB,wU (by simp;omega)];rfl
   rw[this];simp;omega
  ·subst h;simp
noncomputable def fxN(F X:List Nat)(p:Nat):Nat:=X.getD (Cd.oth p F).length 0
noncomputable def fxB(F X:List Nat)(p:Nat):Bool:=decide (fxN F X p=1)
noncomputable def frB(F:List Nat)(p:Nat):Bool:=decide (p∈F)
noncomputable def fxD(s:Nat)(F X:List Nat):List (Int×V):=zZ [] (Cd.prs (Cd.oth (2 ^ s) F) X)
theorem qBe{s:Nat}{F X:List Nat}(c:Cde s F X):fxD s F X=Cd.prs (Cd.oth (2 ^ s) F) X:=by
 unfold fxD;rw[Cd.merge_new _ [] (by rw[List.nil_append,Cd.prs_keys c.oth];exact Cd.nodup_int (Cd.oth_nodup _ _)),List.nil_append]
theorem W2{s:Nat}{F X:List Nat}(c:Cde s F X){p:Nat}(hp:p<2 ^ s)(hf:p∉F):D3 (fxD s F X) p=some (.int ((fxN F X p:Nat):Int)):=by
 rw[qBe c,Cd.get_some c.oth (Cd.mem_oth.mpr ⟨hp,hf⟩),Cd.oth_idx hp hf];rfl
theorem qAe{s:Nat}{F X:List Nat}(c:Cde s F X){p:Nat}(hf:p∈F):D3 (fxD s F X) p=none:=by
 rw[qBe c];exact Cd.get_none c.oth λz=>(Cd.mem_oth.mp z).2 hf
theorem y9(kvs:List (Int×V))(i:Int):S5 kvs i=(D3 kvs i).isSome:=by
 unfold S5 D3
 induction kvs with
 |nil=>rfl
 |cons x r ih=>
  rw[List.any_cons,List.find?_cons];cases decide (x.1=i)
  ·rw[Bool.false_or];exact ih
  ·rfl
theorem qDR{M:Mem}{s:Nat}{F X:List Nat}(c:Cde s F X){p:Nat}(hp:p<2 ^ s):qg M .inn (N p) (.ob (.dct (fxD s F X)))=some (!frB F p):=by
 show some (S5 (fxD s F X) (p:Int))=_;rw[y9];unfold frB;by_cases h:p∈F
 ·rw[qAe c h,vd h];rfl
 ·rw[W2 c hp h,vc h];rfl
theorem qAI{M:Mem}{s:Nat}{F X:List Nat}(c:Cde s F X){p:Nat}(hp:p<2 ^ s):qg M .notin (N p) (.ob (.dct (fxD s F X)))=some (frB F p):=by
 show (qg M .inn (N p) (.ob (.dct (fxD s F X)))).map (!·)=_;rw[qDR c hp];simp
theorem qFP{s:Nat}{F X:List Nat}(c:Cde s F X){p:Nat}(hp:p<2 ^ s)(hf:frB F p=false):qE7 (.ob (.dct (fxD s F X))) (N p)=some (N (fxN F X p),true):=by
 show (D3 (fxD s F X) (p:Int)).bind _=_;rw[W2 c hp (of_decide_eq_false hf)];rfl
theorem l9{s:Nat}{F X:List Nat}(c:Cde s F X)(p:Nat):fxN F X p=(fxB F X p).toNat:=by
 unfold fxB;have:fxN F X p<2:=by
  unfold fxN;rw[wB];cases e:X[(Cd.oth p F).length]? with
  |none=>decide
  |some x=>exact c.sg x (List.mem_of_getElem? e)
 generalize fxN F X p=x at *;rcases(by omega:x=0\/x=1) with rfl|rfl<;>rfl
section
variable{k:Nat}
theorem qCO(hk:4<=k){n:Nat}(hn:n<=100)(S cm:Nat->Bool)(M:Mem):Pk (glT gs) Fs Cs k 27 [cmT n S cm,N n] M=.ok (bT true,M):=by
 rw[qL t27 ⟨rfl,by decide⟩ (by omega),b27,show Cs.getD 27 []=[] from rfl];have c:=Y6 (c:=pec (glT gs) (Pk (glT gs) Fs Cs (k-1)) .nil) (e:=pe (glT gs) (Pk (glT gs) Fs Cs (k-1)) (.or (.cmp .is (.var 0) (.cst V.non)) (.call 7 (.cons (.var 0) .nil)))) (M:=M) (σ:=[]) (cmE S cm) (λ_=>T.v (.bl true)) (λ_=>true) (λ_=>true) (List.range n) [] true none (by simp[lim];omega) (λx _=>by simp) (λx _ _=>by
  have e7:=f7 (k:=k-1) (by omega) (cm x).toNat M;rw[vd (X9 _)]at e7;unfold cmE;cases S x
  ·simp[qEu,e7,bT]
  ·simp[Jg,bT])
 rw[qq,List.nil_append,show ((List.range n).all λ_=>true)=true from List.all_eq_true.mpr λ_ _=>rfl]at c;have al:=λM=>qDf (M:=M) (λ_=>true) (List.range n);rw[show ((List.range n).all λ_=>true)=true from List.all_eq_true.mpr λ_ _=>rfl]at al;have ln:=qDk (M:=M) n S cm;have ty:za M (cmT n S cm)=some "list":=rfl;have sr:A5 M (cmT n S cm)=some ((List.range n).map (cmE S cm),[]):=rfl;generalize (List.range n).map (cmE S cm)=Z at *;generalize (List.range n).map (λ_=>T.v (.bl true))=Z2 at *;generalize cmT n S cm=Z3 at *;simp[zk,ty,ln,sr,c,al,qA,-qp]
theorem Q3(hk:5<=k){s:Nat}(hs:s<=5)(S cm:Nat->Bool)(M:Mem):Pk (glT gs) Fs Cs k 28 [N s,cmT (2 ^ s) S cm] M=.ok ((.v .non,true),M):=by
 have n5:=p5 hs;rw[qL t28 ⟨rfl,by decide⟩ (by omega),b28,show Cs.getD 28 []=[] from rfl];have e:=qCO (k:=k-1) (by omega) (n:=2 ^ s) (by omega) S cm M;have e3:=f3 (k:=k-1) (by omega) hs M;generalize cmT (2 ^ s) S cm=Z at *;simp[e,e3,jp,bT]
theorem qBk(hk:1<=k){n:Nat}(hn:n<=100)(S cm:Nat->Bool)(M:Mem):Pk (glT gs) Fs Cs k 29 [cmT n S cm] M=.ok ((NL (rf n S),true),M):=by
 rw[qL t29 ⟨rfl,by decide⟩ (by omega),b29,show Cs.getD 29 []=[] from rfl];have c:=B0 (c:=pec (glT gs) (Pk (glT gs) Fs Cs (k-1)) (.cons (.cmp .is (.var 1) (.cst V.non)) .nil)) (e:=pe (glT gs) (Pk (glT gs) Fs Cs (k-1)) (.var 0)) (M:=M) (σ:=[]) N (cmE S cm) N S (λ_=>true) (List.range n) [] true none none (by simp[lim];omega) (λx _=>by
  unfold cmE;cases S x
  ·simp[qEu]
  ·simp[Jg]) (λx _ _=>by simp)
 rw[List.nil_append,show (((List.range n).filter S).all λ_=>true)=true from List.all_eq_true.mpr λ_ _=>rfl]at c;have sr:Zk M (cmT n S cm)=some ((List.range n).map (cmE S cm),[]):=rfl;have en:=qEl (cmE S cm) n;have c:qK [] (.tup [0,1]) (pec (glT gs) (Pk (glT gs) Fs Cs (k-1)) (.cons (.cmp .is (.var 1) (.cst V.non)) .nil)) (pe (glT gs) (Pk (glT gs) Fs Cs (k-1)) (.var 0)) ((List.range n).map λx=>T.tup [N x,cmE S cm x]) [] true [none,none] M=.ok ((NL (rf n S),true),M):=c;generalize ((List.range n).map λx=>T.tup [N x,cmE S cm x])=Z4 at *;generalize (List.range n).map (cmE S cm)=Z at *;generalize NL (rf n S)=Z2 at *;generalize cmT n S cm=Z3 at *;simp[sr,en,c,qA,-zF]
theorem T6(hk:2<=k){s P:Nat}(hs:s<=5)(hP:P<2 ^ s){S cm:Nat->Bool}{sp pl:List Nat}(td:Told s S P sp pl){M:Mem}{t:T}{C:List Nat}(h:IsL M t C)(hC:∀x∈C,x<2)(hl:P<=C.length):Pk (glT gs) Fs Cs k 31 [zT sp pl,cmT (2 ^ s) S cm,t] M=.ok ((N (qc sp cm ^^ qc pl (cB C)).toNat,true),M):=by
 have n5:=p5 hs;rw[qL t31 ⟨rfl,by decide⟩ (by omega),b31,show Cs.getD 31 []=[] from rfl];have l1:=je td.r1;have l2:=je td.r2;have c1:=Qx (gl:=glT gs) (P:=Pk (glT gs) Fs Cs (k-1)) (M:=M) (σ:=[some (cmT (2 ^ s) S cm)]) (o:=none) (its:=sp) (e:=pe (glT gs) (Pk (glT gs) Fs Cs (k-1)) (.idx (.var 1) (.var 0))) (λx=>(cm x).toNat) (by simp[lim];omega) (λx hx=>by
  have:=qDT (M:=M) (n:=2 ^ s) (S:=S) (cm:=cm) (t:=x) (td.r1.mem x hx).2;rw[ZM (td.off x hx)]at this;generalize cmT (2 ^ s) S cm=Z at *;simp[this])
 have c2:=Qx (gl:=glT gs) (P:=Pk (glT gs) Fs Cs (k-1)) (M:=M) (σ:=[some t]) (o:=none) (its:=pl) (e:=pe (glT gs) (Pk (glT gs) Fs Cs (k-1)) (.idx (.var 1) (.var 0))) (λx=>(cB C x).toNat) (by simp[lim];omega) (λx hx=>by
  have:=h.idx (i:=x) (x:=C.getD x 0) (by
   have:=(td.r2.mem x hx).2;rw[wB,wA (by omega)];rfl)
  rw[qF1 hC]at this;simp[this])
 have ad:qt M .add (NL (sp.map λx=>(cm x).toNat)) (NL (pl.map λx=>(cB C x).toNat))=some (NL ((sp.map λx=>(cm x).toNat)++(pl.map λx=>(cB C x).toNat)),true):=P7 (by simp[lim];omega);have e:=qEP (k:=k-1) (by omega) ((sp.map λx=>(cm x).toNat)++(pl.map λx=>(cB C x).toNat)) M;rw[qCV]at e;have j1:zS M (zT sp pl) (N 1)=some (.lst (sp.map N),false):=by unfold zT;rw[qd];unfold NL;simp
 have j2:zS M (zT sp pl) (N 2)=some (.lst (pl.map N),false):=by unfold zT;rw[qd];unfold NL;simp
 generalize (qc sp cm ^^ qc pl (cB C)).toNat=r at *;generalize NL ((sp.map λx=>(cm x).toNat)++(pl.map λx=>(cB C x).toNat))=Z1 at *;generalize NL (sp.map λx=>(cm x).toNat)=Z2 at *;generalize NL (pl.map λx=>(cB C x).toNat)=Z3 at *;generalize zT sp pl=Z4 at *;generalize cmT (2 ^ s) S cm=Z5 at *;simp[j1,j2,c1,c2,ad,e,qA,-qp]
theorem qFR(hk:17<=k){s P:Nat}(h1:1<=s)(hs:s<=5)(hP:P<2 ^ s){S:Nat->Bool}(hl:lp s S P=false)(M:Mem):∃sp pl fr,Pk (glT gs) Fs Cs k 20 [N s,NL (rf (2 ^ s) S),N P] M=.ok ((zT sp pl,fr),M)/\Told s S P sp pl:=by
 obtain⟨t,fr,e,p⟩:=qAH hk h1 hs hP S hl M;obtain⟨sp,pl,rfl,td⟩:=p;exact⟨sp,pl,fr,e,td⟩
end
end My
namespace My
open PySem PySem.Spec PI
open L2 (V)
open GF (Ris lp rch qc Told Open wd par Rd LostAt SlipAt ReadAs Fit)
noncomputable def r_0:S:=(.expr (.call 14 (.cons (.var 0) .nil)))
noncomputable def r_1:S:=(.expr (.call 28 (.cons (.idx (.var 0) (nE 0)) (.cons (.var 1) .nil))))
noncomputable def r_2:S:=(.asg (.name 2) (.call 29 (.cons (.var 1) .nil)))
noncomputable def r_3:S:=(.asg (.name 3) (.call 18 (.cons (.idx (.var 0) (nE 0)) (.cons (.var 2) .nil))))
noncomputable def r_4:S:=(.asg (.name 4) (.call 15 (.cons (.var 0) .nil)))
noncomputable def r_5:S:=(.asg (.name 5) (.lst .nil))
noncomputable def r_6:S:=(.for_ (.name 6) (.rng1 (.call 3 (.cons (.idx (.var 0) (nE 0)) .nil))) d6)
noncomputable def r_7:S:=(.ret (.tup (.cons (.cst (V.str "read")) (.cons (.comp (.list (.idx (.var 0) (nE 1))) [none,some 5] (.name 0) .nil (.idx (.var 1) (.var 0))) .nil))))
theorem qHr:b30=(.cons r_0 (.cons r_1 (.cons r_2 (.cons r_3 (.cons r_4 (.cons r_5 (.cons r_6 (.cons r_7 .nil)))))))):=rfl
theorem jJ(M:Mem)(a b:List T):(M++[a]).set M.length b=M++[b]:=by simp
theorem zE(M:Mem)(a:List T):(M++[a])[M.length]?=some a:=by simp
theorem C5{s:Nat}{S cm fr fx:Nat->Bool}{C:List Nat}(h:Rd s S cm fr fx (cB C) C.length)(v:Nat):Rd s S cm fr fx (cB (C++[v])) C.length:=h.congr λq hq=>by rw[F2,if_pos hq]
theorem L9{C:List Nat}(b:Bool):cB (C++[b.toNat]) C.length=b:=by
 rw[F2,if_neg (by omega)];cases b<;>simp
noncomputable abbrev S3(x:Str)(P:Nat):T:=.tup [Ts x,N P]
theorem qEQ(x:Str)(L:List Nat):T.und 0 (.tup [Ts x,NL L])=true:=by
 show (true&&(T.unds 0 (L.map N)&&true))=true;rw[jS];rfl
section
variable{k:Nat}
noncomputable def qFX:E:=(.cmp .inn (.var 6) (.var 3))
noncomputable def qHG:Ss:=(.cons (.ifs (.cmp .notin (.var 6) (.var 4)) (.cons (.ret (.tup (.cons (.cst (V.str "lost")) (.cons (.var 6) .nil)))) .nil) .nil) (.cons (.expr (.app (.var 5) (.dix (.var 4) (.var 6)))) .nil))
noncomputable def qGI:PI.S:=(.asg (.name 7) (.call 31 (.cons (.call 20 (.cons (.idx (.var 0) (nE 0)) (.cons (.var 2) (.cons (.var 6) .nil)))) (.cons (.var 1) (.cons (.var 5) .nil)))))
noncomputable def qHQ:Ss:=(.cons (.ifs (.and (.cmp .inn (.var 6) (.var 4)) (.cmp .ne (.var 7) (.dix (.var 4) (.var 6)))) (.cons (.ret (.tup (.cons (.cst (V.str "slip")) (.cons (.var 6) .nil)))) .nil) .nil) (.cons (.expr (.app (.var 5) (.var 7))) .nil))
theorem qF6:d6=.cons (.ifs qFX qHG (.cons qGI qHQ)) .nil:=rfl
theorem qDc(hk:18<=k){M:Mem}{s:Nat}{t1 t2:T}{F X:List Nat}(c:Cde s F X){S cm:Nat->Bool}:∀(m i:Nat) (C:List Nat) (o6 o7:Option T),i+m=2 ^ s->C.length=i->(∀x∈C,x<2)->Rd s S cm (frB F) (fxB F X) (cB C) i ->
  ∃r,qk [] (.name 6) (pxs (glT gs) (Pk (glT gs) Fs Cs k) [5] d6) ((List.range' i m).map N) [some (cdt s t1 t2),some (cmT (2 ^ s) S cm),some (NL (rf (2 ^ s) S)),some (NL (rf (2 ^ s) (lp s S))),some (.ob (.dct (fxD s F X))),some (.cell M.length),o6,o7] (M++[C.map N])=r/\
   ((∃P C',LostAt s S cm (frB F) (fxB F X) P/\r=.ok (.rt (S3 "lost" P,true),M++[C']))\/(∃P C',SlipAt s S cm (frB F) (fxB F X) P/\r=.ok (.rt (S3 "slip" P,true),M++[C']))\/
    ∃(C':List Nat) (p6 p7:Option T),C'.length=2 ^ s/\(∀x∈C',x<2)/\Rd s S cm (frB F) (fxB F X) (cB C') (2 ^ s)/\r=.ok (.nx [some (cdt s t1 t2),some (cmT (2 ^ s) S cm),some (NL (rf (2 ^ s) S)),some (NL (rf (2 ^ s) (lp s S))),some (.ob (.dct (fxD s F X))),some (.cell M.length),p6,p7],M++[C'.map N]))
 | 0,i,C,o6,o7,hi,hl,hC,hr=>by
  have e:i=2 ^ s:=by omega
  exact⟨_,rfl,.inr (.inr ⟨C,o6,o7,by omega,hC,e ▸ hr,rfl⟩)⟩
 |m+1,i,C,o6,o7,hi,hl,hC,hr=>by
  have n5:=c.n5;have hp:i<2 ^ s:=by omega
  have i3:∀{M:Mem},qg M .inn (N i) (NL (rf (2 ^ s) (lp s S)))=some (lp s S i):=λ{M}=>by rw[qDE,B6 hp]
  have i4:∀{M:Mem},qg M .inn (N i) (.ob (.dct (fxD s F X)))=some (!frB F i):=λ{M}=>qDR c hp;have i5:∀{M:Mem},qg M .notin (N i) (.ob (.dct (fxD s F X)))=some (frB F i):=λ{M}=>qAI c hp;have dx:=qFP c hp;have st:∀{M:Mem}{σ:TS}(x:Str),pe (glT gs) (Pk (glT gs) Fs Cs k) (.cst (V.str x)) σ M=.ok ((Ts x,true),M):=λ{M σ} x=>rfl;have lfT:∀x,T.lf (Ts x)=true:=λx=>rfl;have g0:=zE M (C.map N);have ap:∀v:Nat,A6 (M++[C.map N]) M.length (N v)=some (M++[(C++[v]).map N]):=λv=>by rw[JA g0 (by rw[wO];simp[lim];omega),jJ];simp
  have two:∀b:Bool,∀x∈C++[b.toNat],x<2:=λb x hx=>by
   rcases wE.mp hx with h|h
   ·exact hC x h
   ·rw[wK.mp h];exact X9 b
  have ih:=λ(v:Bool)=>qDc hk c (S:=S) (cm:=cm) (t1:=t1) (t2:=t2) (M:=M) m (i+1) (C++[v.toNat]) (some (N i));have pp:lp s S i=false->∃sp pl fr0,Pk (glT gs) Fs Cs k 20 [N s,NL (rf (2 ^ s) S),N i] (M++[C.map N])=.ok ((zT sp pl,fr0),M++[C.map N])/\Told s S i sp pl/\Pk (glT gs) Fs Cs k 31 [zT sp pl,cmT (2 ^ s) S cm,.cell M.length] (M++[C.map N])=.ok ((N (qc sp cm ^^ qc pl (cB C)).toNat,true),M++[C.map N]):=λhlp=>by
   obtain⟨sp,pl,fr0,ep,td⟩:=qFR (k:=k) (by omega) c.s1 c.s5 hp hlp (M++[C.map N]);exact⟨sp,pl,fr0,ep,td,T6 (k:=k) (by omega) c.s5 hp (cm:=cm) td (IsL.cell g0) hC (by omega)⟩
  have j0:zS (M++[C.map N]) (cdt s t1 t2) (N 0)=some (N s,true):=by rw[qd];simp
  have fx2:=l9 c i;generalize cmT (2 ^ s) S cm=Z1 at *;generalize NL (rf (2 ^ s) (lp s S))=Z2 at *;generalize NL (rf (2 ^ s) S)=Z3 at *;generalize T.ob (.dct (fxD s F X))=Z4 at *;generalize cdt s t1 t2=Z5 at *;rw[we,List.map_cons,qj,show ∀a b c d e f g h z:Option T,[a,b,c,d,e,f,g,h].set 6 z=[a,b,c,d,e,f,z,h] from λ_ _ _ _ _ _ _ _ _=>rfl];obtain⟨B,hB⟩:∃B,pxs (glT gs) (Pk (glT gs) Fs Cs k) [5] d6 [some Z5,some Z1,some Z3,some Z2,some Z4,some (.cell M.length),some (N i),o7] (M++[C.map N])=B:=⟨_,rfl⟩
  rw[hB];have hc:pB (pe (glT gs) (Pk (glT gs) Fs Cs k) qFX [some Z5,some Z1,some Z3,some Z2,some Z4,some (.cell M.length),some (N i),o7] (M++[C.map N]))=.ok (lp s S i,M++[C.map N]):=by rw[qFX];simp[i3]
  rw[qF6,qBj,qGT hc]at hB;clear hc;subst hl;cases hlp:lp s S C.length with
  |true=>
   rw[hlp,if_pos rfl,qHG]at hB;cases hf:frB F C.length with
   |true=>
    rw[hf]at i5;rw[show B=.ok (.rt (S3 "lost" C.length,true),M++[C.map N]) by rw[<-hB];simp[i5,st,-pe_str,lfT,lim]];exact⟨_,rfl,.inl ⟨C.length,_,hr.lostAt hp hf hlp,rfl⟩⟩
   |false=>
    rw[hf]at i5;have dx:=dx hf;rw[fx2]at dx;have ap:=ap (fxB F X C.length).toNat;rw[show B=.ok (.nx [some Z5,some Z1,some Z3,some Z2,some Z4,some (.cell M.length),some (N C.length),o7],M++[(C++[(fxB F X C.length).toNat]).map N]) by rw[<-hB];simp[i5,dx,ap]];exact ih _ _ (by omega) (by simp) (two _) ((C5 hr _).lost hlp hf (by rw[L9]))
  |false=>
   rw[hlp,if_neg wM]at hB;obtain⟨sp,pl,fr0,ep,td,es⟩:=pp hlp;obtain⟨v,hv⟩:∃v,v=(qc sp cm ^^ qc pl (cB C)):=⟨_,rfl⟩
   rw[<-hv]at es;have lpc:qc pl (cB (C++[v.toNat]))=qc pl (cB C):=GF.lpar_congr _ λq hq=>by rw[F2,if_pos (td.r2.mem q hq).2]
   have ap:=ap v.toNat;generalize zT sp pl=Z6 at *;have r0:px (glT gs) (Pk (glT gs) Fs Cs k) [5] qGI [some Z5,some Z1,some Z3,some Z2,some Z4,some (.cell M.length),some (N C.length),o7] (M++[C.map N])=.ok (.nx [some Z5,some Z1,some Z3,some Z2,some Z4,some (.cell M.length),some (N C.length),some (N v.toNat)],M++[C.map N]):=by
    rw[qGI];simp[j0,ep,es]
   rw[qD r0,qHQ]at hB;clear r0;cases hf:frB F C.length with
   |true=>
    rw[hf]at i4;rw[show B=.ok (.nx [some Z5,some Z1,some Z3,some Z2,some Z4,some (.cell M.length),some (N C.length),some (N v.toNat)],M++[(C++[v.toNat]).map N]) by rw[<-hB];simp[i4,ap]];exact ih _ _ (by omega) (by simp) (two _) ((C5 hr _).told hlp td (by rw[L9,lpc];exact hv) (λh=>by rw[hf]at h;cases h))
   |false=>
    rw[hf]at i4;have dx:=dx hf;rw[fx2]at dx;by_cases hs:v=fxB F X C.length
    ·have ne:∀{M:Mem},qg M .ne (N v.toNat) (N (fxB F X C.length).toNat)=some false:=λ{M}=>by rw[j9,hs,vd rfl];rfl
     rw[show B=.ok (.nx [some Z5,some Z1,some Z3,some Z2,some Z4,some (.cell M.length),some (N C.length),some (N v.toNat)],M++[(C++[v.toNat]).map N]) by rw[<-hB];simp[i4,ne,-j9,dx,ap]];exact ih _ _ (by omega) (by simp) (two _) ((C5 hr _).told hlp td (by rw[L9,lpc];exact hv) (λh=>by rw[L9];exact hs))
    ·have ne:∀{M:Mem},qg M .ne (N v.toNat) (N (fxB F X C.length).toNat)=some true:=λ{M}=>by
      rw[j9,vc];rfl;intro z;apply hs;revert z;cases v<;>cases fxB F X C.length<;>simp
     rw[show B=.ok (.rt (S3 "slip" C.length,true),M++[C.map N]) by rw[<-hB];simp[i4,ne,-j9,dx,st,-pe_str,lfT,lim]];exact⟨_,rfl,.inr (.inl ⟨C.length,_,hr.slipAt hp hf td (by rw[<-hv];exact hs),rfl⟩)⟩
def Tl(s:Nat)(S cm:Nat->Bool)(F X:List Nat)(t:T):Prop:=(∃P,LostAt s S cm (frB F) (fxB F X) P/\t=S3 "lost" P)\/(∃P,SlipAt s S cm (frB F) (fxB F X) P/\t=S3 "slip" P)\/∃C:List Nat,C.length=2 ^ s/\(∀x∈C,x<2)/\ReadAs s S cm (frB F) (fxB F X) (cB C)/\t=.tup [Ts "read",NL (F.map λp=>C.getD p 0)]
theorem read(hk:19<=k){M:Mem}(hW:WfM M){s:Nat}{t1 t2:T}{F X:List Nat}(c:Cde s F X)(h1:Il M t1 F)(h2:Il M t2 X)(S cm:Nat->Bool):∃t,Pk (glT gs) Fs Cs k 30 [cdt s t1 t2,cmT (2 ^ s) S cm] M=.ok ((t,true),M)/\Tl s S cm F X t:=by
 have n5:=c.n5;have st:∀{M:Mem}{σ:TS}(x:Str),pe (glT gs) (Pk (glT gs) Fs Cs (k-1)) (.cst (V.str x)) σ M=.ok ((Ts x,true),M):=λ{M σ} x=>rfl;have lfT:∀x,T.lf (Ts x)=true:=λx=>rfl;have j0:∀{M:Mem},zS M (cdt s t1 t2) (N 0)=some (N s,true):=λ{M}=>by rw[qd];simp
 have j1:∀{M:Mem},zS M (cdt s t1 t2) (N 1)=some (t1,false):=λ{M}=>by rw[qd];simp[h1.lf]
 have q0:=Q7 (k:=k-1) (by omega) c h1 h2;have q1:=Q3 (k:=k-1) (by omega) c.s5 S cm M;have q2:=qBk (k:=k-1) (by omega) (n:=2 ^ s) (by omega) S cm M;have q3:=f18 (k:=k-1) (by omega) c.s1 c.s5 (L4 (2 ^ s) S) M;rw[C9]at q3;have q4:=qGO (k:=k-1) (by omega) c h1 h2;rw[<-fxD]at q4;have th:thaw M.length (.lst [])=(.cell M.length,[[]]):=qh M.length [];obtain⟨r,e,hr⟩:=qDc (k:=k-1) (by omega) c (t1:=t1) (t2:=t2) (M:=M) (S:=S) (cm:=cm) (2 ^ s) 0 [] none none (by omega) rfl (λx hx=>by cases hx) (Rd.zero _ _ _ _ _ _);rw[<-wT]at e;have e3:=f3 (k:=k-1) (by omega) c.s5 (M++[([]:List Nat).map N]);have rg:=zI (n:=2 ^ s) (by omega);generalize cdt s t1 t2=Z5 at *;generalize cmT (2 ^ s) S cm=Z1 at *;generalize NL (rf (2 ^ s) (lp s S))=Z2 at *;generalize NL (rf (2 ^ s) S)=Z3 at *;generalize T.ob (.dct (fxD s F X))=Z4 at *;have x0:px (glT gs) (Pk (glT gs) Fs Cs (k-1)) [5] r_0 [some Z5,some Z1,none,none,none,none,none,none] M=.ok (.nx [some Z5,some Z1,none,none,none,none,none,none],M):=by rw[r_0];simp[q0]
 have x1:px (glT gs) (Pk (glT gs) Fs Cs (k-1)) [5] r_1 [some Z5,some Z1,none,none,none,none,none,none] M=.ok (.nx [some Z5,some Z1,none,none,none,none,none,none],M):=by rw[r_1];simp[q1,j0]
 have x2:px (glT gs) (Pk (glT gs) Fs Cs (k-1)) [5] r_2 [some Z5,some Z1,none,none,none,none,none,none] M=.ok (.nx [some Z5,some Z1,some Z3,none,none,none,none,none],M):=by rw[r_2];simp[q2]
 have x3:px (glT gs) (Pk (glT gs) Fs Cs (k-1)) [5] r_3 [some Z5,some Z1,some Z3,none,none,none,none,none] M=.ok (.nx [some Z5,some Z1,some Z3,some Z2,none,none,none,none],M):=by rw[r_3];simp[q3,j0]
 have x4:px (glT gs) (Pk (glT gs) Fs Cs (k-1)) [5] r_4 [some Z5,some Z1,some Z3,some Z2,none,none,none,none] M=.ok (.nx [some Z5,some Z1,some Z3,some Z2,some Z4,none,none,none],M):=by rw[r_4];simp[q4]
 have x5:px (glT gs) (Pk (glT gs) Fs Cs (k-1)) [5] r_5 [some Z5,some Z1,some Z3,some Z2,some Z4,none,none,none] M=.ok (.nx [some Z5,some Z1,some Z3,some Z2,some Z4,some (.cell M.length),none,none],M++[[]]):=by rw[r_5];simp[th,lim]
 have x6:px (glT gs) (Pk (glT gs) Fs Cs (k-1)) [5] r_6 [some Z5,some Z1,some Z3,some Z2,some Z4,some (.cell M.length),none,none] (M++[([]:List Nat).map N])=r:=by
  clear x0 x1 x2 x3 x4 x5 hr;generalize M++[([]:List Nat).map N]=M1 at *;rw[r_6];simp[j0,e3,rg,e]
 have go:Pk (glT gs) Fs Cs k 30 [Z5,Z1] M=zY M.length (pxs (glT gs) (Pk (glT gs) Fs Cs (k-1)) [5] (.cons r_6 (.cons r_7 .nil)) [some Z5,some Z1,some Z3,some Z2,some Z4,some (.cell M.length),none,none] (M++[([]:List Nat).map N])):=by
  rw[qL t30 ⟨rfl,by decide⟩ (by omega),qHr,show Cs.getD 30 []=[5] from rfl];show zY M.length (pxs _ _ _ _ [some Z5,some Z1,none,none,none,none,none,none] M)=_;rw[qD x0,qD x1,qD x2,qD x3,qD x4,qD x5];rfl
 rcases hr with⟨P,C',hl,rfl⟩|⟨P,C',hl,rfl⟩|⟨C,p6,p7,lC,hC,rd,rfl⟩
 ·exact⟨_,by rw[go,jT x6,jo hW (by rfl)],.inl ⟨P,hl,rfl⟩⟩
 ·exact⟨_,by rw[go,jT x6,jo hW (by rfl)],.inr (.inl ⟨P,hl,rfl⟩)⟩
 ·refine⟨_,?_,.inr (.inr ⟨C,lC,hC,rd.readAs,rfl⟩)⟩;obtain⟨d,s1,s2,hd⟩:=(h1.app (C:=[C.map N])).isl.src;have hc:=IsL.cell (zE M (C.map N));have cc:=JH (c:=pec (glT gs) (Pk (glT gs) Fs Cs (k-1)) .nil) (e:=pe (glT gs) (Pk (glT gs) Fs Cs (k-1)) (.idx (.var 1) (.var 0))) (σ:=[some (.cell M.length)]) (M:=M++[C.map N]) (o:=none) (its:=F) (λ_=>true) (λp=>C.getD p 0) hd (by have:=c.len;simp[lim];omega) (λx _=>by simp) (λx hx _=>by
   have:=hc.idx (i:=x) (x:=C.getD x 0) (by
    have:=c.lt x hx;rw[wB,wA (by omega)];rfl)
   simp[this])
  rw[qq]at cc;have x7:px (glT gs) (Pk (glT gs) Fs Cs (k-1)) [5] r_7 [some Z5,some Z1,some Z3,some Z2,some Z4,some (.cell M.length),p6,p7] (M++[C.map N])=.ok (.rt (.tup [Ts "read",NL (F.map λp=>C.getD p 0)],true),M++[C.map N]):=by
   clear hc x6 e;generalize NL (F.map λp=>C.getD p 0)=Z6 at *;generalize M++[C.map N]=M1 at *;rw[r_7];simp[st,-pe_str,lfT,j1,s1,cc,lim,-qp]
  rw[go,qD x6,jT x7,jo hW (qEQ _ _)]
end
end My
namespace My
open PySem PySem.Spec PI
open L2 (V)
open GF (Ris lp rch qc Told Open wd par Rd LostAt SlipAt ReadAs Fit)
noncomputable def W(L:List Nat)(t:Nat):Nat:=(((List.range L.length).filter λp=>decide (p&&& t=t)).map λp=>L.getD p 0).sum % 2
noncomputable def v5(n:Nat)(c:Nat->Bool)(f:Nat->Nat):Nat:=(((List.range n).filter c).map f).sum
theorem F9(n:Nat)(c:Nat->Bool)(f:Nat->Nat):v5 (n+n) c f=v5 n c f+v5 n (λp=>c (n+p)) (λp=>f (n+p)):=by
 unfold v5;rw[List.range_add,List.filter_append,List.filter_map,wR,wc,List.sum_append];rfl
theorem jy{n:Nat}{c c':Nat->Bool}{f f':Nat->Nat}(hc:∀p,p<n->c p=c' p)(hf:∀p,p<n->f p=f' p):v5 n c f=v5 n c' f':=by
 unfold v5;rw[List.filter_congr (q:=c') λp hp=>hc p (wS.mp hp)];congr 1;exact wW λp hp=>hf p (wS.mp (List.mem_filter.mp hp).1)
theorem u9{n:Nat}{c:Nat->Bool}{f:Nat->Nat}(hc:∀p,p<n->c p=false):v5 n c f=0:=by
 unfold v5;rw[List.filter_eq_nil_iff.mpr λp hp=>by rw[hc p (wS.mp hp)];decide];rfl
theorem h9(L:List Nat)(t:Nat):W L t=v5 L.length (λp=>decide (p&&& t=t)) (λp=>L.getD p 0) % 2:=rfl
theorem qId:∀s,s<5->∀p,p<2 ^ s->∀t,t<2 ^ s->(2 ^ s+p)&&& t=p&&& t:=by decide +kernel
theorem qIQ:∀s,s<5->∀p,p<2 ^ s->∀t,t<2 ^ s->(2 ^ s+p)&&& (2 ^ s+t)=2 ^ s+(p&&& t):=by decide +kernel
theorem Y8{L:List Nat}{n p:Nat}(h:p<n):L.getD p 0=(L.take n).getD p 0:=by
 rw[wB,wB,wb h]
theorem Jq{L:List Nat}{n p:Nat}:L.getD (n+p) 0=(L.drop n).getD p 0:=by
 rw[wB,wB,vL]
theorem qCu:∀(s:Nat) (L:List Nat),s<=5->L.length=2 ^ s->(∀x∈L,x<2)->wrd s L=(List.range (2 ^ s)).map (W L)
 | 0,L,hs,hl,hb=>by
  match L,hl with
  | [x],_=>
   have hx:x<2:=hb x (List.mem_cons_self ..);have:W [x] 0=x:=by
    show (([x].map λp=>p).sum % 2)=x;simp;omega
   show [x]=[W [x] 0];rw[this]
 |s+1,L,hs,hl,hb=>by
  have hl':L.length=2 ^ s+2 ^ s:=by rw[hl,wu];omega
  have la:(L.take (2 ^ s)).length=2 ^ s:=by rw[wv];omega
  have lb:(L.drop (2 ^ s)).length=2 ^ s:=by rw[vG];omega
  have ia:=qCu s (L.take (2 ^ s)) (by omega) la λx hx=>hb x (List.mem_of_mem_take hx);have ib:=qCu s (L.drop (2 ^ s)) (by omega) lb λx hx=>hb x (List.mem_of_mem_drop hx);show List.zipWith xr (wrd s (L.take (2 ^ s))) (wrd s (L.drop (2 ^ s)))++wrd s (L.drop (2 ^ s))=_;rw[ia,ib,show (2:Nat) ^ (s+1)=2 ^ s+2 ^ s by rw[wu];omega,List.range_add,wR,wc];have w1:∀t,t<2 ^ s->W L t=xr (W (L.take (2 ^ s)) t) (W (L.drop (2 ^ s)) t):=λt ht=>by
   rw[h9,h9,h9,hl',la,lb,F9];unfold xr;rw[<-Nat.add_mod];congr 2
   ·exact jy (λp _=>rfl) λp hp=>Y8 hp
   ·exact jy (λp hp=>by rw[qId s (by omega) p hp t ht]) λp _=>Jq
  have w2:∀t,t<2 ^ s->W L (2 ^ s+t)=W (L.drop (2 ^ s)) t:=λt ht=>by
   rw[h9,h9,hl',lb,F9,u9 (λp hp=>vc λe=>by
    have:=Nat.and_le_left (n:=p) (m:=2 ^ s+t);omega),vM]
   congr 1;exact jy (λp hp=>by
    rw[qIQ s (by omega) p hp t ht];congr 1;rw[eq_iff_iff];omega) λp _=>Jq
  congr 1
  ·rw[List.zipWith_map_left,List.zipWith_map_right,List.zipWith_self];exact wW λt ht=>(w1 t (wS.mp ht)).symm
  ·exact wW λt ht=>(w2 t (wS.mp ht)).symm
section
variable{k:Nat}
theorem qHd{M:Mem}{t:T}{L:List Nat}(h:∀Y,IsL (M++Y) t L)(hl:L.length<=1000){P:Nat->List T->Mem->PR (TB×Mem)}:∀(m i:Nat) (ys:List Nat) (o:Option T),ys.length+m<=2000->∃σ',qk [] (.name 2) (pxs (glT gs) P [1] qAX) ((List.range' i m).map N) [some t,some (.cell M.length),o] (M++[ys.map N])=.ok (.nx [some t,some (.cell M.length),σ'],M++[(ys++(List.range' i m).map (W L)).map N])
 | 0,i,ys,o,hy=>⟨o,by simp⟩
 |m+1,i,ys,o,hy=>by
  obtain⟨σ',e⟩:=qHd h hl (P:=P) m (i+1) (ys++[W L i]) (some (N i)) (by simp;omega);refine⟨σ',?_⟩;have hI:=h [ys.map N];have c:=zX (c:=pec (glT gs) P (.cons (.cmp .eq (.bin .band (.var 0) (.var 2)) (.var 2)) .nil)) (e:=pe (glT gs) P (.idx (.var 1) (.var 0))) (M:=M++[ys.map N]) (σ:=[some t,some (N i)]) (o:=none) (its:=List.range L.length) (λp=>decide (p&&& i=i)) (λp=>L.getD p 0) (by simp[lim];omega) (λx _=>by simp[V5]) (λx hx _=>by
   have hx:=wS.mp hx;have:=hI.idx (i:=x) (x:=L.getD x 0) (by rw[wB,wA hx];rfl);simp[this])
  have sm:=(IsL.nl (M++[ys.map N]) (((List.range L.length).filter λp=>decide (p&&& i=i)).map λp=>L.getD p 0)).sum;have hw:(((List.range L.length).filter λp=>decide (p&&& i=i)).map λp=>L.getD p 0).sum % 2=W L i:=rfl;generalize (((List.range L.length).filter λp=>decide (p&&& i=i)).map λp=>L.getD p 0)=vs at c sm hw;have md:∀{M:Mem}(x:Nat),qt M .mod (N x) (N 2)=some (N (x % 2),true):=λ{M} x=>QR (by decide);have g0:(M++[ys.map N])[M.length]?=some (ys.map N):=by simp
  have s0:(M++[ys.map N]).set M.length (ys.map N++[N (W L i)])=M++[(ys++[W L i]).map N]:=by
   rw[vO _ _ (Nat.le_refl _)];simp
  have ap:A6 (M++[ys.map N]) M.length (N (W L i))=some (M++[(ys++[W L i]).map N]):=by
   rw[JA g0 (by simp[lim];omega),s0]
  rw[we,List.map_cons,qj,st2];have body:pxs (glT gs) P [1] qAX [some t,some (.cell M.length),some (N i)] (M++[ys.map N])=.ok (.nx [some t,some (.cell M.length),some (N i)],M++[(ys++[W L i]).map N]):=by
   rw[qAX];simp(disch:=omega) [hI.len,zI,-zF,c,sm,md,hw,ap]
  rw[body,PR.bind_ok];dsimp only;rw[e];simp
theorem f35(hk:1<=k){M:Mem}(hM:FlatM M){t:T}{L:List Nat}(h:∀Y,IsL (M++Y) t L)(hl:L.length<=1000):Pk (glT gs) Fs Cs k 35 [t] M=.ok ((NL ((List.range L.length).map (W L)),true),M):=by
 rw[qL t35 ⟨rfl,by decide⟩ hk,b35,show Cs.getD 35 []=[1] from rfl];obtain⟨σ',e⟩:=qHd h hl (P:=Pk (glT gs) Fs Cs (k-1)) L.length 0 [] none (by simp;omega);rw[<-wT,List.nil_append,List.map_nil]at e;have hI:=(h [[]]).len;have th:thaw M.length (.lst [])=(.cell M.length,[[]]):=by simp[thaw,zh]
 simp(disch:=omega) [lim,th,hI,zI,e];have:=W1 hM ((List.range L.length).map (W L)) false;rw[wc]at this;exact this
theorem qFd(hk:1<=k){M:Mem}(hM:FlatM M){s:Nat}(hs:s<=5){L:List Nat}(hl:L.length=2 ^ s)(hb:∀x∈L,x<2):Pk (glT gs) Fs Cs k 35 [NL L] M=.ok ((NL (wrd s L),true),M):=by
 have n5:=p5 hs;rw[f35 hk hM (λY=>IsL.nl _ L) (by omega),hl,qCu s L hs hl hb]
theorem T9(M:Mem)(a b:List T):(M++[a,b])[M.length]?=some a:=by simp
theorem Y5(M:Mem)(a b:List T):(M++[a,b])[M.length+1]?=some b:=by
 rw[List.getElem?_append_right (by omega)];simp
theorem qEW(M:Mem)(a b c:List T):(M++[a,b]).set M.length c=M++[c,b]:=by simp
theorem qGB(M:Mem)(a b c:List T):(M++[a,b]).set (M.length+1) c=M++[a,c]:=by
 rw[vO _ _ (by omega)];simp
noncomputable def sfE(F X:List Nat)(p:Nat):T:=if p∈F then .v .non else N (fxN F X p)
theorem qBJ(F X:List Nat)(p:Nat):(sfE F X p).lf=true:=by unfold sfE;split<;>simp
theorem QA(f:Nat->T)(h:∀p,(f p).lf=true):∀L:List Nat,T.lfs (L.map f)=true
 | []=>rfl
 |x::L=>by rw[List.map_cons,Qf,h,QA f h L];rfl
theorem qEc{s:Nat}{F X:List Nat}(c:Cde s F X){i:Nat}(hi:i<2 ^ s)(hF:i∉F):(Cd.oth i F).length<X.length:=by
 have:=Cd.oth_idx hi hF;rw[<-this,<-c.oth];exact List.idxOf_lt_length_iff.mpr (Cd.mem_oth.mpr ⟨hi,hF⟩)
theorem Ju(f:Nat->T)(h:∀p n,thaw n (f p)=(f p,[]))(n:Nat):∀L:List Nat,zh n (L.map f)=(L.map f,[])
 | []=>by simp[zh]
 |x::L=>by
  have:=Ju f h n L;rw[List.map_cons];simp[zh,h,this]
theorem qCI(F X:List Nat)(n:Nat)(L:List Nat):thaw n (.lst (L.map (sfE F X)))=(.cell n,[L.map (sfE F X)]):=by
 have:=Ju (sfE F X) (λp n=>by unfold sfE;split<;>simp[thaw]) n L;simp[thaw,this]
theorem sfL{M:Mem}{s:Nat}{t1 t2:T}{F X:List Nat}(c:Cde s F X)(h1:Il M t1 F):∀(m i:Nat) (o:Option T),i+m=2 ^ s ->
  ∃o',qk [] (.name 3) (pxs (glT gs) (Pk (glT gs) Fs Cs k) [1,2] P8) ((List.range' i m).map N) [some (cdt s t1 t2),some (.cell M.length),some (.cell (M.length+1)),o] (M++[(List.range i).map (sfE F X),(X.drop (Cd.oth i F).length).map N])=.ok (.nx [some (cdt s t1 t2),some (.cell M.length),some (.cell (M.length+1)),o'],M++[(List.range (2 ^ s)).map (sfE F X),(X.drop (Cd.oth (2 ^ s) F).length).map N])
 | 0,i,o,h=>⟨o,by rw[show i=2 ^ s by omega];rfl⟩
 |m+1,i,o,h=>by
  have n5:=c.n5;obtain⟨o',e⟩:=sfL c h1 (t2:=t2) m (i+1) (some (N i)) (by omega);refine⟨o',?_⟩;have hi:i<2 ^ s:=by omega
  have j1:∀{M:Mem},zS M (cdt s t1 t2) (N 1)=some (t1,false):=λ{M}=>by rw[qd];simp[h1.lf]
  have ii:=λB=>qEG (h1.app (C:=B)).isl i;have l0:((List.range i).map (sfE F X)).length<lim:=by simp[lim];omega
  have sn:(List.range i).map (sfE F X)++[sfE F X i]=(List.range (i+1)).map (sfE F X):=by rw[vK,wR];rfl
  have body:pxs (glT gs) (Pk (glT gs) Fs Cs k) [1,2] P8 [some (cdt s t1 t2),some (.cell M.length),some (.cell (M.length+1)),some (N i)] (M++[(List.range i).map (sfE F X),(X.drop (Cd.oth i F).length).map N])=.ok (.nx [some (cdt s t1 t2),some (.cell M.length),some (.cell (M.length+1)),some (N i)],M++[(List.range (i+1)).map (sfE F X),(X.drop (Cd.oth (i+1) F).length).map N]):=by
   by_cases hF:i∈F
   ·have on:(Cd.oth (i+1) F).length=(Cd.oth i F).length:=by rw[Cd.oth_succ,if_pos hF,List.append_nil]
    have sf:sfE F X i=.v .non:=by unfold sfE;rw[if_pos hF]
    rw[sf]at sn;have ii:=ii [(List.range i).map (sfE F X),(X.drop (Cd.oth i F).length).map N];rw[vd hF]at ii;have ap:A6 (M++[(List.range i).map (sfE F X),(X.drop (Cd.oth i F).length).map N]) M.length (.v .non)=some (M++[(List.range (i+1)).map (sfE F X),(X.drop (Cd.oth i F).length).map N]):=by rw[JA (T9 M _ _) l0,qEW,sn]
    rw[on];clear h1 e;generalize (List.range (i+1)).map (sfE F X)=Y1 at *;generalize (List.range i).map (sfE F X)=Y0 at *;generalize (X.drop (Cd.oth i F).length).map N=Y2 at *;generalize cdt s t1 t2=CC at *;rw[P8];simp[j1,ii,ap]
   ·have on:(Cd.oth (i+1) F).length=(Cd.oth i F).length+1:=by rw[Cd.oth_succ,if_neg hF,List.length_append];rfl
    have lt:=qEc c hi hF;have sf:sfE F X i=N (X.getD (Cd.oth i F).length 0):=by unfold sfE fxN;rw[if_neg hF]
    rw[sf]at sn;have ii:=ii [(List.range i).map (sfE F X),(X.drop (Cd.oth i F).length).map N];rw[vc hF]at ii;have dr:X.drop (Cd.oth i F).length=X.getD (Cd.oth i F).length 0::X.drop ((Cd.oth i F).length+1):=by
     rw[List.drop_eq_getElem_cons lt,wB,wA lt];rfl
    have pp:O3 .popAt (M.length+1) [N 0] (M++[(List.range i).map (sfE F X),(X.drop (Cd.oth i F).length).map N])=some ((N (X.getD (Cd.oth i F).length 0),true),M++[(List.range i).map (sfE F X),(X.drop ((Cd.oth i F).length+1)).map N]):=by
     show ((M++[(List.range i).map (sfE F X),(X.drop (Cd.oth i F).length).map N])[M.length+1]?).bind _=_;rw[Y5,dr,List.map_cons];show (if _<=lim then (L2.ixN _ 0).bind _ else none)=_;have l:=c.len;rw[if_pos (by simp[lim];omega)];unfold L2.ixN;rw[if_pos (by simp),if_pos (by simp)];show some ((N _,(N _).lf),(M++[_,_]).set (M.length+1) _)=_;rw[qGB];simp
    have ap:A6 (M++[(List.range i).map (sfE F X),(X.drop ((Cd.oth i F).length+1)).map N]) M.length (N (X.getD (Cd.oth i F).length 0))=some (M++[(List.range (i+1)).map (sfE F X),(X.drop ((Cd.oth i F).length+1)).map N]):=by rw[JA (T9 M _ _) l0,qEW,sn]
    rw[on];clear h1 e dr;generalize N (X.getD (Cd.oth i F).length 0)=V0 at *;generalize (List.range (i+1)).map (sfE F X)=Y1 at *;generalize (List.range i).map (sfE F X)=Y0 at *;generalize (X.drop (Cd.oth i F).length).map N=Y2 at *;generalize (X.drop ((Cd.oth i F).length+1)).map N=Y3 at *;generalize cdt s t1 t2=CC at *;rw[P8];simp[j1,ii,pp,ap]
  rw[we,List.map_cons,qj,show ∀a b c d z:Option T,[a,b,c,d].set 3 z=[a,b,c,z] from λ_ _ _ _ _=>rfl,body,PR.bind_ok];exact e
theorem qFc(hk:1<=k){M:Mem}(hW:WfM M){s:Nat}{t1 t2:T}{F X:List Nat}(c:Cde s F X)(h1:Il M t1 F)(h2:Il M t2 X):Pk (glT gs) Fs Cs k 37 [cdt s t1 t2] M=.ok ((.lst ((List.range (2 ^ s)).map (sfE F X)),true),M):=by
 have n5:=c.n5;rw[qL t37 ⟨rfl,by decide⟩ hk,b37,show Cs.getD 37 []=[1,2] from rfl];obtain⟨o',e⟩:=sfL (k:=k-1) c h1 (t2:=t2) (2 ^ s) 0 none (by omega);rw[<-wT]at e;have rg:=zI (n:=2 ^ s) (by omega);have th1:thaw M.length (.lst [])=(.cell M.length,[[]]):=qh M.length [];have h1':=(h1.app (C:=[[]])).isl;have h2':=(h2.app (C:=[[]])).isl;have h1'':=(h1.app (C:=[[],X.map N])).isl;have h2'':=(h2.app (C:=[[],X.map N])).isl;have j1:∀{M:Mem},zS M (cdt s t1 t2) (N 1)=some (t1,false):=λ{M}=>by rw[qd];simp[h1.lf]
 have j2:∀{M:Mem},zS M (cdt s t1 t2) (N 2)=some (t2,false):=λ{M}=>by rw[qd];simp[h2.lf]
 have li:=h2'.list;have ln1:=h1''.len;have ln2:=h2''.len;have th2:thaw (M++[[]]).length (NL X)=(.cell (M.length+1),[X.map N]):=by rw[qh];simp
 have ad:∀{M:Mem},qt M .add (N F.length) (N X.length)=some (N (2 ^ s),true):=λ{M}=>by rw[qAy,c.len]
 have e:qk [] (.name 3) (pxs (glT gs) (Pk (glT gs) Fs Cs (k-1)) [1,2] P8) ((List.range (2 ^ s)).map N) [some (cdt s t1 t2),some (.cell M.length),some (.cell (M.length+1)),none] (M++[[],X.map N])=_:=e;have ap:(M++[[]])++[X.map N]=M++[[],X.map N]:=by simp
 have lv:=Za (M:=M) (A:=M) (C:=[(List.range (2 ^ s)).map (sfE F X),(X.drop (Cd.oth (2 ^ s) F).length).map N]) (c:=M.length) (ts:=(List.range (2 ^ s)).map (sfE F X)) rfl hW (by simp) (Nat.le_refl _) (QA _ (qBJ F X) _) false;have x0:px (glT gs) (Pk (glT gs) Fs Cs (k-1)) [1,2] (.asg (.name 1) (.lst .nil)) [some (cdt s t1 t2),none,none,none] M=.ok (.nx [some (cdt s t1 t2),some (.cell M.length),none,none],M++[[]]):=by
  simp[th1,lim]
 have x1:px (glT gs) (Pk (glT gs) Fs Cs (k-1)) [1,2] (.asg (.name 2) (.blt .list (.cons (.idx (.var 0) (nE 2)) .nil))) [some (cdt s t1 t2),some (.cell M.length),none,none] (M++[[]])=.ok (.nx [some (cdt s t1 t2),some (.cell M.length),some (.cell (M.length+1)),none],M++[[],X.map N]):=by
  clear h1 h2 h1' h2' h1'' h2'' e lv;generalize cdt s t1 t2=CC at *;generalize NL X=Z at *;generalize M++[[]]=M1 at *;simp[j2,li,th2,ap]
 show zY M.length (pxs _ _ _ _ [some (cdt s t1 t2),none,none,none] M)=_;rw[qD x0,qD x1];clear h1 h2 h1' h2' h1'' h2'' x0 x1;generalize (List.range (2 ^ s)).map (sfE F X)=Y1 at *;generalize (X.drop (Cd.oth (2 ^ s) F).length).map N=Y2 at *;generalize cdt s t1 t2=CC at *;generalize M++[[],X.map N]=M1 at *;generalize M++[Y1,Y2]=M2 at *;simp[j1,j2,ln1,ln2,ad,rg,e];exact lv
theorem qAj{a b:Nat}{f:TS->Mem->RSt}{x y:T}{r:List T}{σ:TS}{M:Mem}:qk [] (.tup [a,b]) f (.tup [x,y]::r) σ M=(f ((σ.set a (some x)).set b (some y)) M).bind λp=>match p.1 with
  | .nx σ2=>qk [] (.tup [a,b]) f r σ2 p.2
  | .ct σ2=>qk [] (.tup [a,b]) f r σ2 p.2
  | .bk σ2=>.ok (.nx σ2,p.2)
  | .rt t=>.ok (.rt t,p.2):=rfl
noncomputable def qBP:List Nat->List Nat->List T->List T
 |f::F,d::D,Y=>qBP F D (Y.set f (N d))
 |_,_,Y=>Y
theorem F5:∀(F D:List Nat) (Y:List T),F.Nodup->F.length=D.length->(∀x∈F,x<Y.length)->∀p,(qBP F D Y)[p]?=if p∈F then some (N (D.getD (F.idxOf p) 0)) else Y[p]?
 | [],_,Y,_,_,_,p=>by simp[qBP]
 |f::F,[],Y,_,h,_,p=>by simp at h
 |f::F,d::D,Y,nd,h,hY,p=>by
  have nd':=List.nodup_cons.mp nd;rw[qBP,F5 F D _ nd'.2 (by simpa using h) (λx hx=>by rw[vJ];exact hY x (List.mem_cons_of_mem _ hx))];by_cases e:p=f
  ·subst e;rw[if_neg nd'.1,if_pos (List.mem_cons_self ..),wL (hY p (List.mem_cons_self ..))];simp
  ·rw[wJ (λz=>e z.symm)];by_cases m:p∈F
   ·rw[if_pos m,if_pos (List.mem_cons_of_mem _ m),List.idxOf_cons,show (f==p)=false by simp;exact λz=>e z.symm];rfl
   ·rw[if_neg m,if_neg (λz=>by rcases List.mem_cons.mp z with z|z;exact e z;exact m z)]
theorem qAn{s:Nat}{F X D:List Nat}(c:Cde s F X)(lD:D.length=F.length):qBP F D ((List.range (2 ^ s)).map (sfE F X))=(crd s F X D).map N:=by
 refine vD λp=>?_;rw[F5 F D _ c.nd lD.symm (λx hx=>by simpa using c.lt x hx)];unfold crd;rw[wN,wN,wN];by_cases h:p<2 ^ s
 ·rw[wl h];simp only[Option.map_some];by_cases m:p∈F
  ·rw[if_pos m];unfold Cd.cf;rw[if_pos m]
  ·rw[if_neg m];unfold Cd.cf sfE fxN;rw[if_neg m,if_neg m]
 ·rw[wU (by simp;omega),if_neg (λm=>h (c.lt p m))];rfl
end
end My
namespace My
open PySem PySem.Spec PI
open L2 (V)
open GF (Ris lp rch qc Told Open wd par Rd LostAt SlipAt ReadAs)
theorem qE6{M:Mem}{d:Nat}(x y:Str):eqT M d (Ts x) (Ts y)=some (decide (x=y)):=by
 cases d<;>(unfold eqT;show (some (x==y):Option Bool)=_;congr 1)
theorem qBW{M:Mem}{d:Nat}(a b:Nat):eqT M d (N a) (N b)=some (decide (a=b)):=by
 have:(some (L2.eqV (.int (a:Int)) (.int (b:Int))):Option Bool)=some (decide (a=b)):=by
  have:=qEM (M:=M) a b;exact this
 cases d<;>(unfold eqT;exact this)
theorem Good.app{A B:Mem}{n:Nat}(g:Good A n):Good (A++B) n:=by
 obtain⟨a,b,c,e,h⟩:=g;exact⟨a,b,c,by rw[List.getElem?_append_left (List.getElem?_eq_some_iff.mp e).1];exact e,h⟩
theorem Good.lt{A:Mem}{n:Nat}(g:Good A n):n<A.length:=by
 obtain⟨a,b,c,e,_⟩:=g;exact(List.getElem?_eq_some_iff.mp e).1
theorem Kept.split{A B X:Mem}{n:Nat}(hn:n<A.length)(x:Kept n (A++B) X):∃A',X=A'++B/\Kept n A A':=by
 have lx:X.length=A.length+B.length:=by rw[x.len];simp
 have hd:X.drop A.length=B:=by
  refine vD λi=>?_;rw[vL,x.oth _ (by omega),List.getElem?_append_right (by omega),wP]
 refine⟨X.take A.length,by rw[<-hd,List.take_append_drop],?_,by rw[wv];omega,λj hj=>?_⟩
 ·obtain⟨a,b,c,e,h⟩:=x.good;exact⟨a,b,c,by rw[wb hn];exact e,h⟩
 ·by_cases q:j<A.length
  ·rw[wb q,x.oth j hj,List.getElem?_append_left q]
  ·rw[wU (by simp;omega),wU (by omega)]
theorem qAM{k:Nat}(hk:1<=k){A B:Mem}{n m:Nat}(g:Good A n)(hm:0<m/\m<=1000000):∃d A',Pk (glT gs) Fs Cs k 33 [.cell n,N m] (A++B)=.ok ((N d,true),A'++B)/\d<m/\Kept n A A':=by
 obtain⟨d,M',e,hd,kk⟩:=JB hk (g.app (B:=B)) hm;obtain⟨A',rfl,ka⟩:=kk.split g.lt;exact⟨d,A',e,hd,ka⟩
section
variable{k:Nat}
theorem y6{M A C:Mem}(hA:A.length=M.length)(hW:WfM A){a b s:Nat}{F X:List Nat}(ha:M.length<=a)(hb:M.length<=b)(ne:a≠b)(ga:(A++C)[a]?=some (F.map N))(gb:(A++C)[b]?=some (X.map N))(f:Bool):zY M.length (.ok (.rt (.tup [N s,.cell a,.cell b],f),A++C))=.ok ((cdt s (NL F) (NL X),true),A):=by
 show PI.finish M.length _ _=_;unfold PI.finish;have la:=(List.getElem?_eq_some_iff.mp ga).1;rw[List.length_append]at la;rw[<-hA]at ha hb ⊢;rw[if_neg (by rw[List.length_append];omega),List.take_left' rfl,if_pos (show A.all (T.unds A.length)=true from hW)];have rc:∀{c:Nat}{L:List Nat}{d:Nat},A.length<=c->(A++C)[c]?=some (L.map N)->qE (A++C) A.length (d+1) (.cell c)=some (NL L):=λ{c L d} h g=>by
  unfold qE;rw[if_neg (by unfold T.und;simp;omega)];dsimp only;rw[g,Option.bind_some,jX _ (Q8 L)];rfl
 have rN:∀{d},qE (A++C) A.length (d+1) (N s)=some (N s):=λ{d}=>by unfold qE;rw[if_pos (W9 _ _)]
 have r:qE (A++C) A.length 6 (.tup [N s,.cell a,.cell b])=some (cdt s (NL F) (NL X)):=by
  unfold qE;rw[if_neg (by unfold T.und T.unds T.unds;simp[T.und,T.unds];omega)];dsimp only;rw[List.mapM_cons,List.mapM_cons,List.mapM_cons,List.mapM_nil,rN,rc ha ga,rc hb gb];rfl
 have fc:∀{c:Nat}{L:List Nat}{d:Nat},A.length<=c->(A++C)[c]?=some (L.map N)->qz (A++C) A.length (d+1) (.cell c)=some [c]:=λ{c L d} h g=>by
  unfold qz;rw[if_neg (by rw[F4];decide)];dsimp only;rw[if_pos h,g,Option.bind_some,Zp _ (Q8 L),Option.map_some,ZU];rfl
 have fN:∀{d},qz (A++C) A.length (d+1) (N s)=some []:=λ{d}=>by unfold qz;rw[if_pos (by simp)]
 have i:frR (A++C) A.length (.tup [N s,.cell a,.cell b])=true:=by
  unfold frR;rw[show qz (A++C) A.length 6 (.tup [N s,.cell a,.cell b])=some [a,b] by
   unfold qz;rw[if_neg (by simp)];dsimp only;rw[List.mapM_cons,List.mapM_cons,List.mapM_cons,List.mapM_nil,fN,fc ha ga,fc hb gb];rfl]
  simp[ne]
 dsimp only;rw[r,PR.ofO_some,PR.bind_ok,i,Bool.or_true]
theorem qH5(hk:2<=k){M:Mem}(hM:FlatM M){n s:Nat}(h0:1<=s)(h5:s<=5)(g:Good M n):∃F X M',Pk (glT gs) Fs Cs k 36 [.cell n,N s] M=.ok ((cdt s (NL F) (NL X),true),M')/\Kept n M M'/\Cde s F X:=by
 have n5:=p5 h5;have n1:0<2 ^ s:=vT (by decide);obtain⟨w,M1,e1,h1,k1⟩:=JB (k:=k-1) (by omega) g (m:=4) (by omega);obtain⟨v,hv,hv1,hv2⟩:∃v,[N 2,N 2,N 3,N 8][w]?=some (N v)/\0<v/\v<=8:=by
  rcases(by omega:w=0\/w=1\/w=2\/w=3) with rfl|rfl|rfl|rfl<;>exact⟨_,rfl,by decide,by decide⟩
 obtain⟨q,M2,e2,k2,_⟩:=Zw (c:=pec (glT gs) (Pk (glT gs) Fs Cs (k-1)) (.cons (.cmp .eq (.call 33 (.cons (.var 1) (.cons (.idx (.lst (.cons (nE 2) (.cons (nE 2) (.cons (nE 3) (.cons (nE 8) .nil))))) (.var 2)) .nil))) (nE 0)) .nil)) (e:=pe (glT gs) (Pk (glT gs) Fs Cs (k-1)) (.var 0)) (σ:=[some (.cell n),some (N w)]) (I:=λM'=>Kept n M M') (R:=λ_ _=>True) (List.range (2 ^ s)) [] true none M1 vR (by simp[lim];omega) k1 (λx _ M' hJ=>by
  obtain⟨d,M'',e,hd,kk⟩:=JB (k:=k-1) (by omega) hJ.good (m:=v) ⟨hv1,by omega⟩;exact⟨decide (d=0),M'',by simp[hv,lim,e],hJ.trans kk,trivial⟩) (λx _ M' _=>by simp)
 rw[List.nil_append,List.map_nil]at e2;have e2:_=PR.ok ((NL (rf (2 ^ s) q),true),M2):=e2;have rg:=zI (n:=2 ^ s) (by omega);have l2:=k2.len;obtain⟨F0,r0,a0,C0,e3,ha0,g0⟩:∃F0,Ris 0 (2 ^ s) F0/\∃a0 C0,px (glT gs) (Pk (glT gs) Fs Cs (k-1)) [4,5] qAB [some (.cell n),some (N s),some (N (2 ^ s)),some (N w),some (.cell M.length),none] (M2++[(rf (2 ^ s) q).map N])=.ok (.nx [some (.cell n),some (N s),some (N (2 ^ s)),some (N w),some (.cell a0),none],M2++C0)/\M.length<=a0/\(M2++C0)[a0]?=some (F0.map N):=by
  have gl:(M2++[(rf (2 ^ s) q).map N])[M.length]?=some ((rf (2 ^ s) q).map N):=by rw[<-l2];simp
  by_cases hw:w=1
  ·subst hw;refine⟨rf (2 ^ s) λt=>!decide (t∈rf (2 ^ s) q),L4 _ _,M.length+1,[(rf (2 ^ s) q).map N,(rf (2 ^ s) λt=>!decide (t∈rf (2 ^ s) q)).map N],?_,by omega,by rw[<-l2];exact Y5 _ _ _⟩;have c:=zX (c:=pec (glT gs) (Pk (glT gs) Fs Cs (k-1)) (.cons (.cmp .notin (.var 0) (.var 1)) .nil)) (e:=pe (glT gs) (Pk (glT gs) Fs Cs (k-1)) (.var 0)) (σ:=[some (.cell M.length)]) (M:=M2++[(rf (2 ^ s) q).map N]) (o:=none) (its:=List.range (2 ^ s)) (λt=>!decide (t∈rf (2 ^ s) q)) (λt=>t) (by simp[lim];omega) (λx _=>by
    have z:=Qi (IsL.cell gl) x;generalize (!decide (x∈rf (2 ^ s) q))=bb at *;simp[z]) (λx _ _=>by simp)
   rw[List.map_id']at c;have c:_=PR.ok ((NL (rf (2 ^ s) λt=>!decide (t∈rf (2 ^ s) q)),true),M2++[(rf (2 ^ s) q).map N]):=c;have th:=qh (M2++[(rf (2 ^ s) q).map N]).length (rf (2 ^ s) λt=>!decide (t∈rf (2 ^ s) q));rw[show (M2++[(rf (2 ^ s) q).map N]).length=M.length+1 by simp[l2]]at th;have ap:(M2++[(rf (2 ^ s) q).map N])++[(rf (2 ^ s) λt=>!decide (t∈rf (2 ^ s) q)).map N]=M2++[(rf (2 ^ s) q).map N,(rf (2 ^ s) λt=>!decide (t∈rf (2 ^ s) q)).map N]:=by simp
   have lm:(M2++[(rf (2 ^ s) q).map N]).length=M.length+1:=by simp[l2]
   generalize NL (rf (2 ^ s) λt=>!decide (t∈rf (2 ^ s) q))=Y at *;generalize (rf (2 ^ s) λt=>!decide (t∈rf (2 ^ s) q)).map N=Y2 at *;generalize M2++[(rf (2 ^ s) q).map N]=M3 at *;rw[qAB];simp[rg,c,th,ap,lm,-zF]
  ·refine⟨rf (2 ^ s) q,L4 _ _,M.length,_,?_,Nat.le_refl _,gl⟩;rw[qAB];simp[hw]
 obtain⟨F,rF,nF,a,M4,C4,e4,k4,ha,ga⟩:∃F,Ris 0 (2 ^ s) F/\F≠[]/\∃a M4 C4,px (glT gs) (Pk (glT gs) Fs Cs (k-1)) [4,5] qAU [some (.cell n),some (N s),some (N (2 ^ s)),some (N w),some (.cell a0),none] (M2++C0)=.ok (.nx [some (.cell n),some (N s),some (N (2 ^ s)),some (N w),some (.cell a),none],M4++C4)/\Kept n M M4/\M.length<=a/\(M4++C4)[a]?=some (F.map N):=by
  have eq:qg (M2++C0) .eq (.cell a0) (.lst [])=some (decide (F0=[])):=(IsL.cell g0).ceq (IsL.nl _ []);by_cases h0:F0=[]
  ·subst h0;obtain⟨d,M4,e,hd,kk⟩:=qAM (k:=k-1) (by omega) k2.good (B:=C0) (m:=2 ^ s) (by omega);have kk4:=k2.trans kk;refine⟨[d],⟨Nat.zero_le _,hd,trivial⟩,by simp,(M4++C0).length,M4,C0++[[d].map N],?_,kk4,by rw[List.length_append,kk4.len];omega,by rw[<-wG];exact zE _ _⟩;have th:thaw (M4++C0).length (.lst [N d])=(.cell (M4++C0).length,[[d].map N]):=qh _ [d];have ap:(M4++C0)++[[d].map N]=M4++(C0++[[d].map N]):=wG ..;generalize M4++C0=M5 at *;rw[qAU];simp[eq,e,th,lim];exact ap
  ·refine⟨F0,r0,h0,a0,M2,C0,?_,k2,ha0,g0⟩;rw[vc h0]at eq;rw[qAU];simp[eq]
 have lF:=je rF;have lF:F.length<=2 ^ s:=by omega
 have sb:∀{M:Mem},qt M .sub (N (2 ^ s)) (N F.length)=some (N (2 ^ s-F.length),true):=λ{M}=>Zi lF;have lt:∀{M:Mem},qg M .lt (N w) (N 2)=some (decide (w<2)):=λ{M}=>B7 w 2;obtain⟨X,M5,e5,⟨M6,rfl,k6⟩,lX,sX⟩:=L3 (gl:=glT gs) (P:=Pk (glT gs) Fs Cs (k-1)) (e:=pe (glT gs) (Pk (glT gs) Fs Cs (k-1)) (.bin .mul (.call 33 (.cons (.var 1) (.cons (nE 2) .nil))) (.blt .int (.cons (.cmp .lt (.var 2) (nE 2)) .nil)))) (σ:=[some (.cell n),some (N w)]) (I:=λM'=>∃A,M'=A++C4/\Kept n M A) (R:=λy=>y<2) (List.range (2 ^ s-F.length)) [] true none (M4++C4) (by simp[lim];omega) ⟨M4,rfl,k4⟩ (λx _ M' hJ=>by
  obtain⟨A,rfl,hJ⟩:=hJ;obtain⟨d,A',e,hd,kk⟩:=qAM (k:=k-1) (by omega) hJ.good (B:=C4) (m:=2) (by omega);have ml:∀{M:Mem}(b:Bool),qt M .mul (N d) (N b.toNat)=some (N (d*b.toNat),true):=λ{M} b=>Qw (.inl (by omega));refine⟨d*(decide (w<2)).toNat,A'++C4,?_,⟨A',rfl,hJ.trans kk⟩,?_⟩
  ·generalize decide (w<2)=bb at *;simp[e,lt,ml]
  ·cases decide (w<2)<;>simp<;>omega)
 rw[List.nil_append,List.map_nil]at e5;rw[List.length_range]at lX;have hM6:=zf hM k6;have l4:M4.length=M6.length:=by rw[k4.len,k6.len]
 have aC:a-M.length<C4.length:=by
  have:=(List.getElem?_eq_some_iff.mp ga).1;rw[List.length_append,k4.len]at this;omega
 have ga6:(M6++(C4++[X.map N]))[a]?=some (F.map N):=by
  have h1:C4[a-M.length]?=some (F.map N):=by
   rw[List.getElem?_append_right (by rw[k4.len];exact ha),k4.len]at ga;exact ga
  rw[List.getElem?_append_right (by rw[k6.len];exact ha),k6.len,List.getElem?_append_left aC];exact h1
 have gb6:(M6++(C4++[X.map N]))[(M6++C4).length]?=some (X.map N):=by rw[<-wG];exact zE _ _
 have lv:=y6 (M:=M) (A:=M6) (C:=C4++[X.map N]) (s:=s) k6.len hM6.wf ha (b:=(M6++C4).length) (by rw[List.length_append,k6.len];omega) (by rw[List.length_append,k6.len];omega) ga6 gb6 false;refine⟨F,X,M6,?_,k6,h0,h5,nF,λx hx=>(rF.mem x hx).2,qA1 rF,by omega,sX⟩;have rg2:=zI (n:=2 ^ s-F.length) (by omega);have i0:=p3 s h5;have ln:zr (M4++C4) .len [.cell a]=some (N F.length,true):=(IsL.cell ga).len;have x0:px (glT gs) (Pk (glT gs) Fs Cs (k-1)) [4,5] qCp [some (.cell n),some (N s),none,none,none,none] M=.ok (.nx [some (.cell n),some (N s),some (N (2 ^ s)),none,none,none],M):=by
  rw[qCp];simp[i0,lim]
 have x1:px (glT gs) (Pk (glT gs) Fs Cs (k-1)) [4,5] qCc [some (.cell n),some (N s),some (N (2 ^ s)),none,none,none] M=.ok (.nx [some (.cell n),some (N s),some (N (2 ^ s)),some (N w),none,none],M1):=by
  rw[qCc];simp[e1]
 have x2:px (glT gs) (Pk (glT gs) Fs Cs (k-1)) [4,5] qCa [some (.cell n),some (N s),some (N (2 ^ s)),some (N w),none,none] M1=.ok (.nx [some (.cell n),some (N s),some (N (2 ^ s)),some (N w),some (.cell M.length),none],M2++[(rf (2 ^ s) q).map N]):=by
  have th:=qh M2.length (rf (2 ^ s) q);rw[l2]at th;generalize (rf (2 ^ s) q).map N=Z2 at *;generalize NL (rf (2 ^ s) q)=Z at *;rw[qCa];simp[rg,e2,l2,th,-zF]
 have x5:px (glT gs) (Pk (glT gs) Fs Cs (k-1)) [4,5] qCP [some (.cell n),some (N s),some (N (2 ^ s)),some (N w),some (.cell a),none] (M4++C4)=.ok (.nx [some (.cell n),some (N s),some (N (2 ^ s)),some (N w),some (.cell a),some (.cell (M6++C4).length)],M6++(C4++[X.map N])):=by
  have th:=qh (M6++C4).length X;have ap:(M6++C4)++[X.map N]=M6++(C4++[X.map N]):=wG ..;generalize NL X=Z at *;generalize M6++C4=M8 at *;generalize M4++C4=M9 at *;rw[qCP];simp[ln,sb,rg2,e5,th,ap,-qp]
 have x6:px (glT gs) (Pk (glT gs) Fs Cs (k-1)) [4,5] qBq [some (.cell n),some (N s),some (N (2 ^ s)),some (N w),some (.cell a),some (.cell (M6++C4).length)] (M6++(C4++[X.map N]))=.ok (.rt (.tup [N s,.cell a,.cell (M6++C4).length],false),M6++(C4++[X.map N])):=by
  generalize (M6++C4).length=b at *;rw[qBq];simp[lim]
 rw[qL t36 ⟨rfl,by decide⟩ (by omega),qDi,show Cs.getD 36 []=[4,5] from rfl];show zY M.length (pxs _ _ _ _ [some (.cell n),some (N s),none,none,none,none] M)=_;rw[qD x0,qD x1,qD x2,qD e3,qD e4,qD x5,jT x6,lv]
end
end My
namespace My
open PySem PySem.Spec PI
open L2 (V)
open GF (Ris lp rch qc Told Open wd par Rd LostAt SlipAt ReadAs wk jn)
theorem qBY{M:Mem}{j:Nat}(h:WfM M){c:List T}(hc:T.unds M.length c=true):WfM (M.set j c):=by
 unfold WfM at *;rw[List.all_eq_true]at h ⊢;intro d hd;rw[vJ];rcases vH hd with z|rfl
 ·exact h d z
 ·exact hc
noncomputable def z_0:S:=(.asg (.name 4) (.blt .len (.cons (.var 2) .nil)))
noncomputable def z_1:S:=(.asg (.name 5) (.idx (.var 0) (nE 0)))
noncomputable def z_2:S:=(.ifs (.and (.cmp .is (.var 5) (.cst V.non)) (.cmp .is (.idx (.var 1) (.var 4)) (.cst V.non))) (.cons (.expr (.app (.var 3) (.tup (.cons (.cst (V.str "lost")) (.cons (.var 4) .nil))))) .nil) .nil)
noncomputable def z_3:S:=(.ifs (.and (.cmp .isnot (.var 5) (.cst V.non)) (.and (.cmp .isnot (.idx (.var 1) (.var 4)) (.cst V.non)) (.cmp .ne (.var 5) (.idx (.var 1) (.var 4))))) (.cons (.expr (.app (.var 3) (.tup (.cons (.cst (V.str "slip")) (.cons (.var 4) .nil))))) .nil) .nil)
noncomputable def z_4:S:=(.ifs (.cmp .is (.var 5) (.cst V.non)) (.cons (.asg (.name 5) (nE 0)) .nil) .nil)
noncomputable def z_5:S:=(.ifs (.cmp .isnot (.idx (.var 1) (.var 4)) (.cst V.non)) (.cons (.asg (.name 5) (.idx (.var 1) (.var 4))) .nil) .nil)
noncomputable def z_6:S:=(.expr (.app (.var 2) (.var 5)))
noncomputable def z_7:S:=(.ret (.lst (.cons (.var 5) .nil)))
noncomputable def w_0:S:=(.ifs (.cmp .eq (.blt .len (.cons (.var 0) .nil)) (nE 1)) (.cons z_0 (.cons z_1 (.cons z_2 (.cons z_3 (.cons z_4 (.cons z_5 (.cons z_6 (.cons z_7 .nil)))))))) .nil)
noncomputable def w_1:S:=(.asg (.name 6) (.bin .fdiv (.blt .len (.cons (.var 0) .nil)) (nE 2)))
noncomputable def w_2:S:=(.asg (.name 7) (.lst .nil))
noncomputable def w_3:S:=(.for_ (.tup [8,9]) (.zip (.sl (.var 0) .nil (.cons (.var 6) .nil)) (.sl (.var 0) (.cons (.var 6) .nil) .nil)) l6)
noncomputable def w_4:S:=(.asg (.name 10) (.call 39 (.cons (.var 7) (.cons (.var 1) (.cons (.var 2) (.cons (.var 3) .nil))))))
noncomputable def w_5:S:=(.asg (.name 11) (.lst .nil))
noncomputable def w_6:S:=(.for_ (.name 12) (.rng1 (.var 6)) o0)
noncomputable def w_7:S:=(.asg (.name 13) (.call 39 (.cons (.var 11) (.cons (.var 1) (.cons (.var 2) (.cons (.var 3) .nil))))))
noncomputable def w_8:S:=(.ret (.bin .add (.comp (.zip (.var 10) (.var 13)) [none,none] (.tup [0,1]) .nil (.bin .mod (.bin .add (.var 0) (.var 1)) (nE 2))) (.var 13)))
theorem qIM:b39=(.cons w_0 (.cons w_1 (.cons w_2 (.cons w_3 (.cons w_4 (.cons w_5 (.cons w_6 (.cons w_7 (.cons w_8 .nil))))))))):=rfl
noncomputable def up(M:Mem)(c d:Nat)(X Y:List T):Mem:=(M.set c X).set d Y
section
variable{M:Mem}{c d:Nat}{X Y:List T}
theorem zt:(up M c d X Y).length=M.length:=by unfold up;simp
theorem qGz(hc:c<M.length)(ne:c≠d):(up M c d X Y)[c]?=some X:=by unfold up;rw[wJ (Ne.symm ne),wL hc]
theorem qHz(hd:d<M.length):(up M c d X Y)[d]?=some Y:=by unfold up;rw[wL (by simpa using hd)]
theorem QQ(hc:c<M.length)(hd:d<M.length)(B:Mem):up (M++B) c d X Y=up M c d X Y++B:=by
 unfold up;rw[vV _ _ hc,vV _ _ (by simpa using hd)]
theorem qCe(ne:c≠d)(Z:List T):(up M c d X Y).set c Z=up M c d Z Y:=by
 unfold up;rw[List.set_comm _ _ (Ne.symm ne),List.set_set]
theorem qBv(Z:List T):(up M c d X Y).set d Z=up M c d X Z:=by unfold up;rw[List.set_set]
theorem qGa(h:WfM M)(hX:T.unds 0 X=true)(hY:T.unds 0 Y=true):WfM (up M c d X Y):=by
 unfold up;refine qBY (qBY h (zH (Nat.zero_le _) _ hX)) ?_;exact zH (Nat.zero_le _) _ hY
theorem qBl(hc:c<M.length)(ne:c≠d)(hl:X.length<lim)(v:T):A6 (up M c d X Y) c v=some (up M c d (X++[v]) Y):=by rw[JA (qGz hc ne) hl,qCe ne]
theorem i9(hd:d<M.length)(hl:Y.length<lim)(v:T):A6 (up M c d X Y) d v=some (up M c d X (Y++[v])):=by rw[JA (qHz hd) hl,qBv]
end
noncomputable def bl(n:Nat)(f:Nat->Bool):List Nat:=(List.range n).map λq=>(f q).toNat
theorem J6(n:Nat)(f:Nat->Bool):(bl n f).length=n:=by unfold bl;simp
theorem qA9{n:Nat}{f:Nat->Bool}{i:Nat}(h:i<n):(bl n f)[i]?=some (f i).toNat:=by unfold bl;simp[h]
theorem qA6(n:Nat)(f g:Nat->Bool):bl (n+n) (jn n f g)=bl n f++bl n g:=by
 unfold bl;rw[ZC,wR,wc];congr 1
 ·exact wW λq hq=>by rw[GF.jn_lo (wS.mp hq)]
 ·exact wW λq hq=>by show (jn n f g (n+q)).toNat=_;rw[GF.jn_hi]
theorem qAE{n:Nat}{f g:Nat->Bool}(h:∀q,q<n->f q=g q):bl n f=bl n g:=wW λq hq=>by rw[h q (wS.mp hq)]
noncomputable def nm(b:Bool):Str:=if b then "lost" else "slip"
noncomputable def stE(o:Nat)(x:Bool×Nat):T:=S3 (nm x.1) (o+x.2)
theorem Qy(o:Nat):∀l:List (Bool×Nat),T.unds 0 (l.map (stE o))=true
 | []=>rfl
 |x::l=>by
  show (T.und 0 (stE o x)&&T.unds 0 (l.map (stE o)))=true;rw[Qy o l];rfl
theorem Zr(n:Nat):∀a b:List T,T.unds n a=true->T.unds n b=true->T.unds n (a++b)=true
 | [],b,_,h=>h
 |x::a,b,h,k=>by
  have h:(x.und n&&T.unds n a)=true:=h;rw[Bool.and_eq_true]at h;show (x.und n&&T.unds n (a++b))=true;rw[h.1,Zr n a b h.2 k];rfl
noncomputable def Wk(s:Nat)(S cm:Nat->Bool)(F X:List Nat)(o:Nat):(Nat->Bool)×List (Bool×Nat):=wk s S cm (λq=>frB F (o+q)) (λq=>fxB F X (o+q))
theorem Jo:∀(s:Nat) (S cm fr fx:Nat->Bool),(wk s S cm fr fx).2.length<=2 ^ s
 | 0,S,cm,fr,fx=>by
  unfold wk;cases S 0<;>cases fr 0<;>cases (cm 0 ^^ fx 0)<;>simp
 |s+1,S,cm,fr,fx=>by
  have:=GF.pw s;unfold wk;rw[List.length_append,wO];have a:=Jo s (λt=>S t||S (t+2 ^ s)) (λt=>cm t ^^ cm (t+2 ^ s)) fr fx;have b:=Jo s (λt=>S t&&S (t+2 ^ s)) (λt=>if S t then cm (t+2 ^ s) else cm t ^^ wd s (wk s (λt=>S t||S (t+2 ^ s)) (λt=>cm t ^^ cm (t+2 ^ s)) fr fx).1 t) (λq=>fr (2 ^ s+q)) (λq=>fx (2 ^ s+q));omega
theorem QF{S cm:Nat->Bool}{t:Nat}(h:S t=true):cmE S cm t=.v .non:=by unfold cmE;rw[h];rfl
theorem md2{M:Mem}(x:Nat):qt M .mod (N x) (N 2)=some (N (x % 2),true):=QR (by decide)
theorem xb(a b:Bool):(a.toNat+b.toNat) % 2=(a ^^ b).toNat:=by cases a<;>cases b<;>rfl
section
variable{k:Nat}
theorem wL1{P:Nat->List T->Mem->PR (TB×Mem)}{h m:Nat}{S cm:Nat->Bool}{A:Mem}(hA:A.length=m){a0 a1 a2 a3 a4 a5 a6:Option T}{o10 o11 o12 o13:Option T}:∀(j i:Nat) (o8 o9:Option T),i+j<=100 ->
  ∃p8 p9,qk [] (.tup [8,9]) (pxs (glT gs) P [7,11] l6) ((List.range' i j).map λq=>T.tup [cmE S cm q,cmE S cm (h+q)]) [a0,a1,a2,a3,a4,a5,a6,some (.cell m),o8,o9,o10,o11,o12,o13] (A++[(List.range i).map (cmE (λt=>S t||S (t+h)) (λt=>cm t ^^ cm (t+h)))])=.ok (.nx [a0,a1,a2,a3,a4,a5,a6,some (.cell m),p8,p9,o10,o11,o12,o13],A++[(List.range (i+j)).map (cmE (λt=>S t||S (t+h)) (λt=>cm t ^^ cm (t+h)))])
 | 0,i,o8,o9,_=>⟨o8,o9,rfl⟩
 |j+1,i,o8,o9,hl=>by
  obtain⟨p8,p9,e⟩:=wL1 (P:=P) (h:=h) (S:=S) (cm:=cm) hA (a0:=a0) (a1:=a1) (a2:=a2) (a3:=a3) (a4:=a4) (a5:=a5) (a6:=a6) (o10:=o10) (o11:=o11) (o12:=o12) (o13:=o13) j (i+1) (some (cmE S cm i)) (some (cmE S cm (h+i))) (by omega);refine⟨p8,p9,?_⟩;have ap:∀v,A6 (A++[(List.range i).map (cmE (λt=>S t||S (t+h)) (λt=>cm t ^^ cm (t+h)))]) m v=some (A++[(List.range i).map (cmE (λt=>S t||S (t+h)) (λt=>cm t ^^ cm (t+h)))++[v]]):=λv=>by
   rw[<-hA,JA (zE _ _) (by simp[lim];omega),jJ]
  have body:pxs (glT gs) P [7,11] l6 [a0,a1,a2,a3,a4,a5,a6,some (.cell m),some (cmE S cm i),some (cmE S cm (h+i)),o10,o11,o12,o13] (A++[(List.range i).map (cmE (λt=>S t||S (t+h)) (λt=>cm t ^^ cm (t+h)))])=.ok (.nx [a0,a1,a2,a3,a4,a5,a6,some (.cell m),some (cmE S cm i),some (cmE S cm (h+i)),o10,o11,o12,o13],A++[(List.range (i+1)).map (cmE (λt=>S t||S (t+h)) (λt=>cm t ^^ cm (t+h)))]):=by
   rw[vK,wR,List.map_singleton,vA h i];generalize (List.range i).map (cmE (λt=>S t||S (t+h)) (λt=>cm t ^^ cm (t+h)))=Y at *;rw[l6];cases h1:S i with
   |true=>
    rw[QF h1,QF (S:=λt=>S t||S (t+h)) (t:=i) (by rw[h1];rfl)];simp[Jg,ap,bT]
   |false=>
    cases h2:S (i+h) with
    |true=>
     rw[ZM h1,QF h2,QF (S:=λt=>S t||S (t+h)) (t:=i) (by rw[h2,Bool.or_true])];simp[Jg,qEu,ap,bT]
    |false=>
     rw[ZM h1,ZM h2,ZM (S:=λt=>S t||S (t+h)) (t:=i) (by rw[h1,h2];rfl)];simp[qEu,md2,xb,ap,bT]
  rw[we,List.map_cons,qAj,show ∀a b c d e f g h i j k l m n y z:Option T,([a,b,c,d,e,f,g,h,i,j,k,l,m,n].set 8 y).set 9 z=[a,b,c,d,e,f,g,h,y,z,k,l,m,n] from λ_ _ _ _ _ _ _ _ _ _ _ _ _ _ _ _=>rfl,body,PR.bind_ok,show i+(j+1)=i+1+j by omega];exact e
theorem wL0{P:Nat->List T->Mem->PR (TB×Mem)}{h m:Nat}{S cm w:Nat->Bool}{A:Mem}(hA:A.length=m){t:T}(hT:∀B,IsS (A++B) t ((List.range (h+h)).map (cmE S cm))){a1 a2 a3 a4 a5 a7 a8 a9 o13:Option T}:∀(j i:Nat) (o12:Option T),i+j=h->h<=100 ->
  ∃p12,qk [] (.name 12) (pxs (glT gs) P [7,11] o0) ((List.range' i j).map N) [some t,a1,a2,a3,a4,a5,some (N h),a7,a8,a9,some (NL (bl h w)),some (.cell m),o12,o13] (A++[(List.range i).map (cmE (λt=>S t&&S (t+h)) (λt=>if S t then cm (t+h) else cm t ^^ w t))])=.ok (.nx [some t,a1,a2,a3,a4,a5,some (N h),a7,a8,a9,some (NL (bl h w)),some (.cell m),p12,o13],A++[(List.range h).map (cmE (λt=>S t&&S (t+h)) (λt=>if S t then cm (t+h) else cm t ^^ w t))])
 | 0,i,o12,hi,_=>⟨o12,by rw[show i=h by omega];rfl⟩
 |j+1,i,o12,hi,hh=>by
  obtain⟨p12,e⟩:=wL0 (P:=P) (w:=w) hA hT (a1:=a1) (a2:=a2) (a3:=a3) (a4:=a4) (a5:=a5) (a7:=a7) (a8:=a8) (a9:=a9) (o13:=o13) j (i+1) (some (N i)) (by omega) hh;refine⟨p12,?_⟩;have ap:∀v,A6 (A++[(List.range i).map (cmE (λt=>S t&&S (t+h)) (λt=>if S t then cm (t+h) else cm t ^^ w t))]) m v=some (A++[(List.range i).map (cmE (λt=>S t&&S (t+h)) (λt=>if S t then cm (t+h) else cm t ^^ w t))++[v]]):=λv=>by
   rw[<-hA,JA (zE _ _) (by simp[lim];omega),jJ]
  have ix:∀q,q<h+h->zS (A++[(List.range i).map (cmE (λt=>S t&&S (t+h)) (λt=>if S t then cm (t+h) else cm t ^^ w t))]) t (N q)=some (cmE S cm q,true):=λq hq=>by
   rw[(hT _).idx q,wN,wl hq,Option.map_some,Option.map_some,ZA]
  have i1:=ix i (by omega);have i2:=ix (h+i) (by omega);have i3:=(IsL.nl (A++[(List.range i).map (cmE (λt=>S t&&S (t+h)) (λt=>if S t then cm (t+h) else cm t ^^ w t))]) (bl h w)).idx (qA9 (f:=w) (show i<h by omega));have body:pxs (glT gs) P [7,11] o0 [some t,a1,a2,a3,a4,a5,some (N h),a7,a8,a9,some (NL (bl h w)),some (.cell m),some (N i),o13] (A++[(List.range i).map (cmE (λt=>S t&&S (t+h)) (λt=>if S t then cm (t+h) else cm t ^^ w t))])=.ok (.nx [some t,a1,a2,a3,a4,a5,some (N h),a7,a8,a9,some (NL (bl h w)),some (.cell m),some (N i),o13],A++[(List.range (i+1)).map (cmE (λt=>S t&&S (t+h)) (λt=>if S t then cm (t+h) else cm t ^^ w t))]):=by
   have key:cmE (λt=>S t&&S (t+h)) (λt=>if S t then cm (t+h) else cm t ^^ w t) i=if S i then cmE S cm (h+i) else N (cm i ^^ w i).toNat:=by
    rw[vA h i];unfold cmE;cases h1:S i<;>simp[h1]
   rw[vK,wR,List.map_singleton,key];clear e hT ix key;generalize (List.range i).map (cmE (λt=>S t&&S (t+h)) (λt=>if S t then cm (t+h) else cm t ^^ w t))=Y at *;generalize NL (bl h w)=Z at *;rw[o0];cases h1:S i with
   |true=>
    rw[QF h1]at i1;generalize cmE S cm (h+i)=V0 at *;simp[i1,i2,Jg,ap]
   |false=>
    rw[ZM h1]at i1;simp[i1,i3,qEu,md2,xb,ap]
  rw[we,List.map_cons,qj,show ∀a b c d e f g h i j k l m n z:Option T,[a,b,c,d,e,f,g,h,i,j,k,l,m,n].set 12 z=[a,b,c,d,e,f,g,h,i,j,k,l,z,n] from λ_ _ _ _ _ _ _ _ _ _ _ _ _ _ _=>rfl,body,PR.bind_ok];exact e
end
end My
namespace My
open PySem PySem.Spec PI
open L2 (V)
open GF (Ris lp rch qc Told Open wd par Rd LostAt SlipAt ReadAs wk jn)
theorem qE5:∀(s:Nat){k:Nat}(hk:s+1<=k) (hs:s<=5){F X:List Nat}{n:Nat}(hn:n<=32) (hX:∀p,fxN F X p=(fxB F X p).toNat){S cm:Nat->Bool}{t:T}{M:Mem}{c d:Nat}(hc:c<M.length) (hd:d<M.length) (ne:c≠d) (hW:WfM M) (hT:∀A B D,IsS (up M c d A B++D) t ((List.range (2 ^ s)).map (cmE S cm))){C:List Nat}{St:List T}(hC:C.length+2 ^ s<=n) (hSt:T.unds 0 St=true) (lS:St.length+2 ^ s<=100),
  Pk (glT gs) Fs Cs k 39 [t,.lst ((List.range n).map (sfE F X)),.cell c,.cell d] (up M c d (C.map N) St)=.ok ((NL (bl (2 ^ s) (wd s (Wk s S cm F X C.length).1)),true),up M c d ((C++bl (2 ^ s) (Wk s S cm F X C.length).1).map N) (St++(Wk s S cm F X C.length).2.map (stE C.length)))
 | 0,k,hk,hs,F,X,n,hn,hX,S,cm,t,M,c,d,hc,hd,ne,hW,hT,C,St,hC,hSt,lS=>by
  have ho:C.length<n:=by have:(2:Nat) ^ 0=1:=rfl;omega
  have h0:=hT (C.map N) St [];rw[List.append_nil]at h0;have l1:zr (up M c d (C.map N) St) .len [t]=some (N 1,true):=by rw[h0.len];rfl
  have ll2:zr (up M c d (C.map N) St) .len [.cell c]=some (N C.length,true):=(IsL.cell (qGz hc ne)).len;have i0:zS (up M c d (C.map N) St) t (N 0)=some (cmE S cm 0,true):=by rw[h0.idx 0];show some (cmE S cm 0,(cmE S cm 0).lf)=_;rw[ZA]
  have i1:∀{M:Mem},zS M (.lst ((List.range n).map (sfE F X))) (N C.length)=some (sfE F X C.length,true):=λ{M}=>by
   rw[ZP,wN,wl ho];show some (sfE F X C.length,(sfE F X C.length).lf)=_;rw[qBJ]
  have st:∀{M:Mem}{σ:TS}(x:Str),pe (glT gs) (Pk (glT gs) Fs Cs (k-1)) (.cst (V.str x)) σ M=.ok ((Ts x,true),M):=λ{M σ} x=>rfl;have lfT:∀x,T.lf (Ts x)=true:=λx=>rfl;have ac:=λ(Y:List T) (v:T)=>qBl (M:=M) (c:=c) (d:=d) (X:=C.map N) (Y:=Y) hc ne (by simp[lim];omega) v;have ad:=λ(v:T)=>i9 (M:=M) (c:=c) (d:=d) (X:=C.map N) (Y:=St) hd (by simp[lim];have:(2:Nat) ^ 0=1:=rfl;omega) v;have mp:∀v:Nat,C.map N++[N v]=(C++[v]).map N:=λv=>by simp
  have fin:∀(v:Bool) (l:List (Bool×Nat)),Wk 0 S cm F X C.length=(λ_=>v,l)->pxs (glT gs) (Pk (glT gs) Fs Cs (k-1)) [7,11] b39 [some t,some (.lst ((List.range n).map (sfE F X))),some (.cell c),some (.cell d),none,none,none,none,none,none,none,none,none,none] (up M c d (C.map N) St)=.ok (.rt (.lst [N v.toNat],true),up M c d ((C++[v.toNat]).map N) (St++l.map (stE C.length)))->Pk (glT gs) Fs Cs k 39 [t,.lst ((List.range n).map (sfE F X)),.cell c,.cell d] (up M c d (C.map N) St)=.ok ((NL (bl (2 ^ 0) (wd 0 (Wk 0 S cm F X C.length).1)),true),up M c d ((C++bl (2 ^ 0) (Wk 0 S cm F X C.length).1).map N) (St++(Wk 0 S cm F X C.length).2.map (stE C.length))):=λv l hw e=>by
   rw[hw,qL t39 ⟨rfl,by decide⟩ (by omega),show Cs.getD 39 []=[7,11] from rfl];show zY (up M c d (C.map N) St).length (pxs _ _ _ _ [some t,some (.lst ((List.range n).map (sfE F X))),some (.cell c),some (.cell d),none,none,none,none,none,none,none,none,none,none] _)=_;rw[e,qA (by rw[zt,zt])];rfl
  have hfx:=hX C.length;rw[show b39=(.cons w_0 (.cons w_1 (.cons w_2 (.cons w_3 (.cons w_4 (.cons w_5 (.cons w_6 (.cons w_7 (.cons w_8 .nil))))))))) from rfl]at fin;have i5:∀{M:Mem},qg M .is (cmE S cm 0) (.v .non)=some (S 0):=λ{M}=>by unfold cmE;cases S 0<;>rfl
  have n5:∀{M:Mem},qg M .isnot (cmE S cm 0) (.v .non)=some (!S 0):=λ{M}=>by unfold cmE;cases S 0<;>rfl
  have sf:sfE F X C.length=if frB F C.length then .v .non else N (fxB F X C.length).toNat:=by unfold sfE frB;rw[hfx];by_cases h:C.length∈F<;>simp[h]
  have i6:∀{M:Mem},qg M .is (sfE F X C.length) (.v .non)=some (frB F C.length):=λ{M}=>by rw[sf];cases frB F C.length<;>rfl
  have n6:∀{M:Mem},qg M .isnot (sfE F X C.length) (.v .non)=some (!frB F C.length):=λ{M}=>by rw[sf];cases frB F C.length<;>rfl
  have ne6:∀{M:Mem},S 0=false->frB F C.length=false->qg M .ne (cmE S cm 0) (sfE F X C.length)=some (cm 0 ^^ fxB F X C.length):=λ{M} h1 h2=>by
   rw[sf,h2,ZM h1];show qg M .ne (N _) (N _)=_;rw[j9];cases cm 0<;>cases fxB F X C.length<;>rfl
  obtain⟨l2,hl2⟩:∃l:List (Bool×Nat),l=if S 0&&frB F C.length then [(true,0)] else []:=⟨_,rfl⟩
  obtain⟨l3,hl3⟩:∃l:List (Bool×Nat),l=if !S 0&&(!frB F C.length&&(cm 0 ^^ fxB F X C.length)) then [(false,0)] else []:=⟨_,rfl⟩
  obtain⟨v,hv⟩:∃v,v=if frB F C.length then (!S 0&&cm 0) else fxB F X C.length:=⟨_,rfl⟩
  refine fin v (l2++l3) (by rw[hv,hl2,hl3];unfold Wk;rfl) ?_;have ad:∀(Y:List T) (x:T),Y.length<=101->A6 (up M c d (C.map N) Y) d x=some (up M c d (C.map N) (Y++[x])):=λY x h=>i9 hd (by simp[lim];omega) x;have ac:=ac (St++(l2++l3).map (stE C.length)) (N v.toNat);rw[mp]at ac;have lSt:St.length<=99:=by have:(2:Nat) ^ 0=1:=rfl;omega
  clear fin;generalize T.lst ((List.range n).map (sfE F X))=FT at i1 ⊢;have tp:∀{M':Mem}(x:Str) (o:Option T),pe (glT gs) (Pk (glT gs) Fs Cs (k-1)) (.tup (.cons (.cst (V.str x)) (.cons (.var 4) .nil))) [some t,some FT,some (.cell c),some (.cell d),some (N C.length),o,none,none,none,none,none,none,none,none] M'=.ok ((S3 x C.length,true),M'):=λ{M'} x o=>by simp[st,-pe_str,lfT,lim]
  have x0:px (glT gs) (Pk (glT gs) Fs Cs (k-1)) [7,11] z_0 [some t,some FT,some (.cell c),some (.cell d),none,none,none,none,none,none,none,none,none,none] (up M c d (C.map N) St)=.ok (.nx [some t,some FT,some (.cell c),some (.cell d),some (N C.length),none,none,none,none,none,none,none,none,none],up M c d (C.map N) St):=E5 (qC1 (qi rfl) ll2) rfl;have x1:px (glT gs) (Pk (glT gs) Fs Cs (k-1)) [7,11] z_1 [some t,some FT,some (.cell c),some (.cell d),some (N C.length),none,none,none,none,none,none,none,none,none] (up M c d (C.map N) St)=.ok (.nx [some t,some FT,some (.cell c),some (.cell d),some (N C.length),some (cmE S cm 0),none,none,none,none,none,none,none,none],up M c d (C.map N) St):=E5 (D8 (qi rfl) (pe_int 0) i0) rfl;have x2:px (glT gs) (Pk (glT gs) Fs Cs (k-1)) [7,11] z_2 [some t,some FT,some (.cell c),some (.cell d),some (N C.length),some (cmE S cm 0),none,none,none,none,none,none,none,none] (up M c d (C.map N) St)=.ok (.nx [some t,some FT,some (.cell c),some (.cell d),some (N C.length),some (cmE S cm 0),none,none,none,none,none,none,none,none],up M c d (C.map N) (St++l2.map (stE C.length))):=by
   refine qFK (qFn (Qs (qi rfl) pe_non i5) (Qs (D8 (qi rfl) (qi rfl) i1) pe_non i6)) ?_;rw[hl2];cases S 0&&frB F C.length
   ·rw[if_neg wM,if_neg wM,List.map_nil,List.append_nil];exact zq
   ·rw[if_pos (rfl:true=true)];exact(zm (qCQ (qi rfl) (tp "lost" _) (ad St _ (by omega)))).trans zq
  have e3:(St++l2.map (stE C.length)).length<=100:=by rw[hl2];split<;>simp<;>omega
  have x3:px (glT gs) (Pk (glT gs) Fs Cs (k-1)) [7,11] z_3 [some t,some FT,some (.cell c),some (.cell d),some (N C.length),some (cmE S cm 0),none,none,none,none,none,none,none,none] (up M c d (C.map N) (St++l2.map (stE C.length)))=.ok (.nx [some t,some FT,some (.cell c),some (.cell d),some (N C.length),some (cmE S cm 0),none,none,none,none,none,none,none,none],up M c d (C.map N) (St++(l2++l3).map (stE C.length))):=by
   rw[wR,<-wG,hl3];generalize St++l2.map (stE C.length)=Y at *;refine qFK (x:=!S 0&&(!frB F C.length&&(cm 0 ^^ fxB F X C.length))) (M1:=up M c d (C.map N) Y) ?_ ?_
   ·cases h1:S 0
    ·rw[h1]at n5;cases h2:frB F C.length
     ·rw[h2]at n6;exact r6 (Qs (qi rfl) pe_non n5) (r6 (Qs (D8 (qi rfl) (qi rfl) i1) pe_non n6) (Qs (qi rfl) (D8 (qi rfl) (qi rfl) i1) (ne6 h1 h2)))
     ·rw[h2]at n6;exact r6 (Qs (qi rfl) pe_non n5) (qBT (Qs (D8 (qi rfl) (qi rfl) i1) pe_non n6))
    ·rw[h1]at n5;exact qBT (Qs (qi rfl) pe_non n5)
   ·cases !S 0&&(!frB F C.length&&(cm 0 ^^ fxB F X C.length))
    ·rw[if_neg wM,if_neg wM,List.map_nil,List.append_nil];exact zq
    ·rw[if_pos (rfl:true=true)];exact(zm (qCQ (qi rfl) (tp "slip" _) (ad Y _ (by omega)))).trans zq
  generalize up M c d (C.map N) (St++(l2++l3).map (stE C.length))=M3 at ac x3 ⊢;have x4:px (glT gs) (Pk (glT gs) Fs Cs (k-1)) [7,11] z_4 [some t,some FT,some (.cell c),some (.cell d),some (N C.length),some (cmE S cm 0),none,none,none,none,none,none,none,none] M3=.ok (.nx [some t,some FT,some (.cell c),some (.cell d),some (N C.length),some (if S 0 then N 0 else cmE S cm 0),none,none,none,none,none,none,none,none],M3):=by
   refine qFK (Qs (qi rfl) pe_non i5) ?_;cases S 0
   ·rw[if_neg wM,if_neg wM];exact zq
   ·rw[if_pos (rfl:true=true),if_pos (rfl:true=true)];exact(zm (E5 (pe_int 0) rfl)).trans zq
  have x5:px (glT gs) (Pk (glT gs) Fs Cs (k-1)) [7,11] z_5 [some t,some FT,some (.cell c),some (.cell d),some (N C.length),some (if S 0 then N 0 else cmE S cm 0),none,none,none,none,none,none,none,none] M3=.ok (.nx [some t,some FT,some (.cell c),some (.cell d),some (N C.length),some (N v.toNat),none,none,none,none,none,none,none,none],M3):=by
   refine qFK (Qs (D8 (qi rfl) (qi rfl) i1) pe_non n6) ?_;rw[hv];cases h2:frB F C.length
   ·have sf':sfE F X C.length=N (fxB F X C.length).toNat:=by rw[sf,h2];rfl
    rw[sf']at i1;rw[if_pos (show (!false)=true from rfl),if_neg wM];exact(zm (E5 (D8 (qi rfl) (qi rfl) i1) rfl)).trans zq
   ·have:(if S 0 then N 0 else cmE S cm 0)=N (!S 0&&cm 0).toNat:=by unfold cmE;cases S 0<;>rfl
    rw[this,if_neg (show ¬ (!true)=true by decide),if_pos (rfl:true=true)];exact zq
  have x6:px (glT gs) (Pk (glT gs) Fs Cs (k-1)) [7,11] z_6 [some t,some FT,some (.cell c),some (.cell d),some (N C.length),some (N v.toNat),none,none,none,none,none,none,none,none] M3=.ok (.nx [some t,some FT,some (.cell c),some (.cell d),some (N C.length),some (N v.toNat),none,none,none,none,none,none,none,none],up M c d ((C++[v.toNat]).map N) (St++(l2++l3).map (stE C.length))):=qCQ (qi rfl) (qi rfl) ac;have x7:∀M',px (glT gs) (Pk (glT gs) Fs Cs (k-1)) [7,11] z_7 [some t,some FT,some (.cell c),some (.cell d),some (N C.length),some (N v.toNat),none,none,none,none,none,none,none,none] M'=.ok (.rt (.lst [N v.toNat],true),M'):=λM'=>by rw[z_7];simp[lim]
  refine jT ?_;rw[w_0,i8];have cnd:pe (glT gs) (Pk (glT gs) Fs Cs (k-1)) (.cmp .eq (.blt .len (.cons (.var 0) .nil)) (nE 1)) [some t,some FT,some (.cell c),some (.cell d),none,none,none,none,none,none,none,none,none,none] (up M c d (C.map N) St)=.ok (bT true,up M c d (C.map N) St):=by
   exact Qs (qC1 (qi rfl) l1) (pe_int 1) rfl
  rw[cnd];show pxs _ _ _ _ _ _=_;rw[qD x0,qD x1,qD x2,qD x3,qD x4,qD x5,qD x6,jT (x7 _)]
 |s+1,k,hk,hs,F,X,n,hn,hX,S,cm,t,M,c,d,hc,hd,ne,hW,hT,C,St,hC,hSt,lS=>by
  have p2:=GF.pw s;have hp:0<2 ^ s:=vT (by decide);have n5:=p5 (show s<=5 by omega);rw[p2]at hT hC lS;obtain⟨w1,hw1⟩:∃w,w=Wk s (λt=>S t||S (t+2 ^ s)) (λt=>cm t ^^ cm (t+2 ^ s)) F X C.length:=⟨_,rfl⟩
  obtain⟨w2,hw2⟩:∃w,w=Wk s (λt=>S t&&S (t+2 ^ s)) (λt=>if S t then cm (t+2 ^ s) else cm t ^^ wd s w1.1 t) F X (C.length+2 ^ s):=⟨_,rfl⟩
  have hw:Wk (s+1) S cm F X C.length=(jn (2 ^ s) w1.1 w2.1,w1.2++w2.2.map λx=>(x.1,2 ^ s+x.2)):=by
   rw[hw2,hw1];unfold Wk;show (jn _ _ _,_++_)=_;simp only[Nat.add_assoc]
  have lw1:w1.2.length<=2 ^ s:=by rw[hw1];exact Jo ..
  obtain⟨p8,p9,e1⟩:=wL1 (P:=Pk (glT gs) Fs Cs (k-1)) (h:=2 ^ s) (m:=M.length) (S:=S) (cm:=cm) (A:=up M c d (C.map N) St) zt (a0:=some t) (a1:=some (.lst ((List.range n).map (sfE F X)))) (a2:=some (.cell c)) (a3:=some (.cell d)) (a4:=none) (a5:=none) (a6:=some (N (2 ^ s))) (o10:=none) (o11:=none) (o12:=none) (o13:=none) (2 ^ s) 0 none none (by omega);rw[vM,<-wT]at e1;obtain⟨L1,hL1⟩:∃L,L=(List.range (2 ^ s)).map (cmE (λt=>S t||S (t+2 ^ s)) (λt=>cm t ^^ cm (t+2 ^ s))):=⟨_,rfl⟩
  have uL:∀(S cm:Nat->Bool) (n m:Nat),T.unds n ((List.range m).map (cmE S cm))=true:=λS cm n m=>Qt _ _ (QA _ (ZA S cm) _);have hW1:WfM (M++[L1]):=hW.one (by rw[hL1];exact QA _ (ZA _ _) _);have c1:=qE5 s (k:=k-1) (by omega) (by omega) hn hX (S:=λt=>S t||S (t+2 ^ s)) (cm:=λt=>cm t ^^ cm (t+2 ^ s)) (t:=.cell M.length) (M:=M++[L1]) (c:=c) (d:=d) (by simp;omega) (by simp;omega) ne hW1 (λA B D=>.inr ⟨M.length,rfl,by
   rw[QQ hc hd,wG,List.getElem?_append_right (by rw[zt];exact Nat.le_refl _),zt,Nat.sub_self,hL1];rfl⟩) (C:=C) (St:=St) (by omega) hSt (by omega)
  rw[<-hw1,QQ hc hd,QQ hc hd]at c1;obtain⟨C1,hC1⟩:∃C1,C1=C++bl (2 ^ s) w1.1:=⟨_,rfl⟩
  obtain⟨S1,hS1⟩:∃S1,S1=St++w1.2.map (stE C.length):=⟨_,rfl⟩
  have uS1:T.unds 0 S1=true:=by rw[hS1];exact Zr 0 _ _ hSt (Qy _ _)
  have lC1:C1.length=C.length+2 ^ s:=by rw[hC1,List.length_append,J6]
  have lS1:S1.length+2 ^ s<=100:=by rw[hS1,List.length_append,wO];omega
  rw[<-hC1,<-hS1]at c1;obtain⟨p12,e2⟩:=wL0 (P:=Pk (glT gs) Fs Cs (k-1)) (h:=2 ^ s) (m:=M.length+1) (S:=S) (cm:=cm) (w:=wd s w1.1) (A:=up M c d (C1.map N) S1++[L1]) (by rw[List.length_append,zt];rfl) (t:=t) (λB=>by rw[wG];exact hT _ _ _) (a1:=some (.lst ((List.range n).map (sfE F X)))) (a2:=some (.cell c)) (a3:=some (.cell d)) (a4:=none) (a5:=none) (a7:=some (.cell M.length)) (a8:=p8) (a9:=p9) (o13:=none) (2 ^ s) 0 none (by omega) (by omega);rw[<-wT]at e2;obtain⟨L2,hL2⟩:∃L,L=(List.range (2 ^ s)).map (cmE (λt=>S t&&S (t+2 ^ s)) (λt=>if S t then cm (t+2 ^ s) else cm t ^^ wd s w1.1 t)):=⟨_,rfl⟩
  have hW2:WfM ((M++[L1])++[L2]):=hW1.one (by rw[hL2];exact QA _ (ZA _ _) _);have h1c:c<(M++[L1]).length:=by simp;omega
  have h1d:d<(M++[L1]).length:=by simp;omega
  have c2:=qE5 s (k:=k-1) (by omega) (by omega) hn hX (S:=λt=>S t&&S (t+2 ^ s)) (cm:=λt=>if S t then cm (t+2 ^ s) else cm t ^^ wd s w1.1 t) (t:=.cell (M.length+1)) (M:=(M++[L1])++[L2]) (c:=c) (d:=d) (by simp;omega) (by simp;omega) ne hW2 (λA B D=>.inr ⟨M.length+1,rfl,by
   rw[QQ h1c h1d,wG,List.getElem?_append_right (by rw[zt];simp),zt,hL2];simp⟩) (C:=C1) (St:=S1) (by omega) uS1 lS1
  rw[lC1,<-hw2,QQ h1c h1d,QQ h1c h1d,QQ hc hd,QQ hc hd]at c2;obtain⟨C2,hC2⟩:∃C2,C2=C1++bl (2 ^ s) w2.1:=⟨_,rfl⟩
  obtain⟨S2,hS2⟩:∃S2,S2=S1++w2.2.map (stE (C.length+2 ^ s)):=⟨_,rfl⟩
  have uS2:T.unds 0 S2=true:=by rw[hS2];exact Zr 0 _ _ uS1 (Qy _ _)
  rw[<-hC2,<-hS2]at c2;have fC:(C++bl (2 ^ (s+1)) (Wk (s+1) S cm F X C.length).1)=C2:=by rw[hw,hC2,hC1,p2,qA6,wG]
  have fS:St++(Wk (s+1) S cm F X C.length).2.map (stE C.length)=S2:=by
   rw[hw,hS2,hS1,wR,wG,wc];congr 2;exact wW λx _=>by show S3 (nm x.1) (C.length+(2 ^ s+x.2))=S3 (nm x.1) (C.length+2 ^ s+x.2);rw[Nat.add_assoc]
  have fW:bl (2 ^ (s+1)) (wd (s+1) (Wk (s+1) S cm F X C.length).1)=List.zipWith (λa b=>(a+b) % 2) (bl (2 ^ s) (wd s w1.1)) (bl (2 ^ s) (wd s w2.1))++bl (2 ^ s) (wd s w2.1):=by
   have z:bl (2 ^ s+2 ^ s) (wd (s+1) (jn (2 ^ s) w1.1 w2.1))=bl (2 ^ s+2 ^ s) (jn (2 ^ s) (λt=>wd s w1.1 t ^^ wd s w2.1 t) (wd s w2.1)):=qAE λq hq=>by
    by_cases h:q<2 ^ s
    ·rw[GF.wd_jl h,GF.jn_lo h]
    ·obtain⟨u,rfl⟩:∃u,q=2 ^ s+u:=⟨q-2 ^ s,by omega⟩
     rw[GF.jn_hi,vA (2 ^ s) u,GF.wd_jh (by omega)]
   rw[hw,p2,z,qA6];congr 1;unfold bl;rw[List.zipWith_map,List.zipWith_self];exact wW λq _=>(xb _ _).symm
  rw[fC,fS,fW];have h0:=hT (C.map N) St [];rw[List.append_nil]at h0;have h0':=hT (C.map N) St [[]];have ln:zr (up M c d (C.map N) St) .len [t]=some (N (2 ^ s+2 ^ s),true):=by rw[h0.len];simp
  have n1:¬ 2 ^ s+2 ^ s=1:=by omega
  have fd:∀{M:Mem},qt M .fdiv (N (2 ^ s+2 ^ s)) (N 2)=some (N (2 ^ s),true):=λ{M}=>by rw[Qp (by decide),show (2 ^ s+2 ^ s) / 2=2 ^ s by omega]
  have th1:thaw (up M c d (C.map N) St).length (.lst [])=(.cell M.length,[[]]):=by rw[zt];exact qh M.length []
  have th2:thaw (up M c d (C1.map N) S1++[L1]).length (.lst [])=(.cell (M.length+1),[[]]):=by rw[List.length_append,zt];exact qh (M.length+1) []
  have zz:(List.range (2 ^ s)).map (λq=>T.tup [cmE S cm q,cmE S cm (2 ^ s+q)])=List.zipWith (λa b=>T.tup [a,b]) (((List.range (2 ^ s+2 ^ s)).map (cmE S cm)).take (2 ^ s)) (((List.range (2 ^ s+2 ^ s)).map (cmE S cm)).drop (2 ^ s)):=by
   rw[ZC,wR,List.take_left' (by simp),List.drop_left' (by simp),wc,List.zipWith_map,List.zipWith_self];rfl
  have sl1:JN ((List.range (2 ^ s+2 ^ s)).map (cmE S cm)) none (some ((2 ^ s:Nat):Int))=((List.range (2 ^ s+2 ^ s)).map (cmE S cm)).take (2 ^ s):=d7 (by simp);have sl2:JN ((List.range (2 ^ s+2 ^ s)).map (cmE S cm)) (some ((2 ^ s:Nat):Int)) none=((List.range (2 ^ s+2 ^ s)).map (cmE S cm)).drop (2 ^ s):=m6 (by simp);have sm:∀(xs:List T) (lo hi:Option Int),qBF t xs lo hi=some (lT (JN xs lo hi)):=λxs lo hi=>by rcases h0 with rfl|⟨_,rfl,_⟩<;>rfl
  have its:=h0'.its;have rg:=zI (n:=2 ^ s) (by omega);have cz:=J0 (gl:=glT gs) (P:=Pk (glT gs) Fs Cs (k-1)) (d:=[]) (M:=up M c d (C2.map N) S2++[L1]++[L2]) (e:=pe (glT gs) (Pk (glT gs) Fs Cs (k-1)) (.bin .mod (.bin .add (.var 0) (.var 1)) (nE 2))) (λa b=>(a+b) % 2) rfl (bl (2 ^ s) (wd s w1.1)) (bl (2 ^ s) (wd s w2.1)) [] true none none (by simp[lim,J6];omega) (λx y _ _=>by simp[md2]);have ad:∀{M:Mem},qt M .add (NL (List.zipWith (λa b=>(a+b) % 2) (bl (2 ^ s) (wd s w1.1)) (bl (2 ^ s) (wd s w2.1)))) (NL (bl (2 ^ s) (wd s w2.1)))=some (NL (List.zipWith (λa b=>(a+b) % 2) (bl (2 ^ s) (wd s w1.1)) (bl (2 ^ s) (wd s w2.1))++bl (2 ^ s) (wd s w2.1)),true):=λ{M}=>P7 (by rw[vI,J6,J6];simp[lim];omega);have lv:=jo (M:=up M c d (C2.map N) S2) (B:=[L1,L2]) (qGa hW (jS _ _) uS2) (t:=NL (List.zipWith (λa b=>(a+b) % 2) (bl (2 ^ s) (wd s w1.1)) (bl (2 ^ s) (wd s w2.1))++bl (2 ^ s) (wd s w2.1))) (jS 0 _);rw[zt]at lv;have r1:∀{M:Mem},Zk M (NL (bl (2 ^ s) (wd s w1.1)))=some ((bl (2 ^ s) (wd s w1.1)).map N,[]):=λ{M}=>rfl;have r2:∀{M:Mem},Zk M (NL (bl (2 ^ s) (wd s w2.1)))=some ((bl (2 ^ s) (wd s w2.1)).map N,[]):=λ{M}=>rfl;have z0:∀f:Nat->T,(List.range 0).map f=[]:=λ_=>rfl;rw[List.nil_append,List.map_nil]at cz;rw[z0,<-hL1]at e1;rw[z0,<-hL2]at e2;rw[zz]at e1;have lT1:∀xs:List T,Zk (up M c d (C.map N) St++[[]]) (lT xs).1=some (xs,[]):=λxs=>rfl;have as1:(up M c d (C1.map N) S1++[L1])++[[]]=up M c d (C1.map N) S1++[L1]++[[]]:=rfl;have as2:up M c d (C2.map N) S2++[L1]++[L2]=up M c d (C2.map N) S2++[L1,L2]:=by simp
  clear hT h0 h0' hw hw1 hw2 fC fS fW hC1 hC2 hS1 hS2 uL hW hW1 hW2 hX uS1 uS2 lC1 lS1 lw1 hL1 hL2 zz;rw[as2]at c2 cz;generalize NL (List.zipWith (λa b=>(a+b) % 2) (bl (2 ^ s) (wd s w1.1)) (bl (2 ^ s) (wd s w2.1))++bl (2 ^ s) (wd s w2.1))=R at *;generalize NL (List.zipWith (λa b=>(a+b) % 2) (bl (2 ^ s) (wd s w1.1)) (bl (2 ^ s) (wd s w2.1)))=R0 at *;generalize (bl (2 ^ s) (wd s w1.1)).map N=B1 at *;generalize (bl (2 ^ s) (wd s w2.1)).map N=B2 at *;generalize NL (bl (2 ^ s) (wd s w1.1))=V1 at *;generalize NL (bl (2 ^ s) (wd s w2.1))=V2 at *;generalize T.lst ((List.range n).map (sfE F X))=FT at *;generalize ((List.range (2 ^ s+2 ^ s)).map (cmE S cm)).take (2 ^ s)=T1 at *;generalize ((List.range (2 ^ s+2 ^ s)).map (cmE S cm)).drop (2 ^ s)=T2 at *;generalize (List.range (2 ^ s+2 ^ s)).map (cmE S cm)=LL at *;clear p2;generalize 2 ^ s=hh at *;have x0:px (glT gs) (Pk (glT gs) Fs Cs (k-1)) [7,11] w_0 [some t,some FT,some (.cell c),some (.cell d),none,none,none,none,none,none,none,none,none,none] (up M c d (C.map N) St)=.ok (.nx [some t,some FT,some (.cell c),some (.cell d),none,none,none,none,none,none,none,none,none,none],up M c d (C.map N) St):=by rw[w_0];simp[ln,n1]
  have x1:px (glT gs) (Pk (glT gs) Fs Cs (k-1)) [7,11] w_1 [some t,some FT,some (.cell c),some (.cell d),none,none,none,none,none,none,none,none,none,none] (up M c d (C.map N) St)=.ok (.nx [some t,some FT,some (.cell c),some (.cell d),none,none,some (N hh),none,none,none,none,none,none,none],up M c d (C.map N) St):=E5 (qFY (qC1 (qi rfl) ln) (pe_int 2) fd) rfl;have x2:px (glT gs) (Pk (glT gs) Fs Cs (k-1)) [7,11] w_2 [some t,some FT,some (.cell c),some (.cell d),none,none,some (N hh),none,none,none,none,none,none,none] (up M c d (C.map N) St)=.ok (.nx [some t,some FT,some (.cell c),some (.cell d),none,none,some (N hh),some (.cell M.length),none,none,none,none,none,none],up M c d (C.map N) St++[[]]):=by rw[w_2];simp[th1,lim]
  generalize up M c d (C.map N) St++[[]]=Ma at *;have x3:px (glT gs) (Pk (glT gs) Fs Cs (k-1)) [7,11] w_3 [some t,some FT,some (.cell c),some (.cell d),none,none,some (N hh),some (.cell M.length),none,none,none,none,none,none] Ma=.ok (.nx [some t,some FT,some (.cell c),some (.cell d),none,none,some (N hh),some (.cell M.length),p8,p9,none,none,none,none],up M c d (C.map N) St++[L1]):=by rw[w_3];simp[its,sm,sl1,sl2,lT1,e1]
  have x4:px (glT gs) (Pk (glT gs) Fs Cs (k-1)) [7,11] w_4 [some t,some FT,some (.cell c),some (.cell d),none,none,some (N hh),some (.cell M.length),p8,p9,none,none,none,none] (up M c d (C.map N) St++[L1])=.ok (.nx [some t,some FT,some (.cell c),some (.cell d),none,none,some (N hh),some (.cell M.length),p8,p9,some V1,none,none,none],up M c d (C1.map N) S1++[L1]):=E5 (U5 (qi rfl) (qi rfl) (qi rfl) (qi rfl) c1) rfl;generalize up M c d (C1.map N) S1++[L1]=Me at *;have x5:px (glT gs) (Pk (glT gs) Fs Cs (k-1)) [7,11] w_5 [some t,some FT,some (.cell c),some (.cell d),none,none,some (N hh),some (.cell M.length),p8,p9,some V1,none,none,none] Me=.ok (.nx [some t,some FT,some (.cell c),some (.cell d),none,none,some (N hh),some (.cell M.length),p8,p9,some V1,some (.cell (M.length+1)),none,none],Me++[[]]):=by rw[w_5];simp[th2,lim]
  generalize Me++[[]]=Mb at *;have x6:px (glT gs) (Pk (glT gs) Fs Cs (k-1)) [7,11] w_6 [some t,some FT,some (.cell c),some (.cell d),none,none,some (N hh),some (.cell M.length),p8,p9,some V1,some (.cell (M.length+1)),none,none] Mb=.ok (.nx [some t,some FT,some (.cell c),some (.cell d),none,none,some (N hh),some (.cell M.length),p8,p9,some V1,some (.cell (M.length+1)),p12,none],Me++[L2]):=(qEJ (qi rfl) rg).trans e2;generalize Me++[L2]=Mc at *;have x7:px (glT gs) (Pk (glT gs) Fs Cs (k-1)) [7,11] w_7 [some t,some FT,some (.cell c),some (.cell d),none,none,some (N hh),some (.cell M.length),p8,p9,some V1,some (.cell (M.length+1)),p12,none] Mc=.ok (.nx [some t,some FT,some (.cell c),some (.cell d),none,none,some (N hh),some (.cell M.length),p8,p9,some V1,some (.cell (M.length+1)),p12,some V2],up M c d (C2.map N) S2++[L1,L2]):=E5 (U5 (qi rfl) (qi rfl) (qi rfl) (qi rfl) c2) rfl;have x8:px (glT gs) (Pk (glT gs) Fs Cs (k-1)) [7,11] w_8 [some t,some FT,some (.cell c),some (.cell d),none,none,some (N hh),some (.cell M.length),p8,p9,some V1,some (.cell (M.length+1)),p12,some V2] (up M c d (C2.map N) S2++[L1,L2])=.ok (.rt (R,true),up M c d (C2.map N) S2++[L1,L2]):=by
   generalize up M c d (C2.map N) S2++[L1,L2]=Md at *;rw[w_8];simp[r1,r2,cz,ad,-qp]
  rw[qL t39 ⟨rfl,by decide⟩ (by omega),qIM,show Cs.getD 39 []=[7,11] from rfl];show zY (up M c d (C.map N) St).length (pxs _ _ _ _ [some t,some FT,some (.cell c),some (.cell d),none,none,none,none,none,none,none,none,none,none] _)=_;rw[qD x0,qD x1,qD x2,qD x3,qD x4,qD x5,qD x6,qD x7,jT x8,zt,lv]
end My
namespace My
open PySem PySem.Spec PI
open L2 (V)
open GF (Ris lp rch qc Told Open wd par Rd LostAt SlipAt ReadAs wk jn)
theorem m4{Pr:T->Prop}:∀{its zs:List T},PI.All2 (λ_ z=>Pr z) its zs->zs.length=its.length/\∀z∈zs,Pr z
 | [],zs,h=>by
  have:zs=[]:=h;subst this;exact⟨rfl,λz hz=>by cases hz⟩
 |x::its,zs,h=>by
  obtain⟨z,r,rfl,p,q⟩:=h;have:=m4 q;exact⟨by simp[this.1],λy hy=>by rcases List.mem_cons.mp hy with rfl|hy;exact p;exact this.2 y hy⟩
theorem Zu{dp:jf}{α:Type}{c:TS->Mem->PR (Bool×Mem)}{e:TS->Mem->PR (TB×Mem)}{M:Mem}(hd:qT dp M=true){σ:TS}(g g' h:α->T)(p fr:α->Bool):∀(its:List α) (ys:List T) (b:Bool) (o o':Option T),ys.length+its.length<=lim ->
  (∀x∈its,c (some (g x)::some (g' x)::σ) M=.ok (p x,M))->(∀x∈its,p x=true->e (some (g x)::some (g' x)::σ) M=.ok ((h x,fr x),M)) ->
  qK dp (.tup [0,1]) c e (its.map λx=>.tup [g x,g' x]) ys b (o::o'::σ) M=.ok ((.lst (ys++(its.filter p).map h),b&&(its.filter p).all fr),M)
 | [],ys,b,o,o',hl,hc,he=>by simp[qK]
 |x::r,ys,b,o,o',hl,hc,he=>by
  simp only[List.length_cons]at hl;rw[List.map_cons,qK,show qy (.tup [0,1]) (.tup [g x,g' x]) (o::o'::σ)=some (some (g x)::some (g' x)::σ) from rfl];dsimp only;rw[hc x (by simp),PR.bind_ok];cases hp:p x with
  |false=>
   have:=Zu hd g g' h p fr r ys b (some (g x)) (some (g' x)) (by omega) (λy hy=>hc y (by simp[hy])) (λy hy=>he y (by simp[hy]));dsimp only;rw[if_neg (by decide),if_pos hd,this,List.filter_cons,hp];simp
  |true=>
   have:=Zu hd g g' h p fr r (ys++[h x]) (b&&fr x) (some (g x)) (some (g' x)) (by simp;omega) (λy hy=>hc y (by simp[hy])) (λy hy=>he y (by simp[hy]));rw[if_pos rfl,he x (by simp) hp,PR.bind_ok];dsimp only;rw[if_pos ⟨by omega,hd⟩,this,List.filter_cons,hp];simp[Bool.and_assoc]
theorem Jk{gl:List T}{P:Nat->List T->Mem->PR (TB×Mem)}{d:jf}{e:TS->Mem->PR (TB×Mem)}{σ:TS}{J:Mem->Prop}{R:Nat->Prop}(hd:∀M,J M->qT d M=true):∀(its ys:List Nat) (b:Bool) (o:Option T) (M:Mem),ys.length+its.length<=lim->J M ->
  (∀x∈its,∀M,J M->∃y M',e (some (N x)::σ) M=.ok ((N y,true),M')/\J M'/\R y) ->
  ∃K M',qK d (.name 0) (pec gl P .nil) e (its.map N) (ys.map N) b (o::σ) M=.ok ((NL (ys++K),b),M')/\J M'/\K.length=its.length/\∀y∈K,R y
 | [],ys,b,o,M,hl,hI,he=>⟨[],M,by simp[qK,NL],hI,rfl,λy hy=>by simp at hy⟩
 |x::r,ys,b,o,M,hl,hI,he=>by
  obtain⟨y,M1,e1,i1,r1⟩:=he x (List.mem_cons_self ..) M hI;rw[List.map_cons];unfold qK;rw[show qy (.name 0) (N x) (o::σ)=some (some (N x)::σ) from rfl];dsimp only;rw[qp,PR.bind_ok];dsimp only;rw[if_pos rfl,e1,PR.bind_ok];dsimp only;rw[if_pos ⟨by simp at hl ⊢;omega,hd M1 i1⟩];obtain⟨K,M2,e2,i2,l2,r2⟩:=Jk (gl:=gl) (P:=P) (J:=J) (R:=R) hd r (ys++[y]) b (some (N x)) M1 (by simp at hl ⊢;omega) i1 (λy hy=>he y (List.mem_cons_of_mem _ hy));refine⟨y::K,M2,?_,i2,by simp[l2],λz hz=>?_⟩
  ·rw[show ys.map N++[N y]=(ys++[y]).map N by simp,Bool.and_true,e2];simp
  ·rcases List.mem_cons.mp hz with h1|h1
   ·rw[h1];exact r1
   ·exact r2 z h1
noncomputable def m_0:S:=(.ifs (.cmp .eq (.call 33 (.cons (.var 0) (.cons (nE 8) .nil))) (nE 0)) (.cons (.ret (.comp (.rng1 (.var 2)) [none,some 0] (.name 0) .nil (.idx (.lst (.cons (nE 0) (.cons (nE 1) (.cons (.cst V.non) .nil)))) (.call 33 (.cons (.var 1) (.cons (nE 3) .nil)))))) .nil) .nil)
noncomputable def m_1:S:=(.asg (.name 3) (.call 35 (.cons (.call 38 (.cons (.var 1) (.cons (.comp (.list (.idx (.var 1) (nE 1))) [none,some 0] (.name 0) .nil (.call 33 (.cons (.var 1) (.cons (nE 2) .nil)))) .nil))) .nil)))
noncomputable def m_2:S:=(.asg (.name 4) (.call 34 (.cons (.var 0) (.cons (.var 2) .nil))))
noncomputable def m_3:S:=(.for_ (.name 5) (.rng1 (.idx (.lst (.cons (nE 0) (.cons (nE 0) (.cons (nE 1) (.cons (nE 3) .nil))))) (.call 33 (.cons (.var 0) (.cons (nE 4) .nil))))) Z7)
noncomputable def m_4:S:=(.ret (.comp (.enum (.var 3)) [none,none,some 4] (.tup [0,1]) .nil (.idx (.lst (.cons (.var 1) (.cons (.cst V.non) .nil))) (.blt .int (.cons (.cmp .inn (.var 0) (.var 2)) .nil)))))
theorem qIe:b40=(.cons m_0 (.cons m_1 (.cons m_2 (.cons m_3 (.cons m_4 .nil))))):=rfl
theorem w5{dp:jf}{a b:Nat}{f:TS->Mem->RSt}{x y:T}{r:List T}{σ σ2:TS}{M M2:Mem}(h:f ((σ.set a (some x)).set b (some y)) M=.ok (.nx σ2,M2))(hd:qT dp M2=true):qk dp (.tup [a,b]) f (.tup [x,y]::r) σ M=qk dp (.tup [a,b]) f r σ2 M2:=by
 show PR.bind (f ((σ.set a (some x)).set b (some y)) M) _=_;rw[h,PR.bind_ok];dsimp only;rw[if_pos hd]
section
variable{k:Nat}
theorem cfD{dp:jf}{M:Mem}(hd:∀Y,qT dp (M++[Y])=true){a0 a1:Option T}:∀(F D:List Nat) (Y:List T) (o3 o4:Option T),(∀x∈F,x<Y.length) ->
  ∃p3 p4,qk dp (.tup [3,4]) (pxs (glT gs) (Pk (glT gs) Fs Cs k) [2] y4) (List.zipWith (λa b=>T.tup [a,b]) (F.map N) (D.map N)) [a0,a1,some (.cell M.length),o3,o4] (M++[Y])=.ok (.nx [a0,a1,some (.cell M.length),p3,p4],M++[qBP F D Y])
 | [],D,Y,o3,o4,_=>⟨o3,o4,by simp[qBP,qk]⟩
 |f::F,[],Y,o3,o4,_=>⟨o3,o4,by simp[qBP,qk]⟩
 |f::F,d::D,Y,o3,o4,h=>by
  obtain⟨p3,p4,e⟩:=cfD hd (a0:=a0) (a1:=a1) F D (Y.set f (N d)) (some (N f)) (some (N d)) (λx hx=>by rw[vJ];exact h x (List.mem_cons_of_mem _ hx));refine⟨p3,p4,?_⟩;have pt:qCn (M++[Y]) (.cell M.length) (N f) (N d)=some (M++[Y.set f (N d)]):=by
   rw[T7 (zE M Y) (h f (List.mem_cons_self ..)),jJ]
  have body:pxs (glT gs) (Pk (glT gs) Fs Cs k) [2] y4 [a0,a1,some (.cell M.length),some (N f),some (N d)] (M++[Y])=.ok (.nx [a0,a1,some (.cell M.length),some (N f),some (N d)],M++[Y.set f (N d)]):=by
   rw[y4];simp[pt,-qCL]
  rw[List.map_cons,List.map_cons,List.zipWith_cons_cons,w5 (σ2:=[a0,a1,some (.cell M.length),some (N f),some (N d)]) body (hd _)];exact e
theorem Il.iss{M:Mem}{t:T}{L:List Nat}(h:Il M t L):IsS M t (L.map N):=h
theorem qDl(hk:2<=k){M:Mem}(hW:WfM M){s:Nat}{t1 t2:T}{F X D:List Nat}(c:Cde s F X)(h1:Il M t1 F)(h2:Il M t2 X)(lD:D.length=F.length):Pk (glT gs) Fs Cs k 38 [cdt s t1 t2,NL D] M=.ok ((NL (crd s F X D),true),M):=by
 have n5:=c.n5;have e0:=qFc (k:=k-1) (by omega) hW c h1 h2;have th:=qCI F X M.length (List.range (2 ^ s));obtain⟨dp,_,sL,hd⟩:=h1.iss.src;obtain⟨p3,p4,e⟩:=cfD (k:=k-1) (dp:=dp++[]) (M:=M) (λY=>by rw[List.append_nil];exact hd _) (a0:=some (cdt s t1 t2)) (a1:=some (NL D)) F D ((List.range (2 ^ s)).map (sfE F X)) none none (λx hx=>by simpa using c.lt x hx);rw[qAn c lD]at e;have j1:∀{M:Mem},zS M (cdt s t1 t2) (N 1)=some (t1,false):=λ{M}=>by rw[qd];simp[h1.lf]
 have s1:Zk (M++[(List.range (2 ^ s)).map (sfE F X)]) t1=some (F.map N,dp):=by
  rcases h1 with rfl|⟨m,rfl,em⟩
  ·exact sL
  ·have:Zk M (.cell m)=some (F.map N,[(m,F.map N)]):=jk em;rw[this]at sL;have q:Zk (M++[(List.range (2 ^ s)).map (sfE F X)]) (.cell m)=some (F.map N,[(m,F.map N)]):=jk (by rw[List.getElem?_append_left (List.getElem?_eq_some_iff.mp em).1];exact em);rw[q,<-sL]
 have s2:Zk (M++[(List.range (2 ^ s)).map (sfE F X)]) (NL D)=some (D.map N,[]):=rfl;have lv:=Za (M:=M) (A:=M) (C:=[(crd s F X D).map N]) (c:=M.length) (ts:=(crd s F X D).map N) rfl hW (by simp) (Nat.le_refl _) (Q8 _) false;rw[qL t38 ⟨rfl,by decide⟩ (by omega),b38,show Cs.getD 38 []=[2] from rfl];clear h1 h2 sL;show zY M.length _=.ok ((.lst ((crd s F X D).map N),true),M);generalize (crd s F X D).map N=Y1 at *;generalize (List.range (2 ^ s)).map (sfE F X)=Y0 at *;generalize NL D=Z at *;generalize F.map N=Z8 at *;generalize D.map N=Z9 at *;generalize cdt s t1 t2=CC at *;rw[List.append_nil]at e;simp[e0,th,j1,s1,s2,e,-qj];exact lv
theorem qDh(hk:1<=k){n m q:Nat}(hq:0<q/\q<=100){M0:Mem}{a1 a4:Option T}:∀(j i:Nat) (W:List Nat) (A:Mem) (o5 o6:Option T),W.length=q->(∀x∈W,x<2)->A.length=m->Kept n M0 A ->
  ∃(W':List Nat) (A':Mem) (p5 p6:Option T),qk [] (.name 5) (pxs (glT gs) (Pk (glT gs) Fs Cs k) [3] Z7) ((List.range' i j).map N) [some (.cell n),a1,some (N q),some (.cell m),a4,o5,o6] (A++[W.map N])=.ok (.nx [some (.cell n),a1,some (N q),some (.cell m),a4,p5,p6],A'++[W'.map N])/\W'.length=q/\(∀x∈W',x<2)/\A'.length=m/\Kept n M0 A'
 | 0,i,W,A,o5,o6,l,h,hA,kp=>⟨W,A,o5,o6,rfl,l,h,hA,kp⟩
 |j+1,i,W,A,o5,o6,l,h,hA,kp=>by
  obtain⟨a,A1,e1,ha,k1⟩:=qAM (k:=k) hk kp.good (B:=[W.map N]) (m:=q) (by omega);have ha':a<W.length:=by omega
  have v2:W.getD a 0<2:=by rw[wB,wA ha'];exact h _ (vQ ha')
  have lA1:A1.length=m:=by rw[(kp.trans k1).len,<-kp.len,hA]
  obtain⟨W',A',p5,p6,e,l',h',hA',kp'⟩:=qDh hk hq (a1:=a1) (a4:=a4) (n:=n) (m:=m) (M0:=M0) j (i+1) (W.set a (1-W.getD a 0)) A1 (some (N i)) (some (N a)) (by rw[vJ];exact l) (λx hx=>by rcases vH hx with z|z;exact h x z;omega) lA1 (kp.trans k1);refine⟨W',A',p5,p6,?_,l',h',hA',kp'⟩;have g0:(A1++[W.map N])[m]?=some (W.map N):=by rw[<-lA1];exact zE _ _
  have ix:=(IsL.cell g0).idx (i:=a) (x:=W.getD a 0) (by rw[wB,wA ha'];rfl);have sb:∀{M:Mem},qt M .sub (N 1) (N (W.getD a 0))=some (N (1-W.getD a 0),true):=λ{M}=>Zi (by omega);have pt:qCn (A1++[W.map N]) (.cell m) (N a) (N (1-W.getD a 0))=some (A1++[(W.set a (1-W.getD a 0)).map N]):=by
   rw[T7 g0 (by simpa using ha'),<-lA1,jJ,List.map_set]
  have body:pxs (glT gs) (Pk (glT gs) Fs Cs k) [3] Z7 [some (.cell n),a1,some (N q),some (.cell m),a4,some (N i),o6] (A++[W.map N])=.ok (.nx [some (.cell n),a1,some (N q),some (.cell m),a4,some (N i),some (N a)],A1++[(W.set a (1-W.getD a 0)).map N]):=by
   clear e;generalize (W.set a (1-W.getD a 0)).map N=Y2 at *;generalize W.getD a 0=v at *;generalize A1++[W.map N]=M2 at *;generalize A++[W.map N]=M1 at *;rw[Z7];simp[e1,ix,sb,pt,-qCL]
  rw[we,List.map_cons,qj,show ∀a b c d e f g z:Option T,[a,b,c,d,e,f,g].set 5 z=[a,b,c,d,e,z,g] from λ_ _ _ _ _ _ _ _=>rfl,body,PR.bind_ok];exact e
theorem qDM{P:Nat->List T->Mem->PR (TB×Mem)}{n m:Nat}(hn:n<=100){W:List Nat}(lW:W.length=n)(hW:∀x∈W,x<2)(q:Nat->Bool){M:Mem}(g:M[m]?=some (W.map N)){a0 a1 a2 a5 a6:Option T}:pe (glT gs) P (.comp (.enum (.var 3)) [none,none,some 4] (.tup [0,1]) .nil (.idx (.lst (.cons (.var 1) (.cons (.cst V.non) .nil))) (.blt .int (.cons (.cmp .inn (.var 0) (.var 2)) .nil)))) [a0,a1,a2,some (.cell m),some (NL (rf n q)),a5,a6] M=.ok ((cmT n q (cB W),true),M):=by
 have c:=Zu (dp:=[(m,W.map N)]) (F7 g) (c:=pec (glT gs) P .nil) (e:=pe (glT gs) P (.idx (.lst (.cons (.var 1) (.cons (.cst V.non) .nil))) (.blt .int (.cons (.cmp .inn (.var 0) (.var 2)) .nil)))) (M:=M) (σ:=[some (NL (rf n q))]) N (λt=>N (W.getD t 0)) (cmE q (cB W)) (λ_=>true) (λ_=>true) (List.range n) [] true none none (by simp[lim];omega) (λx _=>by simp) (λx hx _=>by
  have i:=qDE (M:=M) x (rf n q);rw[B6 (wS.mp hx)]at i;have e:W.getD x 0=(cB W x).toNat:=qF1 hW x;unfold cmE;rw[e];generalize NL (rf n q)=Z at *;cases hq:q x
  ·rw[hq]at i;simp[i,lim]
  ·rw[hq]at i;simp[i,lim])
 rw[qq,List.nil_append,show ((List.range n).all λ_=>true)=true from List.all_eq_true.mpr λ_ _=>rfl]at c;have wr:W.map N=(List.range n).map λt=>N (W.getD t 0):=by
  refine vD λi=>?_;rw[wN,wN];by_cases h:i<n
  ·rw[wl h,wA (by omega)];simp only[Option.map_some];rw[wB,wA (by omega)];rfl
  ·rw[wU (by omega),wU (by simp;omega)];rfl
 have sr:Zk M (.cell m)=some (W.map N,[(m,W.map N)]):=jk g;have en:=qEl (λt=>N (W.getD t 0)) n;rw[<-wr]at en;have c:_=PR.ok ((cmT n q (cB W),true),M):=c;generalize ((List.range n).map λx=>T.tup [N x,N (W.getD x 0)])=Z4 at *;generalize NL (rf n q)=Z2 at *;generalize cmT n q (cB W)=Z3 at *;generalize W.map N=Z6 at *;simp[sr,en,c,-qp]
noncomputable def noT:Option T->Bool|some (.v .non)=>true|_=>false
noncomputable def P5:Option T->Bool|some (.v (.int 1))=>true|_=>false
theorem qFu:∀(zs:List T),(∀z∈zs,z=N 0\/z=N 1\/z=.v .non)->∃S cm,T.lst zs=cmT zs.length S cm:=λzs h=>by
 refine⟨λt=>noT zs[t]?,λt=>P5 zs[t]?,?_⟩;unfold cmT;congr 1;refine vD λt=>?_;rw[wN];by_cases ht:t<zs.length
 ·have g:=wA ht;rw[wl ht,Option.map_some,g];congr 1;rcases h _ (vQ ht) with e|e|e
  ·rw[e]at g ⊢;have a:noT zs[t]?=false:=by rw[g];rfl
   have b:P5 zs[t]?=false:=by rw[g];rfl
   rw[ZM a,b];rfl
  ·rw[e]at g ⊢;have a:noT zs[t]?=false:=by rw[g];rfl
   have b:P5 zs[t]?=true:=by rw[g];rfl
   rw[ZM a,b];rfl
  ·rw[e]at g ⊢;have a:noT zs[t]?=true:=by rw[g];rfl
   unfold cmE;exact(if_pos a).symm
 ·rw[wU (by omega),wU (by simp;omega)];rfl
theorem qFO(hk:1<=k){n m:Nat}(hm:m<=100){M:Mem}(g:Good M n)(f:Nat->T):∃(S' cm':Nat->Bool) (M':Mem),qK [] (.name 0) (pec (glT gs) (Pk (glT gs) Fs Cs k) .nil) (pe (glT gs) (Pk (glT gs) Fs Cs k) (.idx (.lst (.cons (nE 0) (.cons (nE 1) (.cons (.cst V.non) .nil)))) (.call 33 (.cons (.var 1) (.cons (nE 3) .nil))))) ((List.range m).map f) [] true [none,some (.cell n)] M=.ok ((cmT m S' cm',true),M')/\Kept n M M':=by
 obtain⟨zs,M1,e1,k1,h1⟩:=qBD (d:=[]) (gl:=glT gs) (P:=Pk (glT gs) Fs Cs k) (e:=pe (glT gs) (Pk (glT gs) Fs Cs k) (.idx (.lst (.cons (nE 0) (.cons (nE 1) (.cons (.cst V.non) .nil)))) (.call 33 (.cons (.var 1) (.cons (nE 3) .nil))))) (σ:=[some (.cell n)]) (J:=λM'=>Kept n M M') (Pr:=λ_ z=>z=N 0\/z=N 1\/z=.v .non) ((List.range m).map f) [] true none M (by simp[lim];omega) ⟨g,rfl,λ_ _=>rfl⟩ (λ_ _=>rfl) (λx _ M' hJ=>by
  obtain⟨d,M'',e,hd,kk⟩:=JB (k:=k) (by omega) hJ.good (m:=3) (by omega);obtain⟨z,hz,hz'⟩:∃z,[N 0,N 1,.v .non][d]?=some z/\(z=N 0\/z=N 1\/z=.v .non):=by
   rcases(by omega:d=0\/d=1\/d=2) with rfl|rfl|rfl
   ·exact⟨_,rfl,.inl rfl⟩
   ·exact⟨_,rfl,.inr (.inl rfl)⟩
   ·exact⟨_,rfl,.inr (.inr rfl)⟩
  have lz:z.lf=true:=by rcases hz' with rfl|rfl|rfl<;>simp
  exact⟨z,M'',by simp[e,hz,lz,lim],hJ.trans kk,hz'⟩)
 rw[List.nil_append]at e1;have ⟨lz,hz⟩:=m4 h1;obtain⟨S',cm',ec⟩:=qFu zs hz;rw[ec,show zs.length=m by simpa using lz]at e1;exact⟨S',cm',M1,e1,k1⟩
theorem qIs(hk:4<=k){s n:Nat}{t1 t2:T}{F X:List Nat}(c:Cde s F X){M:Mem}(hM:FlatM M)(g:Good M n)(hI:∀M',Kept n M M'->∀B,Il (M'++B) t1 F/\Il (M'++B) t2 X):∃(q cm:Nat->Bool) (M':Mem),Pk (glT gs) Fs Cs k 40 [.cell n,cdt s t1 t2,N (2 ^ s)] M=.ok ((cmT (2 ^ s) q cm,true),M')/\Kept n M M':=by
 have n5:=c.n5;have p0:0<2 ^ s:=vT (by decide);have l:=c.len;have rg:=zI (n:=2 ^ s) (by omega);have kr:Kept n M M:=⟨g,rfl,λ_ _=>rfl⟩
 obtain⟨w,M1,e1,hw,k1⟩:=JB (k:=k-1) (by omega) g (m:=8) (by omega);have hI1:=hI M1 k1 [];rw[List.append_nil]at hI1;have j1:∀{M:Mem},zS M (cdt s t1 t2) (N 1)=some (t1,false):=λ{M}=>by rw[qd];simp[hI1.1.lf]
 have go:∀r,pxs (glT gs) (Pk (glT gs) Fs Cs (k-1)) [3] (.cons m_0 (.cons m_1 (.cons m_2 (.cons m_3 (.cons m_4 .nil))))) [some (.cell n),some (cdt s t1 t2),some (N (2 ^ s)),none,none,none,none] M=r->Pk (glT gs) Fs Cs k 40 [.cell n,cdt s t1 t2,N (2 ^ s)] M=zY M.length r:=λr e=>by
  rw[qL t40 ⟨rfl,by decide⟩ (by omega),qIe,show Cs.getD 40 []=[3] from rfl,<-e];rfl
 by_cases h:w=0
 ·subst h;obtain⟨S',cm',M2,e2,k2⟩:=qFO (k:=k-1) (by omega) (m:=2 ^ s) (by omega) k1.good N;refine⟨S',cm',M2,?_,k1.trans k2⟩;have x0:px (glT gs) (Pk (glT gs) Fs Cs (k-1)) [3] m_0 [some (.cell n),some (cdt s t1 t2),some (N (2 ^ s)),none,none,none,none] M=.ok (.rt (cmT (2 ^ s) S' cm',true),M2):=by
   generalize cmT (2 ^ s) S' cm'=Z at *;generalize cdt s t1 t2=CC at *;rw[m_0];simp[e1,rg,e2,-qp]
  rw[go _ (jT x0),qA (by rw[k2.len,k1.len])]
 ·obtain⟨dp,s1,_,hdp⟩:=hI1.1.isl.src;have dpk:∀M',Kept n M M'->qT dp M'=true/\A5 M' t1=some (F.map N,dp):=λM' kk=>by
   have a:=(hI M' kk []).1;rw[List.append_nil]at a;rcases a with rfl|⟨m,rfl,em⟩
   ·have:A5 M1 (NL F)=some (F.map N,[]):=rfl;rw[this]at s1;cases s1;exact⟨rfl,rfl⟩
   ·rcases hI1.1 with z|⟨m',z,em'⟩
    ·cases z
    ·cases z;have q1:A5 M1 (.cell m)=some (F.map N,[(m,F.map N)]):=jk em';rw[q1]at s1;cases s1;exact⟨F7 em,jk em⟩
  obtain⟨D,M2,e2,k2,lD,hD⟩:=Jk (gl:=glT gs) (P:=Pk (glT gs) Fs Cs (k-1)) (d:=dp) (e:=pe (glT gs) (Pk (glT gs) Fs Cs (k-1)) (.call 33 (.cons (.var 1) (.cons (nE 2) .nil)))) (σ:=[some (.cell n)]) (J:=λM'=>Kept n M M') (R:=λy=>y<2) (λM' kk=>(dpk M' kk).1) F [] true none M1 (by simp[lim];omega) k1 (λx _ M' hJ=>by
   obtain⟨d,M'',e,hd,kk⟩:=JB (k:=k-1) (by omega) hJ.good (m:=2) (by omega);exact⟨d,M'',by simp[e],hJ.trans kk,hd⟩)
  rw[List.nil_append,List.map_nil]at e2;have hM2:=zf hM k2;have hI2:=hI M2 k2 [];rw[List.append_nil]at hI2;have lc:=qCJ s F X D;have hc:=qBs (s:=s) (F:=F) c.sg hD;have e3:=qDl (k:=k-1) (by omega) hM2.wf c hI2.1 hI2.2 lD;have e4:=qFd (k:=k-1) (by omega) hM2 c.s5 lc hc;obtain⟨W,hW⟩:∃W,W=wrd s (crd s F X D):=⟨_,rfl⟩
  have lW:W.length=2 ^ s:=by rw[hW];exact D5 s _ lc
  have h2W:∀x∈W,x<2:=by rw[hW];exact q8 lc hc
  rw[<-hW]at e4;have l2:=k2.len;obtain⟨q,fq,M3',e5,k3'⟩:=qIY (k:=k-1) (by omega) (k2.good.app (B:=[W.map N])) (m:=2 ^ s) (by omega);obtain⟨M3,rfl,k3⟩:=k3'.split k2.good.lt;have k23:=k2.trans k3;obtain⟨v,M4,e6,hv,k4⟩:=qAM (k:=k-1) (by omega) k23.good (B:=[W.map N]) (m:=4) (by omega);have k24:=k23.trans k4;obtain⟨u,hu⟩:∃u,[N 0,N 0,N 1,N 3][v]?=some (N u)/\u<=3:=by
   rcases(by omega:v=0\/v=1\/v=2\/v=3) with rfl|rfl|rfl|rfl<;>exact⟨_,rfl,by decide⟩
  obtain⟨W',M5,p5,p6,e7,lW',hW',lM5,k5⟩:=qDh (k:=k-1) (by omega) (n:=n) (m:=M.length) (q:=2 ^ s) (by omega) (M0:=M) (a1:=some (cdt s t1 t2)) (a4:=some (NL (rf (2 ^ s) q))) u 0 W M4 none none lW h2W (by rw[k24.len]) k24;rw[<-wT]at e7;have g5:(M5++[W'.map N])[M.length]?=some (W'.map N):=by rw[<-lM5];exact zE _ _
  have e8:=qDM (P:=Pk (glT gs) Fs Cs (k-1)) (n:=2 ^ s) (by omega) lW' hW' q (M:=M5++[W'.map N]) g5 (a0:=some (.cell n)) (a1:=some (cdt s t1 t2)) (a2:=some (N (2 ^ s))) (a5:=p5) (a6:=p6);refine⟨q,cB W',M5,?_,k5⟩;have rg2:=zI (n:=u) (by omega);have x0:px (glT gs) (Pk (glT gs) Fs Cs (k-1)) [3] m_0 [some (.cell n),some (cdt s t1 t2),some (N (2 ^ s)),none,none,none,none] M=.ok (.nx [some (.cell n),some (cdt s t1 t2),some (N (2 ^ s)),none,none,none,none],M1):=by
   generalize cdt s t1 t2=CC at *;rw[m_0];simp[e1,h]
  have x1:px (glT gs) (Pk (glT gs) Fs Cs (k-1)) [3] m_1 [some (.cell n),some (cdt s t1 t2),some (N (2 ^ s)),none,none,none,none] M1=.ok (.nx [some (.cell n),some (cdt s t1 t2),some (N (2 ^ s)),some (.cell M.length),none,none,none],M2++[W.map N]):=by
   have th:=qh M2.length W;rw[l2]at th;have s1':=(dpk M1 k1).2;clear e8 e7 e6 e5 x0 hW h2W lW lc hc;generalize W.map N=W0 at *;generalize NL W=Z1 at *;generalize NL (crd s F X D)=Z2 at *;generalize NL D=Z3 at *;generalize cdt s t1 t2=CC at *;rw[m_1];simp[j1,s1',e2,e3,e4,l2,th,-qp]
  have x2:px (glT gs) (Pk (glT gs) Fs Cs (k-1)) [3] m_2 [some (.cell n),some (cdt s t1 t2),some (N (2 ^ s)),some (.cell M.length),none,none,none] (M2++[W.map N])=.ok (.nx [some (.cell n),some (cdt s t1 t2),some (N (2 ^ s)),some (.cell M.length),some (NL (rf (2 ^ s) q)),none,none],M3++[W.map N]):=by
   generalize NL (rf (2 ^ s) q)=Z1 at *;generalize cdt s t1 t2=CC at *;rw[m_2];simp[e5]
  have x3:px (glT gs) (Pk (glT gs) Fs Cs (k-1)) [3] m_3 [some (.cell n),some (cdt s t1 t2),some (N (2 ^ s)),some (.cell M.length),some (NL (rf (2 ^ s) q)),none,none] (M3++[W.map N])=.ok (.nx [some (.cell n),some (cdt s t1 t2),some (N (2 ^ s)),some (.cell M.length),some (NL (rf (2 ^ s) q)),p5,p6],M5++[W'.map N]):=by
   clear e8;generalize NL (rf (2 ^ s) q)=Z1 at *;generalize cdt s t1 t2=CC at *;generalize M5++[W'.map N]=M9 at *;generalize M4++[W.map N]=M8 at *;generalize M3++[W.map N]=M7 at *;rw[m_3];simp[e6,hu.1,rg2,e7,lim]
  have x4:px (glT gs) (Pk (glT gs) Fs Cs (k-1)) [3] m_4 [some (.cell n),some (cdt s t1 t2),some (N (2 ^ s)),some (.cell M.length),some (NL (rf (2 ^ s) q)),p5,p6] (M5++[W'.map N])=.ok (.rt (cmT (2 ^ s) q (cB W'),true),M5++[W'.map N]):=by
   rw[m_4];simp only[qBf,e8,PR.bind_ok]
  have hM5:=zf hM k5;have lv:=jo (M:=M5) (B:=[W'.map N]) hM5.wf (t:=cmT (2 ^ s) q (cB W')) (Qt 0 _ (QA _ (ZA q (cB W')) _));rw[lM5]at lv;rw[go _ (by rw[qD x0,qD x1,qD x2,qD x3,jT x4]),lv]
end
end My
namespace My
open PySem PySem.Spec PI
open L2 (V)
open GF (Ris lp rch qc Told Open wd par Rd LostAt SlipAt ReadAs wk jn)
noncomputable def v_0:S:=(.for_ (.name 2) (.rng1 (.blt .len (.cons (.idx (.var 0) (nE 2)) .nil))) qC3)
noncomputable def v_1:S:=(.asg (.name 3) (.lst .nil))
noncomputable def v_2:S:=(.asg (.name 4) (.lst .nil))
noncomputable def v_3:S:=(.expr (.call 39 (.cons (.var 1) (.cons (.call 37 (.cons (.var 0) .nil)) (.cons (.var 3) (.cons (.var 4) .nil))))))
noncomputable def v_4:S:=(.asg (.name 5) (.call 30 (.cons (.var 0) (.cons (.var 1) .nil))))
noncomputable def v_5:S:=(.for_ (.name 2) (.rng1 (.blt .len (.cons (.idx (.var 0) (nE 2)) .nil))) qCM)
noncomputable def v_6:S:=(.ret (.cmp .eq (.var 5) (.idx (.bin .add (.var 4) (.lst (.cons (.tup (.cons (.cst (V.str "read")) (.cons (.comp (.list (.idx (.var 0) (nE 1))) [none,some 3] (.name 0) .nil (.idx (.var 1) (.var 0))) .nil))) .nil))) (nE 0))))
theorem qIG:b41=(.cons v_0 (.cons v_1 (.cons v_2 (.cons v_3 (.cons v_4 (.cons v_5 (.cons v_6 .nil))))))):=rfl
noncomputable def jx(F:List Nat)(w:(Nat->Bool)×List (Bool×Nat)):T:=match w.2 with
 | []=>.tup [Ts "read",NL (F.map λp=>(w.1 p).toNat)]
 |x::_=>stE 0 x
theorem Wk0(s:Nat)(S cm:Nat->Bool)(F X:List Nat):Wk s S cm F X 0=wk s S cm (frB F) (fxB F X):=by
 unfold Wk;simp only[vM]
theorem qA7{s:Nat}{S cm:Nat->Bool}{F X:List Nat}(c:Cde s F X){t:T}(h:Tl s S cm F X t):t=jx F (Wk s S cm F X 0):=by
 rw[Wk0];have e:=GF.wk_end s S cm (frB F) (fxB F X);generalize wk s S cm (frB F) (fxB F X)=w at *;obtain⟨w1,l⟩:=w;unfold jx;cases l with
 |nil=>
  have e:ReadAs s S cm (frB F) (fxB F X) w1:=e;rcases h with⟨P,h,_⟩|⟨P,h,_⟩|⟨C,lC,hC,r,rfl⟩
  ·exact(h.read e).elim
  ·exact(h.read e.2 (Nat.le_refl _)).elim
  ·show T.tup [Ts "read",NL _]=T.tup [Ts "read",NL _];congr 3;congr 1;exact wW λp hp=>by rw[qF1 hC,r.uniq e.2 p (c.lt p hp)]
 |cons x l=>
  obtain⟨k,P⟩:=x;show t=S3 (nm k) (0+P);rw[vM];cases k with
  |true=>
   have e:LostAt s S cm (frB F) (fxB F X) P:=e;rcases h with⟨Q,h,rfl⟩|⟨Q,h,_⟩|⟨C,lC,hC,r,_⟩
   ·rw[h.uniq e];rfl
   ·exact(e.slip h).elim
   ·exact(e.read r).elim
  |false=>
   have e:SlipAt s S cm (frB F) (fxB F X) P:=e;rcases h with⟨Q,h,_⟩|⟨Q,h,rfl⟩|⟨C,lC,hC,r,_⟩
   ·exact(h.slip e).elim
   ·rw[h.uniq e];rfl
   ·exact(e.read r.2 (Nat.le_refl _)).elim
theorem qBI{M:Mem}(F:List Nat)(w:(Nat->Bool)×List (Bool×Nat)):eqT M 4 (jx F w) (jx F w)=some true:=by
 unfold jx;split
 ·rw[JJ (qE6 _ _) (T4 _ _),vd rfl,vd rfl];rfl
 ·rw[stE,JJ (qE6 _ _) (qBW _ _),vd rfl,vd rfl];rfl
theorem qGx{P:Nat->List T->Mem->PR (TB×Mem)}{ic ik is s c d n:Nat}{t1 t2:T}{F:List Nat}{σ:TS}{M:Mem}{w:(Nat->Bool)×List (Bool×Nat)}(hn:n<=32)(hF:∀x∈F,x<n)(lF:F.length<=32)(hc:σ[ic]?=some (some (cdt s t1 t2)))(hk:σ[ik]?=some (some (.cell c)))(hs:σ[is]?=some (some (.cell d)))(h1:Il M t1 F)(gc:M[c]?=some ((bl n w.1).map N))(gd:M[d]?=some (w.2.map (stE 0)))(lw:w.2.length<=32):∃f,
  pe (glT gs) P (.idx (.bin .add (.var is) (.lst (.cons (.tup (.cons (.cst (V.str "read")) (.cons (.comp (.list (.idx (.var ic) (nE 1))) [none,some ik] (.name 0) .nil (.idx (.var 1) (.var 0))) .nil))) .nil))) (nE 0)) σ M=.ok ((jx F w,f),M):=by
 have st:∀{M:Mem}{σ:TS}(x:Str),pe (glT gs) P (.cst (V.str x)) σ M=.ok ((Ts x,true),M):=λ{M σ} x=>rfl;have lfT:∀x,T.lf (Ts x)=true:=λx=>rfl;have j1:zS M (cdt s t1 t2) (N 1)=some (t1,false):=by rw[qd];simp[h1.lf]
 obtain⟨dp,s1,_,hd⟩:=h1.isl.src;have cc:=JH (c:=pec (glT gs) P .nil) (e:=pe (glT gs) P (.idx (.var 1) (.var 0))) (σ:=[some (.cell c)]) (M:=M) (o:=none) (its:=F) (λ_=>true) (λp=>(w.1 p).toNat) hd (by simp[lim];omega) (λx _=>by simp) (λx hx _=>by
  have:=(IsL.cell gc).idx (qA9 (f:=w.1) (hF x hx));simp[this])
 rw[qq]at cc;have ad:∀y:T,qt M .add (.cell d) (.lst [y])=some (lT (w.2.map (stE 0)++[y])):=λy=>by
  show ((M[d]?).bind λxs=>_)=_;rw[gd];show (if _<=lim then _ else none)=_;rw[if_pos (by simp[lim];omega)]
 have ti:zd [none,some ik] σ=[none,some (.cell c)]:=by
  show [none,(σ[ik]?).join]=_;rw[hk];rfl
 obtain⟨r,hr⟩:∃r,r=F.map λp=>(w.1 p).toNat:=⟨_,rfl⟩
 rw[<-hr]at cc;have ix:∃f,zS M (lT (w.2.map (stE 0)++[.tup [Ts "read",NL r]])).1 (N 0)=some (jx F w,f):=by
  show ∃f,zS M (.lst _) (N 0)=_;rw[ZP];unfold jx;cases e:w.2 with
  |nil=>rw[hr];exact⟨_,rfl⟩
  |cons x l=>exact⟨_,rfl⟩
 obtain⟨f,ix⟩:=ix;refine⟨f,?_⟩;have ad:=ad (.tup [Ts "read",NL r]);clear hr;generalize lT (w.2.map (stE 0)++[.tup [Ts "read",NL r]])=Q at *;generalize jx F w=Y at *;generalize cdt s t1 t2=CC at *;generalize NL r=Z at *;simp[hc,hs,ti,st,-pe_str,lfT,j1,s1,cc,ad,ix,lim,-qp]
noncomputable def trn(X:List Nat)(i:Nat):List Nat:=(X.take i).map (1 - ·)++X.drop i
theorem qCW(X:List Nat)(i:Nat):(trn X i).length=X.length:=by unfold trn;simp;omega
theorem qCC{X:List Nat}{i:Nat}(h:i<X.length):(trn X i)[i]?=some X[i]:=by
 unfold trn;rw[List.getElem?_append_right (by simp;omega)];simp[vB (wt h)]
theorem qCo{X:List Nat}{i:Nat}(h:i<X.length):(trn X i).set i (1-X[i])=trn X (i+1):=by
 have e1:X.drop i=X[i]::X.drop (i+1):=List.drop_eq_getElem_cons h;have e2:(X.take (i+1)).map (1 - ·)=(X.take i).map (1 - ·)++[1-X[i]]:=by rw[List.take_succ_eq_append_getElem h,wR];rfl
 unfold trn;rw[e2,e1,vO _ _ (by simp;omega),show i-((X.take i).map (1 - ·)).length=0 by simp;omega,wG];rfl
theorem qB5(X:List Nat):trn X X.length=X.map (1 - ·):=by unfold trn;simp
theorem qCY{X:List Nat}(h:∀x∈X,x<2):(X.map (1 - ·)).map (1 - ·)=X:=by
 rw[wc];exact(wW λx hx=>by have:=h x hx;show 1-(1-x)=x;omega).trans (List.map_id X)
theorem Cde.trn{s:Nat}{F X:List Nat}(c:Cde s F X):Cde s F (X.map (1 - ·)):=⟨c.s1,c.s5,c.ne,c.lt,c.up,by rw[wO];exact c.len,λx hx=>by obtain⟨y,_,rfl⟩:=wp.mp hx;omega⟩
section
variable{k:Nat}
theorem qGC{P:Nat->List T->Mem->PR (TB×Mem)}{s b:Nat}{t1:T}{X:List Nat}{M:Mem}(hb:b<M.length)(h2:∀x∈X,x<2){body:Ss}(hbd:body=(.cons (.put (.idx (.var 0) (nE 2)) (.var 2) (.bin .sub (nE 1) (.idx (.idx (.var 0) (nE 2)) (.var 2)))) .nil)){a1 a3 a4 a5:Option T}:∀(j i:Nat) (o2:Option T),i+j=X.length ->
  ∃p2,qk [] (.name 2) (pxs (glT gs) P [3,4] body) ((List.range' i j).map N) [some (cdt s t1 (.cell b)),a1,o2,a3,a4,a5] (M.set b ((trn X i).map N))=.ok (.nx [some (cdt s t1 (.cell b)),a1,p2,a3,a4,a5],M.set b ((X.map (1 - ·)).map N))
 | 0,i,o2,h=>⟨o2,by rw[show i=X.length by omega,qB5];rfl⟩
 |j+1,i,o2,h=>by
  obtain⟨p2,e⟩:=qGC (P:=P) (s:=s) (t1:=t1) hb h2 hbd (a1:=a1) (a3:=a3) (a4:=a4) (a5:=a5) j (i+1) (some (N i)) (by omega);refine⟨p2,?_⟩;have hi:i<X.length:=by omega
  have v2:=h2 _ (vQ hi);have g:(M.set b ((trn X i).map N))[b]?=some ((trn X i).map N):=wL hb;have ix:=(IsL.cell g).idx (qCC hi);have j2:∀{M:Mem},zS M (cdt s t1 (.cell b)) (N 2)=some (.cell b,false):=λ{M}=>by rw[qd];simp
  have sb:∀{M:Mem},qt M .sub (N 1) (N X[i])=some (N (1-X[i]),true):=λ{M}=>Zi (by omega);have pt:qCn (M.set b ((trn X i).map N)) (.cell b) (N i) (N (1-X[i]))=some (M.set b ((trn X (i+1)).map N)):=by
   rw[T7 g (by rw[wO,qCW];exact hi),List.set_set,<-qCo hi,List.map_set]
  have bd:pxs (glT gs) P [3,4] body [some (cdt s t1 (.cell b)),a1,some (N i),a3,a4,a5] (M.set b ((trn X i).map N))=.ok (.nx [some (cdt s t1 (.cell b)),a1,some (N i),a3,a4,a5],M.set b ((trn X (i+1)).map N)):=by
   rw[hbd];clear e;generalize M.set b ((trn X (i+1)).map N)=M2 at *;generalize M.set b ((trn X i).map N)=M1 at *;generalize X[i]=v at *;generalize cdt s t1 (.cell b)=CC at *;generalize T.cell b=cb at *;simp[j2,ix,sb,pt,-qCL]
  rw[we,List.map_cons,qj,show ∀a b c d e f z:Option T,[a,b,c,d,e,f].set 2 z=[a,b,z,d,e,f] from λ_ _ _ _ _ _ _=>rfl,bd,PR.bind_ok];exact e
theorem JI{M:Mem}{b:Nat}{Y:List T}(h:M[b]?=some Y):M.set b Y=M:=by
 refine vD λi=>?_;by_cases e:i=b
 ·subst e;rw[wL (List.getElem?_eq_some_iff.mp h).1,h]
 ·rw[wJ (λz=>e z.symm)]
theorem turned(hk:20<=k){s a b:Nat}{F X:List Nat}(c:Cde s F X){M:Mem}(hM:FlatM M)(ga:M[a]?=some (F.map N))(gb:M[b]?=some (X.map N))(ne:a≠b)(S cm:Nat->Bool):Pk (glT gs) Fs Cs k 41 [cdt s (.cell a) (.cell b),cmT (2 ^ s) S cm] M=.ok (bT true,M):=by
 have n5:=c.n5;have l:=c.len;have hb:=(List.getElem?_eq_some_iff.mp gb).1;have s5:=c.s5;have c':=c.trn;obtain⟨Y,hY⟩:∃Y,Y=X.map (1 - ·):=⟨_,rfl⟩
 rw[<-hY]at c';have lY:Y.length=X.length:=by rw[hY];simp
 obtain⟨p2,e1⟩:=qGC (P:=Pk (glT gs) Fs Cs (k-1)) (s:=s) (t1:=.cell a) hb c.sg (show qC3=_ from rfl) (a1:=some (cmT (2 ^ s) S cm)) (a3:=none) (a4:=none) (a5:=none) X.length 0 none (by omega);rw[<-wT,show trn X 0=X by unfold trn;simp,JI gb,<-hY]at e1;obtain⟨M1,hM1⟩:∃M1,M1=M.set b (Y.map N):=⟨_,rfl⟩
 rw[<-hM1]at e1;have l1:M1.length=M.length:=by rw[hM1];simp
 have fM1:FlatM M1:=λx hx=>by
  rw[hM1]at hx;rcases vH hx with z|z
  ·exact hM x z
  ·rw[z];exact jS _ _
 have ga1:M1[a]?=some (F.map N):=by rw[hM1,wJ (Ne.symm ne)];exact ga
 have gb1:M1[b]?=some (Y.map N):=by rw[hM1];exact wL hb
 have app:∀{M:Mem}{i:Nat}{x:List T}(B:Mem),M[i]?=some x->(M++B)[i]?=some x:=λB h=>by rw[List.getElem?_append_left (List.getElem?_eq_some_iff.mp h).1];exact h
 obtain⟨M2,hM2⟩:∃M2,M2=(M1++[[]])++[[]]:=⟨_,rfl⟩
 have u0:up M2 M1.length (M1.length+1) [] []=M2:=by
  unfold up;rw[hM2,wG];simp
 have fM2:FlatM M2:=by
  rw[hM2];exact(fM1.app λx hx=>by rw[wK.mp hx];rfl).app λx hx=>by rw[wK.mp hx];rfl
 have hI2:∀B,Il (M1++B) (.cell a) F/\Il (M1++B) (.cell b) Y:=λB=>⟨.inr ⟨a,rfl,app B ga1⟩,.inr ⟨b,rfl,app B gb1⟩⟩
 have e2:=qFc (k:=k-1) (by omega) fM2.wf c' (by rw[hM2,wG];exact(hI2 _).1) (by rw[hM2,wG];exact(hI2 _).2);have e3:=qE5 s (k:=k-1) (by omega) c.s5 (n:=2 ^ s) (by omega) (l9 c') (S:=S) (cm:=cm) (t:=cmT (2 ^ s) S cm) (M:=M2) (c:=M1.length) (d:=M1.length+1) (by rw[hM2];simp) (by rw[hM2];simp) (by omega) fM2.wf (λA B D=>.inl rfl) (C:=[]) (St:=[]) (by simp) rfl (by simp;omega);rw[show (([]:List Nat).map N)=[] from rfl,u0,List.nil_append,List.nil_append]at e3;have e3:_=PR.ok ((NL (bl (2 ^ s) (wd s (Wk s S cm F Y 0).1)),true),up M2 M1.length (M1.length+1) ((bl (2 ^ s) (Wk s S cm F Y 0).1).map N) ((Wk s S cm F Y 0).2.map (stE 0))):=e3;have lw:(Wk s S cm F Y 0).2.length<=32:=Nat.le_trans (Jo ..) n5;obtain⟨w,hw⟩:∃w,w=Wk s S cm F Y 0:=⟨_,rfl⟩
 rw[<-hw]at e3 lw;have u1:up M2 M1.length (M1.length+1) ((bl (2 ^ s) w.1).map N) (w.2.map (stE 0))=M1++[(bl (2 ^ s) w.1).map N,w.2.map (stE 0)]:=by
  unfold up;rw[hM2,wG];simp
 rw[u1]at e3;obtain⟨B,hB⟩:∃B,B=[(bl (2 ^ s) w.1).map N,w.2.map (stE 0)]:=⟨_,rfl⟩
 rw[<-hB]at e3;have fB:FlatM (M1++B):=fM1.app λx hx=>by
  rw[hB]at hx;rcases List.mem_cons.mp hx with z|z
  ·rw[z];exact jS _ _
  ·rw[wK.mp z];exact Qy _ _
 obtain⟨t,e4,ht⟩:=read (k:=k-1) (by omega) fB.wf c' (hI2 B).1 (hI2 B).2 S cm;rw[qA7 c' ht,<-hw]at e4;obtain⟨p2',e5⟩:=qGC (P:=Pk (glT gs) Fs Cs (k-1)) (M:=M1++B) (b:=b) (s:=s) (t1:=.cell a) (by rw[List.length_append];omega) c'.sg (show qCM=_ from rfl) (a1:=some (cmT (2 ^ s) S cm)) (a3:=some (.cell M1.length)) (a4:=some (.cell (M1.length+1))) (a5:=some (jx F w)) Y.length 0 p2 (by omega);rw[<-wT,show trn Y 0=Y by unfold trn;simp,JI (app B gb1),show (Y.map (1 - ·))=X by rw[hY];exact qCY c.sg]at e5;have back:(M1++B).set b (X.map N)=M++B:=by
  rw[vV _ _ (show b<M1.length by omega),hM1,List.set_set,JI gb]
 rw[back]at e5;have gc:(M++B)[M1.length]?=some ((bl (2 ^ s) w.1).map N):=by rw[l1,hB];exact T9 _ _ _
 have gd:(M++B)[M1.length+1]?=some (w.2.map (stE 0)):=by rw[l1,hB];exact Y5 _ _ _
 obtain⟨f6,e6⟩:=qGx (P:=Pk (glT gs) Fs Cs (k-1)) (ic:=0) (ik:=3) (is:=4) (s:=s) (t1:=.cell a) (t2:=.cell b) (n:=2 ^ s) (σ:=[some (cdt s (.cell a) (.cell b)),some (cmT (2 ^ s) S cm),p2',some (.cell M1.length),some (.cell (M1.length+1)),some (jx F w)]) (M:=M++B) (w:=w) n5 c.lt (by omega) rfl rfl rfl (.inr ⟨a,rfl,app B ga⟩) gc gd lw;have j2:∀{M:Mem},zS M (cdt s (.cell a) (.cell b)) (N 2)=some (.cell b,false):=λ{M}=>by rw[qd];simp
 have ln1:zr M .len [.cell b]=some (N X.length,true):=(IsL.cell gb).len;have ln2:zr (M1++B) .len [.cell b]=some (N Y.length,true):=(IsL.cell (app B gb1)).len;have rg1:=zI (n:=X.length) (by omega);have rg2:=zI (n:=Y.length) (by omega);have th1:thaw M1.length (.lst [])=(.cell M1.length,[[]]):=qh M1.length [];have th2:thaw (M1++[[]]).length (.lst [])=(.cell (M1.length+1),[[]]):=by rw[List.length_append];exact qh (M1.length+1) []
 have lv:=qC8 (M:=M) (A:=M) (C:=B) (b:=true) rfl hM.wf;have eq:qg (M++B) .eq (jx F w) (jx F w)=some true:=qBI F w;have hM2':M1++[[]]++[[]]=M2:=hM2.symm;clear hM1 hM2 hB u0 u1 back gc gd fB fM1 fM2 hI2 app c' c ga gb ga1 gb1 ht hw lw hY;generalize cdt s (.cell a) (.cell b)=CC at *;generalize cmT (2 ^ s) S cm=Z1 at *;generalize jx F w=Z2 at *;generalize T.lst ((List.range (2 ^ s)).map (sfE F Y))=Z3 at *;generalize NL (bl (2 ^ s) (wd s w.1))=Z4 at *;have x0:px (glT gs) (Pk (glT gs) Fs Cs (k-1)) [3,4] v_0 [some CC,some Z1,none,none,none,none] M=.ok (.nx [some CC,some Z1,p2,none,none,none],M1):=by rw[v_0];simp[j2,ln1,rg1,e1]
 have x1:px (glT gs) (Pk (glT gs) Fs Cs (k-1)) [3,4] v_1 [some CC,some Z1,p2,none,none,none] M1=.ok (.nx [some CC,some Z1,p2,some (.cell M1.length),none,none],M1++[[]]):=by rw[v_1];simp[th1,lim]
 have x2:px (glT gs) (Pk (glT gs) Fs Cs (k-1)) [3,4] v_2 [some CC,some Z1,p2,some (.cell M1.length),none,none] (M1++[[]])=.ok (.nx [some CC,some Z1,p2,some (.cell M1.length),some (.cell (M1.length+1)),none],M2):=by
  generalize M1++[[]]=M9 at *;rw[v_2];simp[th2,lim,hM2']
 have x3:px (glT gs) (Pk (glT gs) Fs Cs (k-1)) [3,4] v_3 [some CC,some Z1,p2,some (.cell M1.length),some (.cell (M1.length+1)),none] M2=.ok (.nx [some CC,some Z1,p2,some (.cell M1.length),some (.cell (M1.length+1)),none],M1++B):=by rw[v_3];simp[e2,e3]
 have x4:px (glT gs) (Pk (glT gs) Fs Cs (k-1)) [3,4] v_4 [some CC,some Z1,p2,some (.cell M1.length),some (.cell (M1.length+1)),none] (M1++B)=.ok (.nx [some CC,some Z1,p2,some (.cell M1.length),some (.cell (M1.length+1)),some Z2],M1++B):=by rw[v_4];simp[e4]
 have x5:px (glT gs) (Pk (glT gs) Fs Cs (k-1)) [3,4] v_5 [some CC,some Z1,p2,some (.cell M1.length),some (.cell (M1.length+1)),some Z2] (M1++B)=.ok (.nx [some CC,some Z1,p2',some (.cell M1.length),some (.cell (M1.length+1)),some Z2],M++B):=by rw[v_5];simp[j2,ln2,rg2,e5]
 have x6:px (glT gs) (Pk (glT gs) Fs Cs (k-1)) [3,4] v_6 [some CC,some Z1,p2',some (.cell M1.length),some (.cell (M1.length+1)),some Z2] (M++B)=.ok (.rt (bT true),M++B):=by
  have pv:pe (glT gs) (Pk (glT gs) Fs Cs (k-1)) (.var 5) [some CC,some Z1,p2',some (.cell M1.length),some (.cell (M1.length+1)),some Z2] (M++B)=.ok ((Z2,Z2.lf),M++B):=by simp
  rw[v_6];simp only[qBf,X7,pv,PR.bind_ok,e6];simp[eq]
 rw[qL t41 ⟨rfl,by decide⟩ (by omega),qIG,show Cs.getD 41 []=[3,4] from rfl];show zY M.length (pxs _ _ _ _ [some CC,some Z1,none,none,none,none] M)=_;rw[qD x0,qD x1,qD x2,qD x3,qD x4,qD x5,jT x6,lv]
end
end My
namespace My
open PySem PySem.Spec PI
open L2 (V)
open GF (Ris lp rch qc Told Open wd par Rd LostAt SlipAt ReadAs wk jn)
noncomputable def d_0:S:=(.asg (.name 2) (.call 32 (.cons (.var 0) (.cons (.var 1) .nil))))
noncomputable def d_1:S:=(.asg (.name 3) (.call 36 (.cons (.var 2) (.cons (.bin .add (nE 1) (.call 33 (.cons (.var 2) (.cons (nE 5) .nil)))) .nil))))
noncomputable def d_2:S:=(.asg (.name 4) (.bin .add (.blt .len (.cons (.idx (.var 3) (nE 1)) .nil)) (.blt .len (.cons (.idx (.var 3) (nE 2)) .nil))))
noncomputable def d_3:S:=(.asg (.name 5) (.call 40 (.cons (.var 2) (.cons (.var 3) (.cons (.var 4) .nil)))))
noncomputable def d_4:S:=(.asg (.name 6) (.lst .nil))
noncomputable def d_5:S:=(.asg (.name 7) (.lst .nil))
noncomputable def d_6:S:=(.expr (.call 39 (.cons (.var 5) (.cons (.call 37 (.cons (.var 3) .nil)) (.cons (.var 6) (.cons (.var 7) .nil))))))
noncomputable def d_7:S:=(.asg (.name 8) (.idx (.bin .add (.var 7) (.lst (.cons (.tup (.cons (.cst (V.str "read")) (.cons (.comp (.list (.idx (.var 3) (nE 1))) [none,some 6] (.name 0) .nil (.idx (.var 1) (.var 0))) .nil))) .nil))) (nE 0)))
noncomputable def d_8:S:=(.asg (.name 9) (.blt .repr (.cons (.lst (.cons (.var 3) (.cons (.var 5) .nil))) .nil)))
noncomputable def d_9:S:=(.asg (.name 10) (.call 30 (.cons (.var 3) (.cons (.var 5) .nil))))
noncomputable def qFH:S:=(.ifs (.or (.not (.isi (.var 10) ["tuple"])) (.or (.cmp .ne (.var 10) (.var 8)) (.isi (.idx (.var 10) (nE 1)) ["bool"]))) (.cons (.ret (.cst (V.bl false))) .nil) .nil)
noncomputable def qFI:S:=(.ifs (.cmp .eq (.idx (.var 10) (nE 0)) (.cst (V.str "read"))) (.cons (.ifs (.or (.not (.isi (.idx (.var 10) (nE 1)) ["list"])) (.cmp .ne (.comp (.list (.idx (.var 10) (nE 1))) [none] (.name 0) (.cons (.isi (.var 0) ["bool"]) .nil) (.var 0)) (.lst .nil))) (.cons (.ret (.cst (V.bl false))) .nil) .nil) (.cons (.expr (.app (.idx (.var 10) (nE 1)) (nE 0))) .nil)) .nil)
noncomputable def qGR:S:=(.ifs (.or (.cmp .ne (.call 30 (.cons (.var 3) (.cons (.var 5) .nil))) (.var 8)) (.cmp .ne (.blt .repr (.cons (.lst (.cons (.var 3) (.cons (.var 5) .nil))) .nil)) (.var 9))) (.cons (.ret (.cst (V.bl false))) .nil) .nil)
noncomputable def qFl:S:=(.ifs (.or (.not (.call 41 (.cons (.var 3) (.cons (.var 5) .nil)))) (.cmp .ne (.call 30 (.cons (.var 3) (.cons (.var 5) .nil))) (.var 8))) (.cons (.ret (.cst (V.bl false))) .nil) .nil)
theorem qIR:qAk=(.cons d_0 (.cons d_1 (.cons d_2 (.cons d_3 (.cons d_4 (.cons d_5 (.cons d_6 (.cons d_7 (.cons d_8 (.cons d_9 (.cons qFH (.cons qFI (.cons qGR (.cons qFl .nil)))))))))))))):=rfl
noncomputable abbrev I(x:Int):T:=.v (.int x)
def Bd(i:Int):Prop:=i.natAbs<2 ^ 300
theorem Bd.log{i:Int}(h:Bd i):i.natAbs.log2<1920:=by
 rcases Nat.eq_zero_or_pos i.natAbs with z|z
 ·rw[z];decide
 ·have:=(Nat.log2_lt (by omega)).mpr h;omega
theorem Bd.len{i:Int}(h:Bd i):(Str.ofString (toString i)).length<=1921:=by
 rw[ofString_length];exact int_text_length_le (by decide) h.log
def Fit(d:PyData)(n:Nat):Prop:=d.showable=true/\d.shown.length<=n
theorem qCf{i:Int}(h:Bd i):Fit (.int i) 1921:=⟨vd h.log,h.len⟩
theorem qAc(ts:List Str):(tupleText ts).length<=piled ts+3:=by
 unfold tupleText;rw[Str.length_append,Str.length_append];have e1:(("(":String):Str).length=1:=rfl;have e2:((if ts.length==1 then ",)" else ")":String):Str).length<=2:=by split<;>decide
 cases ts with
 |nil=>
  have:(Str.join ", " []).length=0:=rfl;omega
 |cons t r=>
  have:=join_length_add (t::r) (by simp);omega
theorem U9:∀(ts:List Str) (k:Nat) (acc:Str),(textFrom k acc ts).length<=acc.length+piled ts
 | [],k,acc=>by show acc.length<=_;rw[piled_nil];omega
 |t::r,k,acc=>by
  have:=U9 r (k+1) (acc++(if k>0 then ", " else "":String)++t);show (textFrom (k+1) (acc++(if k>0 then ", " else "":String)++t) r).length<=_;rw[Str.length_append,Str.length_append]at this;rw[piled_cons];have e:((if k>0 then ", " else "":String):Str).length<=2:=by split<;>decide
  omega
theorem JC:∀{ds:List PyData}{n:Nat},(∀d∈ds,Fit d n)->PyData.showableAll ds=true/\piled (PyData.shownAll ds)<=ds.length*(n+2)
 | [],n,h=>⟨rfl,Nat.zero_le _⟩
 |d::r,n,h=>by
  obtain⟨a,b⟩:=JC (ds:=r) λx hx=>h x (by simp[hx]);obtain⟨c,e⟩:=h d (by simp);refine⟨by show (d.showable&&PyData.showableAll r)=true;rw[c,a];rfl,?_⟩;show piled (d.shown::PyData.shownAll r)<=_;rw[piled_cons,List.length_cons,Nat.succ_mul];omega
theorem qBo{ds:List PyData}{n m:Nat}(h:∀d∈ds,Fit d n)(hm:ds.length*(n+2)+3<=m):Fit (.tuple ds) m:=by
 obtain⟨a,b⟩:=JC h;refine⟨a,?_⟩;show (tupleText (PyData.shownAll ds)).length<=_;have c:=qAc (PyData.shownAll ds);omega
theorem qC9{ds:List PyData}{n m:Nat}(h:∀d∈ds,Fit d n)(hm:ds.length*(n+2)+3<=m):Fit (.list ds) m:=by
 obtain⟨a,b⟩:=JC h;refine⟨a,?_⟩;show (listText (PyData.shownAll ds)).length<=_;unfold listText;rw[Str.length_append];have c:=U9 (PyData.shownAll ds) 0 "[";have e1:(("[":String):Str).length=1:=rfl;have e2:(("]":String):Str).length=1:=rfl;omega
theorem Fit.mono{d:PyData}{n m:Nat}(h:Fit d n)(l:n<=m):Fit d m:=⟨h.1,Nat.le_trans h.2 l⟩
def Dn(n m:Nat)(t:T):Prop:=∃d,(∀M:Mem,Qa M n t=some d)/\Fit d m
theorem Dn.mono{n m m':Nat}{t:T}(h:Dn n m t)(l:m<=m'):Dn n m' t:=by
 obtain⟨d,e,f⟩:=h;exact⟨d,e,f.mono l⟩
theorem qA8(M:Mem)(n:Nat)(x:V):Qa M n (.v x)=qBG x:=by cases n<;>rfl
theorem qER(n:Nat){i:Int}(h:Bd i):Dn n 1921 (I i):=⟨_,λM=>by rw[qA8];rfl,qCf h⟩
theorem qFW(n:Nat){i:Nat}(h:i<=1000000000000):Dn n 1921 (N i):=qER n (i:=(i:Int)) (by unfold Bd;rw[Int.natAbs_natCast];exact Nat.lt_of_le_of_lt h (by decide +kernel))
theorem n8{n m:Nat}:∀{ts:List T},(∀t∈ts,Dn n m t)->∃ds,(∀M:Mem,zw (Qa M n) ts=some ds)/\ds.length=ts.length/\∀d∈ds,Fit d m
 | [],_=>⟨[],λ_=>rfl,rfl,λd h=>by simp at h⟩
 |t::ts,h=>by
  obtain⟨ds,e,l,k⟩:=n8 (ts:=ts) λx hx=>h x (by simp[hx]);obtain⟨d,e1,k1⟩:=h t (by simp);refine⟨d::ds,λM=>?_,by simp[l],λx hx=>?_⟩
  ·rw[zw,e1,Option.bind_some,e];rfl
  ·rcases List.mem_cons.mp hx with rfl|hx
   ·exact k1
   ·exact k x hx
theorem Y4{n m c:Nat}{ts:List T}(h:∀t∈ts,Dn n m t)(hc:ts.length<=c):Dn (n+1) (c*(m+2)+3) (.lst ts):=by
 obtain⟨ds,e,l,k⟩:=n8 h;refine⟨.list ds,λM=>?_,qC9 k (by rw[l];exact Nat.add_le_add_right (Nat.mul_le_mul_right _ hc) _)⟩;show (zw (Qa M n) ts).map _=_;rw[e];rfl
theorem qEY{n m c:Nat}{ts:List T}(h:∀t∈ts,Dn n m t)(hc:ts.length<=c):Dn (n+1) (c*(m+2)+3) (.tup ts):=by
 obtain⟨ds,e,l,k⟩:=n8 h;refine⟨.tuple ds,λM=>?_,qBo k (by rw[l];exact Nat.add_le_add_right (Nat.mul_le_mul_right _ hc) _)⟩;show (zw (Qa M n) ts).map _=_;rw[e];rfl
theorem qGH{M:Mem}(x:Str):qg M .ne (.v (.str x)) (.v (.str x))=some false:=by
 show (some (x==x):Option Bool).map (!·)=_;rw[vh];rfl
theorem qD8{L:List Nat}(hl:L.length<=32)(h:∀x∈L,x<=32):Dn 2 61539 (NL L):=by
 have:=Y4 (n:=1) (m:=1921) (c:=32) (ts:=L.map N) (λt ht=>by obtain⟨x,hx,rfl⟩:=wp.mp ht;exact qFW 1 (by have:=h x hx;omega)) (by simpa using hl);exact this
theorem qFt{n:Nat}(hn:n<=32)(S cm:Nat->Bool):Dn 3 61539 (cmT n S cm):=by
 refine Y4 (n:=2) (m:=1921) (c:=32) (ts:=(List.range n).map (cmE S cm)) (λt ht=>?_) (by simpa using hn);obtain⟨x,_,rfl⟩:=wp.mp ht;cases h:S x with
 |true=>rw[QF h];exact⟨_,λM=>by rw[qA8];rfl,rfl,by decide⟩
 |false=>rw[ZM h];exact qFW 2 (by have:=X9 (cm x);omega)
theorem qDJ{s a b:Nat}{F X:List Nat}(c:Cde s F X)(S cm:Nat->Bool):∃y:Str,∀M:Mem,M[a]?=some (F.map N)->M[b]?=some (X.map N)->zr M .repr [.lst [cdt s (.cell a) (.cell b),cmT (2 ^ s) S cm]]=some (.v (.str y),true):=by
 have n5:=c.n5;have l:=c.len;have s5:=c.s5;have h1:=qEY (n:=2) (m:=61539) (c:=3) (ts:=[N s,NL F,NL X]) (λt ht=>by
  simp only[List.mem_cons,wD,or_false]at ht;rcases ht with rfl|rfl|rfl
  ·exact(qFW 2 (by omega)).mono (by decide)
  ·exact qD8 (by omega) (λx hx=>by have:=c.lt x hx;omega)
  ·exact qD8 (by omega) (λx hx=>by have:=c.sg x hx;omega)) (by simp)
 obtain⟨d,e,f⟩:=Y4 (n:=3) (m:=184626) (c:=2) (ts:=[cdt s (NL F) (NL X),cmT (2 ^ s) S cm]) (λt ht=>by
  simp only[List.mem_cons,wD,or_false]at ht;rcases ht with rfl|rfl
  ·exact h1
  ·exact(qFt n5 S cm).mono (by decide)) (by simp)
 refine⟨d.shown,λM ga gb=>?_⟩;have ea:Qa M 2 (.cell a)=Qa M 2 (NL F):=by show (M[a]?).bind _=_;rw[ga];rfl
 have eb:Qa M 2 (.cell b)=Qa M 2 (NL X):=by show (M[b]?).bind _=_;rw[gb];rfl
 have et:Qa M 3 (cdt s (.cell a) (.cell b))=Qa M 3 (cdt s (NL F) (NL X)):=by
  show (zw (Qa M 2) [N s,.cell a,.cell b]).map _=(zw (Qa M 2) [N s,NL F,NL X]).map _;simp only[zw,ea,eb]
 have ed:qAC M (.lst [cdt s (.cell a) (.cell b),cmT (2 ^ s) S cm])=some d:=by
  rw[<-e M];show (zw (Qa M 3) [cdt s (.cell a) (.cell b),cmT (2 ^ s) S cm]).map _=(zw (Qa M 3) [cdt s (NL F) (NL X),cmT (2 ^ s) S cm]).map _;simp only[zw,et]
 show ((qAC M _).bind R6).map _=_;rw[ed,Option.bind_some];unfold R6;rw[if_pos ⟨f.1,Nat.le_trans f.2 (by rw[sizeLine_eq];decide)⟩];rfl
theorem qZ{M:Mem}{i:Nat}{x:List T}(B:Mem)(h:M[i]?=some x):(M++B)[i]?=some x:=by rw[List.getElem?_append_left (List.getElem?_eq_some_iff.mp h).1];exact h
section
variable{k:Nat}
theorem qGW(hk:1<=k){M:Mem}(hM:FlatM M){F:List Nat}(lF:F.length<=32){w:(Nat->Bool)×List (Bool×Nat)}{a0 a1 a2 a3 a4 a5 a6 a7 a9:Option T}:∃fv B B',thaw M.length (jx F w)=(fv,B)/\FlatM (M++B')/\px (glT gs) (Pk (glT gs) Fs Cs k) [2,3,6,7,10] qFH [a0,a1,a2,a3,a4,a5,a6,a7,some (jx F w),a9,some fv] (M++B)=.ok (.nx [a0,a1,a2,a3,a4,a5,a6,a7,some (jx F w),a9,some fv],M++B)/\px (glT gs) (Pk (glT gs) Fs Cs k) [2,3,6,7,10] qFI [a0,a1,a2,a3,a4,a5,a6,a7,some (jx F w),a9,some fv] (M++B)=.ok (.nx [a0,a1,a2,a3,a4,a5,a6,a7,some (jx F w),a9,some fv],M++B'):=by
 have st:∀{M:Mem}{σ:TS}(x:Str),pe (glT gs) (Pk (glT gs) Fs Cs k) (.cst (V.str x)) σ M=.ok ((Ts x,true),M):=λ{M σ} x=>rfl;have lfT:∀x,T.lf (Ts x)=true:=λx=>rfl;have ty:∀{M:Mem}(ts:List T),za M (.tup ts)=some "tuple":=λ{M} ts=>rfl;obtain⟨w1,l⟩:=w;cases l with
 |nil=>
  obtain⟨r,hr⟩:∃r,r=F.map λp=>(w1 p).toNat:=⟨_,rfl⟩
  have du:jx F (w1,[])=.tup [Ts "read",NL r]:=by rw[hr];rfl
  have g:(M++[r.map N])[M.length]?=some (r.map N):=zE _ _;have lr:r.length<=32:=by rw[hr];simpa using lF
  have ap:A6 (M++[r.map N]) M.length (N 0)=some (M++[(r++[0]).map N]):=by rw[JA g (by simp[lim];omega),jJ];simp
  refine⟨.tup [Ts "read",.cell M.length],[r.map N],[(r++[0]).map N],?_,hM.app λx hx=>by rw[wK.mp hx];exact jS _ _,?_,?_⟩
  ·rw[du];have:=qh M.length r;show thaw M.length (.tup [.v (.str "read"),NL r])=_;simp[thaw,zh,this];rfl
  ·rw[du];have ne:qg (M++[r.map N]) .ne (.tup [Ts "read",.cell M.length]) (.tup [Ts "read",NL r])=some false:=by
    show (eqT _ 4 _ _).map (!·)=_;rw[JJ (qE6 _ _) (qE2 g r),vd rfl,vd rfl];rfl
   have k1:∀{M':Mem},zS M' (.tup [Ts "read",.cell M.length]) (N 1)=some (.cell M.length,false):=λ{M'}=>by rw[qd];simp
   have tc:=(IsL.cell g).ty;have t1:=ty (M:=M++[r.map N]) [Ts "read",.cell M.length];generalize T.tup [Ts "read",.cell M.length]=Z1 at *;generalize T.tup [Ts "read",NL r]=Z2 at *;generalize T.cell M.length=Z3 at *;rw[qFH];simp[zk,t1,ne,k1,tc]
  ·rw[du];have k0:∀{M':Mem},zS M' (.tup [Ts "read",.cell M.length]) (N 0)=some (Ts "read",true):=λ{M'}=>qGv _ _;have k1:∀{M':Mem},zS M' (.tup [Ts "read",.cell M.length]) (N 1)=some (.cell M.length,false):=λ{M'}=>by rw[qd];simp
   have tt:∀{M:Mem},qg M .eq (Ts "read") (Ts "read")=some true:=λ{M}=>by rw[G0,vd rfl]
   have tc:=(IsL.cell g).ty;obtain⟨dp,s1,_,hd⟩:=(IsL.cell g).src;have cc:=JH (c:=pec (glT gs) (Pk (glT gs) Fs Cs k) (.cons (.isi (.var 0) ["bool"]) .nil)) (e:=pe (glT gs) (Pk (glT gs) Fs Cs k) (.var 0)) (σ:=[]) (M:=M++[r.map N]) (o:=none) (its:=r) (λ_=>false) (λt=>t) hd (by simp[lim];omega) (λx _=>by simp[zk]) (λx _ h=>by cases h);rw[show r.filter (λ_=>false)=[] by simp]at cc;have cc:_=PR.ok ((T.lst [],true),M++[r.map N]):=cc;have nl:qg (M++[r.map N]) .ne (.lst []) (.lst [])=some false:=rfl;generalize T.tup [Ts "read",.cell M.length]=Z1 at *;generalize T.tup [Ts "read",NL r]=Z2 at *;generalize M++[(r++[0]).map N]=M2 at *;generalize M++[r.map N]=M1 at *;rw[qFI];simp[k0,k1,st,-pe_str,tt,zk,tc,s1,cc,nl,ap,lim,-zF]
 |cons x l=>
  have du:jx F (w1,x::l)=stE 0 x:=rfl;have k0:∀{M':Mem},zS M' (stE 0 x) (N 0)=some (Ts (nm x.1),true):=λ{M'}=>qGv _ _;have k1:∀{M':Mem},zS M' (stE 0 x) (N 1)=some (N (0+x.2),true):=λ{M'}=>by unfold stE;rw[qd];simp
  refine⟨stE 0 x,[],[],?_,by rw[List.append_nil];exact hM,?_,?_⟩
  ·rw[du];unfold stE S3 Ts N;simp[thaw,zh]
  ·rw[du];have ne:∀{M:Mem},qg M .ne (stE 0 x) (stE 0 x)=some false:=λ{M}=>by
    show (eqT M 4 (stE 0 x) (stE 0 x)).map (!·)=_;rw[stE,JJ (qE6 _ _) (qBW _ _),vd rfl,vd rfl];rfl
   have t1:∀{M:Mem},za M (stE 0 x)=some "tuple":=λ{M}=>rfl;generalize stE 0 x=Z1 at *;rw[qFH];simp[zk,t1,ne,k1]
  ·rw[du];have tt:∀{M:Mem},qg M .eq (Ts (nm x.1)) (Ts "read")=some false:=λ{M}=>by rw[G0];unfold nm;cases x.1<;>rfl
   generalize stE 0 x=Z1 at *;rw[qFI];simp[k0,st,-pe_str,tt]
theorem qEV(hk:21<=k)(ns:List Int){i:Nat}(hi:i<=62){M:Mem}(hM:FlatM M){o2 o3 o4 o5 o6 o7 o8 o9 o10:Option T}:∃p2 p3 p4 p5 p6 p7 p8 p9 p10 M',pxs (glT gs) (Pk (glT gs) Fs Cs k) [2,3,6,7,10] qAk [some (.fz (ns.map λn=>.v (.int n))),some (N i),o2,o3,o4,o5,o6,o7,o8,o9,o10] M=.ok (.nx [some (.fz (ns.map λn=>.v (.int n))),some (N i),p2,p3,p4,p5,p6,p7,p8,p9,p10],M')/\FlatM M':=by
 obtain⟨a,b,c0,e0,hb⟩:=qFg (k:=k) (by omega) ns (kk:=i) (by omega) M;have g0:Good (M++[stT a b c0]) M.length:=⟨a,b,c0,by simp,hb⟩
 have hM0:FlatM (M++[stT a b c0]):=hM.app λc hc=>by rw[wK.mp hc];exact S7 a b c0
 have th0:thaw M.length (.lst (stT a b c0))=(.cell M.length,[stT a b c0]):=by
  unfold stT;simp[thaw,zh]
 obtain⟨d,M1,e1,hd,k1⟩:=JB (k:=k) (by omega) g0 (m:=5) (by omega);obtain⟨s,hs⟩:∃s,s=1+d:=⟨_,rfl⟩
 have hM1:=zf hM0 k1;obtain⟨F,X,M2,e2,k2,c⟩:=qH5 (k:=k) (by omega) hM1 (s:=s) (by omega) (by omega) k1.good;have hM2:=zf hM1 k2;have n5:=c.n5;have l:=c.len;have s5:=c.s5;have gd2:=k2.good;have lt2:=gd2.lt;obtain⟨A,hA⟩:∃A,A=M2.length:=⟨_,rfl⟩
 have th1:thaw M2.length (cdt s (NL F) (NL X))=(cdt s (.cell A) (.cell (A+1)),[F.map N,X.map N]):=by
  have t1:=qh A F;have t2:=qh (A+1) X;rw[<-hA];simp[thaw,zh,t1,t2]
 obtain⟨M3,hM3⟩:∃M3,M3=M2++[F.map N,X.map N]:=⟨_,rfl⟩
 have fM3:FlatM M3:=by
  rw[hM3];exact hM2.app λx hx=>by
   rcases List.mem_cons.mp hx with z|z
   ·rw[z];exact jS _ _
   ·rw[wK.mp z];exact jS _ _
 have g3:Good M3 M.length:=by rw[hM3];exact gd2.app
 have ga3:M3[A]?=some (F.map N):=by rw[hM3,hA];exact T9 _ _ _
 have gb3:M3[A+1]?=some (X.map N):=by rw[hM3,hA];exact Y5 _ _ _
 have keep:∀M',Kept M.length M3 M'->M'[A]?=some (F.map N)/\M'[A+1]?=some (X.map N):=λM' kk=>⟨by rw[kk.oth A (by omega)];exact ga3,by rw[kk.oth (A+1) (by omega)];exact gb3⟩
 obtain⟨S,cm,M4,e3,k4⟩:=qIs (k:=k) (by omega) c fM3 g3 (t1:=.cell A) (t2:=.cell (A+1)) (λM' kk B=>⟨.inr ⟨A,rfl,qZ B (keep M' kk).1⟩,.inr ⟨A+1,rfl,qZ B (keep M' kk).2⟩⟩);have fM4:=zf fM3 k4;obtain⟨ga,gb⟩:=keep M4 k4;obtain⟨M5,hM5⟩:∃M5,M5=(M4++[[]])++[[]]:=⟨_,rfl⟩
 have u0:up M5 M4.length (M4.length+1) [] []=M5:=by
  unfold up;rw[hM5,wG];simp
 have fM5:FlatM M5:=by
  rw[hM5];exact(fM4.app λx hx=>by rw[wK.mp hx];rfl).app λx hx=>by rw[wK.mp hx];rfl
 have hI:∀B,Il (M4++B) (.cell A) F/\Il (M4++B) (.cell (A+1)) X:=λB=>⟨.inr ⟨A,rfl,qZ B ga⟩,.inr ⟨A+1,rfl,qZ B gb⟩⟩
 have e4:=qFc (k:=k) (by omega) fM5.wf c (by rw[hM5,wG];exact(hI _).1) (by rw[hM5,wG];exact(hI _).2);have e5:=qE5 s (k:=k) (by omega) c.s5 (n:=2 ^ s) (by omega) (l9 c) (S:=S) (cm:=cm) (t:=cmT (2 ^ s) S cm) (M:=M5) (c:=M4.length) (d:=M4.length+1) (by rw[hM5];simp) (by rw[hM5];simp) (by omega) fM5.wf (λA B D=>.inl rfl) (C:=[]) (St:=[]) (by simp) rfl (by simp;omega);rw[show (([]:List Nat).map N)=[] from rfl,u0,List.nil_append,List.nil_append]at e5;have e6:_=PR.ok ((NL (bl (2 ^ s) (wd s (Wk s S cm F X 0).1)),true),up M5 M4.length (M4.length+1) ((bl (2 ^ s) (Wk s S cm F X 0).1).map N) ((Wk s S cm F X 0).2.map (stE 0))):=e5;clear e5;have lw:(Wk s S cm F X 0).2.length<=32:=Nat.le_trans (Jo ..) n5;obtain⟨w,hw⟩:∃w,w=Wk s S cm F X 0:=⟨_,rfl⟩
 rw[<-hw]at e6 lw;have u1:up M5 M4.length (M4.length+1) ((bl (2 ^ s) w.1).map N) (w.2.map (stE 0))=M4++[(bl (2 ^ s) w.1).map N,w.2.map (stE 0)]:=by
  unfold up;rw[hM5,wG];simp
 rw[u1]at e6;obtain⟨M6,hM6⟩:∃M6,M6=M4++[(bl (2 ^ s) w.1).map N,w.2.map (stE 0)]:=⟨_,rfl⟩
 rw[<-hM6]at e6;have fM6:FlatM M6:=by
  rw[hM6];exact fM4.app λx hx=>by
   rcases List.mem_cons.mp hx with z|z
   ·rw[z];exact jS _ _
   ·rw[wK.mp z];exact Qy _ _
 have ga6:M6[A]?=some (F.map N):=by rw[hM6];exact qZ _ ga
 have gb6:M6[A+1]?=some (X.map N):=by rw[hM6];exact qZ _ gb
 obtain⟨f7,e7⟩:=qGx (P:=Pk (glT gs) Fs Cs k) (ic:=3) (ik:=6) (is:=7) (s:=s) (t1:=.cell A) (t2:=.cell (A+1)) (n:=2 ^ s) (σ:=[some (.fz (ns.map λn=>.v (.int n))),some (N i),some (.cell M.length),some (cdt s (.cell A) (.cell (A+1))),some (N (2 ^ s)),some (cmT (2 ^ s) S cm),some (.cell M4.length),some (.cell (M4.length+1)),o8,o9,o10]) (M:=M6) (w:=w) n5 c.lt (by omega) rfl rfl rfl (.inr ⟨A,rfl,ga6⟩) (by rw[hM6];exact T9 _ _ _) (by rw[hM6];exact Y5 _ _ _) lw;obtain⟨y,hy⟩:=qDJ (a:=A) (b:=A+1) c S cm;have e8:=hy M6 ga6 gb6;have rd:∀{B:Mem},FlatM (M6++B)->Pk (glT gs) Fs Cs k 30 [cdt s (.cell A) (.cell (A+1)),cmT (2 ^ s) S cm] (M6++B)=.ok ((jx F w,true),M6++B):=λ{B} fB=>by
  obtain⟨t,e,ht⟩:=read (k:=k) (by omega) fB.wf c (.inr ⟨A,rfl,qZ B ga6⟩) (.inr ⟨A+1,rfl,qZ B gb6⟩) S cm;rw[qA7 c ht,<-hw]at e;exact e
 obtain⟨fv,B,B',th9,fB',e10,e11⟩:=qGW (k:=k) (by omega) fM6 (F:=F) (by omega) (w:=w) (a0:=some (.fz (ns.map λn=>.v (.int n)))) (a1:=some (N i)) (a2:=some (.cell M.length)) (a3:=some (cdt s (.cell A) (.cell (A+1)))) (a4:=some (N (2 ^ s))) (a5:=some (cmT (2 ^ s) S cm)) (a6:=some (.cell M4.length)) (a7:=some (.cell (M4.length+1))) (a9:=some (.v (.str y)));have e9:=rd (B:=[]) (by rw[List.append_nil];exact fM6);rw[List.append_nil]at e9;have e12:=rd fB';have e13:=hy (M6++B') (qZ _ ga6) (qZ _ gb6);have e14:=turned (k:=k) (by omega) c fB' (qZ _ ga6) (qZ _ gb6) (by omega) S cm;have nd:qg (M6++B') .ne (jx F w) (jx F w)=some false:=by
  show (eqT _ 4 (jx F w) (jx F w)).map (!·)=_;rw[qBI];rfl
 have nss:=qGH (M:=M6++B') y;have j1:∀{M:Mem},zS M (cdt s (.cell A) (.cell (A+1))) (N 1)=some (.cell A,false):=λ{M}=>by rw[qd];simp
 have j2:∀{M:Mem},zS M (cdt s (.cell A) (.cell (A+1))) (N 2)=some (.cell (A+1),false):=λ{M}=>by rw[qd];simp
 have ln1:zr M3 .len [.cell A]=some (N F.length,true):=(IsL.cell ga3).len;have ln2:zr M3 .len [.cell (A+1)]=some (N X.length,true):=(IsL.cell gb3).len;have ad:∀{M:Mem},qt M .add (N F.length) (N X.length)=some (N (2 ^ s),true):=λ{M}=>by rw[qAy,l]
 have th6:thaw M4.length (.lst [])=(.cell M4.length,[[]]):=qh M4.length [];have th7:thaw (M4++[[]]).length (.lst [])=(.cell (M4.length+1),[[]]):=by rw[List.length_append];exact qh (M4.length+1) []
 have hM5':M4++[[]]++[[]]=M5:=hM5.symm;have hM3':M2++[F.map N,X.map N]=M3:=hM3.symm;clear rd hy keep u0 u1 hI fM5 fM4 fM3 hM5 hM6 ga gb ga3 gb3 ga6 gb6 c k4 k2 k1 hM1 hM2 hM0 hM fM6 g0 g3 gd2 lt2 hw lw hA;refine⟨some (.cell M.length),some (cdt s (.cell A) (.cell (A+1))),some (N (2 ^ s)),some (cmT (2 ^ s) S cm),some (.cell M4.length),some (.cell (M4.length+1)),some (jx F w),some (.v (.str y)),some fv,M6++B',?_,fB'⟩;generalize T.lst ((List.range (2 ^ s)).map (sfE F X))=Z3 at *;generalize NL (bl (2 ^ s) (wd s w.1))=Z4 at *;generalize cdt s (NL F) (NL X)=Z5 at *;generalize cdt s (.cell A) (.cell (A+1))=CC at *;generalize cmT (2 ^ s) S cm=CM at *;generalize jx F w=DU at *;generalize 2 ^ s=q2 at *;generalize T.cell M.length=C0 at *;generalize T.cell M4.length=C6 at *;generalize T.cell (M4.length+1)=C7 at *;generalize T.cell A=CA at *;generalize T.cell (A+1)=CB at *;generalize T.fz (ns.map λn=>.v (.int n))=S0 at *;rw[qIR];have x0:px (glT gs) (Pk (glT gs) Fs Cs k) [2,3,6,7,10] d_0 [some S0,some (N i),o2,o3,o4,o5,o6,o7,o8,o9,o10] M=.ok (.nx [some S0,some (N i),some C0,o3,o4,o5,o6,o7,o8,o9,o10],(M++[stT a b c0])):=by rw[d_0];simp[e0,th0]
 have x1:px (glT gs) (Pk (glT gs) Fs Cs k) [2,3,6,7,10] d_1 [some S0,some (N i),some C0,o3,o4,o5,o6,o7,o8,o9,o10] (M++[stT a b c0])=.ok (.nx [some S0,some (N i),some C0,some CC,o4,o5,o6,o7,o8,o9,o10],M3):=by rw[d_1];simp[e1,<-hs,e2,th1,hM3']
 have x2:px (glT gs) (Pk (glT gs) Fs Cs k) [2,3,6,7,10] d_2 [some S0,some (N i),some C0,some CC,o4,o5,o6,o7,o8,o9,o10] M3=.ok (.nx [some S0,some (N i),some C0,some CC,some (N q2),o5,o6,o7,o8,o9,o10],M3):=by rw[d_2];simp[j1,j2,ln1,ln2,ad]
 have x3:px (glT gs) (Pk (glT gs) Fs Cs k) [2,3,6,7,10] d_3 [some S0,some (N i),some C0,some CC,some (N q2),o5,o6,o7,o8,o9,o10] M3=.ok (.nx [some S0,some (N i),some C0,some CC,some (N q2),some CM,o6,o7,o8,o9,o10],M4):=by rw[d_3];simp[e3]
 have x4:px (glT gs) (Pk (glT gs) Fs Cs k) [2,3,6,7,10] d_4 [some S0,some (N i),some C0,some CC,some (N q2),some CM,o6,o7,o8,o9,o10] M4=.ok (.nx [some S0,some (N i),some C0,some CC,some (N q2),some CM,some C6,o7,o8,o9,o10],M4++[[]]):=by rw[d_4];simp[th6,lim]
 have x5:px (glT gs) (Pk (glT gs) Fs Cs k) [2,3,6,7,10] d_5 [some S0,some (N i),some C0,some CC,some (N q2),some CM,some C6,o7,o8,o9,o10] (M4++[[]])=.ok (.nx [some S0,some (N i),some C0,some CC,some (N q2),some CM,some C6,some C7,o8,o9,o10],M5):=by
  generalize M4++[[]]=M9 at *;rw[d_5];simp[th7,lim,hM5']
 have x6:px (glT gs) (Pk (glT gs) Fs Cs k) [2,3,6,7,10] d_6 [some S0,some (N i),some C0,some CC,some (N q2),some CM,some C6,some C7,o8,o9,o10] M5=.ok (.nx [some S0,some (N i),some C0,some CC,some (N q2),some CM,some C6,some C7,o8,o9,o10],M6):=by rw[d_6];simp[e4,e6]
 have x7:px (glT gs) (Pk (glT gs) Fs Cs k) [2,3,6,7,10] d_7 [some S0,some (N i),some C0,some CC,some (N q2),some CM,some C6,some C7,o8,o9,o10] M6=.ok (.nx [some S0,some (N i),some C0,some CC,some (N q2),some CM,some C6,some C7,some DU,o9,o10],M6):=by
  rw[d_7];simp only[k9,e7,PR.bind_ok];simp
 have x8:px (glT gs) (Pk (glT gs) Fs Cs k) [2,3,6,7,10] d_8 [some S0,some (N i),some C0,some CC,some (N q2),some CM,some C6,some C7,some DU,o9,o10] M6=.ok (.nx [some S0,some (N i),some C0,some CC,some (N q2),some CM,some C6,some C7,some DU,some (.v (.str y)),o10],M6):=by rw[d_8];simp[e8,lim]
 have x9:px (glT gs) (Pk (glT gs) Fs Cs k) [2,3,6,7,10] d_9 [some S0,some (N i),some C0,some CC,some (N q2),some CM,some C6,some C7,some DU,some (.v (.str y)),o10] M6=.ok (.nx [some S0,some (N i),some C0,some CC,some (N q2),some CM,some C6,some C7,some DU,some (.v (.str y)),some fv],M6++B):=by rw[d_9];simp[e9,th9]
 have x12:px (glT gs) (Pk (glT gs) Fs Cs k) [2,3,6,7,10] qGR [some S0,some (N i),some C0,some CC,some (N q2),some CM,some C6,some C7,some DU,some (.v (.str y)),some fv] (M6++B')=.ok (.nx [some S0,some (N i),some C0,some CC,some (N q2),some CM,some C6,some C7,some DU,some (.v (.str y)),some fv],M6++B'):=by rw[qGR];simp[e12,nd,e13,nss,lim]
 have x13:px (glT gs) (Pk (glT gs) Fs Cs k) [2,3,6,7,10] qFl [some S0,some (N i),some C0,some CC,some (N q2),some CM,some C6,some C7,some DU,some (.v (.str y)),some fv] (M6++B')=.ok (.nx [some S0,some (N i),some C0,some CC,some (N q2),some CM,some C6,some C7,some DU,some (.v (.str y)),some fv],M6++B'):=by rw[qFl];simp[e14,e12,nd,bT]
 rw[qD x0,qD x1,qD x2,qD x3,qD x4,qD x5,qD x6,qD x7,qD x8,qD x9,qD e10,qD e11,qD x12,qD x13,zq]
end
theorem qG4{k:Nat}(hk:21<=k)(ns:List Int):∀(m i:Nat) (M:Mem) (o1 o2 o3 o4 o5 o6 o7 o8 o9 o10:Option T),i+m<=63->FlatM M->∃σ' M',qk [] (.name 1) (pxs (glT gs) (Pk (glT gs) Fs Cs k) [2,3,6,7,10] qAk) ((List.range' i m).map N) [some (.fz (ns.map λn=>.v (.int n))),o1,o2,o3,o4,o5,o6,o7,o8,o9,o10] M=.ok (.nx σ',M')
 | 0,i,M,o1,o2,o3,o4,o5,o6,o7,o8,o9,o10,h,hM=>⟨_,M,rfl⟩
 |m+1,i,M,o1,o2,o3,o4,o5,o6,o7,o8,o9,o10,h,hM=>by
  obtain⟨p2,p3,p4,p5,p6,p7,p8,p9,p10,M1,e,hM1⟩:=qEV hk ns (i:=i) (by omega) hM (o2:=o2) (o3:=o3) (o4:=o4) (o5:=o5) (o6:=o6) (o7:=o7) (o8:=o8) (o9:=o9) (o10:=o10);obtain⟨σ',M',e'⟩:=qG4 hk ns m (i+1) M1 (some (N i)) p2 p3 p4 p5 p6 p7 p8 p9 p10 (by omega) hM1;refine⟨σ',M',?_⟩;rw[we,List.map_cons,qj,show ∀a b c d e f g h i j k z:Option T,[a,b,c,d,e,f,g,h,i,j,k].set 1 z=[a,z,c,d,e,f,g,h,i,j,k] from λ_ _ _ _ _ _ _ _ _ _ _ _=>rfl,e,PR.bind_ok];exact e'
theorem main:∀ns:List Int,ns.length<=63->∃h',Fk Tb.fns 30 42 [.ref gs.length] (Jp gs ns)=.ok (.bl true,h'):=by
 intro ns hn;obtain⟨σ',M',e⟩:=qG4 (k:=29) (by omega) ns (max 1 (min 63 ns.length)) 0 [] none none none none none none none none none none (by omega) (λc hc=>by simp at hc);rw[<-wT]at e;have key:∃b M2,Pk (glT gs) Fs Cs 30 42 [.fz (ns.map λn=>.v (.int n))] []=.ok ((.v (.bl true),b),M2):=by
  rw[qL t42 ⟨rfl,by decide⟩ (by omega),show Cs.getD 42 []=[2,3,6,7,10] from rfl];clear hn;have ex:pxs (glT gs) (Pk (glT gs) Fs Cs (30-1)) [2,3,6,7,10] b42 ([T.fz (ns.map λn=>.v (.int n))].map some++List.replicate (11-1) none) []=.ok (.rt (bT true),M'):=by
   rw[b42];simp(disch:=omega) [zI,e]
  rw[ex];exact m7 _ _ _
 obtain⟨b,M2,e2⟩:=key;rw[qIT];exact qE3 rfl e2
end My
namespace PySem.W.Fast
theorem tw971385695317460509:True:=trivial
theorem tw6963603146496001946:True:=trivial
theorem tw12621306444853490407:True:=trivial
theorem tw7495956917668300245:True:=trivial
theorem tw12895645031900371530:True:=trivial
theorem tw6057091506935382686:True:=trivial
theorem tw7548816697991374939:True:=trivial
theorem tw12773839444202719165:True:=trivial
theorem tw11328842463611681476:True:=trivial
theorem tw14153618393197239784:True:=trivial
theorem tw13096409290737982456:True:=trivial
theorem tw9985725500314951221:True:=trivial
theorem tw13117423127031352273:True:=trivial
theorem tw11232617088384220214:True:=trivial
theorem tw8360825044963854501:True:=trivial
theorem tw716502903625004270:True:=trivial
theorem tw15063318023675428339:True:=trivial
theorem tw16685038407928498203:True:=trivial
theorem tw12871427065588893513:True:=trivial
theorem tw17244051525837110276:True:=trivial
theorem tw3785986804367328347:True:=trivial
theorem tw12032551695731375557:True:=trivial
theorem tw9686817198643513001:True:=trivial
theorem tw6701651167874220609:True:=trivial
theorem tw3432157599794842245:True:=trivial
theorem tw11316716054875084921:True:=trivial
theorem tw5933715031735611370:True:=trivial
theorem tw14844149190435418790:True:=trivial
theorem tw6686938891271486386:True:=trivial
theorem tw15590448771042571346:True:=trivial
theorem tw13708144084852102159:True:=trivial
theorem tw10589558372504100918:True:=trivial
theorem tw15687184451853713159:True:=trivial
theorem tw9662891252111734649:True:=trivial
theorem tw2897768698236431954:True:=trivial
theorem tw17213694006273350034:True:=trivial
theorem tw15223377187028126224:True:=trivial
theorem tw13578939815108743762:True:=trivial
theorem tw12174339320522525369:True:=trivial
theorem tw5559118356577514926:True:=trivial
theorem tw10611463397844812375:True:=trivial
theorem tw10417067433630942760:True:=trivial
theorem tw14992979697300338735:True:=trivial
theorem tw4448205747718665771:True:=trivial
theorem tw804050437934141837:True:=trivial
theorem tw2444782857353544170:True:=trivial
theorem tw4860130451810695932:True:=trivial
theorem tw12551996394098729962:True:=trivial
theorem tw6119093381549863685:True:=trivial
theorem tw9596638004396618424:True:=trivial
theorem tw2223302575280866032:True:=trivial
theorem tw2173140000497539593:True:=trivial
theorem tw15798247548133086929:True:=trivial
theorem tw2629784172290492656:True:=trivial
theorem tw6792272135356819104:True:=trivial
theorem tw6859195683975679061:True:=trivial
theorem tw13467073011802881604:True:=trivial
theorem tw14254470345862058858:True:=trivial
theorem tw9371958713680638861:True:=trivial
theorem tw3799062568301277583:True:=trivial
theorem tw12946425598821706269:True:=trivial
theorem tw15856831599330982802:True:=trivial
theorem tw13924354003558967173:True:=trivial
theorem tw11355671844505009596:True:=trivial
theorem tw6588358813976974700:True:=trivial
theorem tw16986207519012628107:True:=trivial
theorem tw401733146749333203:True:=trivial
theorem tw1325261840844800517:True:=trivial
theorem tw13533689042392188567:True:=trivial
theorem tw3176595886295987806:True:=trivial
theorem tw9451062467252893340:True:=trivial
theorem tw9320076643845378466:True:=trivial
theorem tw17721117150241063630:True:=trivial
theorem tw5223358825771101851:True:=trivial
theorem tw11890631122921123043:True:=trivial
theorem tw13440712637326560845:True:=trivial
theorem tw6719399980876358536:True:=trivial
theorem tw1190648073782670606:True:=trivial
theorem tw4176828654829918521:True:=trivial
theorem tw12819334936927458735:True:=trivial
theorem tw13847704306097416630:True:=trivial
theorem tw3055299778573648309:True:=trivial
theorem tw2595930246865165937:True:=trivial
theorem tw7920327240586402455:True:=trivial
theorem tw14630315519525644347:True:=trivial
theorem tw10317038646533143836:True:=trivial
theorem tw86324167243303567:True:=trivial
theorem tw258717973105910355:True:=trivial
theorem tw16377385129022068092:True:=trivial
theorem tw8534112714577303248:True:=trivial
theorem tw7200492534595420143:True:=trivial
theorem tw7361578619693480372:True:=trivial
theorem tw209417860998599963:True:=trivial
theorem tw13155047612744267307:True:=trivial
theorem tw45447285417950392:True:=trivial
theorem tw3823649243522547779:True:=trivial
theorem tw11091384363405130663:True:=trivial
theorem tw2777131976386907349:True:=trivial
theorem tw7092838048488848615:True:=trivial
theorem tw715332661153453900:True:=trivial
theorem tw13028665152028936116:True:=trivial
theorem tw16178944784487075945:True:=trivial
theorem tw6430458349982591433:True:=trivial
theorem tw18049902886599706418:True:=trivial
theorem tw16418878868446975409:True:=trivial
theorem tw6031236136941512996:True:=trivial
theorem tw2545720201876408670:True:=trivial
theorem tw9178140017614965988:True:=trivial
theorem tw7478222287263911938:True:=trivial
theorem tw6139126111284015673:True:=trivial
theorem tw13787198784278211508:True:=trivial
theorem tw5114314570768072942:True:=trivial
theorem tw17475025043787836522:True:=trivial
theorem tw2779409966772788751:True:=trivial
theorem tw14243862946052759943:True:=trivial
theorem tw18219078684954577865:True:=trivial
theorem tw15333267896090780:True:=trivial
theorem tw8439203993699159801:True:=trivial
theorem tw15255343946743365876:True:=trivial
theorem tw2007719794793979455:True:=trivial
theorem tw2267789844327500976:True:=trivial
theorem tw13136766711350880648:True:=trivial
theorem tw1911720685009954474:True:=trivial
theorem tw17363251603871155171:True:=trivial
theorem tw7573101367849339391:True:=trivial
theorem tw7705892050510879887:True:=trivial
theorem tw17137557283261420358:True:=trivial
theorem tw7119263938077549845:True:=trivial
theorem tw1287650136321005851:True:=trivial
theorem tw1882496972169544451:True:=trivial
theorem tw3265943782129236101:True:=trivial
theorem tw10601359352378463419:True:=trivial
theorem tw1691662560950287165:True:=trivial
theorem tw7410890407054270367:True:=trivial
theorem tw1043969302767614590:True:=trivial
theorem tw6044312455975787589:True:=trivial
theorem tw8770613598781447069:True:=trivial
theorem tw14925643521669693227:True:=trivial
theorem tw11994061830575404365:True:=trivial
theorem tw16747183858249760893:True:=trivial
theorem tw5725921494895370535:True:=trivial
theorem tw15292454535423183116:True:=trivial
theorem tw9775721444754706989:True:=trivial
theorem tw18365702079219816661:True:=trivial
theorem tw7641580214043144668:True:=trivial
theorem tw10946312018460684962:True:=trivial
theorem tw3089327366765842300:True:=trivial
theorem tw15895903362136881994:True:=trivial
theorem tw3189800807317386200:True:=trivial
theorem tw9451773792020735653:True:=trivial
theorem tw3451349586541288739:True:=trivial
theorem tw12792647688038920276:True:=trivial
theorem tw4306453609976867238:True:=trivial
theorem tw9620814851978240139:True:=trivial
theorem tw2605817173684226615:True:=trivial
theorem tw17851060404788359981:True:=trivial
theorem tw14287070752209841774:True:=trivial
theorem tw11487000688141338873:True:=trivial
theorem tw10191107443095948636:True:=trivial
theorem tw15423407950972010732:True:=trivial
theorem tw17214672253935675995:True:=trivial
theorem tw12841647000590910144:True:=trivial
theorem tw4899512559588766447:True:=trivial
theorem tw5174368814546299841:True:=trivial
theorem tw14057526244739491172:True:=trivial
theorem tw7006534302446631973:True:=trivial
theorem tw2243172531512740026:True:=trivial
theorem tw1247885453257425265:True:=trivial
theorem tw1538125540312433938:True:=trivial
theorem tw11559011088614349367:True:=trivial
theorem tw2426395279374998742:True:=trivial
theorem tw3765175254502357418:True:=trivial
theorem tw13844477919153222982:True:=trivial
theorem tw7848282664637968421:True:=trivial
theorem tw2411981330667384603:True:=trivial
theorem tw2601824326060267477:True:=trivial
theorem tw17293149668142766310:True:=trivial
theorem tw12849421382959002212:True:=trivial
theorem tw2150254551828405327:True:=trivial
theorem tw13854958753648976170:True:=trivial
theorem tw14122639471386124516:True:=trivial
theorem tw163631766814108286:True:=trivial
theorem tw5649640655516975821:True:=trivial
theorem tw10101364308149457622:True:=trivial
theorem tw16241970202310756870:True:=trivial
theorem tw13525693007546135958:True:=trivial
theorem tw2965370629103119355:True:=trivial
theorem tw1901899050856860268:True:=trivial
theorem tw1961882418823174434:True:=trivial
theorem tw702508900094614622:True:=trivial
theorem tw3391788147611771685:True:=trivial
theorem tw1011157372726114655:True:=trivial
theorem tw13512750163996190668:True:=trivial
theorem tw17677390687487588997:True:=trivial
theorem tw3977242686082652079:True:=trivial
theorem tw1238908866904253470:True:=trivial
theorem tw13840606426220070336:True:=trivial
theorem tw6007124214470763073:True:=trivial
theorem tw9351362358629316868:True:=trivial
theorem tw1174081413327913235:True:=trivial
theorem tw3336250100688916981:True:=trivial
theorem tw1431706907521399582:True:=trivial
theorem tw13647107166536691241:True:=trivial
theorem tw17203678076932381588:True:=trivial
theorem tw17691472889128988706:True:=trivial
theorem tw10520518245395812374:True:=trivial
theorem tw2007707926938798543:True:=trivial
theorem tw13926987332410542963:True:=trivial
theorem tw12596700013431728592:True:=trivial
theorem tw9064145227067521305:True:=trivial
theorem tw8795009901241450972:True:=trivial
theorem tw8181723727885498012:True:=trivial
theorem tw6554416512118778637:True:=trivial
theorem tw12943919116482733047:True:=trivial
theorem tw7529237352021831347:True:=trivial
theorem tw9130890492556416161:True:=trivial
theorem tw8007849620300374681:True:=trivial
theorem tw8874019363560501900:True:=trivial
theorem tw10830322478749830662:True:=trivial
theorem tw5684948566152905441:True:=trivial
theorem tw112781026284411586:True:=trivial
theorem tw264860080850154970:True:=trivial
theorem tw14899430883980573641:True:=trivial
theorem tw9100546989776790662:True:=trivial
theorem tw14128764955286722370:True:=trivial
theorem tw8254775025088719295:True:=trivial
theorem tw636857880091707726:True:=trivial
theorem tw17537107203138894023:True:=trivial
theorem tw2045894735743313092:True:=trivial
theorem tw935778232248786858:True:=trivial
theorem tw18182781657707935693:True:=trivial
theorem tw18324918535692204752:True:=trivial
theorem tw2396241604217738694:True:=trivial
theorem tw2282892872172501730:True:=trivial
theorem tw10034238511827027098:True:=trivial
theorem tw1899447363312598724:True:=trivial
theorem tw16214451166558954667:True:=trivial
theorem tw11885880540039127395:True:=trivial
theorem tw9069583349287604857:True:=trivial
theorem tw12677816095570288529:True:=trivial
theorem tw7810054997804579366:True:=trivial
theorem tw6640175100707089038:True:=trivial
theorem tw6526040006467060676:True:=trivial
theorem tw15806083661878561682:True:=trivial
theorem tw12626124837924464460:True:=trivial
theorem tw4334775154174852848:True:=trivial
theorem tw17403709799762493734:True:=trivial
theorem tw16335613439749241146:True:=trivial
theorem tw2617435844398163596:True:=trivial
theorem tw11898292384283699700:True:=trivial
theorem tw7840663660901117994:True:=trivial
theorem tw14211840416149234569:True:=trivial
theorem tw9051161304979916904:True:=trivial
theorem tw9386013078986670807:True:=trivial
theorem tw8159383249412486922:True:=trivial
theorem tw16129213941168500404:True:=trivial
theorem tw17136669733847253457:True:=trivial
theorem tw4550113625972740497:True:=trivial
theorem tw13963739208277905663:True:=trivial
theorem tw5002838443791244723:True:=trivial
theorem tw17860068518043289981:True:=trivial
theorem tw13355564964318008004:True:=trivial
theorem tw7023293836287904020:True:=trivial
theorem tw11917519205676839056:True:=trivial
theorem tw17060793646596041121:True:=trivial
theorem tw8561372373335510952:True:=trivial
theorem tw5143151441941804317:True:=trivial
theorem tw17813568148633406345:True:=trivial
theorem tw17952959888912887504:True:=trivial
theorem tw1638368235909994349:True:=trivial
theorem tw4074765912167045216:True:=trivial
theorem tw3310687684635551612:True:=trivial
theorem tw17030315241953231016:True:=trivial
theorem tw8638369786207157690:True:=trivial
theorem tw16263377714653867383:True:=trivial
theorem tw17815960841919568473:True:=trivial
theorem tw14497477121780913175:True:=trivial
theorem tw6193193087199654775:True:=trivial
theorem tw12151263615111839585:True:=trivial
theorem tw11277014441599873165:True:=trivial
theorem tw7415244775673160769:True:=trivial
theorem tw17786352108809632970:True:=trivial
theorem tw11138825246254891098:True:=trivial
theorem tw4688193123185829839:True:=trivial
theorem tw4567909265298018180:True:=trivial
theorem tw3624036762379068975:True:=trivial
theorem tw11031702605982580836:True:=trivial
theorem tw14766420436378764727:True:=trivial
theorem tw2824239688592816634:True:=trivial
theorem tw9365422563116507262:True:=trivial
theorem tw8558936851326337045:True:=trivial
theorem tw12328688954943230340:True:=trivial
theorem tw18130867008365047276:True:=trivial
theorem tw3839024514090742378:True:=trivial
theorem tw911643724147882088:True:=trivial
theorem tw2580238355606919465:True:=trivial
theorem tw14277593299725278596:True:=trivial
theorem tw14134669441817918355:True:=trivial
theorem tw16334704880642118591:True:=trivial
theorem tw17410396087066043781:True:=trivial
theorem tw15904399528422603637:True:=trivial
theorem tw14467662891564168410:True:=trivial
theorem tw15970153496456214950:True:=trivial
theorem tw14210898481045306032:True:=trivial
theorem tw10892984143865101851:True:=trivial
theorem tw11477168247548987805:True:=trivial
theorem tw15804631087881543709:True:=trivial
theorem tw15706790367804495901:True:=trivial
theorem tw907550125718295481:True:=trivial
theorem tw15389536665599938035:True:=trivial
theorem tw17274704334297059733:True:=trivial
theorem tw12797671029679152894:True:=trivial
theorem tw12341790876848059228:True:=trivial
theorem tw419950037818463617:True:=trivial
theorem tw7402436882876446228:True:=trivial
theorem tw9783881360329613035:True:=trivial
theorem tw16999308548497479740:True:=trivial
theorem tw15165727394336407228:True:=trivial
theorem tw6575254361887379372:True:=trivial
theorem tw5060927136475359213:True:=trivial
theorem tw15600261519294235152:True:=trivial
theorem tw13076099165964798448:True:=trivial
theorem tw7223939238829763184:True:=trivial
theorem tw978290250594824106:True:=trivial
theorem tw16446914675916216120:True:=trivial
theorem tw5676660813525620266:True:=trivial
theorem tw14680788396752624644:True:=trivial
theorem tw3515187394557748246:True:=trivial
theorem tw4152355016416902417:True:=trivial
theorem tw2996512240788065887:True:=trivial
theorem tw12314129315081824541:True:=trivial
end PySem.W.Fast
namespace My
open PySem PySem.Spec PyProof.Rows L2 PI
theorem dk1{d:K3}(h:d.ps.length=1)(sc:zL d.N d.ps (defScope d.st))(b:∀(kV doc pm:Value) (an:Option Addr) (cdv ct:Value),∀u0:Value,bindArgs (PySem.W.fnOf d.x d.x (zQ d.st) (defBody d.st) (defScope d.st) .none kV doc pm an cdv ct) ⟨[u0],[]⟩=pure (d.ps.zip [u0])):qBu d:=⟨sc,λ_ _ _ _ _ _ us hl=>by
 rw[h]at hl;obtain⟨_,rfl⟩:=PI.len1 hl;exact b _ _ _ _ _ _ _⟩
theorem dk2{d:K3}(h:d.ps.length=2)(sc:zL d.N d.ps (defScope d.st))(b:∀(kV doc pm:Value) (an:Option Addr) (cdv ct:Value),∀u0 u1:Value,bindArgs (PySem.W.fnOf d.x d.x (zQ d.st) (defBody d.st) (defScope d.st) .none kV doc pm an cdv ct) ⟨[u0,u1],[]⟩=pure (d.ps.zip [u0,u1])):qBu d:=⟨sc,λ_ _ _ _ _ _ us hl=>by
 rw[h]at hl;obtain⟨_,_,rfl⟩:=PI.len2 hl;exact b _ _ _ _ _ _ _ _⟩
theorem dk3{d:K3}(h:d.ps.length=3)(sc:zL d.N d.ps (defScope d.st))(b:∀(kV doc pm:Value) (an:Option Addr) (cdv ct:Value),∀u0 u1 u2:Value,bindArgs (PySem.W.fnOf d.x d.x (zQ d.st) (defBody d.st) (defScope d.st) .none kV doc pm an cdv ct) ⟨[u0,u1,u2],[]⟩=pure (d.ps.zip [u0,u1,u2])):qBu d:=⟨sc,λ_ _ _ _ _ _ us hl=>by
 rw[h]at hl;obtain⟨_,_,_,rfl⟩:=PI.len3 hl;exact b _ _ _ _ _ _ _ _ _⟩
theorem dk4{d:K3}(h:d.ps.length=4)(sc:zL d.N d.ps (defScope d.st))(b:∀(kV doc pm:Value) (an:Option Addr) (cdv ct:Value),∀u0 u1 u2 u3:Value,bindArgs (PySem.W.fnOf d.x d.x (zQ d.st) (defBody d.st) (defScope d.st) .none kV doc pm an cdv ct) ⟨[u0,u1,u2,u3],[]⟩=pure (d.ps.zip [u0,u1,u2,u3])):qBu d:=⟨sc,λ_ _ _ _ _ _ us hl=>by
 rw[h]at hl;obtain⟨_,_,_,_,rfl⟩:=PI.len4 hl;exact b _ _ _ _ _ _ _ _ _ _⟩
theorem dks:∀d∈Tb.ds,qBu d:=by
 unfold Tb;dsimp only
 repeat' (refine wV.2 ⟨?_,?_⟩;first|exact dk1 rfl ⟨rfl,rfl,rfl,by decide +kernel,rfl,by decide +kernel,by decide +kernel⟩ λ_ _ _ _ _ _ _=>rfl|exact dk2 rfl ⟨rfl,rfl,rfl,by decide +kernel,rfl,by decide +kernel,by decide +kernel⟩ λ_ _ _ _ _ _ _ _=>rfl|exact dk3 rfl ⟨rfl,rfl,rfl,by decide +kernel,rfl,by decide +kernel,by decide +kernel⟩ λ_ _ _ _ _ _ _ _ _=>rfl|exact dk4 rfl ⟨rfl,rfl,rfl,by decide +kernel,rfl,by decide +kernel,by decide +kernel⟩ λ_ _ _ _ _ _ _ _ _ _=>rfl)
 exact λ_ h=>nomatch h
theorem all_mk{l:PySem.W.OpenLaw}{w:World}{K:PySem.W.Frag}{h:Heap}{mg:Str->Option Value}{fa:Addr}(X:K.In h)(G:h.Ns mainGlobals mg)(hfa:mg "law"=some (.ref fa))
  (hds:∀d∈Tb.ds,qD6 K d)
  {ga0:Addr}{gn0:Nat}{gsl0:Array (Option Value)}{u0_0 u0_1 u0_2 u0_3 u0_4 u0_5:Tok}(g_LENGTHS:PySem.W.nsIn K mainGlobals "LENGTHS"=some (some (.ref ga0))) (m0:K.lookup ga0=some ⟨.type "tuple",none,.seq #[.int 1 u0_0,.int 2 u0_1,.int 4 u0_2,.int 8 u0_3,.int 16 u0_4,.int 32 u0_5] gn0,gsl0⟩)
  {tg_GREATEST_SIZE:Tok}(g_GREATEST_SIZE:PySem.W.nsIn K mainGlobals "GREATEST_SIZE"=some (some (.int 5 tg_GREATEST_SIZE)))
  (z_len:PySem.W.nsIn K mainGlobals "len"=some none)
  (z_sum:PySem.W.nsIn K mainGlobals "sum"=some none)
  (z_all:PySem.W.nsIn K mainGlobals "all"=some none)
  (z_max:PySem.W.nsIn K mainGlobals "max"=some none)
  (z_min:PySem.W.nsIn K mainGlobals "min"=some none)
  (z_list:PySem.W.nsIn K mainGlobals "list"=some none)
  (z_int:PySem.W.nsIn K mainGlobals "int"=some none)
  (z_tuple:PySem.W.nsIn K mainGlobals "tuple"=some none)
  (z_range:PySem.W.nsIn K mainGlobals "range"=some none)
  (z_zip:PySem.W.nsIn K mainGlobals "zip"=some none)
  (z_isinstance:PySem.W.nsIn K mainGlobals "isinstance"=some none)
  (z_bool:PySem.W.nsIn K mainGlobals "bool"=some none)
  (z_dict:PySem.W.nsIn K mainGlobals "dict"=some none)
  (z_enumerate:PySem.W.nsIn K mainGlobals "enumerate"=some none)
  (z_repr:PySem.W.nsIn K mainGlobals "repr"=some none)
  (z_ValueError:PySem.W.nsIn K mainGlobals "ValueError"=some none)
  (main:∀ns:List Int,ns.length<=63->∃h',Fk Tb.fns 30 42 [.ref gs.length] (Jp gs ns)=.ok (.bl true,h')):
  ∃fd:FuncData,(∀(s:Shared) (v:Value),BindsTo s fd ⟨[v],[]⟩ [("_law_script",v)])/\∀base:Heap,K.In base->base.Ns mainGlobals mg->FnOk l.prog w K mg base CX0 30 fa fd ["_law_script"] (w9 K):=by
 obtain⟨fas,fds,hT⟩:=qBB X G Tb.ds hds dks;have O:qAl K mg [ga0] Tb fas fds:=by
  refine⟨hT,λx e hx=>?_,λx hx=>?_,λa ha=>(List.mem_cons.mp ha).elim (λz=>by subst z;exact⟨_,m0,rfl,rfl⟩) λha=>nomatch ha⟩
  ·have hx2:List.lookup x ([("LENGTHS",E.glob 0),("GREATEST_SIZE",E.cst (.int 5))]:List (Str×E))=some e:=hx;simp only[List.lookup_cons,List.lookup_nil]at hx2;split at hx2
   ·rename_i hq;have hq2:x="LENGTHS":=by simpa using hq
    subst hq2;cases hx2;exact .inr ⟨_,_,rfl,PySem.W.mg_of X G g_LENGTHS,rfl⟩
   split at hx2
   ·rename_i hq;have hq2:x="GREATEST_SIZE":=by simpa using hq
    subst hq2;cases hx2;exact .inl ⟨_,_,rfl,PySem.W.mg_of X G g_GREATEST_SIZE,⟨_,rfl⟩,λ_=>rfl⟩
   cases hx2
  ·have hx2:x∈(["len","sum","all","max","min","list","int","tuple","range","zip","isinstance","bool","dict","enumerate","repr","ValueError"]:List Str):=List.contains_iff_mem.mp hx;simp only[List.mem_cons,wD,or_false]at hx2;rcases hx2 with rfl|rfl|rfl|rfl|rfl|rfl|rfl|rfl|rfl|rfl|rfl|rfl|rfl|rfl|rfl|rfl
   ·exact PySem.W.mg_none_of X G z_len
   ·exact PySem.W.mg_none_of X G z_sum
   ·exact PySem.W.mg_none_of X G z_all
   ·exact PySem.W.mg_none_of X G z_max
   ·exact PySem.W.mg_none_of X G z_min
   ·exact PySem.W.mg_none_of X G z_list
   ·exact PySem.W.mg_none_of X G z_int
   ·exact PySem.W.mg_none_of X G z_tuple
   ·exact PySem.W.mg_none_of X G z_range
   ·exact PySem.W.mg_none_of X G z_zip
   ·exact PySem.W.mg_none_of X G z_isinstance
   ·exact PySem.W.mg_none_of X G z_bool
   ·exact PySem.W.mg_none_of X G z_dict
   ·exact PySem.W.mg_none_of X G z_enumerate
   ·exact PySem.W.mg_none_of X G z_repr
   ·exact PySem.W.mg_none_of X G z_ValueError
 have hG:J7 K [ga0] gs:=⟨⟨.inr ⟨_,_,_,m0,rfl,rfl,by show 6<=sizeLine;decide,.cons ⟨_,rfl⟩ (.cons ⟨_,rfl⟩ (.cons ⟨_,rfl⟩ (.cons ⟨_,rfl⟩ (.cons ⟨_,rfl⟩ (.cons ⟨_,rfl⟩ (.nil))))))⟩,rfl⟩,True.intro⟩
 obtain⟨a,f,e1,e2,F,_,em,_⟩:=hT 42 _ rfl;have e:=hfa.symm.trans em;cases e;exact⟨f,qFh F (dks _ (List.mem_of_getElem? (i:=42) rfl)) rfl,λbase _ _=>m5 O hG (i:=42) rfl e1 e2 rfl main⟩
theorem walk{l:PySem.W.OpenLaw}{q:Program}{loose:List Str}{XP:(Str->Option Value)->Heap->Prop}{YP:World->Heap->Prop}{d:DefRec}{K:Params->PySem.W.Frag}(hn:l.most=some 63)(hdf:d.params.defaults=[])
  (hY:∀(w:World) (h:Heap),YP w h->(K w.params).In h)
  (F:∀(w:World) (mg:Str->Option Value) (fa:Addr) (h:Heap),(K w.params).In h->h.Ns mainGlobals mg->mg d.name=some (.ref fa) ->
   ∃fd:FuncData,(∀(s:Shared) (u:Value),BindsTo s fd ⟨[u],[]⟩ [("_law_script",u)])/\∀base:Heap,(K w.params).In base->base.Ns mainGlobals mg->FnOk l.prog w (K w.params) mg base CX0 30 fa fd ["_law_script"] (w9 (K w.params))):
  PySem.W.WalkO q loose XP YP l.row.toRowW d [] (λf vs=>PySem.call f vs):=
 L2.walk_of (n:=63) (k:=30) (x:="_law_script") (CX:=λ_=>CX0) (sp:=λw=>w9 (K w.params)) hn (by decide) hdf ⟨rfl,by decide,by decide,rfl⟩ hY F (λ_ _ a ns hl hO hS=>⟨a,ns,rfl,hO,hS,hl,λ_=>rfl⟩) λ_ _ _ _ _ z=>z
end My
open PySem PySem.W PyProof.Rows
set_option maxRecDepth 100000 in
set_option maxHeartbeats 0 in
theorem PySem.Challenge.cw_healhalves_k47_read_one_by_one_holds : PySem.Challenge.rw_healhalves_k47_read_one_by_one.Holds := by
 w_on;o_law;k_head;(case hw=>w_witness2)
 k_fill
 refine My.walk (l:=PySem.Challenge.rw_healhalves_k47_read_one_by_one) rfl rfl (λw h Y=>PySem.W.kIn_of Y) ?F
 case F=>
  intro w mg fa h KX G hmg
  refine' My.all_mk KX G hmg ?ds ?g_LENGTHS ?m0 ?g_GREATEST_SIZE ?z_len ?z_sum ?z_all ?z_max ?z_min ?z_list ?z_int ?z_tuple ?z_range ?z_zip ?z_isinstance ?z_bool ?z_dict ?z_enumerate ?z_repr ?z_ValueError My.main
  case ds=>
   unfold My.Tb;dsimp only
   repeat' (refine wV.2 ⟨⟨_,_,_,_,_,_,_,_,_,_,by k_is,by k_is,by k_is,by k_is⟩,?_⟩)
   exact λ_ h=>nomatch h
  all_goals (try k_is)
